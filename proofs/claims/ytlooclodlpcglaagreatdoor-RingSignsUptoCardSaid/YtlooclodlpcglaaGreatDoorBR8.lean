/-
  Texts of ours, put together: RingV, RingP, RingQ, RingSignsL, PLift7.
-/
import Derived.Test.YtlooclodlpcglaaGreatDoorBR7
set_option linter.unusedVariables false
set_option linter.unusedSimpArgs false
namespace Go.Proofs.YtlooclodlpcglaaGreatDoor
section
namespace Cu
open Go.RowKit Sy
def sgx (d:List UInt8) (u:Value):List Value:=d.map bv++[u]
section
variable {d z:List UInt8} {u x:Value}
theorem sgx_len (h:d.length=32):(sgx d u).length=33:=by simp [sgx,h]
theorem sgx_at (h:d.length=32):(sgx d u).toArray[32]? = some u:=by
 rw [List.getElem?_toArray]
 unfold sgx
 rw [List.getElem?_append_right (by rw [List.length_map,h]; exact Nat.le_refl _),List.length_map,h]
 rfl
theorem sgx_set (h:d.length=32):(sgx d u).toArray.setIfInBounds 32 x=(sgx d x).toArray:=by
 rw [List.setIfInBounds_toArray]
 unfold sgx
 rw [List.set_append_right _ _ (by rw [List.length_map,h]; exact Nat.le_refl _),List.length_map,h]
 rfl
theorem sgx_lt (h:d.length=32):32<(sgx d u).toArray.size:=by rw [List.size_toArray,sgx_len h]; decide
theorem sgx_put (hz:z.length=32) (hd:d.length=32):setAll (sgx z u).toArray 0 (d.map bv).toArray.toList=(sgx d u).toArray:=by
 have h:=setAll_is (d.map bv) 0 (sgx z u).toArray (by rw [List.size_toArray,sgx_len hz,List.length_map,hd]; decide)
 rw [show (d.map bv).toArray.toList=d.map bv from rfl,h]
 refine congrArg List.toArray ?_
 simp only [List.take_zero,List.nil_append,List.length_map,hd]
 unfold sgx
 rw [List.drop_left' (by rw [List.length_map,hz])]
end
theorem TxsIs.own {w0:Base} {e:TypeId} {g:Nat} {t:Sh.Tx} {v:Value} (T':Blocks) (hv:t.val=v) (hok:∀ w L,St w0 w L→(∀ b∈T',b∈L)→t.ok w):TxsIs w0 e ⟨.slice (some ⟨g,0,none⟩) 1 1,[(g,e,#[v])]⟩ T' [t]:=by
 subst hv
 refine ⟨Slc.Is.mk' (cs:=[t.val]) (λx hx=>?_) (λx hx u hu=>?_) rfl rfl rfl (Nat.le_refl _) (by decide),λw L hw hT x hx=>?_⟩
 ·rw [List.mem_singleton.1 hx]; rfl
 ·rw [List.mem_singleton.1 hx] at hu
  rw [List.mem_singleton.1 hu]; rfl
 ·rw [List.mem_singleton.1 hx]; exact hok w L hw hT
theorem XtR.li {l:List UInt8} {j:Nat} {xt:Sh.Tx} {xb:Blocks} (h:XtR l j xt xb):xt.l=l:=by
 obtain ⟨_,_,_,h0,_⟩:=h
 exact h0
theorem RowsAre.full {r:Nat→Slc} {e:TypeId} {sz k:Nat} {f:Nat→Nat→List Value} {n:Nat→Nat} {x:Slc} (h:RowsAre r e sz f (cntR n k 0)) (hx:x.Is e sz ((List.range (n k)).map (f k))):RowsAre (putR r k x) e sz f (cntR n (k+1) 0):=λi=>by
 rw [cntR_next]
 by_cases hi:i=k
 ·subst hi
  rw [putR_self,cntR_at]
  exact hx
 ·rw [putR_ne hi]
  have q:=h i
  have e:cntR n k (n k) i=cntR n k 0 i:=by unfold cntR; simp [hi]
  rw [e]
  exact q
def SgGives8 (d:List UInt8) (f:Nat→Nat→List Value) (nk:Nat→Nat) (NR:Nat) (v:Value) (M:Blocks):Prop:=∃ g cap sp r,v=sgv33 d (some ⟨g,0,none⟩) NR cap∧NR≤cap∧M=(g,55,(flat (λj=>[(r j).v]) NR++sp).toArray)::rowsB r NR∧RowsAre r 46 4 f (cntR nk NR 0)
def SgnR8 (br bf:Bool) (d:List UInt8) (f:Nat→Nat→List Value) (nk:Nat→Nat) (NR:Nat) (v:Value) (M:Blocks):Prop :=
 (br=false∧v=.tuple #[sgv33 (List.replicate 32 0) none 0 0,.int .i64 80]∧M=[])∨(br=true∧bf=false∧v=.tuple #[sgv33 (List.replicate 32 0) none 0 0,.int .i64 81]∧M=[])∨(br=true∧bf=true∧∃ u,v=.tuple #[u,.int .i64 0]∧SgGives8 d f nk NR u M)
theorem map_putR {r:Nat→Slc} {k:Nat} {x:Slc}:(List.range k).map (λi=>[(putR r k x i).v])=(List.range k).map λi=>[(r i).v] :=
 List.map_congr_left λi hi=>by rw [putR_ne (by have:=List.mem_range.1 hi; omega)]
set_option maxHeartbeats 4000000 in
set_option maxRecDepth 100000 in
theorem sign8_any (w:World) (sd:List UInt8) (hsd:sd.length=32) (A:Option Addr) (m:List UInt8) (n c:Nat) (hm:m.length=n) (hm9:n≤999000000) (hc:n≤c) (hc2:c≤9223372036854775807) (hs0:Sh.Src w A m) (R:Option Addr) (NR cR:Nat) (a:Nat→Option Addr) (nk ck:Nat→Nat) (X Y:Nat→Nat→Nat) (I:Nat→Nat→Bool) (hX:∀ i k,X i k<K4) (hY:∀ i k,Y i k<K4) (hNR:NR≤4611686018427387904) (hnk:∀ i,nk i≤4611686018427387904) (hlr:Lst w 1 R NR (λi=>[.slice (a i) (nk i) (ck i)])) (hlk:∀ i,i<NR→Lst w 9 (a i) (nk i) (λk=>pml (X i k) (Y i k) (I i k))) (S:Option Addr) (NS cS:Nat) (At:Nat→Int) (sx:Nat→Nat) (hsx:∀ i,sx i<K4) (hNS:NS≤4611686018427387904) (hls:Lst w 5 S NS (λi=>sec5 (At i) (sx i))) (htr:Sh.TabAt w 0):Calls Tryz.prog 13 #[.agg (sd.map bv).toArray,.slice A n c,.slice R NR cR,.slice S NS cS] w (GetsN w (SgnR8 (rgtB NR nk X Y I) (fitB At sx nk X Y I NS NR) (sgD (rgM m NR nk X Y I) sd X Y I (λi=>(At i).toNat) nk NR) (sgF (rgM m NR nk X Y I) sd X Y I (λi=>(At i).toNat) sx (sgD (rgM m NR nk X Y I) sd X Y I (λi=>(At i).toNat) nk NR)) nk NR)):=by
 have hls0:=hls
 obtain ⟨gS,oS,hS⟩:=hls
 have hlr0:=hlr
 obtain ⟨gR,oR,hR⟩:=hlr
 refine Sy.enter (args:=[.agg (sd.map bv).toArray,.slice A n c,.slice R NR cR,.slice S NS cS]) Tryz.func13 rfl kL ?_
 refine sC ?_
 refine sM 23 (sd.map bv).toArray (λg0=>?_)
 refine sM 31 (sgc33 (List.replicate 32 (0:UInt8)) none 0 0).toArray (λg1=>?_)
 refine sP (.int .i64 0) ?_
 refine sA ?_
 refine sP (.slice R NR cR) ?_
 obtain ⟨b1,hb1⟩:∃ z:Bool,z=rgtB NR nk X Y I:=⟨_,rfl⟩
 refine sS (.bool b1) (qG 46 #[.slice R NR cR] (λw hw=>by rw [hb1]; exact may8_any w R NR cR a nk ck X Y I hX hY hNR hnk (hlr0.below hw.below) (λi hi=>(hlk i hi).below hw.below)))<|sP (.bool b1) ?_
 refine sG<|Sy.seq<|sC ?_
 refine sP (.bool b1) ?_
 cases b1
 ·refine sP (.bool true) ?_
  refine sG<|sT<|sC ?_
  refine sP (sgv33 (List.replicate 32 (0:UInt8)) none 0 0)<|sW 1 g1 31 (sgc33 (List.replicate 32 (0:UInt8)) none 0 0).toArray (sgc33 (List.replicate 32 (0:UInt8)) none 0 0).toArray (Writes.row 31 (sgc33 (List.replicate 32 (0:UInt8)) none 0 0) 33 _ _ rfl kR kR kR (sg_len List.length_replicate) (by rw [List.size_toArray,sg_len List.length_replicate]) sg_one)<|sP (.int .i64 80) ?_
  refine sG<|Sy.ret<|Sy.then_ret ?_
  exact retGM2 [] rfl (v:=sgv33 (List.replicate 32 (0:UInt8)) none 0 0) (u:=.int .i64 80) (.inl (Res.cell (ty':=31) g1 1 (sgc33 (List.replicate 32 (0:UInt8)) none 0 0).toArray _ kR kR Tryz.underlying31 rfl (by rw [List.size_toArray,sg_len List.length_replicate]; kernel_rfl) rfl)) (.inl (show _=_ by kernel_rfl)) (λ_ hw=>hw.none) (.inl ⟨hb1.symm,rfl,rfl⟩)
 ·obtain ⟨hN32,hn64,hn1,hN1⟩:=rgt_small hb1
  refine sP (.bool false) ?_
  refine sG<|sU<|Sy.skip<|Sy.then_<|Sy.seq<|sC ?_
  refine sP (.slice S NS cS)<|sP (.int .i64 ((NS:Nat):Int))<|sP (.slice R NR cR)<|sP (.int .i64 ((NR:Nat):Int)) ?_
  obtain ⟨b2,hb2⟩:∃ z:Bool,z=decide (NS≠NR):=⟨_,rfl⟩
  refine sS (.bool b2) (Quiet.pure (exec_int .neq _ _ _ .i64 _ _ _ rfl rfl rfl (int_neq _ _ _ _ _ (by rw [hb2]; exact decide_eq_decide.2 (by omega))))) ?_
  refine sG ?_
  cases b2
  ·have lb2:¬ (NS≠NR):=of_decide_eq_false hb2.symm
   obtain rfl:NR=NS:=by omega
   refine sU<|Sy.skip<|Sy.then_<|Sy.seq<|sC ?_
   refine sP (.int .i64 0) ?_
   refine sG<|Sy.block ?_
   refine Sy.loopH NR (λk1=>∀ j,j<k1→fitI At sx nk X Y I j=true) (λk1=>[(1,.slice A n c),(2,.slice R NR cR),(3,.slice S NR cS),(4,.pointer (some ⟨g0,0,none⟩)),(8,.pointer (some ⟨g1,0,none⟩)),(11,.int .i64 ((k1:Nat):Int))]) (λk1=>[(g0,23,(sd.map bv).toArray),(g1,31,(sgc33 (List.replicate 32 (0:UInt8)) none 0 0).toArray)]) [true,true] (M:=[(g0,23,(sd.map bv).toArray),(g1,31,(sgc33 (List.replicate 32 (0:UInt8)) none 0 0).toArray)]) (λj hj=>absurd hj (Nat.not_lt_zero _)) (all_cons kR (all_cons kR (all_cons kR (all_cons kR (all_cons kR (all_cons kR all_nil)))))) kR (bcons rfl (bcons rfl rfl)) (λk1 hk1 hh=>?_)
   have hh1:=hh
   refine Sy.seq<|sC ?_
   refine sP (.int .i64 ((k1:Nat):Int))<|sP (.slice S NR cS)<|sP (.int .i64 ((NR:Nat):Int)) ?_
   obtain ⟨b3,hb3⟩:∃ z:Bool,z=decide (k1<NR):=⟨_,rfl⟩
   refine sS (.bool b3) (Quiet.pure (exec_int .lss _ _ _ .i64 _ _ _ rfl rfl rfl (int_lss _ _ _ _ _ (by rw [hb3]; exact decide_eq_decide.2 (by omega))))) ?_
   refine sG ?_
   cases b3
   ·have lb3:¬ (k1<NR):=of_decide_eq_false hb3.symm
    refine sU<|Sy.exit<|Sy.then_exit<|Sy.then_exit ?_
    obtain rfl:NR=k1:=by omega
    have hfit:fitB At sx nk X Y I NR NR=true:=fitB_all rfl hh1
    have hfp:=(fit_parts hfit.symm).2
    obtain ⟨at_,hat_⟩:∃ f:Nat→Nat,f=λi=>(At i).toNat:=⟨_,rfl⟩
    have hat:∀ i,i<NR→at_ i<nk i:=λi hi=>by rw [hat_]; exact (hfp i hi).2.1
    have hls1:Lst w 5 S NR (λi=>sec5 ((at_ i:Nat):Int) (sx i)):=Lst_ext hls0 (λi hi=>by rw [hat_, ← (hfp i hi).1])
    obtain ⟨gQ,oQ,hQ⟩:=hls1
    refine Sy.in_exit<|sB ?_
    refine sP (.slice A n c)<|sP (.slice R NR cR) ?_
    obtain ⟨bM,hbM⟩:∃ l,l=rgM m NR nk X Y I:=⟨_,rfl⟩
    have hbl:bM.length=32:=by rw [hbM]; exact rgM_len _ _ _ _ _ _
    refine Sy.callN kR 21 #[.slice A n c,.slice R NR cR] kF ((λvq Mq=>∃ (g:Nat) (sp:List Value) (cap:Nat),vq=.slice (some ⟨g,0,none⟩) 32 cap∧(32≤cap∧cap≤9223372036854775807)∧Mq=[(g,5,(bM.map bv++sp).toArray)])) (λw hw=>by rw [hbM]; exact m8_any w A m n c hm hm9 hc hc2 (hs0.below hw.below) R NR cR a nk ck X Y I hX hY hNR hnk (hlr0.below hw.below) (λi hi=>(hlk i hi).below hw.below) hN32 hn64 (htr.below hw.below htr.lt)) (λvq Mq hR0=>?_)
    obtain ⟨qx,spx,cpx,rfl,hcx,rfl⟩:=hR0
    refine sP (.slice (some ⟨qx,0,none⟩) 32 cpx) ?_
    refine sA ?_
    refine sP (sgv33 (List.replicate 32 (0:UInt8)) none 0 0) ?_
    refine sM 31 (sgc33 (List.replicate 32 (0:UInt8)) none 0 0).toArray (λg2=>?_)
    refine sW 3 g2 31 (sgc33 (List.replicate 32 (0:UInt8)) none 0 0).toArray (sgc33 (List.replicate 32 (0:UInt8)) none 0 0).toArray (Writes.row 31 (sgc33 (List.replicate 32 (0:UInt8)) none 0 0) 33 _ _ rfl kR kR kR (sg_len List.length_replicate) (by rw [List.size_toArray,sg_len List.length_replicate]) sg_one) ?_
    refine sA ?_
    refine sP (.slice (some ⟨qx,0,none⟩) 32 cpx) ?_
    refine Sy.make kR 24 #[.slice (some ⟨qx,0,none⟩) 32 cpx] (λg=>.slice (some ⟨g,0,none⟩) 1 1) kF (λg3=>?_)
    refine sP (.slice (some ⟨g3,0,none⟩) 1 1) ?_
    refine sG<|Sy.seq<|sC ?_
    refine sP (.int .i64 0) ?_
    refine sG<|Sy.block ?_
    refine Sy.loopT (Y:=(Nat→Slc)×Slc×Slc×Blocks×List Sh.Tx) NR (λk1 y1=>[(2,.slice R NR cR),(3,.slice S NR cS),(4,.pointer (some ⟨g0,0,none⟩)),(8,.pointer (some ⟨g1,0,none⟩)),(12,.slice (some ⟨qx,0,none⟩) 32 cpx),(13,.pointer (some ⟨g2,0,none⟩)),(14,y1.2.2.1.v),(15,.int .i64 ((k1:Nat):Int))]) (λk1 y1=>[(g0,23,(sd.map bv).toArray),(g1,31,(sgc33 (List.replicate 32 (0:UInt8)) none 0 0).toArray),(g2,31,(sgx (List.replicate 32 (0:UInt8)) y1.2.1.v).toArray)]++(rowsB y1.1 NR++(y1.2.1.bl++(y1.2.2.1.bl++(y1.2.2.2.1++([])))))) (λk1 y1=>RowsAre y1.1 46 4 (fkF bM sd) (cntR nk k1 0)∧y1.2.1.Is 55 1 ((List.range k1).map λi=>[(y1.1 i).v])∧TxsIs (Base.of w) 24 y1.2.2.1 y1.2.2.2.1 y1.2.2.2.2∧Sh.cat y1.2.2.2.2=bM++sgEnds bM sd X Y I at_ nk k1∧y1.2.2.2.2.length=k1+1∧(qx,5,(bM.map bv++spx).toArray)∈y1.2.2.2.1∧∀ i,k1≤i→y1.1 i=nilS) (λ_=>nilS,nilS,⟨.slice (some ⟨g3,0,none⟩) 1 1,[(g3,24,#[.slice (some ⟨qx,0,none⟩) 32 cpx])]⟩,[(qx,5,(bM.map bv++spx).toArray)],[(⟨some ⟨qx,0,none⟩,bM,cpx⟩:Sh.Tx)]) ⟨(RowsAre.nil _ _ _).cnt (cntR_zero nk),Slc.Is.nil _ _,TxsIs.own _ (val_blk hbl) (λv L hv hb=>ok_own8 (hv.blk _ _ _ (hb _ (List.mem_singleton.2 rfl))).2 hbl hcx),by simp [Sh.cat,sgEnds],rfl,List.mem_singleton.2 rfl,λ_ _=>rfl⟩ (all_cons kR (all_cons kR (all_cons kR (all_cons kR (all_cons kR (all_cons kR (all_cons kR (all_cons kR all_nil)))))))) (λw hw=>by have q:=hw.perm (perm_at (m:=[(g0,23,(sd.map bv).toArray),(g1,31,(sgc33 (List.replicate 32 (0:UInt8)) none 0 0).toArray),(g2,31,(sgc33 (List.replicate 32 (0:UInt8)) none 0 0).toArray),(g3,24,#[.slice (some ⟨qx,0,none⟩) 32 cpx]),(qx,5,(bM.map bv++spx).toArray)]) [0,1,3,4,2] kR (by rfl)); rw [rowsB_nil]; exact q) (λk1 y1 hk1 hh1=>?_)
    have hmT:=hh1.2.2.2.2.2.1
    refine Sy.seq<|sC ?_
    refine sP (.int .i64 ((k1:Nat):Int))<|sP (.slice R NR cR)<|sP (.int .i64 ((NR:Nat):Int)) ?_
    obtain ⟨b4,hb4⟩:∃ z:Bool,z=decide (k1<NR):=⟨_,rfl⟩
    refine sS (.bool b4) (Quiet.pure (exec_int .lss _ _ _ .i64 _ _ _ rfl rfl rfl (int_lss _ _ _ _ _ (by rw [hb4]; exact decide_eq_decide.2 (by omega))))) ?_
    refine sG ?_
    cases b4
    ·have lb4:¬ (k1<NR):=of_decide_eq_false hb4.symm
     refine sU<|Sy.exit<|Sy.then_exit<|Sy.then_exit ?_
     obtain rfl:NR=k1:=by omega
     obtain ⟨q1,O1,e1,T1,t1⟩:=y1
     dsimp only at hh1
     obtain ⟨hr1,hO1,hT0,hcat,htl,hmT1,_⟩:=hh1
     obtain ⟨gO,cO,spO,hOv,hOb,hO2,hcO,hO3⟩:=hO1.open (by omega)
     obtain ⟨ov,ob⟩:=O1
     obtain rfl:ov=_:=hOv
     obtain rfl:ob=_:=hOb
     replace hmT:=hmT1
     refine Sy.permX (M:=[(g0,23,(sd.map bv).toArray),(g1,31,(sgc33 (List.replicate 32 (0:UInt8)) none 0 0).toArray),(g2,31,(sgx (List.replicate 32 (0:UInt8)) (.slice (some ⟨gO,0,none⟩) NR cO)).toArray),(gO,55,(flat (λj=>[(q1 j).v]) NR++spO).toArray)]++(rowsB q1 NR++(e1.bl++(T1++([]))))) (Sy.flat_perm (ls:=[[(g0,23,(sd.map bv).toArray),(g1,31,(sgc33 (List.replicate 32 (0:UInt8)) none 0 0).toArray),(g2,31,(sgx (List.replicate 32 (0:UInt8)) (.slice (some ⟨gO,0,none⟩) NR cO)).toArray)],rowsB q1 NR,[(gO,55,(flat (λj=>[(q1 j).v]) NR++spO).toArray)],e1.bl,T1]) (ms:=[[(g0,23,(sd.map bv).toArray),(g1,31,(sgc33 (List.replicate 32 (0:UInt8)) none 0 0).toArray),(g2,31,(sgx (List.replicate 32 (0:UInt8)) (.slice (some ⟨gO,0,none⟩) NR cO)).toArray)],[(gO,55,(flat (λj=>[(q1 j).v]) NR++spO).toArray)],rowsB q1 NR,e1.bl,T1]) [0,2,1,3,4] kR (by rfl) (by rfl) (by rfl)) ?_
     refine Sy.tidyX (G:=[(2,.slice R NR cR),(3,.slice S NR cS),(4,.pointer (some ⟨g0,0,none⟩)),(8,.pointer (some ⟨g1,0,none⟩)),(12,.slice (some ⟨qx,0,none⟩) 32 cpx),(13,.pointer (some ⟨g2,0,none⟩)),(14,e1.v)]) (all_cons kR (all_cons kR (all_cons kR (all_cons kR (all_cons kR (all_cons kR (all_cons kR all_nil))))))) ?_
     refine Sy.in_exit<|sB ?_
     refine sP (e1.v) ?_
     obtain ⟨d0,hd0⟩:∃ l,l=sgD bM sd X Y I at_ nk NR:=⟨_,rfl⟩
     have hdl:d0.length=32:=by rw [hd0]; exact sgD_len _
     refine sS (.agg (d0.map bv).toArray) (qG 51 #[.string rgFirst,e1.v] (λw hw=>by obtain ⟨Q,dd,hv,hc9,_,htx⟩:=hT0.texts; rw [hv,hd0]; have hel:=sgEnds_len (bm:=bM) (sd:=sd) (X:=X) (Y:=Y) (I:=I) (at_:=at_) (nk:=nk) NR; have q:=Sh.taggedR_any w rgFirst Q t1 dd (htx hw (λb hb=>(List.mem_append.2 (.inr (List.mem_append.2 (.inr (List.mem_append.2 (.inl hb))))))) (λb hb=>(List.mem_append.2 (.inr (List.mem_append.2 (.inr (List.mem_append.2 (.inr (List.mem_append.2 (.inl hb)))))))))) (htr.below hw.below htr.lt) (by decide) (by rw [hcat,List.length_append]; omega) (by omega); rw [hcat] at q; exact q))<|sP (.pointer (some ⟨g2,0,none⟩))<|sW 2 g2 31 (sgx (List.replicate 32 (0:UInt8)) (.slice (some ⟨gO,0,none⟩) NR cO)).toArray (sgx d0 (.slice (some ⟨gO,0,none⟩) NR cO)).toArray (Writes.store 0 23 (d0.map bv).toArray _ _ rfl kR kR (by rw [key_sz d0 hdl]; kernel_rfl) (by rw [key_sz d0 hdl,List.size_toArray,sgx_len List.length_replicate]; decide) (key_one _) (sgx_put List.length_replicate hdl)) ?_
     refine Sy.setT ?_
     refine sG<|Sy.seq<|sC ?_
     refine sP (.int .i64 0) ?_
     refine sG<|Sy.block ?_
     refine Sy.loopT (Y:=Nat→Slc) NR (λk1 y1=>[(2,.slice R NR cR),(3,.slice S NR cS),(4,.pointer (some ⟨g0,0,none⟩)),(8,.pointer (some ⟨g1,0,none⟩)),(12,.slice (some ⟨qx,0,none⟩) 32 cpx),(13,.pointer (some ⟨g2,0,none⟩)),(20,.int .i64 ((k1:Nat):Int))]) (λk1 y1=>[(g0,23,(sd.map bv).toArray),(g1,31,(sgc33 (List.replicate 32 (0:UInt8)) none 0 0).toArray),(g2,31,(sgc33 d0 (some ⟨gO,0,none⟩) NR cO).toArray),(gO,55,(flat (λj=>[(q1 j).v]) NR++spO).toArray)]++(rowsB y1 NR++(e1.bl++(T1++([]))))) (λk1 y1=>RowsAre y1 46 4 (sgK bM sd X Y I at_ sx d0 k1) (cntR nk NR 0)∧∀ i,i<NR→(y1 i).v=(q1 i).v) q1 ⟨by rw [sgK_zero]; exact hr1,λ_ _=>rfl⟩ (all_cons kR (all_cons kR (all_cons kR (all_cons kR (all_cons kR (all_cons kR (all_cons kR all_nil))))))) (λw hw=>hw) (λk1 y1 hk1 hh1=>?_)
     refine Sy.seq<|sC ?_
     refine sP (.int .i64 ((k1:Nat):Int))<|sP (.slice R NR cR)<|sP (.int .i64 ((NR:Nat):Int)) ?_
     obtain ⟨b5,hb5⟩:∃ z:Bool,z=decide (k1<NR):=⟨_,rfl⟩
     refine sS (.bool b5) (Quiet.pure (exec_int .lss _ _ _ .i64 _ _ _ rfl rfl rfl (int_lss _ _ _ _ _ (by rw [hb5]; exact decide_eq_decide.2 (by omega))))) ?_
     refine sG ?_
     cases b5
     ·have lb5:¬ (k1<NR):=of_decide_eq_false hb5.symm
      refine sU<|Sy.exit<|Sy.then_exit<|Sy.then_exit ?_
      obtain rfl:NR=k1:=by omega
      refine Sy.in_exit<|sB ?_
      refine sS (sgv33 d0 (some ⟨gO,0,none⟩) NR cO) (Quiet.load 2 g2 0 33 31 31 (sgc33 d0 (some ⟨gO,0,none⟩) NR cO).toArray _ _ rfl kR kR Tryz.underlying31 rfl kR _ (sg_whole hdl) (sg_fit hdl))<|sW 1 g1 31 (sgc33 (List.replicate 32 (0:UInt8)) none 0 0).toArray (sgc33 d0 (some ⟨gO,0,none⟩) NR cO).toArray (Writes.row 31 (sgc33 d0 (some ⟨gO,0,none⟩) NR cO) 33 _ _ rfl kR kR kR (sg_len hdl) (by rw [List.size_toArray,sg_len List.length_replicate]) sg_one) ?_
      refine Sy.setT ?_
      refine sP (.int .i64 0) ?_
      refine sG<|Sy.ret ?_
      have hcell:flat (λj=>[(y1 j).v]) NR=flat (λj=>[(q1 j).v]) NR:=flat_congr λj hj=>by rw [hh1.2 j hj]
      exact retGM2 ((gO,55,(flat (λj=>[(q1 j).v]) NR++spO).toArray)::rowsB y1 NR) rfl (v:=sgv33 d0 (some ⟨gO,0,none⟩) NR cO) (u:=.int .i64 0) (.inl (Res.cell (ty':=31) g1 1 (sgc33 d0 (some ⟨gO,0,none⟩) NR cO).toArray _ kR kR Tryz.underlying31 rfl (by rw [List.size_toArray,sg_len hdl]; kernel_rfl) rfl)) (.inl (show _=_ by kernel_rfl)) (λw hw=>St.parts (ls:=[[(g0,23,(sd.map bv).toArray)],[(g1,31,(sgc33 d0 (some ⟨gO,0,none⟩) NR cO).toArray)],[(g2,31,(sgc33 d0 (some ⟨gO,0,none⟩) NR cO).toArray)],[(gO,55,(flat (λj=>[(q1 j).v]) NR++spO).toArray)],rowsB y1 NR,e1.bl,T1]) (ms:=[[(gO,55,(flat (λj=>[(q1 j).v]) NR++spO).toArray)],rowsB y1 NR]) [[(g0,23,(sd.map bv).toArray)],[(g1,31,(sgc33 d0 (some ⟨gO,0,none⟩) NR cO).toArray)],[(g2,31,(sgc33 d0 (some ⟨gO,0,none⟩) NR cO).toArray)],e1.bl,T1] [3,4,0,1,2,5,6] kR (by rfl) (by rfl) (by simp) hw) (.inr (.inr ⟨hb1.symm,hfit,_,rfl,gO,cO,spO,y1,by rw [hd0,hbM,hat_],hcO,by rw [hcell],by rw [hd0,hbM,hat_] at hh1; exact sgK_all hh1.1⟩))
     ·have lb5:k1<NR:=of_decide_eq_true hb5.symm
      have hnk1:=hn64 k1 lb5
      have hnk0:=hn1 k1 lb5
      have hat1:=hat k1 lb5
      obtain ⟨gK,oK,hT⟩:=hlk k1 lb5
      obtain ⟨gk,ck2,sp,hkv,hkb,hk1s,hk2s,hk3s⟩:=(show (y1 k1).Is _ _ _ from hh1.1 k1).open (by rw [cntR_all lb5]; omega)
      rw [cntR_all lb5] at hkv hkb hk1s hk2s
      rw [sgK_at] at hkb
      obtain ⟨fR,hfR⟩:∃ f:Nat→List Value,f=λj=>fws (rgF bM sd k1 j):=⟨_,rfl⟩
      rw [← hfR] at hkb
      have hf4:∀ j,(fR j).length=4:=λj=>by rw [hfR]; rfl
      obtain ⟨ek,hek⟩:∃ k,k=sgE bM sd X Y I at_ d0 k1:=⟨_,rfl⟩
      refine Sy.permC (Sy.out1 y1 lb5 hkb) ?_
      refine sT<|Sy.skip<|Sy.then_<|Sy.seq<|Sy.block<|sC ?_
      refine sP (.slice S NR cS)<|sP (.int .i64 ((k1:Nat):Int))<|sS (.pointer (some ⟨gQ,oQ+k1*5,none⟩)) (Quiet.pure (exec_atO 26 _ _ _ S gQ oQ NR cS k1 5 .i64 (hQ (by omega)).1 rfl rfl rfl Tryz.underlying26 kF (by omega)))<|sP (.pointer (some ⟨gQ,oQ+k1*5+0,none⟩))<|sS (.int .i64 (((at_ k1):Nat):Int)) (Quiet.thereOne gQ (oQ+k1*5+0) 3 _ _ rfl kR (hQ (by omega)).2.1 _ (range_one ((hQ (by omega)).2.2 k1 (by omega)) 0 rfl) Tryz.underlying3 rfl)<|sP (.int .i64 (((at_ k1):Nat):Int)) ?_
      refine sH (λj=>false) ?_
      refine sZ 0 rfl (.slice (some ⟨qx,0,none⟩) 32 cpx)<|sZ 1 rfl (.int .i64 ((k1:Nat):Int))<|sZ 2 rfl (.slice R NR cR)<|sZ 3 rfl (.int .i64 ((k1:Nat):Int))<|sD 4 rfl (.pointer (some ⟨gR,oR+k1*1,none⟩)) (Quiet.pure (exec_atO 25 _ _ _ R gR oR NR cR k1 1 .i64 (hR (by omega)).1 rfl rfl rfl Tryz.underlying25 kF (by omega)))<|sD 5 rfl (.slice (a k1) (nk k1) (ck k1)) (Quiet.thereOne gR (oR+k1*1) 49 _ _ rfl kR (hR (by omega)).2.1 _ (range_one ((hR (by omega)).2.2 k1 (by omega)) 0 rfl) Tryz.underlying49 rfl)<|sZ 6 rfl (.pointer (some ⟨g2,0,none⟩))<|sD 7 rfl (.agg (d0.map bv).toArray) (Quiet.load 2 g2 0 32 31 23 (sgc33 d0 (some ⟨gO,0,none⟩) NR cO).toArray _ _ rfl kR kR Tryz.underlying23 rfl kR _ (sg_first hdl) (sg_fits hdl)) ?_
      refine sZ 8 rfl (.pointer (some ⟨g2,32,none⟩))<|sD 9 rfl (.slice (some ⟨gO,0,none⟩) NR cO) (Quiet.cell 2 g2 32 31 29 (sgc33 d0 (some ⟨gO,0,none⟩) NR cO).toArray _ _ rfl kR kR Tryz.underlying29 rfl _ (sg_at hdl))<|sZ 10 rfl (.int .i64 ((k1:Nat):Int))<|sD 11 rfl (.pointer (some ⟨gO,0+k1*1,none⟩)) (Quiet.pure (exec_at 29 _ _ _ gO 0 NR cO k1 1 .i64 rfl rfl rfl Tryz.underlying29 kF (by omega)))<|sD 12 rfl (.slice (some ⟨gk,0,none⟩) (nk k1) ck2) (Quiet.cell 3 gO (0+k1*1) 55 55 (flat (λj=>[(q1 j).v]) NR++spO).toArray _ _ rfl kR kR Tryz.underlying55 rfl _ ((flat_get_sp (by omega) rfl).trans (congrArg some ((hh1.2 k1 (by omega)).symm.trans hkv))))<|sZ 13 rfl (.int .i64 (((at_ k1):Nat):Int))<|sD 14 rfl (.int .i64 (((at_ k1)+1:Nat):Int)) (Quiet.pure (exec_int .add _ _ _ .i64 _ _ _ rfl rfl rfl (int_add _ _ _ _ _ ((wrap_i64 (by omega) (by omega)).trans (by omega))))) ?_
      refine Sy.callND 15 rfl kR kR 24 #[.slice (some ⟨qx,0,none⟩) 32 cpx,.int .i64 ((k1:Nat):Int),.slice (a k1) (nk k1) (ck k1),.agg (d0.map bv).toArray,.slice (some ⟨gk,0,none⟩) (nk k1) ck2,.int .i64 (((at_ k1)+1:Nat):Int)] kF (EsR (rgF bM sd k1) bM k1 (X k1) (Y k1) (I k1) d0 (at_ k1+1)) (λw hw=>es8_any w (some ⟨qx,0,none⟩) bM cpx hbl hcx.1 hcx.2 (src_own (hw.blk _ _ _ (List.mem_append.2 (.inr (List.mem_append.2 (.inr (List.mem_append.2 (.inr (List.mem_append.2 (.inl hmT))))))))).2) k1 (by omega) (a k1) (nk k1) (ck k1) (X k1) (Y k1) (I k1) (hX k1) (hY k1) ((hlk k1 (by omega)).below hw.below) d0 hdl (some ⟨gk,0,none⟩) (nk k1) ck2 (rgF bM sd k1) (λ_=>rgF_lt _ _ _ _) (by rw [← hfR]; exact row_lst hf4 hw (List.mem_append.2 (.inl (List.mem_of_getElem? (i:=4) rfl)))) (at_ k1+1) (by omega) (by omega) (by omega) (htr.below hw.below htr.lt)) (λvq Mq hR0=>?_)
      obtain ⟨ye,xte,xe,rfl,rfl,hye,hxe⟩:=hR0
      refine Sy.permD Sy.end_front2 ?_
      obtain ⟨yev,yeb⟩:=ye
      obtain ⟨ge,ce,spe,hev,heb,he1,he2,he3⟩:=hye.open (Nat.succ_pos _)
      obtain ⟨fE,hfE⟩:∃ f:Nat→List Value,f=λj=>fws (eC (rgF bM sd k1) bM k1 (X k1) (Y k1) (I k1) d0 j):=⟨_,rfl⟩
      have hE4:∀ j,(fE j).length=4:=λj=>by rw [hfE]; rfl
      rw [← hfE] at heb
      obtain rfl:yev=_:=hev
      obtain rfl:yeb=_:=heb
      refine Sy.permD (M:=[(g0,23,(sd.map bv).toArray),(g1,31,(sgc33 (List.replicate 32 (0:UInt8)) none 0 0).toArray),(g2,31,(sgc33 d0 (some ⟨gO,0,none⟩) NR cO).toArray),(gO,55,(flat (λj=>[(q1 j).v]) NR++spO).toArray),(gk,46,(flat fR (nk k1)++sp).toArray),(ge,46,(flat fE (at_ k1+1)++spe).toArray)]++(xe++(rowsX y1 NR k1++(e1.bl++(T1++([])))))) (by exact List.Perm.refl _) ?_
      refine sZ 16 rfl (.tuple #[.slice (some ⟨ge,0,none⟩) (at_ k1+1) ce,.slice xte.A (xlen (at_ k1+1)) xte.c])<|sZ 17 rfl (.slice (some ⟨ge,0,none⟩) (at_ k1+1) ce)<|sZ 18 rfl (.slice xte.A (xlen (at_ k1+1)) xte.c)<|sZ 19 rfl (.slice (some ⟨ge,0,none⟩) (at_ k1+1) ce)<|sZ 20 rfl (.slice xte.A (xlen (at_ k1+1)) xte.c) ?_
      refine sE ?_
      refine sB ?_
      refine sP (.pointer (some ⟨g2,32,none⟩))<|sS (.slice (some ⟨gO,0,none⟩) NR cO) (Quiet.cell 2 g2 32 31 29 (sgc33 d0 (some ⟨gO,0,none⟩) NR cO).toArray _ _ rfl kR kR Tryz.underlying29 rfl _ (sg_at hdl))<|sP (.int .i64 ((k1:Nat):Int))<|sS (.pointer (some ⟨gO,0+k1*1,none⟩)) (Quiet.pure (exec_at 29 _ _ _ gO 0 NR cO k1 1 .i64 rfl rfl rfl Tryz.underlying29 kF (by omega)))<|sS (.slice (some ⟨gk,0,none⟩) (nk k1) ck2) (Quiet.cell 3 gO (0+k1*1) 55 55 (flat (λj=>[(q1 j).v]) NR++spO).toArray _ _ rfl kR kR Tryz.underlying55 rfl _ ((flat_get_sp (by omega) rfl).trans (congrArg some ((hh1.2 k1 (by omega)).symm.trans hkv))))<|sP (.slice (some ⟨gk,0,none⟩) (nk k1) ck2) ?_
      refine sG ?_
      refine Sy.regionD (λj=>j == 18) kR ?_
      refine sZ 0 rfl (.slice (some ⟨gk,0,none⟩) (nk k1) ck2)<|sZ 1 rfl (.int .i64 (((at_ k1):Nat):Int))<|sD 2 rfl (.agg (sd.map bv).toArray) (Quiet.load 0 g0 0 32 23 23 (sd.map bv).toArray _ _ rfl kR kR Tryz.underlying23 rfl kR _ (key_whole sd hsd) (key_size sd hsd))<|sZ 3 rfl (.slice (some ⟨qx,0,none⟩) 32 cpx)<|sZ 4 rfl (.int .i64 ((k1:Nat):Int)) ?_
      obtain ⟨kn,hkn⟩:∃ k,k=rgN bM sd k1:=⟨_,rfl⟩
      refine sD 5 rfl (fv kn) (qG 48 #[.agg (sd.map bv).toArray,.slice (some ⟨qx,0,none⟩) 32 cpx,.int .i64 ((k1:Nat):Int)] (λw hw=>by rw [hkn]; exact nonce8_any w sd hsd (some ⟨qx,0,none⟩) bM cpx hbl hcx.1 hcx.2 (src_own (hw.blk _ _ _ (List.mem_append.2 (.inr (List.mem_append.2 (.inr (List.mem_append.2 (.inr (List.mem_append.2 (.inr (List.mem_append.2 (.inl hmT))))))))))).2) k1 (by omega) (htr.below hw.below htr.lt)))<|sZ 6 rfl (.slice (some ⟨ge,0,none⟩) (at_ k1+1) ce)<|sZ 7 rfl (.int .i64 (((at_ k1):Nat):Int))<|sD 8 rfl (.pointer (some ⟨ge,0+(at_ k1)*4,none⟩)) (Quiet.pure (exec_at 55 _ _ _ ge 0 (at_ k1+1) ce (at_ k1) 4 .i64 rfl rfl rfl Tryz.underlying55 kF (by omega)))<|sD 9 rfl (fv ek) (Quiet.load 5 ge (0+(at_ k1)*4) 4 46 46 (flat fE (at_ k1+1)++spe).toArray _ _ rfl kR kR Tryz.underlying46 rfl kR _ ((flat_load_sp (k:=(at_ k1)) hE4 (by omega) rfl).trans (by rw [hfE,hek]; rfl)) (flat_fit1 (k:=(at_ k1)) hE4 (by omega) rfl))<|sZ 10 rfl (.slice S NR cS)<|sZ 11 rfl (.int .i64 ((k1:Nat):Int))<|sD 12 rfl (.pointer (some ⟨gQ,oQ+k1*5,none⟩)) (Quiet.pure (exec_atO 26 _ _ _ S gQ oQ NR cS k1 5 .i64 (hQ (by omega)).1 rfl rfl rfl Tryz.underlying26 kF (by omega))) ?_
      refine sZ 13 rfl (.pointer (some ⟨gQ,oQ+k1*5+1,none⟩))<|sD 14 rfl (fv (sx k1)) (Quiet.there gQ (oQ+k1*5+1) 4 46 (fws (sx k1)) _ _ rfl kR (hQ (by omega)).2.1 (range_sub ((hQ (by omega)).2.2 k1 (by omega)) 1 rfl) Tryz.underlying46 rfl kR rfl _ rfl) ?_
      obtain ⟨km,hkm⟩:∃ k,k=Sc.mulP ek (sx k1):=⟨_,rfl⟩
      refine sD 15 rfl (fv km) (qF 53 #[fv ek,fv (sx k1)] (λw=>by rw [hkm]; exact msc_any w _ _ (by rw [hek]; exact rgC_lt _ _ _ _) (hsx _))) ?_
      obtain ⟨ks,hks⟩:∃ k,k=Sc.subP kn km:=⟨_,rfl⟩
      refine sD 16 rfl (fv ks) (qF 52 #[fv kn,fv km] (λw=>by rw [hks]; exact ssc_any w _ _ (by rw [hkn]; exact rgN_lt _ _ _) (by rw [hkm]; exact Sc.mod_lt _)))<|sD 17 rfl (.pointer (some ⟨gk,0+(at_ k1)*4,none⟩)) (Quiet.pure (exec_at 55 _ _ _ gk 0 (nk k1) ck2 (at_ k1) 4 .i64 rfl rfl rfl Tryz.underlying55 kF (by omega)))<|sX 18 rfl 4 gk 46 (flat fR (nk k1)++sp).toArray (flat (λj=>if j=(at_ k1) then fws ks else fR j) (nk k1)++sp).toArray (Writes.store (0+(at_ k1)*4) 46 (fcs ks) _ _ rfl kR kR kR (flat_fit1 (k:=(at_ k1)) hf4 (by omega) rfl) kR (flat_put1 (k:=(at_ k1)) (v:=fws ks) hf4 rfl (by omega) rfl)) ?_
      refine Sy.setTD ?_
      refine sE ?_
      refine Sy.in_<|Sy.then_<|Sy.region ?_
      refine sP (.int .i64 ((k1:Nat):Int))<|sS (.int .i64 ((k1+1:Nat):Int)) (Quiet.pure (exec_int .add _ _ _ .i64 _ _ _ rfl rfl rfl (int_add _ _ _ _ _ ((wrap_i64 (by omega) (by omega)).trans (by omega)))))<|sP (.int .i64 ((k1+1:Nat):Int)) ?_
      refine Sy.nil ?_
      exact Sy.againT (putR y1 k1 ⟨.slice (some ⟨gk,0,none⟩) (nk k1) ck2,[(gk,46,(flat (λj=>if j=(at_ k1) then fws ks else fR j) (nk k1)++sp).toArray)]⟩) (by omega) (⟨hh1.1.upd (by rw [cntR_all (by omega), ← sgK_upd, ← hkn, ← hek, ← hkm, ← hks,hfR]; exact Slc.Is.close (λk=>by split <;> rfl) (λk=>by split <;> exact fws_one _) hk1s hk2s hk3s) (λi hi=>sgK_ne hi),λi hi=>by by_cases e:i=k1; { rw [e,putR_self, ← hh1.2 k1 (by omega),hkv] }; { rw [putR_ne e]; exact hh1.2 i hi }⟩) (all_cons kR (all_cons kR (all_cons kR (all_cons kR (all_cons kR (all_cons kR (all_cons kR all_nil))))))) (λw hw=>St.row_back (i:=k1) (v:=.slice (some ⟨gk,0,none⟩) (nk k1) ck2) (M:=[(g0,23,(sd.map bv).toArray),(g1,31,(sgc33 (List.replicate 32 (0:UInt8)) none 0 0).toArray),(g2,31,(sgc33 d0 (some ⟨gO,0,none⟩) NR cO).toArray),(gO,55,(flat (λj=>[(q1 j).v]) NR++spO).toArray)]) (b:=(gk,46,(flat (λj=>if j=(at_ k1) then fws ks else fR j) (nk k1)++sp).toArray)) (n:=NR) (r:=y1) (R:=e1.bl++(T1++[])) (by omega) (St.parts (ls:=[[(g0,23,(sd.map bv).toArray)],[(g1,31,(sgc33 (List.replicate 32 (0:UInt8)) none 0 0).toArray)],[(g2,31,(sgc33 d0 (some ⟨gO,0,none⟩) NR cO).toArray)],[(gO,55,(flat (λj=>[(q1 j).v]) NR++spO).toArray)],[(gk,46,(flat (λj=>if j=(at_ k1) then fws ks else fR j) (nk k1)++sp).toArray)],[(ge,46,(flat fE (at_ k1+1)++spe).toArray)],xe,rowsX y1 NR k1,e1.bl,T1]) (ms:=[[(g0,23,(sd.map bv).toArray)],[(g1,31,(sgc33 (List.replicate 32 (0:UInt8)) none 0 0).toArray)],[(g2,31,(sgc33 d0 (some ⟨gO,0,none⟩) NR cO).toArray)],[(gO,55,(flat (λj=>[(q1 j).v]) NR++spO).toArray)],[(gk,46,(flat (λj=>if j=(at_ k1) then fws ks else fR j) (nk k1)++sp).toArray)],rowsX y1 NR k1,e1.bl,T1]) [[(ge,46,(flat fE (at_ k1+1)++spe).toArray)],xe] [0,1,2,3,4,7,8,9,5,6] kR (by rfl) (by rfl) (by rfl) hw))
    ·have lb4:k1<NR:=of_decide_eq_true hb4.symm
     have hnk1:=hn64 k1 lb4
     have hnk0:=hn1 k1 lb4
     have hat1:=hat k1 lb4
     obtain ⟨gK,oK,hT⟩:=hlk k1 lb4
     refine sT<|Sy.skip<|Sy.then_<|Sy.seq<|Sy.block<|sC ?_
     refine sP (.slice none 0 0) ?_
     refine sG<|Sy.seq<|sC ?_
     refine sP (.int .i64 0) ?_
     refine sG<|Sy.block ?_
     refine Sy.loopT (Y:=Slc) (nk k1) (λk2 y2=>[(2,.slice R NR cR),(3,.slice S NR cS),(4,.pointer (some ⟨g0,0,none⟩)),(8,.pointer (some ⟨g1,0,none⟩)),(12,.slice (some ⟨qx,0,none⟩) 32 cpx),(13,.pointer (some ⟨g2,0,none⟩)),(14,y1.2.2.1.v),(15,.int .i64 ((k1:Nat):Int)),(16,y2.v),(17,.int .i64 ((k2:Nat):Int))]) (λk2 y2=>[(g0,23,(sd.map bv).toArray),(g1,31,(sgc33 (List.replicate 32 (0:UInt8)) none 0 0).toArray),(g2,31,(sgx (List.replicate 32 (0:UInt8)) y1.2.1.v).toArray)]++(y2.bl++(rowsB y1.1 NR++(y1.2.1.bl++(y1.2.2.1.bl++(y1.2.2.2.1++([]))))))) (λk2 y2=>y2.Is 46 4 ((List.range k2).map (fkF bM sd k1))) nilS (Slc.Is.nil _ _) (all_cons kR (all_cons kR (all_cons kR (all_cons kR (all_cons kR (all_cons kR (all_cons kR (all_cons kR (all_cons kR (all_cons kR all_nil)))))))))) (λw hw=>hw) (λk2 y2 hk2 hh2=>?_)
     refine Sy.seq<|sC ?_
     refine sP (.int .i64 ((k2:Nat):Int))<|sP (.slice R NR cR)<|sP (.int .i64 ((k1:Nat):Int))<|sS (.pointer (some ⟨gR,oR+k1*1,none⟩)) (Quiet.pure (exec_atO 25 _ _ _ R gR oR NR cR k1 1 .i64 (hR (by omega)).1 rfl rfl rfl Tryz.underlying25 kF (by omega)))<|sS (.slice (a k1) (nk k1) (ck k1)) (Quiet.thereOne gR (oR+k1*1) 49 _ _ rfl kR (hR (by omega)).2.1 _ (range_one ((hR (by omega)).2.2 k1 (by omega)) 0 rfl) Tryz.underlying49 rfl)<|sP (.int .i64 (((nk k1):Nat):Int)) ?_
     obtain ⟨b6,hb6⟩:∃ z:Bool,z=decide (k2<(nk k1)):=⟨_,rfl⟩
     refine sS (.bool b6) (Quiet.pure (exec_int .lss _ _ _ .i64 _ _ _ rfl rfl rfl (int_lss _ _ _ _ _ (by rw [hb6]; exact decide_eq_decide.2 (by omega))))) ?_
     refine sG ?_
     cases b6
     ·have lb6:¬ (k2<(nk k1)):=of_decide_eq_false hb6.symm
      refine sU<|Sy.exit<|Sy.then_exit<|Sy.then_exit ?_
      obtain rfl:k2=nk k1:=by omega
      have hk1c:=hh2
      obtain ⟨gk,ck2,sp,hkv,hkb,hk1s,hk2s,hk3s⟩:=hh2.open (by omega)
      obtain ⟨fR,hfR⟩:∃ f:Nat→List Value,f=fkF bM sd k1:=⟨_,rfl⟩
      rw [← hfR] at hkb
      have hf4:∀ j,(fR j).length=4:=λj=>by rw [hfR]; rfl
      obtain ⟨yv,yb⟩:=y2
      obtain rfl:yv=_:=hkv
      obtain rfl:yb=_:=hkb
      refine Sy.permX (M:=[(g0,23,(sd.map bv).toArray),(g1,31,(sgc33 (List.replicate 32 (0:UInt8)) none 0 0).toArray),(g2,31,(sgx (List.replicate 32 (0:UInt8)) y1.2.1.v).toArray),(gk,46,(flat fR (nk k1)++sp).toArray)]++(rowsB y1.1 NR++(y1.2.1.bl++(y1.2.2.1.bl++(y1.2.2.2.1++([])))))) (by exact List.Perm.refl _) ?_
      refine Sy.tidyX (G:=[(2,.slice R NR cR),(3,.slice S NR cS),(4,.pointer (some ⟨g0,0,none⟩)),(8,.pointer (some ⟨g1,0,none⟩)),(12,.slice (some ⟨qx,0,none⟩) 32 cpx),(13,.pointer (some ⟨g2,0,none⟩)),(14,y1.2.2.1.v),(15,.int .i64 ((k1:Nat):Int)),(16,.slice (some ⟨gk,0,none⟩) (nk k1) ck2)]) (all_cons kR (all_cons kR (all_cons kR (all_cons kR (all_cons kR (all_cons kR (all_cons kR (all_cons kR (all_cons kR all_nil))))))))) ?_
      refine Sy.in_exit<|sB ?_
      refine sS (.agg (sd.map bv).toArray) (Quiet.load 0 g0 0 32 23 23 (sd.map bv).toArray _ _ rfl kR kR Tryz.underlying23 rfl kR _ (key_whole sd hsd) (key_size sd hsd))<|sP (.slice (some ⟨qx,0,none⟩) 32 cpx)<|sP (.int .i64 ((k1:Nat):Int)) ?_
      have lkn:rgN bM sd k1<K4:=rgN_lt _ _ _
      refine sS (fv (rgN bM sd k1)) (qG 48 #[.agg (sd.map bv).toArray,.slice (some ⟨qx,0,none⟩) 32 cpx,.int .i64 ((k1:Nat):Int)] (λw hw=>nonce8_any w sd hsd (some ⟨qx,0,none⟩) bM cpx hbl hcx.1 hcx.2 (src_own (hw.blk _ _ _ (List.mem_append.2 (.inr (List.mem_append.2 (.inr (List.mem_append.2 (.inr (List.mem_append.2 (.inr (List.mem_append.2 (.inl hmT))))))))))).2) k1 (by omega) (htr.below hw.below htr.lt)))<|sS (pv (pX bP) (pY bP) (pI bP)) (qF 23 #[] (λw=>by rw [← ptv_parts]; exact baseR_c w)) ?_
      have lsx:=hsx k1
      obtain ⟨R1,hR1⟩:∃ P:Pt,P=Ec.nm finv ((rgN bM sd k1)%Sc.pM) bP:=⟨_,rfl⟩
      have oR1:Ec.On R1:=by rw [hR1]; exact bP_on.nm fld _
      refine sS (pv (pX R1) (pY R1) (pI R1)) (qF 22 #[fv (rgN bM sd k1),pv (pX bP) (pY bP) (pI bP)] (mulR_of lP lP lP (dec_parts bP_on) hR1.symm)) ?_
      refine Sy.callN kR 47 #[pv (pX R1) (pY R1) (pI R1)] kF ((MeetIs R1)) (λw hw=>by have q:=encW_any w (pX R1) (pY R1) (pI R1) (pX_lt _) (pY_lt _); rw [(dec_parts oR1)] at q; exact q) (λvq Mq hR0=>?_)
      rw [hR1] at hR0
      obtain ⟨q8,sp8,cp8,rfl,hc8,rfl⟩:=hR0
      refine Sy.movT ?_
      refine sP (.slice (some ⟨q8,0,none⟩) 33 cp8) ?_
      refine sG<|Sy.seq<|sC ?_
      refine sP (.slice S NR cS)<|sP (.int .i64 ((k1:Nat):Int))<|sS (.pointer (some ⟨gQ,oQ+k1*5,none⟩)) (Quiet.pure (exec_atO 26 _ _ _ S gQ oQ NR cS k1 5 .i64 (hQ (by omega)).1 rfl rfl rfl Tryz.underlying26 kF (by omega)))<|sP (.pointer (some ⟨gQ,oQ+k1*5+0,none⟩))<|sS (.int .i64 (((at_ k1):Nat):Int)) (Quiet.thereOne gQ (oQ+k1*5+0) 3 _ _ rfl kR (hQ (by omega)).2.1 _ (range_one ((hQ (by omega)).2.2 k1 (by omega)) 0 rfl) Tryz.underlying3 rfl)<|sS (.int .i64 (((at_ k1)+1:Nat):Int)) (Quiet.pure (exec_int .add _ _ _ .i64 _ _ _ rfl rfl rfl (int_add _ _ _ _ _ ((wrap_i64 (by omega) (by omega)).trans (by omega)))))<|sP (.int .i64 (((at_ k1)+1:Nat):Int)) ?_
      refine sG<|Sy.block ?_
      refine Sy.loopT (Y:=Sh.Tx×Blocks) (nk k1 - (at_ k1+1)) (λk2 y2=>[(2,.slice R NR cR),(3,.slice S NR cS),(4,.pointer (some ⟨g0,0,none⟩)),(8,.pointer (some ⟨g1,0,none⟩)),(12,.slice (some ⟨qx,0,none⟩) 32 cpx),(13,.pointer (some ⟨g2,0,none⟩)),(14,y1.2.2.1.v),(15,.int .i64 ((k1:Nat):Int)),(16,.slice (some ⟨gk,0,none⟩) (nk k1) ck2),(18,.slice y2.1.A (xlen 1) y2.1.c),(19,.int .i64 (((at_ k1+1+k2):Nat):Int))]) (λk2 y2=>[(g0,23,(sd.map bv).toArray),(g1,31,(sgc33 (List.replicate 32 (0:UInt8)) none 0 0).toArray),(g2,31,(sgx (List.replicate 32 (0:UInt8)) y1.2.1.v).toArray),(gk,46,(flat fR (nk k1)++sp).toArray)]++(y2.2++(rowsB y1.1 NR++(y1.2.1.bl++(y1.2.2.1.bl++(y1.2.2.2.1++([]))))))) (λk2 y2=>XtR (alX (rgF bM sd k1) bM k1 (at_ k1+1) (X k1) (Y k1) (I k1) (sgX bM sd k1) k2) 1 y2.1 y2.2) ((⟨some ⟨q8,0,none⟩,sgX bM sd k1,cp8⟩:Sh.Tx),[(q8,5,((sgX bM sd k1).map bv++sp8).toArray)]) ⟨q8,sp8,rfl,rfl,rfl,sgX_len _,hc8.1,hc8.2⟩ (all_cons kR (all_cons kR (all_cons kR (all_cons kR (all_cons kR (all_cons kR (all_cons kR (all_cons kR (all_cons kR (all_cons kR (all_cons kR all_nil))))))))))) (λw hw=>St.parts (ls:=[[(g0,23,(sd.map bv).toArray)],[(g1,31,(sgc33 (List.replicate 32 (0:UInt8)) none 0 0).toArray)],[(g2,31,(sgx (List.replicate 32 (0:UInt8)) y1.2.1.v).toArray)],[(gk,46,(flat fR (nk k1)++sp).toArray)],[(q8,5,((sgX bM sd k1).map bv++sp8).toArray)],rowsB y1.1 NR,y1.2.1.bl,y1.2.2.1.bl,y1.2.2.2.1]) (ms:=[[(g0,23,(sd.map bv).toArray)],[(g1,31,(sgc33 (List.replicate 32 (0:UInt8)) none 0 0).toArray)],[(g2,31,(sgx (List.replicate 32 (0:UInt8)) y1.2.1.v).toArray)],[(gk,46,(flat fR (nk k1)++sp).toArray)],[(q8,5,((sgX bM sd k1).map bv++sp8).toArray)],rowsB y1.1 NR,y1.2.1.bl,y1.2.2.1.bl,y1.2.2.2.1]) [] [0,1,2,3,4,5,6,7,8] kR (by rfl) (by rfl) (by rfl) hw) (λk2 y2 hk2 hh2=>?_)
      refine Sy.seq<|sC ?_
      refine sP (.int .i64 (((at_ k1+1+k2):Nat):Int))<|sP (.slice R NR cR)<|sP (.int .i64 ((k1:Nat):Int))<|sS (.pointer (some ⟨gR,oR+k1*1,none⟩)) (Quiet.pure (exec_atO 25 _ _ _ R gR oR NR cR k1 1 .i64 (hR (by omega)).1 rfl rfl rfl Tryz.underlying25 kF (by omega)))<|sS (.slice (a k1) (nk k1) (ck k1)) (Quiet.thereOne gR (oR+k1*1) 49 _ _ rfl kR (hR (by omega)).2.1 _ (range_one ((hR (by omega)).2.2 k1 (by omega)) 0 rfl) Tryz.underlying49 rfl)<|sP (.int .i64 (((nk k1):Nat):Int)) ?_
      obtain ⟨b7,hb7⟩:∃ z:Bool,z=decide ((at_ k1+1+k2)<(nk k1)):=⟨_,rfl⟩
      refine sS (.bool b7) (Quiet.pure (exec_int .lss _ _ _ .i64 _ _ _ rfl rfl rfl (int_lss _ _ _ _ _ (by rw [hb7]; exact decide_eq_decide.2 (by omega))))) ?_
      refine sG ?_
      cases b7
      ·have lb7:¬ ((at_ k1+1+k2)<(nk k1)):=of_decide_eq_false hb7.symm
       refine sU<|Sy.exit<|Sy.then_exit<|Sy.then_exit ?_
       obtain rfl:k2=nk k1 - (at_ k1+1):=by omega
       refine Sy.in_exit<|sB ?_
       refine sP (y1.2.2.1.v)<|sP (.slice y2.1.A (xlen 1) y2.1.c) ?_
       refine Sy.make kR 24 #[.slice y2.1.A (xlen 1) y2.1.c] (λg=>.slice (some ⟨g,0,none⟩) 1 1) kF (λg4=>?_)
       refine Sy.movT ?_
       refine Sy.permS (M:=[(g0,23,(sd.map bv).toArray),(g1,31,(sgc33 (List.replicate 32 (0:UInt8)) none 0 0).toArray),(g2,31,(sgx (List.replicate 32 (0:UInt8)) y1.2.1.v).toArray),(gk,46,(flat fR (nk k1)++sp).toArray),(g4,24,#[.slice y2.1.A (xlen 1) y2.1.c])]++(y1.2.2.1.bl++(y2.2++(rowsB y1.1 NR++(y1.2.1.bl++(y1.2.2.2.1++([]))))))) (Sy.flat_perm (ls:=[[(g0,23,(sd.map bv).toArray),(g1,31,(sgc33 (List.replicate 32 (0:UInt8)) none 0 0).toArray),(g2,31,(sgx (List.replicate 32 (0:UInt8)) y1.2.1.v).toArray),(gk,46,(flat fR (nk k1)++sp).toArray),(g4,24,#[.slice y2.1.A (xlen 1) y2.1.c])],y2.2,rowsB y1.1 NR,y1.2.1.bl,y1.2.2.1.bl,y1.2.2.2.1]) (ms:=[[(g0,23,(sd.map bv).toArray),(g1,31,(sgc33 (List.replicate 32 (0:UInt8)) none 0 0).toArray),(g2,31,(sgx (List.replicate 32 (0:UInt8)) y1.2.1.v).toArray),(gk,46,(flat fR (nk k1)++sp).toArray),(g4,24,#[.slice y2.1.A (xlen 1) y2.1.c])],y1.2.2.1.bl,y2.2,rowsB y1.1 NR,y1.2.1.bl,y1.2.2.2.1]) [0,4,1,2,3,5] kR (by rfl) (by rfl) (by rfl)) ?_
       refine Sy.appendR kR 86 24 _ _ 1 24 Tryz.underlying86 info_sl rfl rfl rfl rfl (by decide) _ _ rfl hh1.2.2.1.row kR [.slice y2.1.A (xlen 1) y2.1.c] rfl (one_sl _ _ _) 4 g4 24 kR kR (by rw [List.length_map,hh1.2.2.2.2.1]; omega) (by rw [List.length_map,hh1.2.2.2.2.1]; simp only [maxLen]; omega) (λr1 hr1=>?_)
       refine sP (r1.v) ?_
       refine sG<|Sy.region ?_
       refine sP (.pointer (some ⟨g2,32,none⟩))<|sS (y1.2.1.v) (Quiet.cell 2 g2 32 31 29 (sgx (List.replicate 32 (0:UInt8)) y1.2.1.v).toArray _ _ rfl kR kR Tryz.underlying29 rfl _ (sgx_at List.length_replicate))<|sP (.slice (some ⟨gk,0,none⟩) (nk k1) ck2) ?_
       refine Sy.make kR 55 #[.slice (some ⟨gk,0,none⟩) (nk k1) ck2] (λg=>.slice (some ⟨g,0,none⟩) 1 1) kF (λg5=>?_)
       refine Sy.movT ?_
       refine Sy.permS (M:=[(g0,23,(sd.map bv).toArray),(g1,31,(sgc33 (List.replicate 32 (0:UInt8)) none 0 0).toArray),(g2,31,(sgx (List.replicate 32 (0:UInt8)) y1.2.1.v).toArray),(gk,46,(flat fR (nk k1)++sp).toArray),(g4,24,#[.slice y2.1.A (xlen 1) y2.1.c]),(g5,55,#[.slice (some ⟨gk,0,none⟩) (nk k1) ck2])]++(y1.2.1.bl++(r1.bl++(y2.2++(rowsB y1.1 NR++(y1.2.2.2.1++([]))))))) (Sy.flat_perm (ls:=[[(g0,23,(sd.map bv).toArray),(g1,31,(sgc33 (List.replicate 32 (0:UInt8)) none 0 0).toArray),(g2,31,(sgx (List.replicate 32 (0:UInt8)) y1.2.1.v).toArray),(gk,46,(flat fR (nk k1)++sp).toArray),(g4,24,#[.slice y2.1.A (xlen 1) y2.1.c]),(g5,55,#[.slice (some ⟨gk,0,none⟩) (nk k1) ck2])],r1.bl,y2.2,rowsB y1.1 NR,y1.2.1.bl,y1.2.2.2.1]) (ms:=[[(g0,23,(sd.map bv).toArray),(g1,31,(sgc33 (List.replicate 32 (0:UInt8)) none 0 0).toArray),(g2,31,(sgx (List.replicate 32 (0:UInt8)) y1.2.1.v).toArray),(gk,46,(flat fR (nk k1)++sp).toArray),(g4,24,#[.slice y2.1.A (xlen 1) y2.1.c]),(g5,55,#[.slice (some ⟨gk,0,none⟩) (nk k1) ck2])],y1.2.1.bl,r1.bl,y2.2,rowsB y1.1 NR,y1.2.2.2.1]) [0,4,1,2,3,5] kR (by rfl) (by rfl) (by rfl)) ?_
       refine Sy.appendR kR 29 55 _ _ 1 24 Tryz.underlying29 info_scs rfl rfl rfl rfl (by decide) _ _ rfl hh1.2.1 kR [.slice (some ⟨gk,0,none⟩) (nk k1) ck2] rfl (one_sl _ _ _) 5 g5 55 kR kR (by rw [List.length_map,List.length_range]; omega) (by rw [List.length_map,List.length_range]; simp only [maxLen]; omega) (λr2 hr2=>?_)
       refine sP (.pointer (some ⟨g2,32,none⟩))<|sW 2 g2 31 (sgx (List.replicate 32 (0:UInt8)) y1.2.1.v).toArray (sgx (List.replicate 32 (0:UInt8)) r2.v).toArray (Writes.one 32 29 (r2.v) _ _ rfl kR kR kR hr2.cells.1 hr2.cells.2 (sgx_lt List.length_replicate) (sgx_set List.length_replicate)) ?_
       refine Sy.setT ?_
       refine Sy.nil<|Sy.in_<|Sy.then_<|Sy.region ?_
       refine sP (.int .i64 ((k1:Nat):Int))<|sS (.int .i64 ((k1+1:Nat):Int)) (Quiet.pure (exec_int .add _ _ _ .i64 _ _ _ rfl rfl rfl (int_add _ _ _ _ _ ((wrap_i64 (by omega) (by omega)).trans (by omega)))))<|sP (.int .i64 ((k1+1:Nat):Int)) ?_
       refine Sy.nil ?_
       exact Sy.againT (((putR y1.1 k1 ⟨.slice (some ⟨gk,0,none⟩) (nk k1) ck2,[(gk,46,(flat fR (nk k1)++sp).toArray)]⟩),r2,r1,y1.2.2.2.1++y2.2,y1.2.2.2.2++[y2.1])) (by omega) (⟨RowsAre.full hh1.1 hk1c,by rw [List.range_succ,List.map_append,map_putR]; show Slc.Is _ _ _ (_++[[(putR y1.1 k1 _ k1).v]]); rw [putR_self]; exact hr2,hh1.2.2.1.add y2.1 y2.2 hr1 hh2.val hh2.ok,by rw [cat_add,hh1.2.2.2.1,List.append_assoc,hh2.li]; rfl,by rw [List.length_append,hh1.2.2.2.2.1]; rfl,List.mem_append.2 (.inl hmT),λi hi=>by show putR _ _ _ i=nilS; rw [putR_ne (by omega)]; exact hh1.2.2.2.2.2.2 i (by omega)⟩) (all_cons kR (all_cons kR (all_cons kR (all_cons kR (all_cons kR (all_cons kR (all_cons kR (all_cons kR all_nil)))))))) (λw hw=>by have q:=St.row_in (i:=k1) (v:=.slice (some ⟨gk,0,none⟩) (nk k1) ck2) (M:=[(g0,23,(sd.map bv).toArray),(g1,31,(sgc33 (List.replicate 32 (0:UInt8)) none 0 0).toArray),(g2,31,(sgx (List.replicate 32 (0:UInt8)) r2.v).toArray)]) (b:=(gk,46,(flat fR (nk k1)++sp).toArray)) (n:=NR) (r:=y1.1) (R:=r2.bl++(r1.bl++(y1.2.2.2.1++(y2.2++[])))) (by omega) (hh1.2.2.2.2.2.2 k1 (Nat.le_refl _)) (St.parts (ls:=[[(g0,23,(sd.map bv).toArray)],[(g1,31,(sgc33 (List.replicate 32 (0:UInt8)) none 0 0).toArray)],[(g2,31,(sgx (List.replicate 32 (0:UInt8)) r2.v).toArray)],[(gk,46,(flat fR (nk k1)++sp).toArray)],[(g4,24,#[.slice y2.1.A (xlen 1) y2.1.c])],[(g5,55,#[.slice (some ⟨gk,0,none⟩) (nk k1) ck2])],r2.bl,r1.bl,y2.2,rowsB y1.1 NR,y1.2.2.2.1]) (ms:=[[(g0,23,(sd.map bv).toArray)],[(g1,31,(sgc33 (List.replicate 32 (0:UInt8)) none 0 0).toArray)],[(g2,31,(sgx (List.replicate 32 (0:UInt8)) r2.v).toArray)],[(gk,46,(flat fR (nk k1)++sp).toArray)],rowsB y1.1 NR,r2.bl,r1.bl,y1.2.2.2.1,y2.2]) [[(g4,24,#[.slice y2.1.A (xlen 1) y2.1.c])],[(g5,55,#[.slice (some ⟨gk,0,none⟩) (nk k1) ck2])]] [0,1,2,3,9,6,7,10,8,4,5] kR (by rfl) (by rfl) (by rfl) hw); rw [List.append_assoc]; exact q)
      ·have lb7:(at_ k1+1+k2)<(nk k1):=of_decide_eq_true hb7.symm
       refine sT<|Sy.skip<|Sy.then_<|Sy.seq<|Sy.block ?_
       refine Sy.regionD (λj=>false) kR ?_
       refine sZ 0 rfl (.slice (some ⟨gk,0,none⟩) (nk k1) ck2)<|sZ 1 rfl (.int .i64 (((at_ k1+1+k2):Nat):Int))<|sD 2 rfl (.pointer (some ⟨gk,0+(at_ k1+1+k2)*4,none⟩)) (Quiet.pure (exec_at 55 _ _ _ gk 0 (nk k1) ck2 (at_ k1+1+k2) 4 .i64 rfl rfl rfl Tryz.underlying55 kF (by omega)))<|sD 3 rfl (fv (rgF bM sd k1 (at_ k1+1+k2))) (Quiet.load 3 gk (0+(at_ k1+1+k2)*4) 4 46 46 (flat fR (nk k1)++sp).toArray _ _ rfl kR kR Tryz.underlying46 rfl kR _ ((flat_load_sp (k:=(at_ k1+1+k2)) hf4 (by omega) rfl).trans (by rw [hfR]; rfl)) (flat_fit1 (k:=(at_ k1+1+k2)) hf4 (by omega) rfl))<|sZ 4 rfl (.slice (some ⟨qx,0,none⟩) 32 cpx)<|sZ 5 rfl (.slice y2.1.A (xlen 1) y2.1.c)<|sZ 6 rfl (.int .i64 ((k1:Nat):Int))<|sZ 7 rfl (.int .i64 (((at_ k1+1+k2):Nat):Int)) ?_
       refine sD 8 rfl (fv (rgC bM (alX (rgF bM sd k1) bM k1 (at_ k1+1) (X k1) (Y k1) (I k1) (sgX bM sd k1) k2) k1 (at_ k1+1+k2))) (qG 50 #[.slice (some ⟨qx,0,none⟩) 32 cpx,.slice y2.1.A (xlen 1) y2.1.c,.int .i64 ((k1:Nat):Int),.int .i64 (((at_ k1+1+k2):Nat):Int)] (λw hw=>step8_any w (some ⟨qx,0,none⟩) bM cpx hbl hcx.1 hcx.2 (src_own (hw.blk _ _ _ (List.mem_append.2 (.inr (List.mem_append.2 (.inr (List.mem_append.2 (.inr (List.mem_append.2 (.inr (List.mem_append.2 (.inr (List.mem_append.2 (.inl hmT))))))))))))).2) y2.1.A _ 33 y2.1.c hh2.len.1 (by decide) hh2.len.2.1 hh2.len.2.2 (hh2.src hw (λb hb=>List.mem_append.2 (.inr (List.mem_append.2 (.inl hb))))) k1 (at_ k1+1+k2) (by omega) (by omega) (htr.below hw.below htr.lt)))<|sZ 9 rfl (.slice R NR cR)<|sZ 10 rfl (.int .i64 ((k1:Nat):Int))<|sD 11 rfl (.pointer (some ⟨gR,oR+k1*1,none⟩)) (Quiet.pure (exec_atO 25 _ _ _ R gR oR NR cR k1 1 .i64 (hR (by omega)).1 rfl rfl rfl Tryz.underlying25 kF (by omega)))<|sD 12 rfl (.slice (a k1) (nk k1) (ck k1)) (Quiet.thereOne gR (oR+k1*1) 49 _ _ rfl kR (hR (by omega)).2.1 _ (range_one ((hR (by omega)).2.2 k1 (by omega)) 0 rfl) Tryz.underlying49 rfl)<|sZ 13 rfl (.int .i64 (((at_ k1+1+k2):Nat):Int))<|sD 14 rfl (.pointer (some ⟨gK,oK+(at_ k1+1+k2)*9,none⟩)) (Quiet.pure (exec_atO 49 _ _ _ (a k1) gK oK (nk k1) (ck k1) (at_ k1+1+k2) 9 .i64 (hT (by omega)).1 rfl rfl rfl Tryz.underlying49 kF (by omega)))<|sD 15 rfl (pv (X k1 (at_ k1+1+k2)) (Y k1 (at_ k1+1+k2)) (I k1 (at_ k1+1+k2))) (Quiet.there gK (oK+(at_ k1+1+k2)*9) 9 52 (pml (X k1 (at_ k1+1+k2)) (Y k1 (at_ k1+1+k2)) (I k1 (at_ k1+1+k2))) _ _ rfl kR (hT (by omega)).2.1 ((hT (by omega)).2.2 (at_ k1+1+k2) (by omega)) Tryz.underlying52 rfl kR rfl _ rfl) ?_
       refine Sy.callND 16 rfl kR kR 49 #[fv (rgF bM sd k1 (at_ k1+1+k2)),fv (rgC bM (alX (rgF bM sd k1) bM k1 (at_ k1+1) (X k1) (Y k1) (I k1) (sgX bM sd k1) k2) k1 (at_ k1+1+k2)),pv (X k1 (at_ k1+1+k2)) (Y k1 (at_ k1+1+k2)) (I k1 (at_ k1+1+k2))] kF ((MeetIs (rPt (rgF bM sd k1 (at_ k1+1+k2)) (rgC bM (alX (rgF bM sd k1) bM k1 (at_ k1+1) (X k1) (Y k1) (I k1) (sgX bM sd k1) k2) k1 (at_ k1+1+k2)) (X k1 (at_ k1+1+k2)) (Y k1 (at_ k1+1+k2)) (I k1 (at_ k1+1+k2))))) (λw hw=>meet8_any w _ _ _ _ _ (rgF_lt _ _ _ _) (rgC_lt _ _ _ _) (hX _ _) (hY _ _)) (λvq Mq hR0=>?_)
       obtain ⟨q8x,sp8x,cp8x,rfl,hc8x,rfl⟩:=hR0
       refine Sy.movTD ?_
       refine sZ 17 rfl (.slice (some ⟨q8x,0,none⟩) 33 cp8x) ?_
       refine sE ?_
       refine Sy.in_<|Sy.then_<|Sy.region ?_
       refine sP (.int .i64 (((at_ k1+1+k2):Nat):Int))<|sS (.int .i64 (((at_ k1+1+k2)+1:Nat):Int)) (Quiet.pure (exec_int .add _ _ _ .i64 _ _ _ rfl rfl rfl (int_add _ _ _ _ _ ((wrap_i64 (by omega) (by omega)).trans (by omega)))))<|sP (.int .i64 (((at_ k1+1+k2)+1:Nat):Int)) ?_
       refine Sy.nil ?_
       exact Sy.againT (((⟨some ⟨q8x,0,none⟩,(encS (rPt (rgF bM sd k1 (at_ k1+1+k2)) (rgC bM (alX (rgF bM sd k1) bM k1 (at_ k1+1) (X k1) (Y k1) (I k1) (sgX bM sd k1) k2) k1 (at_ k1+1+k2)) (X k1 (at_ k1+1+k2)) (Y k1 (at_ k1+1+k2)) (I k1 (at_ k1+1+k2)))),cp8x⟩:Sh.Tx),[(q8x,5,((encS (rPt (rgF bM sd k1 (at_ k1+1+k2)) (rgC bM (alX (rgF bM sd k1) bM k1 (at_ k1+1) (X k1) (Y k1) (I k1) (sgX bM sd k1) k2) k1 (at_ k1+1+k2)) (X k1 (at_ k1+1+k2)) (Y k1 (at_ k1+1+k2)) (I k1 (at_ k1+1+k2)))).map bv++sp8x).toArray)])) (by omega) (⟨q8x,sp8x,rfl,rfl,rfl,encS_length _,hc8x.1,hc8x.2⟩) (all_cons kR (all_cons kR (all_cons kR (all_cons kR (all_cons kR (all_cons kR (all_cons kR (all_cons kR (all_cons kR (all_cons kR (all_cons kR all_nil))))))))))) (λw hw=>St.parts (ls:=[[(g0,23,(sd.map bv).toArray)],[(g1,31,(sgc33 (List.replicate 32 (0:UInt8)) none 0 0).toArray)],[(g2,31,(sgx (List.replicate 32 (0:UInt8)) y1.2.1.v).toArray)],[(gk,46,(flat fR (nk k1)++sp).toArray)],[(q8x,5,((encS (rPt (rgF bM sd k1 (at_ k1+1+k2)) (rgC bM (alX (rgF bM sd k1) bM k1 (at_ k1+1) (X k1) (Y k1) (I k1) (sgX bM sd k1) k2) k1 (at_ k1+1+k2)) (X k1 (at_ k1+1+k2)) (Y k1 (at_ k1+1+k2)) (I k1 (at_ k1+1+k2)))).map bv++sp8x).toArray)],y2.2,rowsB y1.1 NR,y1.2.1.bl,y1.2.2.1.bl,y1.2.2.2.1]) (ms:=[[(g0,23,(sd.map bv).toArray)],[(g1,31,(sgc33 (List.replicate 32 (0:UInt8)) none 0 0).toArray)],[(g2,31,(sgx (List.replicate 32 (0:UInt8)) y1.2.1.v).toArray)],[(gk,46,(flat fR (nk k1)++sp).toArray)],[(q8x,5,((encS (rPt (rgF bM sd k1 (at_ k1+1+k2)) (rgC bM (alX (rgF bM sd k1) bM k1 (at_ k1+1) (X k1) (Y k1) (I k1) (sgX bM sd k1) k2) k1 (at_ k1+1+k2)) (X k1 (at_ k1+1+k2)) (Y k1 (at_ k1+1+k2)) (I k1 (at_ k1+1+k2)))).map bv++sp8x).toArray)],rowsB y1.1 NR,y1.2.1.bl,y1.2.2.1.bl,y1.2.2.2.1]) [y2.2] [0,1,2,3,4,6,7,8,9,5] kR (by rfl) (by rfl) (by rfl) hw)
     ·have lb6:k2<(nk k1):=of_decide_eq_true hb6.symm
      refine sT<|Sy.skip<|Sy.then_<|Sy.seq<|Sy.block<|Sy.region ?_
      refine sP (y2.v)<|sS (.agg (sd.map bv).toArray) (Quiet.load 0 g0 0 32 23 23 (sd.map bv).toArray _ _ rfl kR kR Tryz.underlying23 rfl kR _ (key_whole sd hsd) (key_size sd hsd))<|sP (.slice (some ⟨qx,0,none⟩) 32 cpx)<|sP (.int .i64 ((k1:Nat):Int))<|sP (.int .i64 ((k2:Nat):Int))<|sS (fv (rgF bM sd k1 k2)) (qG 25 #[.agg (sd.map bv).toArray,.slice (some ⟨qx,0,none⟩) 32 cpx,.int .i64 ((k1:Nat):Int),.int .i64 ((k2:Nat):Int)] (λw hw=>fake8_any w sd hsd (some ⟨qx,0,none⟩) bM cpx hbl hcx.1 hcx.2 (src_own (hw.blk _ _ _ (List.mem_append.2 (.inr (List.mem_append.2 (.inr (List.mem_append.2 (.inr (List.mem_append.2 (.inr (List.mem_append.2 (.inr (List.mem_append.2 (.inl hmT))))))))))))).2) k1 k2 (by omega) (by omega) (htr.below hw.below htr.lt))) ?_
      refine Sy.make kR 46 (fcs (rgF bM sd k1 k2)) (λg=>.slice (some ⟨g,0,none⟩) 1 1) kF (λg6=>?_)
      refine Sy.movT ?_
      refine Sy.appendR kR 55 46 _ _ 4 32 Tryz.underlying55 info_sc rfl rfl rfl rfl (by decide) _ _ rfl hh2 kR (fws (rgF bM sd k1 k2)) rfl (fws_one _) 3 g6 46 kR kR (by rw [List.length_map,List.length_range]; omega) (by rw [List.length_map,List.length_range]; simp only [maxLen]; omega) (λr3 hr3=>?_)
      refine sP (r3.v) ?_
      refine Sy.nil<|Sy.in_<|Sy.then_<|Sy.region ?_
      refine sP (.int .i64 ((k2:Nat):Int))<|sS (.int .i64 ((k2+1:Nat):Int)) (Quiet.pure (exec_int .add _ _ _ .i64 _ _ _ rfl rfl rfl (int_add _ _ _ _ _ ((wrap_i64 (by omega) (by omega)).trans (by omega)))))<|sP (.int .i64 ((k2+1:Nat):Int)) ?_
      refine Sy.nil ?_
      exact Sy.againT (r3) (by omega) (by rw [List.range_succ,List.map_append]; exact hr3) (all_cons kR (all_cons kR (all_cons kR (all_cons kR (all_cons kR (all_cons kR (all_cons kR (all_cons kR (all_cons kR (all_cons kR all_nil)))))))))) (λw hw=>St.parts (ls:=[[(g0,23,(sd.map bv).toArray)],[(g1,31,(sgc33 (List.replicate 32 (0:UInt8)) none 0 0).toArray)],[(g2,31,(sgx (List.replicate 32 (0:UInt8)) y1.2.1.v).toArray)],[(g6,46,(fcs (rgF bM sd k1 k2)))],r3.bl,rowsB y1.1 NR,y1.2.1.bl,y1.2.2.1.bl,y1.2.2.2.1]) (ms:=[[(g0,23,(sd.map bv).toArray)],[(g1,31,(sgc33 (List.replicate 32 (0:UInt8)) none 0 0).toArray)],[(g2,31,(sgx (List.replicate 32 (0:UInt8)) y1.2.1.v).toArray)],r3.bl,rowsB y1.1 NR,y1.2.1.bl,y1.2.2.1.bl,y1.2.2.2.1]) [[(g6,46,(fcs (rgF bM sd k1 k2)))]] [0,1,2,4,5,6,7,8,3] kR (by rfl) (by rfl) (by rfl) hw)
   ·have lb3:k1<NR:=of_decide_eq_true hb3.symm
    refine sT<|Sy.skip<|Sy.then_<|Sy.seq<|Sy.block<|Sy.seq<|Sy.seq ?_
    refine Sy.regionD (λj=>false) kR ?_
    refine sZ 0 rfl (.slice S NR cS)<|sZ 1 rfl (.int .i64 ((k1:Nat):Int))<|sD 2 rfl (.pointer (some ⟨gS,oS+k1*5,none⟩)) (Quiet.pure (exec_atO 26 _ _ _ S gS oS NR cS k1 5 .i64 (hS (by omega)).1 rfl rfl rfl Tryz.underlying26 kF (by omega)))<|sZ 3 rfl (.pointer (some ⟨gS,oS+k1*5+0,none⟩))<|sD 4 rfl (.int .i64 (At k1)) (Quiet.thereOne gS (oS+k1*5+0) 3 _ _ rfl kR (hS (by omega)).2.1 _ (range_one ((hS (by omega)).2.2 k1 (by omega)) 0 rfl) Tryz.underlying3 rfl) ?_
    obtain ⟨b8,hb8⟩:∃ z:Bool,z=decide ((At k1)<0):=⟨_,rfl⟩
    refine sD 5 rfl (.bool b8) (Quiet.pure (exec_int .lss _ _ _ .i64 _ _ _ rfl rfl rfl (int_lss _ _ _ _ _ hb8.symm)))<|sZ 6 rfl (.bool b8) ?_
    cases b8
    ·have lb8:¬ ((At k1)<0):=of_decide_eq_false hb8.symm
     refine sZ 7 rfl (.slice S NR cS)<|sZ 8 rfl (.int .i64 ((k1:Nat):Int))<|sD 9 rfl (.pointer (some ⟨gS,oS+k1*5,none⟩)) (Quiet.pure (exec_atO 26 _ _ _ S gS oS NR cS k1 5 .i64 (hS (by omega)).1 rfl rfl rfl Tryz.underlying26 kF (by omega)))<|sZ 10 rfl (.pointer (some ⟨gS,oS+k1*5+0,none⟩))<|sD 11 rfl (.int .i64 (At k1)) (Quiet.thereOne gS (oS+k1*5+0) 3 _ _ rfl kR (hS (by omega)).2.1 _ (range_one ((hS (by omega)).2.2 k1 (by omega)) 0 rfl) Tryz.underlying3 rfl)<|sZ 12 rfl (.slice R NR cR)<|sZ 13 rfl (.int .i64 ((k1:Nat):Int))<|sD 14 rfl (.pointer (some ⟨gR,oR+k1*1,none⟩)) (Quiet.pure (exec_atO 25 _ _ _ R gR oR NR cR k1 1 .i64 (hR (by omega)).1 rfl rfl rfl Tryz.underlying25 kF (by omega))) ?_
     refine sD 15 rfl (.slice (a k1) (nk k1) (ck k1)) (Quiet.thereOne gR (oR+k1*1) 49 _ _ rfl kR (hR (by omega)).2.1 _ (range_one ((hR (by omega)).2.2 k1 (by omega)) 0 rfl) Tryz.underlying49 rfl)<|sZ 16 rfl (.int .i64 (((nk k1):Nat):Int)) ?_
     obtain ⟨b9,hb9⟩:∃ z:Bool,z=decide ((At k1) ≥ (((nk k1):Nat):Int)):=⟨_,rfl⟩
     refine sD 17 rfl (.bool b9) (Quiet.pure (exec_int .geq _ _ _ .i64 _ _ _ rfl rfl rfl (int_geq _ _ _ _ _ hb9.symm)))<|sZ 18 rfl (.bool b9) ?_
     refine sI ?_
     cases b9
     ·have lb9:¬ ((At k1) ≥ (((nk k1):Nat):Int)):=of_decide_eq_false hb9.symm
      refine sU<|Sy.skip ?_
      refine sR (λj=>false) ?_
      refine sZ 0 rfl (.slice S NR cS)<|sZ 1 rfl (.int .i64 ((k1:Nat):Int))<|sD 2 rfl (.pointer (some ⟨gS,oS+k1*5,none⟩)) (Quiet.pure (exec_atO 26 _ _ _ S gS oS NR cS k1 5 .i64 (hS (by omega)).1 rfl rfl rfl Tryz.underlying26 kF (by omega)))<|sZ 3 rfl (.pointer (some ⟨gS,oS+k1*5+1,none⟩))<|sD 4 rfl (fv (sx k1)) (Quiet.there gS (oS+k1*5+1) 4 46 (fws (sx k1)) _ _ rfl kR (hS (by omega)).2.1 (range_sub ((hS (by omega)).2.2 k1 (by omega)) 1 rfl) Tryz.underlying46 rfl kR rfl _ rfl)<|sD 5 rfl (pv (pX bP) (pY bP) (pI bP)) (qF 23 #[] (λw=>by rw [← ptv_parts]; exact baseR_c w)) ?_
      have lsx:=hsx k1
      obtain ⟨R2,hR2⟩:∃ P:Pt,P=Ec.nm finv ((sx k1)%Sc.pM) bP:=⟨_,rfl⟩
      have oR2:Ec.On R2:=by rw [hR2]; exact bP_on.nm fld _
      refine sD 6 rfl (pv (pX R2) (pY R2) (pI R2)) (qF 22 #[fv (sx k1),pv (pX bP) (pY bP) (pI bP)] (mulR_of lP lP lP (dec_parts bP_on) hR2.symm))<|sZ 7 rfl (.slice R NR cR)<|sZ 8 rfl (.int .i64 ((k1:Nat):Int))<|sD 9 rfl (.pointer (some ⟨gR,oR+k1*1,none⟩)) (Quiet.pure (exec_atO 25 _ _ _ R gR oR NR cR k1 1 .i64 (hR (by omega)).1 rfl rfl rfl Tryz.underlying25 kF (by omega)))<|sD 10 rfl (.slice (a k1) (nk k1) (ck k1)) (Quiet.thereOne gR (oR+k1*1) 49 _ _ rfl kR (hR (by omega)).2.1 _ (range_one ((hR (by omega)).2.2 k1 (by omega)) 0 rfl) Tryz.underlying49 rfl)<|sZ 11 rfl (.slice S NR cS)<|sZ 12 rfl (.int .i64 ((k1:Nat):Int))<|sD 13 rfl (.pointer (some ⟨gS,oS+k1*5,none⟩)) (Quiet.pure (exec_atO 26 _ _ _ S gS oS NR cS k1 5 .i64 (hS (by omega)).1 rfl rfl rfl Tryz.underlying26 kF (by omega))) ?_
      refine sZ 14 rfl (.pointer (some ⟨gS,oS+k1*5+0,none⟩))<|sD 15 rfl (.int .i64 (At k1)) (Quiet.thereOne gS (oS+k1*5+0) 3 _ _ rfl kR (hS (by omega)).2.1 _ (range_one ((hS (by omega)).2.2 k1 (by omega)) 0 rfl) Tryz.underlying3 rfl) ?_
      obtain ⟨gK,oK,hT⟩:=hlk k1 (by omega)
      obtain ⟨p1,hp1⟩:∃ q:Nat,(At k1)=(q:Int):=⟨((At k1)).toNat,by omega⟩
      refine sD 16 rfl (.pointer (some ⟨gK,oK+p1*9,none⟩)) (Quiet.pure (exec_atO 49 _ _ _ (a k1) gK oK (nk k1) (ck k1) p1 9 .i64 (hT (by omega)).1 rfl rfl (show Value.int .i64 (At k1)=.int .i64 ((p1:Nat):Int) from by rw [hp1]) Tryz.underlying49 kF (by omega)))<|sD 17 rfl (pv (X k1 p1) (Y k1 p1) (I k1 p1)) (Quiet.there gK (oK+p1*9) 9 52 (pml (X k1 p1) (Y k1 p1) (I k1 p1)) _ _ rfl kR (hT (by omega)).2.1 ((hT (by omega)).2.2 p1 (by omega)) Tryz.underlying52 rfl kR rfl _ rfl) ?_
      obtain ⟨b10,hb10⟩:∃ z:Bool,z=!openB (sx k1) (X k1 p1) (Y k1 p1) (I k1 p1):=⟨_,rfl⟩
      refine sD 18 rfl (.bool b10) (Quiet.pure (λw=>by rw [hb10,show openB (sx k1) (X k1 p1) (Y k1 p1) (I k1 p1)=sameB (pX R2) (pY R2) (pI R2) (X k1 p1) (Y k1 p1) (I k1 p1) by rw [hR2]; rfl]; exact neq_pt w _ _ _ _ _ _ _ _ _ _ rfl rfl rfl (pX_lt _) (pY_lt _) (hX _ _) (hY _ _))) ?_
      refine sI ?_
      cases b10
      ·refine sU<|Sy.skip<|Sy.in_<|Sy.then_<|Sy.region ?_
       refine sP (.int .i64 ((k1:Nat):Int))<|sS (.int .i64 ((k1+1:Nat):Int)) (Quiet.pure (exec_int .add _ _ _ .i64 _ _ _ rfl rfl rfl (int_add _ _ _ _ _ ((wrap_i64 (by omega) (by omega)).trans (by omega)))))<|sP (.int .i64 ((k1+1:Nat):Int)) ?_
       refine Sy.nil ?_
       exact Sy.againH [true,true] (M:=[(g0,23,(sd.map bv).toArray),(g1,31,(sgc33 (List.replicate 32 (0:UInt8)) none 0 0).toArray)]) (by omega) (λj hj=>(Nat.lt_succ_iff_lt_or_eq.1 hj).elim (hh1 j) (λh=>by subst h; exact (fit_op lb8 lb9 hp1).trans (by rw [show openB _ _ _ _=!(!openB _ _ _ _) from (Bool.not_not _).symm, ← hb10]; rfl))) (all_cons kR (all_cons kR (all_cons kR (all_cons kR (all_cons kR (all_cons kR all_nil)))))) kR (bcons rfl (bcons rfl rfl))
      ·refine sT<|sC ?_
       refine sP (sgv33 (List.replicate 32 (0:UInt8)) none 0 0)<|sW 1 g1 31 (sgc33 (List.replicate 32 (0:UInt8)) none 0 0).toArray (sgc33 (List.replicate 32 (0:UInt8)) none 0 0).toArray (Writes.row 31 (sgc33 (List.replicate 32 (0:UInt8)) none 0 0) 33 _ _ rfl kR kR kR (sg_len List.length_replicate) (by rw [List.size_toArray,sg_len List.length_replicate]) sg_one)<|sP (.int .i64 81) ?_
       refine sG<|Sy.ret<|Sy.in_ret<|Sy.then_ret<|Sy.then_ret<|Sy.in_ret<|Sy.then_ret ?_
       exact retGM2 [] rfl (v:=sgv33 (List.replicate 32 (0:UInt8)) none 0 0) (u:=.int .i64 81) (.inl (Res.cell (ty':=31) g1 1 (sgc33 (List.replicate 32 (0:UInt8)) none 0 0).toArray _ kR kR Tryz.underlying31 rfl (by rw [List.size_toArray,sg_len List.length_replicate]; kernel_rfl) rfl)) (.inl (show _=_ by kernel_rfl)) (λ_ hw=>hw.none) (.inr (.inl ⟨hb1.symm,fitB_at (k:=k1) (by assumption) ((fit_op lb8 lb9 hp1).trans (by rw [show openB _ _ _ _=!(!openB _ _ _ _) from (Bool.not_not _).symm, ← hb10]; rfl)),rfl,rfl⟩))
     ·have lb9:(At k1) ≥ (((nk k1):Nat):Int):=of_decide_eq_true hb9.symm
      refine sT<|sC ?_
      refine sP (sgv33 (List.replicate 32 (0:UInt8)) none 0 0)<|sW 1 g1 31 (sgc33 (List.replicate 32 (0:UInt8)) none 0 0).toArray (sgc33 (List.replicate 32 (0:UInt8)) none 0 0).toArray (Writes.row 31 (sgc33 (List.replicate 32 (0:UInt8)) none 0 0) 33 _ _ rfl kR kR kR (sg_len List.length_replicate) (by rw [List.size_toArray,sg_len List.length_replicate]) sg_one)<|sP (.int .i64 81) ?_
      refine sG<|Sy.ret<|Sy.then_ret<|Sy.in_ret<|Sy.then_ret<|Sy.then_ret<|Sy.in_ret<|Sy.then_ret ?_
      exact retGM2 [] rfl (v:=sgv33 (List.replicate 32 (0:UInt8)) none 0 0) (u:=.int .i64 81) (.inl (Res.cell (ty':=31) g1 1 (sgc33 (List.replicate 32 (0:UInt8)) none 0 0).toArray _ kR kR Tryz.underlying31 rfl (by rw [List.size_toArray,sg_len List.length_replicate]; kernel_rfl) rfl)) (.inl (show _=_ by kernel_rfl)) (λ_ hw=>hw.none) (.inr (.inl ⟨hb1.symm,fitB_at (k:=k1) (by assumption) (fit_high lb9),rfl,rfl⟩))
    ·have lb8:(At k1)<0:=of_decide_eq_true hb8.symm
     refine sQ 7 rfl<|sQ 8 rfl<|sQ 9 rfl<|sQ 10 rfl<|sQ 11 rfl<|sQ 12 rfl<|sQ 13 rfl<|sQ 14 rfl ?_
     refine sQ 15 rfl<|sQ 16 rfl<|sQ 17 rfl<|sZ 18 rfl (.bool true) ?_
     refine sI ?_
     refine sT<|sC ?_
     refine sP (sgv33 (List.replicate 32 (0:UInt8)) none 0 0)<|sW 1 g1 31 (sgc33 (List.replicate 32 (0:UInt8)) none 0 0).toArray (sgc33 (List.replicate 32 (0:UInt8)) none 0 0).toArray (Writes.row 31 (sgc33 (List.replicate 32 (0:UInt8)) none 0 0) 33 _ _ rfl kR kR kR (sg_len List.length_replicate) (by rw [List.size_toArray,sg_len List.length_replicate]) sg_one)<|sP (.int .i64 81) ?_
     refine sG<|Sy.ret<|Sy.then_ret<|Sy.in_ret<|Sy.then_ret<|Sy.then_ret<|Sy.in_ret<|Sy.then_ret ?_
     exact retGM2 [] rfl (v:=sgv33 (List.replicate 32 (0:UInt8)) none 0 0) (u:=.int .i64 81) (.inl (Res.cell (ty':=31) g1 1 (sgc33 (List.replicate 32 (0:UInt8)) none 0 0).toArray _ kR kR Tryz.underlying31 rfl (by rw [List.size_toArray,sg_len List.length_replicate]; kernel_rfl) rfl)) (.inl (show _=_ by kernel_rfl)) (λ_ hw=>hw.none) (.inr (.inl ⟨hb1.symm,fitB_at (k:=k1) (by assumption) (fit_low lb8),rfl,rfl⟩))
  ·have lb2:NS≠NR:=of_decide_eq_true hb2.symm
   refine sT<|sC ?_
   refine sP (sgv33 (List.replicate 32 (0:UInt8)) none 0 0)<|sW 1 g1 31 (sgc33 (List.replicate 32 (0:UInt8)) none 0 0).toArray (sgc33 (List.replicate 32 (0:UInt8)) none 0 0).toArray (Writes.row 31 (sgc33 (List.replicate 32 (0:UInt8)) none 0 0) 33 _ _ rfl kR kR kR (sg_len List.length_replicate) (by rw [List.size_toArray,sg_len List.length_replicate]) sg_one)<|sP (.int .i64 81) ?_
   refine sG<|Sy.ret<|Sy.then_ret ?_
   exact retGM2 [] rfl (v:=sgv33 (List.replicate 32 (0:UInt8)) none 0 0) (u:=.int .i64 81) (.inl (Res.cell (ty':=31) g1 1 (sgc33 (List.replicate 32 (0:UInt8)) none 0 0).toArray _ kR kR Tryz.underlying31 rfl (by rw [List.size_toArray,sg_len List.length_replicate]; kernel_rfl) rfl)) (.inl (show _=_ by kernel_rfl)) (λ_ hw=>hw.none) (.inr (.inl ⟨hb1.symm,fitB_len lb2,rfl,rfl⟩))
end Cu
end
section
namespace Cu
open Go.RowKit Sy
theorem rPt_ring (k e x:Nat) {px py:Nat} {pi:Bool} (hd:dec px py pi=evP x):rPt (Sc.subP k (Sc.mulP e x)) e px py pi=evP k:=by
 have oB:Ec.On bP:=bP_on
 have oX:Ec.On (evP x):=evP_on x
 unfold rPt
 rw [hd,nm_p oB,nm_p oX]
 have e1:Ec.nm finv (Sc.subP k (Sc.mulP e x)) bP=Ec.add finv (Ec.nm finv k bP) (Ec.neg (Ec.nm finv e (evP x))):=by
  unfold Sc.subP
  rw [nm_p oB,Ec.nm_add fld oB]
  have e2:Ec.nm finv (Sc.pM - Sc.mulP e x%Sc.pM) bP=Ec.nm finv (Sc.negP (Sc.mulP e x)%Sc.pM) bP:=by
   unfold Sc.negP
   rw [nm_p oB,nm_p oB]
  rw [e2,nm_negP oB,nm_p oB]
  unfold Sc.mulP evP
  rw [nm_p oB,Ec.nm_mul fld oB,nm_p oB]
 rw [e1]
 have o1:=oX.nm fld e
 rw [Ec.assoc fld (oB.nm fld k) o1.neg o1,Ec.neg_add,Ec.add_zero]
 unfold evP
 rw [nm_p oB]
theorem open_dec {x px py:Nat} {pi:Bool} (h:openB x px py pi=true):dec px py pi=evP x:=by
 unfold openB sameB at h
 rw [Bool.and_eq_true,Bool.and_eq_true,decide_eq_true_iff,decide_eq_true_iff,beq_iff_eq] at h
 rw [← h.1, ← h.2.1, ← h.2.2]
 exact dec_parts (evP_on x)
section
variable {s s':Nat→Nat} {bm x:List UInt8} {i:Nat} {X Y:Nat→Nat} {I:Nat→Bool}
theorem alX_congr {f:Nat}:∀ k,(∀ j,j<k→s (f+j)=s' (f+j))→alX s bm i f X Y I x k=alX s' bm i f X Y I x k
 | 0,_=>rfl
 | k+1,h=>by
  show encS (rPt (s (f+k)) (rgC bm (alX s bm i f X Y I x k) i (f+k)) (X (f+k)) (Y (f+k)) (I (f+k)))=encS (rPt (s' (f+k)) (rgC bm (alX s' bm i f X Y I x k) i (f+k)) (X (f+k)) (Y (f+k)) (I (f+k)))
  rw [alX_congr k (λj hj=>h j (by omega)),h k (Nat.lt_succ_self k)]
theorem alX_add (f:Nat):∀ k,alX s bm i 0 X Y I x (f+k)=alX s bm i f X Y I (alX s bm i 0 X Y I x f) k
 | 0=>rfl
 | k+1=>by
  rw [← Nat.add_assoc,alX0_succ,alX_add f k]
  rfl
end
section
variable {bm sd:List UInt8} {X Y:Nat→Nat→Nat} {I:Nat→Nat→Bool} {at_ nk sx:Nat→Nat} {d:List UInt8}
theorem sgS_ne {i j:Nat} (h:j≠at_ i):sgS bm sd X Y I at_ sx d i j=rgF bm sd i j:=if_neg h
theorem sgS_at (i:Nat):sgS bm sd X Y I at_ sx d i (at_ i)=Sc.subP (rgN bm sd i) (Sc.mulP (sgE bm sd X Y I at_ d i) (sx i)):=if_pos rfl
theorem sgS_mod (i j:Nat):sgS bm sd X Y I at_ sx d i j%Sc.pM=sgS bm sd X Y I at_ sx d i j:=by
 unfold sgS
 split
 ·exact Nat.mod_mod _ _
 ·exact Nat.mod_mod _ _
theorem sg_ahead (i:Nat):alX (sgS bm sd X Y I at_ sx d i) bm i 0 (X i) (Y i) (I i) d (at_ i)=alX (rgF bm sd i) bm i 0 (X i) (Y i) (I i) d (at_ i) :=
 alX_congr _ λj hj=>sgS_ne (by omega)
theorem sg_behind {i:Nat} (h:openB (sx i) (X i (at_ i)) (Y i (at_ i)) (I i (at_ i))=true):alX (sgS bm sd X Y I at_ sx d i) bm i 0 (X i) (Y i) (I i) d (at_ i+1)=sgX bm sd i:=by
 rw [alX0_succ,sg_ahead,sgS_at]
 show encS (rPt (Sc.subP (rgN bm sd i) (Sc.mulP (sgE bm sd X Y I at_ d i) (sx i))) (sgE bm sd X Y I at_ d i) _ _ _)=encS _
 rw [rPt_ring _ _ _ (open_dec h)]
theorem sg_round {i:Nat} (ha:at_ i<nk i) (h:openB (sx i) (X i (at_ i)) (Y i (at_ i)) (I i (at_ i))=true):alX (sgS bm sd X Y I at_ sx d i) bm i 0 (X i) (Y i) (I i) d (nk i)=sgL bm sd X Y I at_ nk i:=by
 have e:nk i=at_ i+1+(nk i - (at_ i+1)):=by omega
 rw [e,alX_add,sg_behind h]
 unfold sgL
 exact alX_congr _ λj hj=>sgS_ne (by omega)
theorem sg_ends:∀ k,(∀ i,i<k→at_ i<nk i∧openB (sx i) (X i (at_ i)) (Y i (at_ i)) (I i (at_ i))=true)→endsT (sgS bm sd X Y I at_ sx d) bm X Y I d nk k=sgEnds bm sd X Y I at_ nk k
 | 0,_=>rfl
 | k+1,h=>by
  show endsT _ bm X Y I d nk k++alX _ bm k 0 _ _ _ d (nk k)=sgEnds bm sd X Y I at_ nk k++sgL bm sd X Y I at_ nk k
  rw [sg_ends k (λi hi=>h i (by omega)),sg_round (h k (Nat.lt_succ_self k)).1 (h k (Nat.lt_succ_self k)).2]
theorem chB_sign {NR:Nat} {sn:Nat→Nat} (hs:∀ i,i<NR→sn i=nk i) (h:∀ i,i<NR→at_ i<nk i∧openB (sx i) (X i (at_ i)) (Y i (at_ i)) (I i (at_ i))=true):chB (sgS bm sd X Y I at_ sx (sgD bm sd X Y I at_ nk NR)) bm X Y I (sgD bm sd X Y I at_ nk NR) NR NR sn nk=true :=
 chB_yes rfl (λi hi=>rowOk_yes (hs i hi) λj _=>sgS_mod i j) (by rw [sg_ends NR h]; rfl)
end
end Cu
end
section
namespace Cu
open Go.RowKit Sy
def aX (_ _:Nat):Nat:=gx.val
def aY (_ _:Nat):Nat:=gy.val
def aI (_ _:Nat):Bool:=false
def a1 (_:Nat):Nat:=1
def aAt (_:Nat):Int:=0
theorem ev_one:evP 1=bP:=by
 unfold evP
 rw [nm_p bP_on]
 show Ec.add finv none bP=bP
 rw [Ec.zero_add]
theorem a_right:rgtB 1 a1 aX aY aI=true:=by
 unfold rgtB
 rw [show szB 1 a1=true from (szB_iff 1 a1).2 ⟨Nat.le_refl _,by decide,λj _=>⟨Nat.le_refl _,by show 1≤64; decide⟩⟩,Bool.true_and]
 have h:rightB gx.val gy.val false=true:=rightB_parts (P:=bP) bP_on
 simp [badR,badK,a1,aX,aY,aI,h]
theorem a_open:openB 1 gx.val gy.val false=true:=by
 unfold openB
 rw [ev_one]
 exact sameB_self gx.val gy.val false
theorem a_fit:fitB aAt a1 a1 aX aY aI 1 1=true :=
 fitB_all rfl λj _=>by
  have q:=fit_op (At:=aAt) (sx:=a1) (n:=a1) (X:=aX) (Y:=aY) (I:=aI) (k:=j) (q:=0) (by show ¬ (0:Int)<0; decide) (by show ¬ (0:Int) ≥ ((1:Nat):Int); decide) rfl
  rw [q]
  exact a_open
def AlvR (v:Value) (M:Blocks):Prop:=∃ (d:List UInt8) (s:Nat→Nat→Nat) (g:Nat) (r:Nat→Slc),v=.tuple #[sgv33 d (some ⟨g,0,none⟩) 1 1,.int .i64 0]∧M=(g,55,rowsC r 1)::rowsB r 1∧d.length=32∧(∀ i k,s i k<K4)∧RowsAre r 46 4 (λi j=>fws (s i j)) (cntR a1 1 0)∧vfB [] 1 a1 aX aY aI s d 1 a1=true
theorem alv_of {sd:List UInt8} {v:Value} {M:Blocks} (h:SgnR (rgtB 1 a1 aX aY aI) (fitB aAt a1 a1 aX aY aI 1 1) (sgD (rgM [] 1 a1 aX aY aI) sd aX aY aI (λi=>(aAt i).toNat) a1 1) (sgF (rgM [] 1 a1 aX aY aI) sd aX aY aI (λi=>(aAt i).toNat) a1 (sgD (rgM [] 1 a1 aX aY aI) sd aX aY aI (λi=>(aAt i).toNat) a1 1)) a1 1 v M):AlvR v M:=by
 obtain ⟨bm,hbm⟩:∃ l,l=rgM [] 1 a1 aX aY aI:=⟨_,rfl⟩
 rw [← hbm] at h
 rcases h with ⟨h,_⟩ | ⟨_,h,_⟩ | ⟨_,_,u,rfl,g,r,rfl,rfl,hr⟩
 ·rw [a_right] at h; cases h
 ·rw [a_fit] at h; cases h
 ·refine ⟨_,sgS bm sd aX aY aI (λi=>(aAt i).toNat) a1 (sgD bm sd aX aY aI (λi=>(aAt i).toNat) a1 1),g,r,rfl,rfl,sgD_len _,λ_ _=>sgS_lt _ _,hr,?_⟩
  unfold vfB
  rw [a_right, ← hbm,Bool.true_and]
  exact chB_sign (λ_ _=>rfl) (λi _=>⟨by show (0:Nat)<1; decide,a_open⟩)
theorem one_lst {w:World} {g s:Nat} {t:TypeId} {cs:Array Value} {f:Nat→List Value} (hb:Blk w g t cs) (hf:cs.toList=f 0):Lst w s (some ⟨g,0,none⟩) 1 f:=⟨g,0,λ_=>⟨rfl,hb.lt,λj hj=>by
 obtain rfl:j=0:=by omega
 rw [Nat.zero_mul]
 refine blk_range hb ?_
 rw [List.drop_zero,hf,List.take_of_length_le (Nat.le_refl _)]⟩⟩
theorem alive_sign {w:World} {g0 g1 g2:Nat} {t0 t1 t2:TypeId} (h0:Blk w g0 t0 (pcs gx.val gy.val false)) (h1:Blk w g1 t1 #[.slice (some ⟨g0,0,none⟩) 1 1]) (h2:Blk w g2 t2 (sec5 ((0:Nat):Int) 1).toArray) (ht:Sh.TabAt w 1) :
  Calls Tryz.prog 12 #[.agg ((List.replicate 32 (0:UInt8)).map bv).toArray,.slice none 0 0,.slice (some ⟨g1,0,none⟩) 1 1,.slice (some ⟨g2,0,none⟩) 1 1] w (GetsN w AlvR):=by
 have q:=SignG_any w (List.replicate 32 0) List.length_replicate none [] 0 0 rfl (by decide) (by decide) (by decide) (λh=>absurd rfl h) (some ⟨g1,0,none⟩) 1 1 (λ_=>some ⟨g0,0,none⟩) a1 a1 aX aY aI (λ_ _=>lt4 _) (λ_ _=>lt4 _) (by decide) (λ_=>by show 1≤_; decide) (one_lst h1 rfl) (λi _=>one_lst h0 rfl) (by decide) (some ⟨g2,0,none⟩) 1 1 aAt a1 (λ_=>by show 1<K4; decide) (by decide) (one_lst h2 rfl) ht
 exact Calls.mono q λe w' ⟨v,M,h1,h2,h3⟩=>⟨v,M,h1,alv_of h2,h3⟩
theorem alive_verify {w:World} {g0 g1 gF:Nat} {t0 t1 tF:TypeId} {d:List UInt8} {s:Nat→Nat→Nat} {r:Nat→Slc} {A:Option Addr} {k:Nat} (h0:Blk w g0 t0 (pcs gx.val gy.val false)) (h1:Blk w g1 t1 #[.slice (some ⟨g0,0,none⟩) 1 1]) (hF:Blk w gF tF (rowsC r 1)) (hd:d.length=32) (hs:∀ i k,s i k<K4) (hv:(r 0).v=.slice A 1 k) (hl:Lst w 4 A 1 (λj=>fws (s 0 j))) (hc:vfB [] 1 a1 aX aY aI s d 1 a1=true) (ht:Sh.TabAt w 1) :
  Calls Tryz.prog 18 #[.slice none 0 0,.slice (some ⟨g1,0,none⟩) 1 1,sgv33 d (some ⟨gF,0,none⟩) 1 1] w (Gets w (.bool true)):=by
 have q:=VerifyG_any w none [] 0 0 rfl (by decide) (by decide) (by decide) (λh=>absurd rfl h) (some ⟨g1,0,none⟩) 1 1 (λ_=>some ⟨g0,0,none⟩) a1 a1 aX aY aI (λ_ _=>lt4 _) (λ_ _=>lt4 _) (by decide) (λ_=>by show 1≤_; decide) (one_lst h1 rfl) (λi _=>one_lst h0 rfl) (by decide) d hd (some ⟨gF,0,none⟩) 1 1 (λ_=>A) a1 (λ_=>k) s hs (by decide) (λ_ _=>by show 1≤_; decide) (one_lst hF (by
  show flat (λj=>[(r j).v]) 1=[.slice A 1 k]
  rw [← hv]
  rfl)) (λi hi=>by
  obtain rfl:i=0:=by omega
  exact hl) ht
 rw [hc] at q
 exact q
set_option maxHeartbeats 4000000 in
set_option maxRecDepth 100000 in
theorem alive8 (w:World) (ht:Sh.TabAt w 1):Calls Tryz.prog 14 #[] w (Gets w (.bool true)):=by
 refine Sy.enter (args:=[]) Tryz.func14 rfl kL ?_
 refine sC ?_
 refine sP (.bool false) ?_
 refine sA ?_
 refine sS (pv gx.val gy.val false) (qF 23 #[] (baseR_c)) ?_
 refine Sy.make kR 52 (pcs gx.val gy.val false) (λg=>.slice (some ⟨g,0,none⟩) 1 1) kF (λg0=>?_)
 refine Sy.make kR 49 #[.slice (some ⟨g0,0,none⟩) 1 1] (λg=>.slice (some ⟨g,0,none⟩) 1 1) kF (λg1=>?_)
 refine sP (.slice (some ⟨g1,0,none⟩) 1 1) ?_
 refine sA ?_
 refine sP (.agg ((List.replicate 32 (0:UInt8)).map bv).toArray)<|sP (.slice (some ⟨g1,0,none⟩) 1 1)<|sP (fv 1)<|sP (.agg (sec5 ((0:Nat):Int) 1).toArray) ?_
 refine Sy.make kR 48 (sec5 ((0:Nat):Int) 1).toArray (λg=>.slice (some ⟨g,0,none⟩) 1 1) kF (λg2=>?_)
 refine Sy.callN kR 12 #[.agg ((List.replicate 32 (0:UInt8)).map bv).toArray,.slice none 0 0,.slice (some ⟨g1,0,none⟩) 1 1,.slice (some ⟨g2,0,none⟩) 1 1] kF (AlvR) (λw hw=>alive_sign (hw.get (i:=0) rfl) (hw.get (i:=1) rfl) (hw.get (i:=2) rfl) (ht.below hw.below ht.lt)) (λvq Mq hR0=>?_)
 obtain ⟨d0,s0,gF,r0,rfl,rfl,hdl,hs4,hr0,hvf⟩:=hR0
 obtain ⟨A0,k0,hv0,_,_,hl0⟩:=hr0.lst (i:=0) (N:=1) (m:=1) rfl (by decide)
 refine Sy.permS (M:=[(g0,52,(pcs gx.val gy.val false)),(g1,49,#[.slice (some ⟨g0,0,none⟩) 1 1]),(g2,48,(sec5 ((0:Nat):Int) 1).toArray),(gF,55,(rowsC r0 1))]++(rowsB r0 1++[])) (by rw [List.append_nil]; exact List.Perm.refl _) ?_
 refine sP (.tuple #[sgv33 d0 (some ⟨gF,0,none⟩) 1 1,.int .i64 0])<|sP (sgv33 d0 (some ⟨gF,0,none⟩) 1 1)<|sP (.int .i64 0) ?_
 refine sM 31 (sgc33 (List.replicate 32 (0:UInt8)) none 0 0).toArray (λg3=>?_)
 refine Sy.movT ?_
 refine sW 4 g3 31 (sgc33 (List.replicate 32 (0:UInt8)) none 0 0).toArray (sgc33 d0 (some ⟨gF,0,none⟩) 1 1).toArray (Writes.row 31 (sgc33 d0 (some ⟨gF,0,none⟩) 1 1) 33 _ _ rfl kR kR kR (sg_len hdl) (by rw [List.size_toArray,sg_len List.length_replicate]) sg_one) ?_
 refine Sy.setT ?_
 refine sP (.int .i64 0) ?_
 refine sA ?_
 refine sP (.int .i64 0)<|sP (.bool true)<|sP (.bool true)<|sP (.pointer (some ⟨g3,32,none⟩))<|sS (.slice (some ⟨gF,0,none⟩) 1 1) (Quiet.cell 4 g3 32 31 29 (sgc33 d0 (some ⟨gF,0,none⟩) 1 1).toArray _ _ rfl kR kR Tryz.underlying29 rfl _ (sg_at hdl))<|sP (.int .i64 1)<|sP (.bool true)<|sP (.bool true) ?_
 refine sP (.bool true)<|sP (.slice (some ⟨g1,0,none⟩) 1 1)<|sS (sgv33 d0 (some ⟨gF,0,none⟩) 1 1) (Quiet.load 4 g3 0 33 31 31 (sgc33 d0 (some ⟨gF,0,none⟩) 1 1).toArray _ _ rfl kR kR Tryz.underlying31 rfl kR _ (sg_whole hdl) (sg_fit hdl))<|sS (.bool true) (qG 18 #[.slice none 0 0,.slice (some ⟨g1,0,none⟩) 1 1,sgv33 d0 (some ⟨gF,0,none⟩) 1 1] (λw hw=>alive_verify (hw.get (i:=0) rfl) (hw.get (i:=1) rfl) (hw.get (i:=3) rfl) hdl hs4 hv0 (hl0 hw (λb hb=>List.mem_append.2 (.inr (List.mem_append.2 (.inl hb))))) hvf (ht.below hw.below ht.lt)))<|sP (.bool true)<|sP (.bool true) ?_
 refine sG<|Sy.ret ?_
 exact rV (.bool true) rfl
end Cu
end
section
namespace Cu
open Go.RowKit Sy
def SgU (w0:Base) (d:List UInt8) (N:Nat) (nk:Nat→Nat) (s:Nat→Nat→Nat) (en:Int) (v:Value) (M:Blocks):Prop:=∃ (W:Option Addr) (c:Nat) (sa:Nat→Option Addr) (sc:Nat→Nat),v=.tuple #[sgv33 d W N c,.int .i64 en]∧∀ (w:World) (L:Blocks),St w0 w L→(∀ b∈M,b∈L)→Lst w 1 W N (λi=>[.slice (sa i) (nk i) (sc i)])∧∀ i,i<N→Lst w 4 (sa i) (nk i) (λk=>fws (s i k))
def slA:Value→Option Addr
 | .slice A _ _=>A
 | _=>none
def slC:Value→Nat
 | .slice _ _ c=>c
 | _=>0
theorem SgU.zero (w0:Base) (d:List UInt8) (nk:Nat→Nat) (s:Nat→Nat→Nat) (en:Int):SgU w0 d 0 nk s en (.tuple #[sgv33 d none 0 0,.int .i64 en]) [] :=
 ⟨none,0,λ_=>none,λ_=>0,rfl,λ_ _ _ _=>⟨⟨0,0,λh=>absurd h (Nat.lt_irrefl _)⟩,λi hi=>absurd hi (Nat.not_lt_zero _)⟩⟩
theorem SgU.rows {w0:Base} {d:List UInt8} {NR g cap:Nat} {nk:Nat→Nat} {s:Nat→Nat→Nat} {r:Nat→Slc} {sp:List Value} {M:Blocks} (hr:RowsAre r 46 4 (λi j=>fws (s i j)) (cntR nk NR 0)) (hM:M=(g,55,(flat (λj=>[(r j).v]) NR++sp).toArray)::rowsB r NR) (en:Int):SgU w0 d NR nk s en (.tuple #[sgv33 d (some ⟨g,0,none⟩) NR cap,.int .i64 en]) M:=by
 have hv:∀ i,i<NR→(r i).v=.slice (slA (r i).v) (nk i) (slC (r i).v):=λi hi=>by
  obtain ⟨A,k,h1,_⟩:=hr.lst (cntR_all hi) hi
  rw [h1]
  rfl
 refine ⟨_,_,λi=>slA (r i).v,λi=>slC (r i).v,rfl,λw L hw hb=>⟨?_,λi hi=>?_⟩⟩
 ·exact Lst_ext (row_lst (f:=λj=>[(r j).v]) (λ_=>rfl) hw (hb _ (by rw [hM]; exact List.mem_cons_self ..))) (λi hi=>by rw [← hv i hi])
 ·obtain ⟨A,k,h1,_,_,h2⟩:=hr.lst (cntR_all hi) hi
  have h3:=h2 hw (λb h=>hb b (by rw [hM]; exact List.mem_cons_of_mem _ h))
  show Lst w 4 (slA (r i).v) _ _
  rw [h1]
  exact h3
section
variable {w0:Base} {br bf:Bool} {d:List UInt8} {s:Nat→Nat→Nat} {nk:Nat→Nat} {NR:Nat} {v:Value} {M:Blocks}
def uD (br bf:Bool) (d:List UInt8):List UInt8:=if br && bf then d else List.replicate 32 0
def uN (br bf:Bool) (N:Nat):Nat:=if br && bf then N else 0
def uE (br bf:Bool):Int:=if br then (if bf then 0 else 81) else 80
theorem uD_len (h:d.length=32):(uD br bf d).length=32:=by unfold uD; split; exact h; exact List.length_replicate
theorem uN_le:uN br bf NR≤NR:=by unfold uN; split; exact Nat.le_refl _; exact Nat.zero_le _
theorem SgnR.uni (h:SgnR br bf d (λi j=>fws (s i j)) nk NR v M):SgU w0 (uD br bf d) (uN br bf NR) nk s (uE br bf) v M:=by
 rcases h with ⟨rfl,rfl,rfl⟩ | ⟨rfl,rfl,rfl,rfl⟩ | ⟨rfl,rfl,u,rfl,g,r,rfl,rfl,hr⟩
 ·exact SgU.zero w0 _ nk s 80
 ·exact SgU.zero w0 _ nk s 81
 ·exact SgU.rows (sp:=[]) hr (by rw [List.append_nil]; rfl) 0
theorem SgnR8.uni (h:SgnR8 br bf d (λi j=>fws (s i j)) nk NR v M):SgU w0 (uD br bf d) (uN br bf NR) nk s (uE br bf) v M:=by
 rcases h with ⟨rfl,rfl,rfl⟩ | ⟨rfl,rfl,rfl,rfl⟩ | ⟨rfl,rfl,u,rfl,g,cap,sp,r,rfl,_,rfl,hr⟩
 ·exact SgU.zero w0 _ nk s 80
 ·exact SgU.zero w0 _ nk s 81
 ·exact SgU.rows hr rfl 0
end
def csl (sd:List UInt8) (us:List Value):List Value:=sd.map bv++us
def csv (sd:List UInt8) (us:List Value):Value:=.agg (csl sd us).toArray
section
variable {sd:List UInt8} {us:List Value}
theorem cs_at (h:sd.length=32) (k:Nat):(csl sd us).toArray[32+k]? = us[k]?:=by
 rw [List.getElem?_toArray]
 unfold csl
 rw [List.getElem?_append_right (by rw [List.length_map,h]; exact Nat.le_add_right _ _),List.length_map,h,Nat.add_sub_cancel_left]
theorem cs_first (h:sd.length=32):Value.agg (((csl sd us).toArray.toList.drop 0).take 32).toArray=.agg (sd.map bv).toArray:=by
 show Value.agg (((csl sd us).drop 0).take 32).toArray=_
 rw [List.drop_zero]
 unfold csl
 rw [List.take_left' (by rw [List.length_map,h])]
theorem cs_fits (h:sd.length=32):0+32≤(csl sd us).toArray.size:=by rw [List.size_toArray]; unfold csl; rw [List.length_append,List.length_map,h]; omega
end
set_option maxHeartbeats 4000000 in
set_option maxRecDepth 100000 in
theorem law_ringsigns (w:World) (sd:List UInt8) (hsd:sd.length=32) (A:Option Addr) (m:List UInt8) (n c:Nat) (hm:m.length=n) (hm9:n≤999000000) (hc:n≤c) (hc2:c≤9223372036854775807) (hs0:Sh.Src w A m) (R:Option Addr) (NR cR:Nat) (a:Nat→Option Addr) (nk ck:Nat→Nat) (X Y:Nat→Nat→Nat) (I:Nat→Nat→Bool) (hX:∀ i k,X i k<K4) (hY:∀ i k,Y i k<K4) (hNR:NR≤4611686018427387904) (hnk:∀ i,nk i≤4611686018427387904) (hlr:Lst w 1 R NR (λi=>[.slice (a i) (nk i) (ck i)])) (hlk:∀ i,i<NR→Lst w 9 (a i) (nk i) (λk=>pml (X i k) (Y i k) (I i k))) (hN9:NR≤17592186044416) (S:Option Addr) (NS cS:Nat) (At:Nat→Int) (sx:Nat→Nat) (hsx:∀ i,sx i<K4) (hNS:NS≤4611686018427387904) (hls:Lst w 5 S NS (λi=>sec5 (At i) (sx i))) (ht:Sh.TabAt w 1) (htr:Sh.TabAt w 0):Calls Tryz.prog 3 #[csv sd [.slice A n c,.slice R NR cR,.slice S NS cS]] w (Gets w (.bool true)):=by
 obtain ⟨d0,hd00⟩:∃ l,l=uD (rgtB NR nk X Y I) (fitB At sx nk X Y I NS NR) (sgD (rgM m NR nk X Y I) sd X Y I (λi=>(At i).toNat) nk NR):=⟨_,rfl⟩
 have hd0:d0.length=32:=by rw [hd00]; exact uD_len (sgD_len _)
 obtain ⟨N0,hN0⟩:∃ k,k=uN (rgtB NR nk X Y I) (fitB At sx nk X Y I NS NR) NR:=⟨_,rfl⟩
 have hN0l:N0≤NR:=by rw [hN0]; exact uN_le
 obtain ⟨en0,hen0⟩:∃ z,z=uE (rgtB NR nk X Y I) (fitB At sx nk X Y I NS NR):=⟨_,rfl⟩
 obtain ⟨s0,hs0_⟩:∃ f,f=sgS (rgM m NR nk X Y I) sd X Y I (λi=>(At i).toNat) sx (sgD (rgM m NR nk X Y I) sd X Y I (λi=>(At i).toNat) nk NR):=⟨_,rfl⟩
 have hs04:∀ i k,s0 i k<K4:=λi k=>by rw [hs0_]; exact sgS_lt _ _
 refine Sy.enter (args:=[csv sd [.slice A n c,.slice R NR cR,.slice S NS cS]]) Tryz.func3 rfl kL ?_
 refine sC ?_
 refine sM 28 (csl sd [.slice A n c,.slice R NR cR,.slice S NS cS]).toArray (λg0=>?_)
 refine sP (.bool false) ?_
 refine sA ?_
 refine sP (.pointer (some ⟨g0,0,none⟩))<|sS (.agg (sd.map bv).toArray) (Quiet.load 0 g0 0 32 28 23 (csl sd [.slice A n c,.slice R NR cR,.slice S NS cS]).toArray _ _ rfl kR kR Tryz.underlying23 rfl kR _ (cs_first hsd) (cs_fits hsd))<|sP (.pointer (some ⟨g0,32,none⟩))<|sS (.slice A n c) (Quiet.cell 0 g0 32 28 24 (csl sd [.slice A n c,.slice R NR cR,.slice S NS cS]).toArray _ _ rfl kR kR Tryz.underlying24 rfl _ (cs_at hsd 0))<|sP (.pointer (some ⟨g0,33,none⟩))<|sS (.slice R NR cR) (Quiet.cell 0 g0 33 28 25 (csl sd [.slice A n c,.slice R NR cR,.slice S NS cS]).toArray _ _ rfl kR kR Tryz.underlying25 rfl _ (cs_at hsd 1))<|sP (.pointer (some ⟨g0,34,none⟩))<|sS (.slice S NS cS) (Quiet.cell 0 g0 34 28 26 (csl sd [.slice A n c,.slice R NR cR,.slice S NS cS]).toArray _ _ rfl kR kR Tryz.underlying26 rfl _ (cs_at hsd 2)) ?_
 refine Sy.callN kR 12 #[.agg (sd.map bv).toArray,.slice A n c,.slice R NR cR,.slice S NS cS] kF (SgU (Base.of w) d0 N0 nk s0 en0) (λw hw=>by rw [hd00,hN0,hen0,hs0_]; exact Calls.mono (SignG_any w sd hsd A m n c hm hm9 hc hc2 (hs0.below hw.below) R NR cR a nk ck X Y I hX hY hNR hnk (hlr.below hw.below) (λi hi=>(hlk i hi).below hw.below) hN9 S NS cS At sx hsx hNS (hls.below hw.below) (ht.below hw.below ht.lt)) (λe w' ⟨v,M,q1,q2,q3⟩=>⟨v,M,q1,SgnR.uni q2,q3⟩)) (λvq Mq hR0=>?_)
 obtain ⟨M1,rfl⟩:∃ M,M=Mq:=⟨_,rfl⟩
 obtain ⟨W1,c1,sa1,sc1,rfl,hU1⟩:=hR0
 refine Sy.permS (M:=[(g0,28,(csl sd [.slice A n c,.slice R NR cR,.slice S NS cS]).toArray)]++(M1++([]))) (by rw [List.append_nil]; exact List.Perm.refl _) ?_
 refine sP (.tuple #[sgv33 d0 W1 N0 c1,.int .i64 en0])<|sP (sgv33 d0 W1 N0 c1)<|sP (.int .i64 en0) ?_
 refine sM 31 (sgc33 (List.replicate 32 (0:UInt8)) none 0 0).toArray (λg1=>?_)
 refine Sy.movT ?_
 refine sW 1 g1 31 (sgc33 (List.replicate 32 (0:UInt8)) none 0 0).toArray (sgc33 d0 W1 N0 c1).toArray (Writes.row 31 (sgc33 d0 W1 N0 c1) 33 _ _ rfl kR kR kR (sg_len hd0) (by rw [List.size_toArray,sg_len List.length_replicate]) sg_one) ?_
 refine Sy.setT ?_
 refine sP (.int .i64 en0) ?_
 refine sA ?_
 refine sP (.pointer (some ⟨g0,0,none⟩))<|sS (.agg (sd.map bv).toArray) (Quiet.load 0 g0 0 32 28 23 (csl sd [.slice A n c,.slice R NR cR,.slice S NS cS]).toArray _ _ rfl kR kR Tryz.underlying23 rfl kR _ (cs_first hsd) (cs_fits hsd))<|sP (.pointer (some ⟨g0,32,none⟩))<|sS (.slice A n c) (Quiet.cell 0 g0 32 28 24 (csl sd [.slice A n c,.slice R NR cR,.slice S NS cS]).toArray _ _ rfl kR kR Tryz.underlying24 rfl _ (cs_at hsd 0))<|sP (.pointer (some ⟨g0,33,none⟩))<|sS (.slice R NR cR) (Quiet.cell 0 g0 33 28 25 (csl sd [.slice A n c,.slice R NR cR,.slice S NS cS]).toArray _ _ rfl kR kR Tryz.underlying25 rfl _ (cs_at hsd 1))<|sP (.pointer (some ⟨g0,34,none⟩))<|sS (.slice S NS cS) (Quiet.cell 0 g0 34 28 26 (csl sd [.slice A n c,.slice R NR cR,.slice S NS cS]).toArray _ _ rfl kR kR Tryz.underlying26 rfl _ (cs_at hsd 2)) ?_
 refine Sy.callN kR 13 #[.agg (sd.map bv).toArray,.slice A n c,.slice R NR cR,.slice S NS cS] kF (SgU (Base.of w) d0 N0 nk s0 en0) (λw hw=>by rw [hd00,hN0,hen0,hs0_]; exact Calls.mono (sign8_any w sd hsd A m n c hm hm9 hc hc2 (hs0.below hw.below) R NR cR a nk ck X Y I hX hY hNR hnk (hlr.below hw.below) (λi hi=>(hlk i hi).below hw.below) S NS cS At sx hsx hNS (hls.below hw.below) (htr.below hw.below htr.lt)) (λe w' ⟨v,M,q1,q2,q3⟩=>⟨v,M,q1,SgnR8.uni q2,q3⟩)) (λvq Mq hR0=>?_)
 obtain ⟨M2,rfl⟩:∃ M,M=Mq:=⟨_,rfl⟩
 obtain ⟨W2,c2,sa2,sc2,rfl,hU2⟩:=hR0
 refine Sy.permS Sy.end_front ?_
 refine sP (.tuple #[sgv33 d0 W2 N0 c2,.int .i64 en0])<|sP (sgv33 d0 W2 N0 c2)<|sP (.int .i64 en0) ?_
 refine sM 31 (sgc33 (List.replicate 32 (0:UInt8)) none 0 0).toArray (λg2=>?_)
 refine Sy.movT ?_
 refine sW 2 g2 31 (sgc33 (List.replicate 32 (0:UInt8)) none 0 0).toArray (sgc33 d0 W2 N0 c2).toArray (Writes.row 31 (sgc33 d0 W2 N0 c2) 33 _ _ rfl kR kR kR (sg_len hd0) (by rw [List.size_toArray,sg_len List.length_replicate]) sg_one) ?_
 refine Sy.setT ?_
 refine sP (.int .i64 en0) ?_
 refine sA ?_
 refine sS (.bool true) (qG 14 #[] (λw hw=>alive8 w (ht.below hw.below ht.lt)))<|sP (.bool true)<|sP (.int .i64 en0)<|sP (.int .i64 en0) ?_
 obtain ⟨b1,hb1⟩:∃ z:Bool,z=decide (en0=en0):=⟨_,rfl⟩
 refine sS (.bool b1) (Quiet.pure (exec_int .eql _ _ _ .i64 _ _ _ rfl rfl rfl (int_eql _ _ _ _ _ hb1.symm)))<|sP (.bool b1)<|sP (.bool b1) ?_
 cases b1
 ·have lb1:¬ (en0=en0):=of_decide_eq_false hb1.symm
  exact absurd rfl lb1
 ·have lb1:en0=en0:=of_decide_eq_true hb1.symm
  refine sS (sgv33 d0 W1 N0 c1) (Quiet.load 1 g1 0 33 31 31 (sgc33 d0 W1 N0 c1).toArray _ _ rfl kR kR Tryz.underlying31 rfl kR _ (sg_whole hd0) (sg_fit hd0))<|sS (sgv33 d0 W2 N0 c2) (Quiet.load 2 g2 0 33 31 31 (sgc33 d0 W2 N0 c2).toArray _ _ rfl kR kR Tryz.underlying31 rfl kR _ (sg_whole hd0) (sg_fit hd0))<|sS (.bool true) (qG 15 #[sgv33 d0 W1 N0 c1,sgv33 d0 W2 N0 c2] (λw hw=>by have u1:=hU1 w _ hw (λb hb=>(List.mem_append.2 (.inr (List.mem_append.2 (.inr (List.mem_append.2 (.inl hb))))))); have u2:=hU2 w _ hw (λb hb=>(List.mem_append.2 (.inr (List.mem_append.2 (.inl hb))))); have q:=same8_any w d0 hd0 W1 N0 c1 sa1 nk sc1 s0 hs04 (by omega) (λi _=>hnk i) u1.1 u1.2 d0 hd0 W2 N0 c2 sa2 nk sc2 s0 hs04 (by omega) (λi _=>hnk i) u2.1 u2.2; rw [sgSame_yes rfl rfl (λi _=>rowSame_yes rfl (λ_ _=>rfl))] at q; exact q))<|sP (.bool true)<|sP (.bool true) ?_
  refine sG<|Sy.ret ?_
  exact rV (.bool true) rfl
end Cu
end
section
namespace Cu
open Go.ChangeShapes Go.WideShapes Go.ChangeAt Go.RowKit Sy Go.Deep
theorem bulk_mem {H:Type}:∀ {l:List (DataW H)} {d:DataW H},d∈l→Rows.uptoBulk d≤Rows.uptoBulkAll l
 | [],_,h=>by cases h
 | d'::r,d,h=>by
  simp only [Rows.uptoBulkAll]
  cases List.mem_cons.1 h with
  | inl e=>subst e; omega
  | inr h=>have:=bulk_mem h; omega
theorem open_listD {α:Type} [Inhabited α] (cells:α→List Value) (ok:α→Prop) (sz:α→Nat) (s:Nat) (hs:0<s) (hc:∀ x,(cells x).length=s) (h0:ok default) (h1:sz default=0) {H:Type} {enc:TypeId×Value→H} {P:Program} {W:World} {t e:TypeId} {fuel:Nat} {cs:List Value} {x:DataW H×List MemPlace}
  (ht:P.underlying t=some (.slice e)) (hce:P.cellsOf e=s) (hel:∀ (fuel:Nat) (cs:List Value) (x:DataW H×List MemPlace),cs.length=s→DataW.trod enc P W 0 (λ_=>true) true fuel e cs=some x→∃ y,ok y∧cs=cells y∧sz y≤Rows.uptoBulk x.1)
  (hf:DataW.trod enc P W 0 (λ_=>true) true fuel t cs=some x) :
  ∃ (A:Option Addr) (m c:Nat) (T:Nat→α),cs=[.slice A m c]∧m≤c∧c≤9223372036854775807∧(∀ j,ok (T j))∧(∀ j,sz (T j)≤Rows.uptoBulk x.1)∧Lst W s A m (λj=>cells (T j))∧m≤Rows.uptoBulk x.1:=by
 rcases open_slice ht hf with ⟨hcs,hx⟩ | ⟨a,len,cap,m,n,D,Pl,hcs,_,hl,hm,hme,hx,hall⟩
 ·exact ⟨none,0,0,λ_=>default,hcs,Nat.le_refl _,by omega,λ_=>h0,λ_=>by rw [h1]; exact Nat.zero_le _,lst_of λhn=>absurd hn (Nat.lt_irrefl _),Nat.zero_le _⟩
 ·simp only [if_true] at hme
  subst hme
  rw [hce] at hall
  have hb:∀ i,i<len→Rows.uptoBulk (D i)≤Rows.uptoBulk x.1:=λi hi=>by
   subst hx
   have:=bulk_mem (l:=(List.range len).map D) (d:=D i) (List.mem_map.2 ⟨i,List.mem_range.2 hi,rfl⟩)
   simp only [Rows.uptoBulk]
   omega
  obtain ⟨X,hX0,hX⟩:=choose_ltL (α:=α) (n:=len) (p:=λi y=>(ok y∧sz y≤Rows.uptoBulk x.1)∧W.cells? 0 (a.add (i*s)) s=some (cells y)) (λi hi=>by
   obtain ⟨cs',h1,h2⟩:=hall i (by omega)
   obtain ⟨y,hy,rfl,hz⟩:=hel _ _ _ (cells_lenL h1) h2
   exact ⟨y,⟨hy,Nat.le_trans hz (hb i hi)⟩,h1⟩) (λy=>ok y∧sz y≤Rows.uptoBulk x.1) ⟨h0,by rw [h1]; exact Nat.zero_le _⟩ (λ_ _ hp=>hp.1)
  refine ⟨some a,len,m,X,hcs,hl,by simpa [maxLen] using hm,λj=>(hX0 j).1,λj=>(hX0 j).2,lst_of λhpos=>?_,?_⟩
  ·obtain ⟨_,hc0⟩:=hX 0 hpos
   obtain ⟨v0,hv0⟩:∃ v0,(cells (X 0))[0]? = some v0:=⟨(cells (X 0))[0]'(by rw [hc]; exact hs),List.getElem?_eq_getElem _⟩
   have hcell:W.cell? a=some v0:=by
    have:=cells_eachL hc0 0 v0 hv0
    simpa [Addr.add] using this
   obtain ⟨b,o,rfl,hlt⟩:=cell_spotL hcell
   refine ⟨b,o,rfl,hlt,λj hj i v hi=>?_⟩
   have:=cells_eachL (hX j hj).2 i v hi
   rwa [add_midL,add_midL] at this
  ·subst hx
   have:=bulk_len ((List.range len).map D)
   simp only [Rows.uptoBulk]
   simp only [List.length_map,List.length_range] at this
   omega
theorem one_u8 {H:Type} {enc:TypeId×Value→H} {P:Program} {W:World} {fuel:Nat} {t:TypeId} {cs:List Value} {x:DataW H×List MemPlace} (ht:P.underlying t=some (.int .u8)) (hf:DataW.trod enc P W 0 (λ_=>true) true fuel t cs=some x):∃ u:UInt8,cs=[bv u]:=by
 cases fuel with
 | zero=>simp [DataW.trod] at hf
 | succ m =>
  obtain ⟨z,e,_,w⟩:=DataW.trod_int ht hf
  refine ⟨UInt8.ofNat z.toNat,?_⟩
  have hz:0≤z∧z<256:=by
   simp [Lit.wf,IntKind.bits,IntKind.signed,IntKind.min,IntKind.max] at w
   omega
  rw [e]
  unfold bv
  congr 2
  rw [UInt8.toNat_ofNat']
  omega
set_option maxRecDepth 100000 in
theorem open_textD {H:Type} {enc:TypeId×Value→H} {W:World} {fuel:Nat} {cs:List Value} {x:DataW H×List MemPlace} (hf:DataW.trod enc Tryz.prog W 0 (λ_=>true) true fuel 24 cs=some x) :
  ∃ (A:Option Addr) (m:List UInt8) (c:Nat),cs=[.slice A m.length c]∧m.length≤c∧c≤9223372036854775807∧Sh.Src W A m∧m.length≤Rows.uptoBulk x.1:=by
 obtain ⟨A,n,c,T,e,h1,h2,_,_,hls,hn⟩:=open_listD (P:=Tryz.prog) (λu:UInt8=>[bv u]) (λ_=>True) (λ_=>0) 1 (by decide) (λ_=>rfl) trivial rfl Tryz.underlying24 (by kernel_rfl)
  (λfuel cs x hl hf=>by
   obtain ⟨u,e⟩:=one_u8 (P:=Tryz.prog) Tryz.underlying5 hf
   exact ⟨u,trivial,e,Nat.zero_le _⟩) hf
 have hl:((List.range n).map T).length=n:=by rw [List.length_map,List.length_range]
 refine ⟨A,(List.range n).map T,c,by rw [hl]; exact e,by rw [hl]; exact h1,h2,λhne=>?_,by rw [hl]; exact hn⟩
 obtain ⟨g,o,hg⟩:=hls
 have hpos:0<n:=by
  rcases Nat.eq_zero_or_pos n with h | h
  ·subst h; exact absurd rfl hne
  ·exact h
 obtain ⟨hA,hb,hr⟩:=hg hpos
 refine ⟨g,o,hA,hb,λj u hu=>?_⟩
 have hj:j<n:=by have:=(List.getElem?_eq_some_iff.1 hu).1; rwa [hl] at this
 rw [List.getElem?_map,List.getElem?_range hj] at hu
 have hu':T j=u:=by simpa using hu
 have:=hr j hj 0 (bv u) (by rw [← hu']; rfl)
 rwa [Nat.mul_one,Nat.add_zero] at this
abbrev RowP:=Option Addr×Nat×Nat×(Nat→Pr)
def RowP.is (W:World) (y:RowP):Prop:=Lst W 9 y.1 y.2.1 (λk=>(y.2.2.2 k).cells)∧∀ k,(y.2.2.2 k).ok
set_option maxRecDepth 100000 in
theorem open_ringsD {H:Type} {enc:TypeId×Value→H} {W:World} {fuel:Nat} {cs:List Value} {x:DataW H×List MemPlace} (hf:DataW.trod enc Tryz.prog W 0 (λ_=>true) true fuel 25 cs=some x) :
  ∃ (R:Option Addr) (NR cR:Nat) (a:Nat→Option Addr) (nk ck:Nat→Nat) (X Y:Nat→Nat→Nat) (I:Nat→Nat→Bool),cs=[.slice R NR cR]∧(∀ i k,X i k<K4)∧(∀ i k,Y i k<K4)∧(∀ i,nk i≤Rows.uptoBulk x.1)∧Lst W 1 R NR (λi=>[.slice (a i) (nk i) (ck i)])∧(∀ i,i<NR→Lst W 9 (a i) (nk i) (λk=>pml (X i k) (Y i k) (I i k)))∧NR≤Rows.uptoBulk x.1:=by
 obtain ⟨R,NR,cR,T,e,_,_,hok,hsz,hls,hn⟩:=open_listD (P:=Tryz.prog) (λy:RowP=>[.slice y.1 y.2.1 y.2.2.1]) (RowP.is W) (λy=>y.2.1) 1 (by decide) (λ_=>rfl)
  ⟨lst_of λh=>absurd h (Nat.lt_irrefl _),λ_=>⟨K4_pos,K4_pos⟩⟩ rfl Tryz.underlying25 (by kernel_rfl)
  (λfuel cs x _ hf=>by
   obtain ⟨A,n,c,T,e,_,_,hT,_,hls,hn⟩:=open_listD (P:=Tryz.prog) Pr.cells Pr.ok (λ_=>0) 9 (by decide) (λ_=>rfl) ⟨K4_pos,K4_pos⟩ rfl Tryz.underlying49 (by kernel_rfl)
    (λfuel cs x hl hf=>by
     obtain ⟨y,hy,e⟩:=pt_trod' fuel cs x hl hf
     exact ⟨y,hy,e,Nat.zero_le _⟩) hf
   exact ⟨(A,n,c,T),⟨hls,hT⟩,e,hn⟩) hf
 exact ⟨R,NR,cR,λi=>(T i).1,λi=>(T i).2.1,λi=>(T i).2.2.1,λi k=>((T i).2.2.2 k).x,λi k=>((T i).2.2.2 k).y,λi k=>((T i).2.2.2 k).i,e,λi k=>((hok i).2 k).1,λi k=>((hok i).2 k).2,hsz,hls,λi _=>(hok i).1,hn⟩
set_option maxRecDepth 100000 in
theorem open_secretsD {H:Type} {enc:TypeId×Value→H} {W:World} {fuel:Nat} {cs:List Value} {x:DataW H×List MemPlace} (hf:DataW.trod enc Tryz.prog W 0 (λ_=>true) true fuel 26 cs=some x) :
  ∃ (S:Option Addr) (NS cS:Nat) (At:Nat→Int) (sx:Nat→Nat),cs=[.slice S NS cS]∧(∀ i,sx i<K4)∧Lst W 5 S NS (λi=>sec5 (At i) (sx i))∧NS≤Rows.uptoBulk x.1:=by
 obtain ⟨S,NS,cS,T,e,_,_,hok,_,hls,hn⟩:=open_listD (P:=Tryz.prog) (λy:Int×Nat=>sec5 y.1 y.2) (λy=>y.2<K4) (λ_=>0) 5 (by decide) (λ_=>rfl) K4_pos rfl Tryz.underlying26 (by kernel_rfl)
  (λfuel cs x hl hf=>by
   obtain ⟨y0,y1,n,_,_,g0,g1⟩:=trod_struct2 Tryz.underlying48 hf
   obtain ⟨z,e0,_⟩:=one_int (P:=Tryz.prog) Tryz.underlying3 g0
   have l1:((cs.drop 1).take 4).length=4:=by rw [List.length_take,List.length_drop,hl]; rfl
   obtain ⟨k,hk,e1⟩:=four_words l1 (P:=Tryz.prog) Tryz.underlying46 Tryz.underlying44 (by kernel_rfl) g1
   refine ⟨(z,k),hk,?_,Nat.zero_le _⟩
   have s:=split2 (cs:=cs) (a:=1) (b:=4) hl
   have q0:(cs.drop 0).take 1=[.int .i64 z]:=e0
   rw [s,q0,e1]
   rfl) hf
 exact ⟨S,NS,cS,λi=>(T i).1,λi=>(T i).2,e,hok,hls,hn⟩
set_option maxRecDepth 100000 in
theorem open_case {H:Type} {enc:TypeId×Value→H} {W:World} {r:Reach} {b0:Nat} {v:Value} {d:DataW H} {ps:List MemPlace}
  (hval:Value.okWide Tryz.prog W r b0 28 v) (h:DataW.Trod enc Tryz.prog W 0 (λ_=>true) true 28 v d ps) :
  ∃ (sd:List UInt8) (A:Option Addr) (m:List UInt8) (c:Nat) (R:Option Addr) (NR cR:Nat) (a:Nat→Option Addr) (nk ck:Nat→Nat) (X Y:Nat→Nat→Nat) (I:Nat→Nat→Bool) (S:Option Addr) (NS cS:Nat) (At:Nat→Int) (sx:Nat→Nat),
   v=csv sd [.slice A m.length c,.slice R NR cR,.slice S NS cS]∧sd.length=32∧(m.length≤c∧c≤9223372036854775807∧Sh.Src W A m)∧((∀ i k,X i k<K4)∧(∀ i k,Y i k<K4)∧Lst W 1 R NR (λi=>[.slice (a i) (nk i) (ck i)])∧∀ i,i<NR→Lst W 9 (a i) (nk i) (λk=>pml (X i k) (Y i k) (I i k)))∧((∀ i,sx i<K4)∧Lst W 5 S NS (λi=>sec5 (At i) (sx i)))∧m.length≤Rows.uptoBulk d∧NR≤Rows.uptoBulk d∧(∀ i,nk i≤Rows.uptoBulk d)∧NS≤Rows.uptoBulk d:=by
 have ht:=Tryz.underlying28
 obtain ⟨⟨cs⟩,rfl,hsz⟩:=okWide_struct ht hval
 rw [show Tryz.prog.cellsOf 28=35 by kernel_rfl] at hsz
 have hl:cs.length=32+(1+(1+1)):=by simpa using hsz
 obtain ⟨fuel,hf⟩:=h
 obtain ⟨y0,y1,y2,y3,n,hx,_,g0,g1,g2,g3⟩:=Joins.trod_struct4 ht (by simpa [Value.cells] using hf)
 have s:=split4 hl
 obtain ⟨sd,hsd,e0⟩:=open_bytes (P:=Tryz.prog) Tryz.underlying23 Tryz.underlying5 (by kernel_rfl) (by kernel_rfl) g0
 obtain ⟨A,m,c,e1,hc1,hc2,hs1,hm⟩:=open_textD g1
 obtain ⟨R,NR,cR,a,nk,ck,X,Y,I,e2,hX,hY,hnk,hlr,hlk,hNR⟩:=open_ringsD g2
 obtain ⟨S,NS,cS,At,sx,e3,hsx,hls,hNS⟩:=open_secretsD g3
 simp only [Prod.mk.injEq] at hx
 have hd:Rows.uptoBulk d=Rows.uptoBulk y0.1+(Rows.uptoBulk y1.1+(Rows.uptoBulk y2.1+(Rows.uptoBulk y3.1+0)))+1:=by rw [hx.1]; rfl
 refine ⟨sd,A,m,c,R,NR,cR,a,nk,ck,X,Y,I,S,NS,cS,At,sx,?_,hsd,⟨hc1,hc2,hs1⟩,⟨hX,hY,hlr,hlk⟩,⟨hsx,hls⟩,by omega,by omega,λi=>?_,by omega⟩
 ·have q0:(cs.drop 0).take 32=sd.map bv:=e0
  have q1:(cs.drop 32).take 1=[.slice A m.length c]:=e1
  have q2:(cs.drop (32+1)).take 1=[.slice R NR cR]:=e2
  have q3:(cs.drop (32+1+1)).take 1=[.slice S NS cS]:=e3
  rw [s,q0,q1,q2,q3]
  rfl
 ·have:=hnk i
  omega
end Cu
end
end Go.Proofs.YtlooclodlpcglaaGreatDoor
