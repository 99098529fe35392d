/-
  Texts of ours, put together: ManA, RingG, RingO, RingR, RingS, RingT, RingU, SymN, RingV, RingP, RingQ, RingSignsL, PLift7, PLift8, PLift9, RingW, RingY, ScInv, ScRefPow, RingX, RingZ, RingAA, RingAB, RingAC, RingAD, RingAE, RingAF, RingAG, RingAH, SymG2, RingAI, RingAJ, RingAK.
-/
import Derived.Test.YtmennpefjofhjaaGreatDoorBC5
set_option linter.unusedVariables false
set_option linter.unusedSimpArgs false
namespace Go.Proofs.YtmennpefjofhjaaGreatDoor
section
namespace Cu
open Go.RowKit Sy
section
variable {x:Nat→Nat} {m:List UInt8}
end
section
variable {l:List (List UInt8×List UInt8)} {m:List UInt8}
theorem Lst_ext {w:World} {s n:Nat} {A:Option Addr} {e e':Nat→List Value} (h:Lst w s A n e) (he:∀ i,i<n→e i=e' i):Lst w s A n e':=by
 obtain ⟨g,o,h⟩:=h
 refine ⟨g,o,λhn=>?_⟩
 obtain ⟨h1,h2,h3⟩:=h hn
 exact ⟨h1,h2,λj hj=>by rw [← he j hj]; exact h3 j hj⟩
end
end Cu
end
section
namespace Cu
open Go.RowKit Sy
noncomputable def infInt:TypeInfo:=(Tryz.prog.info? 3).getD default
theorem info_int:Tryz.prog.info? 3=some infInt:=by kernel_rfl
theorem one_intG (z:Int):∀ u∈[Value.int .i64 z],u.oneCell'=true:=λu hu=>by rw [List.mem_singleton.1 hu]; rfl
def szR (n:Nat→Nat) (k:Nat):List (List Value):=(List.range k).map λi=>[.int .i64 ((n i:Nat):Int)]
theorem szR_len (n:Nat→Nat) (k:Nat):(szR n k).length=k:=by simp [szR]
theorem szR_succ (n:Nat→Nat) (k:Nat):szR n (k+1)=szR n k++[[.int .i64 ((n k:Nat):Int)]]:=by
 unfold szR
 rw [List.range_succ,List.map_append]
 rfl
theorem szR_get {n:Nat→Nat} {k i:Nat} (hi:i<k):(szR n k).getD i []=[.int .i64 ((n i:Nat):Int)]:=by
 unfold szR
 rw [List.getD_eq_getElem?_getD,List.getElem?_map,List.getElem?_range hi]
 rfl
def rgtB (NR:Nat) (n:Nat→Nat) (X Y:Nat→Nat→Nat) (I:Nat→Nat→Bool):Bool:=szB NR n && !(List.range NR).any (badR n X Y I)
set_option maxHeartbeats 4000000 in
set_option maxRecDepth 100000 in
theorem rightG_any (w:World) (R:Option Addr) (NR cR:Nat) (a:Nat→Option Addr) (n c:Nat→Nat) (X Y:Nat→Nat→Nat) (I:Nat→Nat→Bool) (hX:∀ i k,X i k<K4) (hY:∀ i k,Y i k<K4) (hNR:NR≤4611686018427387904) (hn:∀ i,n i≤4611686018427387904) (hlr:Lst w 1 R NR (λi=>[.slice (a i) (n i) (c i)])) (hlk:∀ i,i<NR→Lst w 9 (a i) (n i) (λk=>pml (X i k) (Y i k) (I i k))) (hN9:NR≤17592186044416):Calls Tryz.prog 44 #[.slice R NR cR] w (Gets w (.bool (rgtB NR n X Y I))):=by
 have hlr0:=hlr
 obtain ⟨gR,oR,hR⟩:=hlr
 refine Sy.enter (args:=[.slice R NR cR]) Tryz.func44 rfl kL ?_
 refine sC ?_
 refine sP (.bool false) ?_
 refine sA ?_
 refine sP (.slice none 0 0) ?_
 refine sG<|Sy.seq<|sC ?_
 refine sP (.slice R NR cR)<|sP (.int .i64 ((NR:Nat):Int))<|sP (.int .i64 0) ?_
 refine sG<|Sy.block ?_
 refine Sy.loopT (Y:=Slc) NR (λk1 y1=>[(0,.slice R NR cR),(3,y1.v),(6,.slice R NR cR),(7,.int .i64 ((NR:Nat):Int)),(8,.int .i64 ((k1:Nat):Int))]) (λk1 y1=>[]++(y1.bl++[])) (λk1 y1=>y1.Is 3 1 (szR n k1)) ⟨.slice none 0 0,[]⟩ (Slc.Is.nil _ _) (all_cons kR (all_cons kR (all_cons kR (all_cons kR (all_cons kR all_nil))))) (λw hw=>hw) (λk1 y1 hk1 hh1=>?_)
 refine sC ?_
 obtain ⟨b1,hb1⟩:∃ z:Bool,z=decide (k1<NR):=⟨_,rfl⟩
 refine sS (.bool b1) (Quiet.pure (exec_int .lss _ _ _ .i64 _ _ _ rfl rfl rfl (int_lss _ _ _ _ _ (by rw [hb1]; exact decide_eq_decide.2 (by omega))))) ?_
 refine sG<|Sy.seq ?_
 cases b1
 ·have lb1:¬ (k1<NR):=of_decide_eq_false hb1.symm
  refine sU<|Sy.exit<|Sy.then_exit<|Sy.then_exit ?_
  obtain rfl:NR=k1:=by omega
  refine Sy.in_exit<|sB ?_
  refine sP (y1.v) ?_
  obtain ⟨b2,hb2⟩:∃ z:Bool,z=szB NR n:=⟨_,rfl⟩
  refine sS (.bool b2) (qG 69 #[y1.v] (λw hw=>by obtain ⟨A,c2,hv,_,_,hl⟩:=hh1.out; rw [szR_len] at hv hl; rw [hv,hb2]; exact allowed_any w A NR c2 n hNR (Lst_ext (hl hw (λb hb=>List.mem_append.2 (.inr (List.mem_append.2 (.inl hb))))) (λi hi=>szR_get hi))))<|sP (.bool b2) ?_
  cases b2
  ·refine sN<|sN<|sN ?_
   refine sP (.bool false)<|sP (.bool false) ?_
   refine sG<|Sy.ret ?_
   rw [show (.bool (rgtB NR n X Y I):Value)=.bool false from by unfold rgtB; rw [← hb2]; rfl]
   exact rV (.bool false) rfl
  ·refine sP (.slice R NR cR) ?_
   obtain ⟨b3,hb3⟩:∃ z:Bool,z=(List.range NR).any (badR n X Y I):=⟨_,rfl⟩
   refine sS (.bool b3) (Quiet.callS 102 #[.slice R NR cR,.func (.func 103) #[] #[]] kF (λw hw=>by rw [hb3]; exact cnr_any w R NR cR a n c X Y I hX hY hNR hn (hlr0.below hw.below) (λi hi=>(hlk i hi).below hw.below))) ?_
   cases b3
   ·refine sP (.bool true)<|sP (.bool true)<|sP (.bool true) ?_
    refine sG<|Sy.ret ?_
    rw [show (.bool (rgtB NR n X Y I):Value)=.bool true from by unfold rgtB; rw [← hb2, ← hb3]; rfl]
    exact rV (.bool true) rfl
   ·refine sP (.bool false)<|sP (.bool false)<|sP (.bool false) ?_
    refine sG<|Sy.ret ?_
    rw [show (.bool (rgtB NR n X Y I):Value)=.bool false from by unfold rgtB; rw [← hb2, ← hb3]; rfl]
    exact rV (.bool false) rfl
 ·have lb1:k1<NR:=of_decide_eq_true hb1.symm
  refine sT<|Sy.skip<|Sy.then_<|Sy.seq<|Sy.block<|sC ?_
  refine sS (.pointer (some ⟨gR,oR+k1*1,none⟩)) (Quiet.pure (exec_atO 25 _ _ _ R gR oR NR cR k1 1 .i64 (hR (by omega)).1 rfl rfl rfl Tryz.underlying25 kF (by omega)))<|sS (.slice (a k1) (n k1) (c k1)) (Quiet.thereOne gR (oR+k1*1) 45 _ _ rfl kR (hR (by omega)).2.1 _ (range_one ((hR (by omega)).2.2 k1 (by omega)) 0 rfl) Tryz.underlying45 rfl)<|sP (.slice (a k1) (n k1) (c k1)) ?_
  refine sG<|Sy.region ?_
  refine sP (y1.v)<|sP (.slice (a k1) (n k1) (c k1))<|sP (.int .i64 (((n k1):Nat):Int)) ?_
  refine Sy.make kR 3 #[.int .i64 (((n k1):Nat):Int)] (λg=>.slice (some ⟨g,0,none⟩) 1 1) kF (λg0=>?_)
  refine Sy.movT ?_
  refine Sy.appendR kR 57 3 _ _ 1 8 Tryz.underlying57 info_int rfl rfl rfl rfl (by decide) _ _ rfl hh1 kR [.int .i64 (((n k1):Nat):Int)] rfl (one_intG _) 0 g0 3 kR kR (by rw [szR_len]; omega) (by rw [szR_len]; simp only [maxLen]; omega) (λr1 hr1=>?_)
  refine sP (r1.v) ?_
  refine Sy.nil<|Sy.in_<|Sy.then_<|Sy.region ?_
  refine sS (.int .i64 ((k1+1:Nat):Int)) (Quiet.pure (exec_int .add _ _ _ .i64 _ _ _ rfl rfl rfl (int_add _ _ _ _ _ ((wrap_i64 (by omega) (by omega)).trans (by omega)))))<|sP (.int .i64 ((k1+1:Nat):Int)) ?_
  refine Sy.nil ?_
  exact Sy.againT r1 (by omega) (by rw [szR_succ]; exact hr1) (all_cons kR (all_cons kR (all_cons kR (all_cons kR (all_cons kR all_nil))))) (λw hw=>hw.pick [] (by decide) kR)
end Cu
end
section
namespace Cu
open Go.RowKit Sy
set_option maxRecDepth 100000
set_option maxHeartbeats 4000000
theorem rgt_small {NR:Nat} {nk:Nat→Nat} {X Y:Nat→Nat→Nat} {I:Nat→Nat→Bool} (h:true=rgtB NR nk X Y I):NR≤32∧(∀ i,i<NR→nk i≤64)∧(∀ i,i<NR→1≤nk i)∧1≤NR:=by
 unfold rgtB at h
 have q:=(szB_iff NR nk).1 (Bool.and_eq_true_iff.1 h.symm).1
 exact ⟨q.2.1,λi hi=>(q.2.2 i hi).2,λi hi=>(q.2.2 i hi).1,q.1⟩
theorem fit_parts {At:Nat→Int} {sx:Nat→Nat} {nk:Nat→Nat} {X Y:Nat→Nat→Nat} {I:Nat→Nat→Bool} {NS NR:Nat} (h:true=fitB At sx nk X Y I NS NR):NS=NR∧∀ i,i<NR→At i=(((At i).toNat:Nat):Int)∧(At i).toNat<nk i∧openB (sx i) (X i (At i).toNat) (Y i (At i).toNat) (I i (At i).toNat)=true:=by
 unfold fitB at h
 obtain ⟨h1,h2⟩:=Bool.and_eq_true_iff.1 h.symm
 refine ⟨of_decide_eq_true h1,λi hi=>?_⟩
 have q:=List.all_eq_true.1 h2 i (List.mem_range.2 hi)
 unfold fitI at q
 rw [Bool.and_eq_true,Bool.and_eq_true,decide_eq_true_iff,decide_eq_true_iff] at q
 exact ⟨by omega,by omega,q.2.2⟩
def vfB (m:List UInt8) (NR:Nat) (nk:Nat→Nat) (X Y:Nat→Nat→Nat) (I:Nat→Nat→Bool) (s:Nat→Nat→Nat) (d:List UInt8) (NW:Nat) (sn:Nat→Nat):Bool:=rgtB NR nk X Y I && chB s (rgM m NR nk X Y I) X Y I d NW NR sn nk
theorem ChR.tup {b:Bool} {f:Nat→Nat→List Value} {nk:Nat→Nat} {NR:Nat} {v:Value} {M:Blocks} (h:ChR b f nk NR v M):∃ u,v=.tuple #[u,.bool b]:=by
 rcases h with ⟨rfl,rfl,_⟩ | ⟨rfl,u,rfl,_⟩ <;> exact ⟨_,rfl⟩
def SgnR (br bf:Bool) (d:List UInt8) (f:Nat→Nat→List Value) (nk:Nat→Nat) (NR:Nat) (v:Value) (M:Blocks):Prop :=
 (br=false∧v=.tuple #[sgv33 (List.replicate 32 0) none 0 0,.int .i64 80]∧M=[])∨(br=true∧bf=false∧v=.tuple #[sgv33 (List.replicate 32 0) none 0 0,.int .i64 81]∧M=[])∨(br=true∧bf=true∧∃ u,v=.tuple #[u,.int .i64 0]∧SgGives d f nk NR u M)
theorem VerifyG_any (w:World) (A:Option Addr) (m:List UInt8) (n c:Nat) (hm:m.length=n) (hm9:n≤999000000) (hc:n≤c) (hc2:c≤9223372036854775807) (hs0:Sh.Src w A m) (R:Option Addr) (NR cR:Nat) (a:Nat→Option Addr) (nk ck:Nat→Nat) (X Y:Nat→Nat→Nat) (I:Nat→Nat→Bool) (hX:∀ i k,X i k<K4) (hY:∀ i k,Y i k<K4) (hNR:NR≤4611686018427387904) (hnk:∀ i,nk i≤4611686018427387904) (hlr:Lst w 1 R NR (λi=>[.slice (a i) (nk i) (ck i)])) (hlk:∀ i,i<NR→Lst w 9 (a i) (nk i) (λk=>pml (X i k) (Y i k) (I i k))) (hN9:NR≤17592186044416) (d:List UInt8) (hd:d.length=32) (W:Option Addr) (NW cW:Nat) (sa:Nat→Option Addr) (sn sc:Nat→Nat) (s:Nat→Nat→Nat) (hsc:∀ i k,s i k<K4) (hNW:NW≤4611686018427387904) (hsn9:∀ i,i<NW→sn i≤4611686018427387904) (hlw:Lst w 1 W NW (λi=>[.slice (sa i) (sn i) (sc i)])) (hls:∀ i,i<NW→Lst w 4 (sa i) (sn i) (λk=>fws (s i k))) (ht:Sh.TabAt w 1):Calls Tryz.prog 15 #[.slice A n c,.slice R NR cR,sgv33 d W NW cW] w (Gets w (.bool (vfB m NR nk X Y I s d NW sn))):=by
 have hlr0:=hlr
 obtain ⟨gR,oR,hR⟩:=hlr
 refine Sy.enter (args:=[.slice A n c,.slice R NR cR,sgv33 d W NW cW]) Tryz.func15 rfl kL ?_
 refine sC ?_
 refine sM 31 (sgc33 d W NW cW).toArray (λg0=>?_)
 refine sP (.bool false) ?_
 refine sG<|Sy.seq<|sC ?_
 refine sP (.slice R NR cR) ?_
 obtain ⟨b1,hb1⟩:∃ z:Bool,z=rgtB NR nk X Y I:=⟨_,rfl⟩
 refine sS (.bool b1) (qG 44 #[.slice R NR cR] (λw hw=>by rw [hb1]; exact rightG_any w R NR cR a nk ck X Y I hX hY hNR hnk (hlr0.below hw.below) (λi hi=>(hlk i hi).below hw.below) hN9)) ?_
 cases b1
 ·refine sP (.bool true) ?_
  refine sG<|sT<|sC ?_
  refine sP (.bool false) ?_
  refine sG<|Sy.ret<|Sy.then_ret ?_
  rw [show (.bool (vfB m NR nk X Y I s d NW sn):Value)=.bool false from by unfold vfB; rw [← hb1]; rfl]
  exact rV (.bool false) rfl
 ·obtain ⟨hN32,hn64,hn1,hN1⟩:=rgt_small hb1
  refine sP (.bool false) ?_
  refine sG<|sU<|Sy.skip ?_
  refine sR (λj=>false) ?_
  refine sZ 0 rfl (.slice A n c)<|sZ 1 rfl (.slice R NR cR) ?_
  obtain ⟨bM,hbM⟩:∃ l,l=rgM m NR nk X Y I:=⟨_,rfl⟩
  have hbl:bM.length=32:=by rw [hbM]; exact rgM_len _ _ _ _ _ _
  refine sD 2 rfl (bndv R NR cR bM) (qG 46 #[.slice A n c,.slice R NR cR] (λw hw=>by rw [hbM]; exact bind_any w R NR cR a nk ck X Y I hX hY hNR hnk (hlr0.below hw.below) (λi hi=>(hlk i hi).below hw.below) hN32 hn64 A m n c hm hm9 hc hc2 (hs0.below hw.below) (ht.below hw.below ht.lt)))<|sD 3 rfl (sgv33 d W NW cW) (Quiet.load 0 g0 0 33 31 31 (sgc33 d W NW cW).toArray _ _ rfl kR kR Tryz.underlying31 rfl kR _ (sg_whole hd) (sg_fit hd)) ?_
  obtain ⟨b2,hb2⟩:∃ z:Bool,z=chB s bM X Y I d NW NR sn nk:=⟨_,rfl⟩
  refine Sy.callND 4 rfl kR kR 48 #[bndv R NR cR bM,sgv33 d W NW cW] kF (ChR b2 (eF s bM X Y I d) nk NR) (λw hw=>by rw [hb2]; exact challengesG_any w R NR cR a nk ck X Y I hX hY hNR hnk (hlr0.below hw.below) (λi hi=>(hlk i hi).below hw.below) hN32 hn64 hn1 bM hbl d hd W NW cW sa sn sc s hsc hNW hsn9 (hlw.below hw.below) (λi hi=>(hls i hi).below hw.below) (ht.below hw.below ht.lt)) (λvq Mq hR0=>?_)
  obtain ⟨u,rfl⟩:=hR0.tup
  refine sZ 5 rfl (.tuple #[u,.bool b2])<|sZ 6 rfl (u)<|sZ 7 rfl (.bool b2)<|sZ 8 rfl (u)<|sZ 9 rfl (.bool b2) ?_
  refine sE ?_
  refine sB ?_
  refine sP (.bool b2)<|sP (.bool b2) ?_
  refine sG<|Sy.ret ?_
  rw [show (.bool (vfB m NR nk X Y I s d NW sn):Value)=.bool b2 from by unfold vfB; rw [← hb1, ← hbM, ← hb2]; rfl]
  exact rV (.bool b2) rfl
theorem SignG_any (w:World) (sd:List UInt8) (hsd:sd.length=32) (A:Option Addr) (m:List UInt8) (n c:Nat) (hm:m.length=n) (hm9:n≤999000000) (hc:n≤c) (hc2:c≤9223372036854775807) (hs0:Sh.Src w A m) (R:Option Addr) (NR cR:Nat) (a:Nat→Option Addr) (nk ck:Nat→Nat) (X Y:Nat→Nat→Nat) (I:Nat→Nat→Bool) (hX:∀ i k,X i k<K4) (hY:∀ i k,Y i k<K4) (hNR:NR≤4611686018427387904) (hnk:∀ i,nk i≤4611686018427387904) (hlr:Lst w 1 R NR (λi=>[.slice (a i) (nk i) (ck i)])) (hlk:∀ i,i<NR→Lst w 9 (a i) (nk i) (λk=>pml (X i k) (Y i k) (I i k))) (hN9:NR≤17592186044416) (S:Option Addr) (NS cS:Nat) (At:Nat→Int) (sx:Nat→Nat) (hsx:∀ i,sx i<K4) (hNS:NS≤4611686018427387904) (hls:Lst w 5 S NS (λi=>sec5 (At i) (sx i))) (ht:Sh.TabAt w 1):Calls Tryz.prog 13 #[.agg (sd.map bv).toArray,.slice A n c,.slice R NR cR,.slice S NS cS] w (GetsN w (SgnR (rgtB NR nk X Y I) (fitB At sx nk X Y I NS NR) (sgD (rgM m NR nk X Y I) sd X Y I (λi=>(At i).toNat) nk NR) (sgF (rgM m NR nk X Y I) sd X Y I (λi=>(At i).toNat) sx (sgD (rgM m NR nk X Y I) sd X Y I (λi=>(At i).toNat) nk NR)) nk NR)):=by
 have hls0:=hls
 obtain ⟨gS,oS,hS⟩:=hls
 have hlr0:=hlr
 obtain ⟨gR,oR,hR⟩:=hlr
 refine Sy.enter (args:=[.agg (sd.map bv).toArray,.slice A n c,.slice R NR cR,.slice S NS cS]) Tryz.func13 rfl kL ?_
 refine sC ?_
 refine sM 23 (sd.map bv).toArray (λg0=>?_)
 refine sM 31 (sgc33 (List.replicate 32 (0:UInt8)) none 0 0).toArray (λg1=>?_)
 refine sP (.int .i64 0) ?_
 refine sG<|Sy.seq<|sC ?_
 refine sP (.slice R NR cR) ?_
 obtain ⟨b1,hb1⟩:∃ z:Bool,z=rgtB NR nk X Y I:=⟨_,rfl⟩
 refine sS (.bool b1) (qG 44 #[.slice R NR cR] (λw hw=>by rw [hb1]; exact rightG_any w R NR cR a nk ck X Y I hX hY hNR hnk (hlr0.below hw.below) (λi hi=>(hlk i hi).below hw.below) hN9)) ?_
 cases b1
 ·refine sP (.bool true) ?_
  refine sG<|sT<|sC ?_
  refine sP (sgv33 (List.replicate 32 (0:UInt8)) none 0 0)<|sW 1 g1 31 (sgc33 (List.replicate 32 (0:UInt8)) none 0 0).toArray (sgc33 (List.replicate 32 (0:UInt8)) none 0 0).toArray (Writes.row 31 (sgc33 (List.replicate 32 (0:UInt8)) none 0 0) 33 _ _ rfl kR kR kR (sg_len List.length_replicate) (by rw [List.size_toArray,sg_len List.length_replicate]) sg_one)<|sP (.int .i64 80) ?_
  refine sG<|Sy.ret<|Sy.then_ret ?_
  exact retGM2 [] rfl (v:=sgv33 (List.replicate 32 (0:UInt8)) none 0 0) (u:=.int .i64 80) (.inl (Res.cell (ty':=31) g1 1 (sgc33 (List.replicate 32 (0:UInt8)) none 0 0).toArray _ kR kR Tryz.underlying31 rfl (by rw [List.size_toArray,sg_len List.length_replicate]; kernel_rfl) rfl)) (.inl (show _=_ by kernel_rfl)) (λ_ hw=>hw.none) (.inl ⟨hb1.symm,rfl,rfl⟩)
 ·obtain ⟨hN32,hn64,hn1,hN1⟩:=rgt_small hb1
  refine sP (.bool false) ?_
  refine sG<|sU<|Sy.skip<|Sy.then_<|Sy.seq<|sC ?_
  refine sP (.slice S NS cS)<|sP (.slice R NR cR) ?_
  obtain ⟨b2,hb2⟩:∃ z:Bool,z=fitB At sx nk X Y I NS NR:=⟨_,rfl⟩
  refine sS (.bool b2) (qG 45 #[.slice S NS cS,.slice R NR cR] (λw hw=>by rw [hb2]; exact fit_any w S NS cS At sx hsx hNS (hls0.below hw.below) R NR cR a nk ck X Y I hX hY hNR hnk (hlr0.below hw.below) (λi hi=>(hlk i hi).below hw.below))) ?_
  cases b2
  ·refine sP (.bool true) ?_
   refine sG<|sT<|sC ?_
   refine sP (sgv33 (List.replicate 32 (0:UInt8)) none 0 0)<|sW 1 g1 31 (sgc33 (List.replicate 32 (0:UInt8)) none 0 0).toArray (sgc33 (List.replicate 32 (0:UInt8)) none 0 0).toArray (Writes.row 31 (sgc33 (List.replicate 32 (0:UInt8)) none 0 0) 33 _ _ rfl kR kR kR (sg_len List.length_replicate) (by rw [List.size_toArray,sg_len List.length_replicate]) sg_one)<|sP (.int .i64 81) ?_
   refine sG<|Sy.ret<|Sy.then_ret ?_
   exact retGM2 [] rfl (v:=sgv33 (List.replicate 32 (0:UInt8)) none 0 0) (u:=.int .i64 81) (.inl (Res.cell (ty':=31) g1 1 (sgc33 (List.replicate 32 (0:UInt8)) none 0 0).toArray _ kR kR Tryz.underlying31 rfl (by rw [List.size_toArray,sg_len List.length_replicate]; kernel_rfl) rfl)) (.inl (show _=_ by kernel_rfl)) (λ_ hw=>hw.none) (.inr (.inl ⟨hb1.symm,hb2.symm,rfl,rfl⟩))
  ·obtain ⟨hNE,hfp⟩:=fit_parts hb2
   obtain rfl:NR=NS:=hNE.symm
   refine sP (.bool false) ?_
   refine sG<|sU<|Sy.skip ?_
   refine sR (λj=>j == 6) ?_
   refine sZ 0 rfl (.slice A n c)<|sZ 1 rfl (.slice R NR cR) ?_
   obtain ⟨bM,hbM⟩:∃ l,l=rgM m NR nk X Y I:=⟨_,rfl⟩
   have hbl:bM.length=32:=by rw [hbM]; exact rgM_len _ _ _ _ _ _
   refine sD 2 rfl (bndv R NR cR bM) (qG 46 #[.slice A n c,.slice R NR cR] (λw hw=>by rw [hbM]; exact bind_any w R NR cR a nk ck X Y I hX hY hNR hnk (hlr0.below hw.below) (λi hi=>(hlk i hi).below hw.below) hN32 hn64 A m n c hm hm9 hc hc2 (hs0.below hw.below) (ht.below hw.below ht.lt)))<|sD 3 rfl (.agg (sd.map bv).toArray) (Quiet.load 0 g0 0 32 23 23 (sd.map bv).toArray _ _ rfl kR kR Tryz.underlying23 rfl kR _ (key_whole sd hsd) (key_size sd hsd))<|sZ 4 rfl (.slice S NR cS) ?_
   obtain ⟨d0,hd0⟩:∃ l,l=(sgD bM sd X Y I (λi=>(At i).toNat) nk NR):=⟨_,rfl⟩
   have hdl:d0.length=32:=by rw [hd0]; exact sgD_len _
   refine Sy.callND 5 rfl kR kR 47 #[bndv R NR cR bM,.agg (sd.map bv).toArray,.slice S NR cS] kF (SgGives d0 (sgF bM sd X Y I (λi=>(At i).toNat) sx d0) nk NR) (λw hw=>by rw [hd0]; exact signG_any w R NR cR a nk ck X Y I hX hY hNR hnk (hlr0.below hw.below) (λi hi=>(hlk i hi).below hw.below) hN32 hn64 hn1 bM hbl sd hsd S cS (λi=>(At i).toNat) sx hsx (Lst_ext (hls0.below hw.below) (λi hi=>by rw [← (hfp i hi).1])) (λi hi=>(hfp i hi).2.1) (ht.below hw.below ht.lt)) (λvq Mq hR0=>?_)
   obtain ⟨gF,r0,rfl,rfl,hr0⟩:=hR0
   refine Sy.permD (M:=[(g0,23,(sd.map bv).toArray),(g1,31,(sgc33 (List.replicate 32 (0:UInt8)) none 0 0).toArray),(gF,51,(rowsC r0 NR))]++(rowsB r0 NR++[])) (by rw [List.append_nil]; exact List.Perm.refl _) ?_
   refine sX 6 rfl 1 g1 31 (sgc33 (List.replicate 32 (0:UInt8)) none 0 0).toArray (sgc33 d0 (some ⟨gF,0,none⟩) NR NR).toArray (Writes.row 31 (sgc33 d0 (some ⟨gF,0,none⟩) NR NR) 33 _ _ rfl kR kR kR (sg_len hdl) (by rw [List.size_toArray,sg_len List.length_replicate]) sg_one) ?_
   refine Sy.setTD ?_
   refine Sy.anyOf [7] kR (by decide) (Sy.each1 ?_)
   refine Sy.oneQuiet rfl kR (.int .i64 0) qP ?_
   refine sI ?_
   refine Sy.ret ?_
   exact retGM2 ((gF,51,rowsC r0 NR)::rowsB r0 NR) rfl (v:=sgv33 d0 (some ⟨gF,0,none⟩) NR NR) (u:=.int .i64 0) (.inl (Res.cell (ty':=31) g1 1 (sgc33 d0 (some ⟨gF,0,none⟩) NR NR).toArray _ kR kR Tryz.underlying31 rfl (by rw [List.size_toArray,sg_len hdl]; kernel_rfl) rfl)) (.inl (show _=_ by kernel_rfl)) (λw hw=>by simpa using St.pick (pre:=[(g0,23,(sd.map bv).toArray),(g1,31,(sgc33 d0 (some ⟨gF,0,none⟩) NR NR).toArray),(gF,51,(rowsC r0 NR))]) (M:=[(gF,51,rowsC r0 NR)]) [2] (by decide) kR hw) (.inr (.inr ⟨hb1.symm,hb2.symm,_,rfl,gF,r0,by rw [hd0,hbM],rfl,by rw [hd0,hbM] at hr0; exact hr0⟩))
end Cu
end
section
namespace Cu
open Go.RowKit Sy
set_option maxRecDepth 100000
set_option maxHeartbeats 4000000
end Cu
end
section
namespace Cu
open Go.RowKit Sy
set_option maxRecDepth 100000
set_option maxHeartbeats 4000000
section
variable {NR:Nat} {nk:Nat→Nat} {X Y:Nat→Nat→Nat} {I:Nat→Nat→Bool}
end
def bytesR (l:List UInt8):List (List Value):=l.map λb=>[bv b]
theorem bytesR_len (l:List UInt8):(bytesR l).length=l.length:=List.length_map ..
theorem bytesR_flat:∀ l:List UInt8,(bytesR l).flatten=l.map bv
 | []=>rfl
 | b::l=>by
  show [bv b]++(bytesR l).flatten=_
  rw [bytesR_flat l]
  rfl
theorem bytesR_one (l:List UInt8):∀ y∈bytesR l,y.length=1:=λy hy=>by obtain ⟨b,_,rfl⟩:=List.mem_map.1 hy; rfl
theorem bytesR_cell (l:List UInt8):∀ y∈bytesR l, ∀ u∈y,u.oneCell'=true:=λy hy u hu=>by
 obtain ⟨b,_,rfl⟩:=List.mem_map.1 hy
 rw [List.mem_singleton.1 hu]
 rfl
theorem bytesR_add (a b:List UInt8):bytesR (a++b)=bytesR a++bytesR b:=List.map_append
theorem From.src {w0:Base} {L:Blocks} {A:Option Addr} {l:List UInt8} (hs:Sh.Src w0.world A l):From w0 L A (bytesR l).flatten:=λw hw=>by
 rw [bytesR_flat]
 by_cases h0:l=[]
 ·subst h0; exact .inl rfl
 ·obtain ⟨b,o,rfl,h2,h3⟩:=hs h0
  refine .inr ⟨_,rfl,λj u hj=>?_⟩
  rw [addr_off]
  rw [List.getElem?_map] at hj
  cases hx:l[j]? with
  | none=>rw [hx] at hj; cases hj
  | some x =>
   rw [hx] at hj
   injection hj with hj
   rw [← hj]
   exact (hw.below.cell (p:=⟨b,o+j,none⟩) h2).trans (h3 j x hx)
theorem From.own {w0:Base} {L:Blocks} {i g:Nat} {t:TypeId} {l:List UInt8} {sp:List Value} (hL:L[i]? = some (g,t,(l.map bv++sp).toArray)):From w0 L (some ⟨g,0,none⟩) (bytesR l).flatten:=by
 rw [bytesR_flat]
 refine From.blk hL ?_
 show ((l.map bv++sp).drop 0).take _=_
 rw [List.drop_zero,List.take_left' rfl]
theorem From.arr {w0:Base} {L:Blocks} {i g:Nat} {t:TypeId} {l:List UInt8} (hL:L[i]? = some (g,t,(l.map bv).toArray)):From w0 L (some ⟨g,0,none⟩) (bytesR l).flatten:=by
 rw [bytesR_flat]
 refine From.blk hL ?_
 show ((l.map bv).drop 0).take _=_
 rw [List.drop_zero,List.take_of_length_le (Nat.le_refl _)]
theorem bytesR_start {g:Nat} {e:TypeId}:Slc.Is ⟨.slice (some ⟨g,0,none⟩) 0 0,[(g,e,#[])]⟩ e 1 (bytesR []):=Slc.Is.mk' (cs:=[]) (by simp [bytesR]) (by simp [bytesR]) rfl rfl rfl (Nat.le_refl _) (Nat.zero_le _)
theorem src_row {w:World} {A:Option Addr} {n:Nat} {l:List UInt8} (hn:l.length=n) (h:Lst w 1 A n (λi=>(bytesR l).getD i [])):Sh.Src w A l:=λhne=>by
 obtain ⟨g,o,q⟩:=h
 obtain ⟨q1,q2,q3⟩:=q (by rw [← hn]; exact List.length_pos_iff.2 hne)
 refine ⟨g,o,q1,q2,λj u hj=>?_⟩
 have hl:=(List.getElem?_eq_some_iff.1 hj).1
 have q4:w.rangeAt g (o+j*1) ((bytesR l).getD j []):=q3 j (by omega)
 rw [List.getD_eq_getElem?_getD,show (bytesR l)[j]? = some [bv u] from by unfold bytesR; rw [List.getElem?_map,hj]; rfl] at q4
 have q5:=range_one q4 0 rfl
 rwa [Nat.mul_one,Nat.add_zero] at q5
theorem row_tx {e:TypeId} {y:Slc} {l:List UInt8} (h:y.Is e 1 (bytesR l)):∃ A c,y.v=.slice A l.length c∧l.length≤c∧c≤maxLen∧∀ {w0:Base} {w:World} {L:Blocks},St w0 w L→(∀ b∈y.bl,b∈L)→Sh.Src w A l:=by
 obtain ⟨A,c,h1,h2,h3,h4⟩:=h.out
 rw [bytesR_len] at h1 h2 h4
 exact ⟨A,c,h1,h2,h3,λhw hb=>src_row rfl (h4 hw hb)⟩
noncomputable def infB9:TypeInfo:=(Tryz.prog.info? 5).getD default
theorem info_b8:Tryz.prog.info? 5=some infB9:=by kernel_rfl
end Cu
end
section
namespace Cu
open Go.RowKit Sy
section
variable {l:List UInt8} {j:Nat} {xt:Sh.Tx} {xb:Blocks} {w0:Base} {w:World} {L:Blocks}
end
end Cu
end
section
namespace Cu
open Go.RowKit Sy
section
variable (s v:Nat→Nat→Nat) (sn vn:Nat→Nat)
def rowSame (i:Nat):Bool:=decide (sn i=vn i) && (List.range (sn i)).all λj=>decide (s i j=v i j)
def sgSame (d d2:List UInt8) (NW NV:Nat):Bool:=decide (d=d2) && (decide (NW=NV) && (List.range NW).all (rowSame s v sn vn))
end
section
variable {s v:Nat→Nat→Nat} {sn vn:Nat→Nat} {d d2:List UInt8} {NW NV:Nat}
theorem sgSame_d (h:d≠d2):sgSame s v sn vn d d2 NW NV=false:=by unfold sgSame; rw [decide_eq_false h]; rfl
theorem sgSame_n (h:NW≠NV):sgSame s v sn vn d d2 NW NV=false:=by unfold sgSame; rw [decide_eq_false h,Bool.false_and,Bool.and_false]
theorem sgSame_row {k:Nat} (hk:k<NW) (h:rowSame s v sn vn k=false):sgSame s v sn vn d d2 NW NV=false:=by
 unfold sgSame
 rw [show (List.range NW).all (rowSame s v sn vn)=false from List.all_eq_false.2 ⟨k,List.mem_range.2 hk,by rw [h]; decide⟩,Bool.and_false,Bool.and_false]
theorem rowSame_n {i:Nat} (h:sn i≠vn i):rowSame s v sn vn i=false:=by unfold rowSame; rw [decide_eq_false h]; rfl
theorem rowSame_j {i j:Nat} (hj:j<sn i) (h:s i j≠v i j):rowSame s v sn vn i=false:=by
 unfold rowSame
 rw [show ((List.range (sn i)).all λj=>decide (s i j=v i j))=false from List.all_eq_false.2 ⟨j,List.mem_range.2 hj,by rw [decide_eq_false h]; decide⟩,Bool.and_false]
theorem rowSame_yes {i:Nat} (h1:sn i=vn i) (h2:∀ j,j<sn i→s i j=v i j):rowSame s v sn vn i=true:=by
 unfold rowSame
 rw [decide_eq_true h1,List.all_eq_true.2 λj hj=>decide_eq_true (h2 j (List.mem_range.1 hj))]
 rfl
theorem sgSame_yes (h0:d=d2) (h1:NW=NV) (h2:∀ i,i<NW→rowSame s v sn vn i=true):sgSame s v sn vn d d2 NW NV=true:=by
 unfold sgSame
 rw [decide_eq_true h0,decide_eq_true h1,List.all_eq_true.2 λi hi=>h2 i (List.mem_range.1 hi)]
 rfl
end
set_option maxHeartbeats 4000000 in
set_option maxRecDepth 100000 in
theorem same8_any (w:World) (d:List UInt8) (hd:d.length=32) (W:Option Addr) (NW cW:Nat) (sa:Nat→Option Addr) (sn sc:Nat→Nat) (s:Nat→Nat→Nat) (hsc:∀ i k,s i k<K4) (hNW:NW≤4611686018427387904) (hsn9:∀ i,i<NW→sn i≤4611686018427387904) (hlw:Lst w 1 W NW (λi=>[.slice (sa i) (sn i) (sc i)])) (hls:∀ i,i<NW→Lst w 4 (sa i) (sn i) (λk=>fws (s i k))) (d2:List UInt8) (hd2:d2.length=32) (V:Option Addr) (NV cV:Nat) (va:Nat→Option Addr) (vn vc:Nat→Nat) (v:Nat→Nat→Nat) (hv4:∀ i k,v i k<K4) (hNV:NV≤4611686018427387904) (hvn9:∀ i,i<NV→vn i≤4611686018427387904) (hlv:Lst w 1 V NV (λi=>[.slice (va i) (vn i) (vc i)])) (hlv4:∀ i,i<NV→Lst w 4 (va i) (vn i) (λk=>fws (v i k))):Calls Tryz.prog 27 #[sgv33 d W NW cW,sgv33 d2 V NV cV] w (Gets w (.bool (sgSame s v sn vn d d2 NW NV))):=by
 obtain ⟨gW,oW,hW⟩:=hlw
 obtain ⟨gV,oV,hV⟩:=hlv
 refine Sy.enter (args:=[sgv33 d W NW cW,sgv33 d2 V NV cV]) Tryz.func27 rfl kL ?_
 refine sC ?_
 refine sM 31 (sgc33 d W NW cW).toArray (λg0=>?_)
 refine sM 31 (sgc33 d2 V NV cV).toArray (λg1=>?_)
 refine sP (.bool false) ?_
 refine sG<|Sy.seq<|sC ?_
 refine sP (.pointer (some ⟨g0,0,none⟩))<|sS (.agg (d.map bv).toArray) (Quiet.load 0 g0 0 32 31 23 (sgc33 d W NW cW).toArray _ _ rfl kR kR Tryz.underlying23 rfl kR _ (sg_first hd) (sg_fits hd))<|sP (.pointer (some ⟨g1,0,none⟩))<|sS (.agg (d2.map bv).toArray) (Quiet.load 1 g1 0 32 31 23 (sgc33 d2 V NV cV).toArray _ _ rfl kR kR Tryz.underlying23 rfl kR _ (sg_first hd2) (sg_fits hd2)) ?_
 obtain ⟨b1,hb1⟩:∃ z:Bool,z=decide (d≠d2):=⟨_,rfl⟩
 refine sS (.bool b1) (Quiet.pure (λw=>by rw [hb1]; exact neq_digest w _ _ _ _ d d2 hd hd2 rfl rfl rfl))<|sP (.bool b1) ?_
 cases b1
 ·have lb1:¬ (d≠d2):=of_decide_eq_false hb1.symm
  have hdd:d=d2:=Decidable.of_not_not lb1
  refine sP (.pointer (some ⟨g0,32,none⟩))<|sS (.slice W NW cW) (Quiet.cell 0 g0 32 31 29 (sgc33 d W NW cW).toArray _ _ rfl kR kR Tryz.underlying29 rfl _ (sg_at hd))<|sP (.int .i64 ((NW:Nat):Int))<|sP (.pointer (some ⟨g1,32,none⟩))<|sS (.slice V NV cV) (Quiet.cell 1 g1 32 31 29 (sgc33 d2 V NV cV).toArray _ _ rfl kR kR Tryz.underlying29 rfl _ (sg_at hd2))<|sP (.int .i64 ((NV:Nat):Int)) ?_
  obtain ⟨b2,hb2⟩:∃ z:Bool,z=decide (NW≠NV):=⟨_,rfl⟩
  refine sS (.bool b2) (Quiet.pure (exec_int .neq _ _ _ .i64 _ _ _ rfl rfl rfl (int_neq _ _ _ _ _ (by rw [hb2]; exact decide_eq_decide.2 (by omega)))))<|sP (.bool b2) ?_
  refine sG ?_
  cases b2
  ·have lb2:¬ (NW≠NV):=of_decide_eq_false hb2.symm
   have hNN:NW=NV:=by omega
   refine sU<|Sy.skip<|Sy.then_<|Sy.seq<|sC ?_
   refine sP (.int .i64 0) ?_
   refine sG<|Sy.block ?_
   refine Sy.loopH NW (λk1=>∀ i,i<k1→rowSame s v sn vn i=true) (λk1=>[(2,.pointer (some ⟨g0,0,none⟩)),(3,.pointer (some ⟨g1,0,none⟩)),(5,.int .i64 ((k1:Nat):Int))]) (λk1=>[(g0,31,(sgc33 d W NW cW).toArray),(g1,31,(sgc33 d2 V NV cV).toArray)]) [true,true] (M:=[(g0,31,(sgc33 d W NW cW).toArray),(g1,31,(sgc33 d2 V NV cV).toArray)]) (λi hi=>absurd hi (Nat.not_lt_zero _)) (all_cons kR (all_cons kR (all_cons kR all_nil))) kR (bcons rfl (bcons rfl rfl)) (λk1 hk1 hh=>?_)
   have hh1:=hh
   refine Sy.seq<|sC ?_
   refine sP (.int .i64 ((k1:Nat):Int))<|sP (.pointer (some ⟨g0,32,none⟩))<|sS (.slice W NW cW) (Quiet.cell 0 g0 32 31 29 (sgc33 d W NW cW).toArray _ _ rfl kR kR Tryz.underlying29 rfl _ (sg_at hd))<|sP (.int .i64 ((NW:Nat):Int)) ?_
   obtain ⟨b3,hb3⟩:∃ z:Bool,z=decide (k1<NW):=⟨_,rfl⟩
   refine sS (.bool b3) (Quiet.pure (exec_int .lss _ _ _ .i64 _ _ _ rfl rfl rfl (int_lss _ _ _ _ _ (by rw [hb3]; exact decide_eq_decide.2 (by omega))))) ?_
   refine sG ?_
   cases b3
   ·have lb3:¬ (k1<NW):=of_decide_eq_false hb3.symm
    refine sU<|Sy.exit<|Sy.then_exit<|Sy.then_exit ?_
    obtain rfl:NW=k1:=by omega
    refine Sy.in_exit<|sB ?_
    refine sP (.bool true) ?_
    refine sG<|Sy.ret ?_
    rw [show (.bool (sgSame s v sn vn d d2 NW NV):Value)=.bool true from by rw [sgSame_yes hdd hNN (λi hi=>hh1 i (by omega))]]
    exact rV (.bool true) rfl
   ·have lb3:k1<NW:=of_decide_eq_true hb3.symm
    obtain ⟨gS,oS,hS⟩:=hls k1 lb3
    obtain ⟨gU,oU,hU⟩:=hlv4 k1 (by omega)
    have hs9:=hsn9 k1 lb3
    refine sT<|Sy.skip<|Sy.then_<|Sy.seq<|Sy.block<|Sy.seq<|Sy.seq ?_
    refine Sy.regionD (λj=>false) kR ?_
    refine sZ 0 rfl (.pointer (some ⟨g0,32,none⟩))<|sD 1 rfl (.slice W NW cW) (Quiet.cell 0 g0 32 31 29 (sgc33 d W NW cW).toArray _ _ rfl kR kR Tryz.underlying29 rfl _ (sg_at hd))<|sZ 2 rfl (.int .i64 ((k1:Nat):Int))<|sD 3 rfl (.pointer (some ⟨gW,oW+k1*1,none⟩)) (Quiet.pure (exec_atO 29 _ _ _ W gW oW NW cW k1 1 .i64 (hW (by omega)).1 rfl rfl rfl Tryz.underlying29 kF (by omega)))<|sD 4 rfl (.slice (sa k1) (sn k1) (sc k1)) (Quiet.thereOne gW (oW+k1*1) 51 _ _ rfl kR (hW (by omega)).2.1 _ (range_one ((hW (by omega)).2.2 k1 (by omega)) 0 rfl) Tryz.underlying51 rfl)<|sZ 5 rfl (.int .i64 (((sn k1):Nat):Int))<|sZ 6 rfl (.pointer (some ⟨g1,32,none⟩))<|sD 7 rfl (.slice V NV cV) (Quiet.cell 1 g1 32 31 29 (sgc33 d2 V NV cV).toArray _ _ rfl kR kR Tryz.underlying29 rfl _ (sg_at hd2)) ?_
    refine sZ 8 rfl (.int .i64 ((k1:Nat):Int))<|sD 9 rfl (.pointer (some ⟨gV,oV+k1*1,none⟩)) (Quiet.pure (exec_atO 29 _ _ _ V gV oV NV cV k1 1 .i64 (hV (by omega)).1 rfl rfl rfl Tryz.underlying29 kF (by omega)))<|sD 10 rfl (.slice (va k1) (vn k1) (vc k1)) (Quiet.thereOne gV (oV+k1*1) 51 _ _ rfl kR (hV (by omega)).2.1 _ (range_one ((hV (by omega)).2.2 k1 (by omega)) 0 rfl) Tryz.underlying51 rfl)<|sZ 11 rfl (.int .i64 (((vn k1):Nat):Int)) ?_
    obtain ⟨b4,hb4⟩:∃ z:Bool,z=decide ((sn k1)≠(vn k1)):=⟨_,rfl⟩
    refine sD 12 rfl (.bool b4) (Quiet.pure (exec_int .neq _ _ _ .i64 _ _ _ rfl rfl rfl (int_neq _ _ _ _ _ (by rw [hb4]; exact decide_eq_decide.2 (by omega))))) ?_
    refine sI ?_
    cases b4
    ·have lb4:¬ ((sn k1)≠(vn k1)):=of_decide_eq_false hb4.symm
     have hsn:sn k1=vn k1:=by omega
     refine sU<|Sy.skip<|sB ?_
     refine sP (.int .i64 0) ?_
     refine sG<|Sy.block ?_
     refine Sy.loopH (sn k1) (λk2=>∀ j,j<k2→s k1 j=v k1 j) (λk2=>[(2,.pointer (some ⟨g0,0,none⟩)),(3,.pointer (some ⟨g1,0,none⟩)),(5,.int .i64 ((k1:Nat):Int)),(6,.int .i64 ((k2:Nat):Int))]) (λk2=>[(g0,31,(sgc33 d W NW cW).toArray),(g1,31,(sgc33 d2 V NV cV).toArray)]) [true,true] (M:=[(g0,31,(sgc33 d W NW cW).toArray),(g1,31,(sgc33 d2 V NV cV).toArray)]) (λi hi=>absurd hi (Nat.not_lt_zero _)) (all_cons kR (all_cons kR (all_cons kR (all_cons kR all_nil)))) kR (bcons rfl (bcons rfl rfl)) (λk2 hk2 hh=>?_)
     have hh2:=hh
     refine Sy.seq<|sC ?_
     refine sP (.int .i64 ((k2:Nat):Int))<|sP (.pointer (some ⟨g0,32,none⟩))<|sS (.slice W NW cW) (Quiet.cell 0 g0 32 31 29 (sgc33 d W NW cW).toArray _ _ rfl kR kR Tryz.underlying29 rfl _ (sg_at hd))<|sP (.int .i64 ((k1:Nat):Int))<|sS (.pointer (some ⟨gW,oW+k1*1,none⟩)) (Quiet.pure (exec_atO 29 _ _ _ W gW oW NW cW k1 1 .i64 (hW (by omega)).1 rfl rfl rfl Tryz.underlying29 kF (by omega)))<|sS (.slice (sa k1) (sn k1) (sc k1)) (Quiet.thereOne gW (oW+k1*1) 51 _ _ rfl kR (hW (by omega)).2.1 _ (range_one ((hW (by omega)).2.2 k1 (by omega)) 0 rfl) Tryz.underlying51 rfl)<|sP (.int .i64 (((sn k1):Nat):Int)) ?_
     obtain ⟨b5,hb5⟩:∃ z:Bool,z=decide (k2<(sn k1)):=⟨_,rfl⟩
     refine sS (.bool b5) (Quiet.pure (exec_int .lss _ _ _ .i64 _ _ _ rfl rfl rfl (int_lss _ _ _ _ _ (by rw [hb5]; exact decide_eq_decide.2 (by omega))))) ?_
     refine sG ?_
     cases b5
     ·have lb5:¬ (k2<(sn k1)):=of_decide_eq_false hb5.symm
      refine sU<|Sy.exit<|Sy.then_exit<|Sy.then_exit ?_
      obtain rfl:sn k1=k2:=by omega
      refine Sy.in_exit<|Sy.in_<|Sy.then_<|Sy.region ?_
      refine sP (.int .i64 ((k1:Nat):Int))<|sS (.int .i64 ((k1+1:Nat):Int)) (Quiet.pure (exec_int .add _ _ _ .i64 _ _ _ rfl rfl rfl (int_add _ _ _ _ _ ((wrap_i64 (by omega) (by omega)).trans (by omega)))))<|sP (.int .i64 ((k1+1:Nat):Int)) ?_
      refine Sy.nil ?_
      exact Sy.againH [true,true] (M:=[(g0,31,(sgc33 d W NW cW).toArray),(g1,31,(sgc33 d2 V NV cV).toArray)]) (by omega) (λi hi=>(Nat.lt_succ_iff_lt_or_eq.1 hi).elim (hh1 i) (λh=>by subst h; exact rowSame_yes hsn (λj hj=>hh2 j (by omega)))) (all_cons kR (all_cons kR (all_cons kR all_nil))) kR (bcons rfl (bcons rfl rfl))
     ·have lb5:k2<(sn k1):=of_decide_eq_true hb5.symm
      refine sT<|Sy.skip<|Sy.then_<|Sy.seq<|Sy.block<|Sy.seq ?_
      refine Sy.regionD (λj=>false) kR ?_
      refine sZ 0 rfl (.pointer (some ⟨g0,32,none⟩))<|sD 1 rfl (.slice W NW cW) (Quiet.cell 0 g0 32 31 29 (sgc33 d W NW cW).toArray _ _ rfl kR kR Tryz.underlying29 rfl _ (sg_at hd))<|sZ 2 rfl (.int .i64 ((k1:Nat):Int))<|sD 3 rfl (.pointer (some ⟨gW,oW+k1*1,none⟩)) (Quiet.pure (exec_atO 29 _ _ _ W gW oW NW cW k1 1 .i64 (hW (by omega)).1 rfl rfl rfl Tryz.underlying29 kF (by omega)))<|sD 4 rfl (.slice (sa k1) (sn k1) (sc k1)) (Quiet.thereOne gW (oW+k1*1) 51 _ _ rfl kR (hW (by omega)).2.1 _ (range_one ((hW (by omega)).2.2 k1 (by omega)) 0 rfl) Tryz.underlying51 rfl)<|sZ 5 rfl (.int .i64 ((k2:Nat):Int))<|sD 6 rfl (.pointer (some ⟨gS,oS+k2*4,none⟩)) (Quiet.pure (exec_atO 51 _ _ _ (sa k1) gS oS (sn k1) (sc k1) k2 4 .i64 (hS (by omega)).1 rfl rfl rfl Tryz.underlying51 kF (by omega)))<|sD 7 rfl (fv (s k1 k2)) (Quiet.there gS (oS+k2*4) 4 42 (fws (s k1 k2)) _ _ rfl kR (hS (by omega)).2.1 ((hS (by omega)).2.2 k2 (by omega)) Tryz.underlying42 rfl kR rfl _ rfl) ?_
      refine sZ 8 rfl (.pointer (some ⟨g1,32,none⟩))<|sD 9 rfl (.slice V NV cV) (Quiet.cell 1 g1 32 31 29 (sgc33 d2 V NV cV).toArray _ _ rfl kR kR Tryz.underlying29 rfl _ (sg_at hd2))<|sZ 10 rfl (.int .i64 ((k1:Nat):Int))<|sD 11 rfl (.pointer (some ⟨gV,oV+k1*1,none⟩)) (Quiet.pure (exec_atO 29 _ _ _ V gV oV NV cV k1 1 .i64 (hV (by omega)).1 rfl rfl rfl Tryz.underlying29 kF (by omega)))<|sD 12 rfl (.slice (va k1) (vn k1) (vc k1)) (Quiet.thereOne gV (oV+k1*1) 51 _ _ rfl kR (hV (by omega)).2.1 _ (range_one ((hV (by omega)).2.2 k1 (by omega)) 0 rfl) Tryz.underlying51 rfl)<|sZ 13 rfl (.int .i64 ((k2:Nat):Int))<|sD 14 rfl (.pointer (some ⟨gU,oU+k2*4,none⟩)) (Quiet.pure (exec_atO 51 _ _ _ (va k1) gU oU (vn k1) (vc k1) k2 4 .i64 (hU (by omega)).1 rfl rfl rfl Tryz.underlying51 kF (by omega)))<|sD 15 rfl (fv (v k1 k2)) (Quiet.there gU (oU+k2*4) 4 42 (fws (v k1 k2)) _ _ rfl kR (hU (by omega)).2.1 ((hU (by omega)).2.2 k2 (by omega)) Tryz.underlying42 rfl kR rfl _ rfl) ?_
      obtain ⟨b6,hb6⟩:∃ z:Bool,z=decide ((s k1 k2)≠(v k1 k2)):=⟨_,rfl⟩
      refine sD 16 rfl (.bool b6) (Quiet.pure (λw=>by rw [hb6,decide_not]; exact neq_sc w _ _ _ _ _ _ rfl rfl rfl (by first | exact hsc _ _ | exact hv4 _ _ | exact Sc.mod_lt _ | assumption) (by first | exact hsc _ _ | exact hv4 _ _ | exact Sc.mod_lt _ | assumption))) ?_
      refine sI ?_
      cases b6
      ·have lb6:¬ ((s k1 k2)≠(v k1 k2)):=of_decide_eq_false hb6.symm
       have hsv:s k1 k2=v k1 k2:=Decidable.of_not_not lb6
       refine sU<|Sy.skip<|Sy.in_<|Sy.then_<|Sy.region ?_
       refine sP (.int .i64 ((k2:Nat):Int))<|sS (.int .i64 ((k2+1:Nat):Int)) (Quiet.pure (exec_int .add _ _ _ .i64 _ _ _ rfl rfl rfl (int_add _ _ _ _ _ ((wrap_i64 (by omega) (by omega)).trans (by omega)))))<|sP (.int .i64 ((k2+1:Nat):Int)) ?_
       refine Sy.nil ?_
       exact Sy.againH [true,true] (M:=[(g0,31,(sgc33 d W NW cW).toArray),(g1,31,(sgc33 d2 V NV cV).toArray)]) (by omega) (λj hj=>(Nat.lt_succ_iff_lt_or_eq.1 hj).elim (hh2 j) (λh=>by subst h; exact hsv)) (all_cons kR (all_cons kR (all_cons kR (all_cons kR all_nil)))) kR (bcons rfl (bcons rfl rfl))
      ·have lb6:(s k1 k2)≠(v k1 k2):=of_decide_eq_true hb6.symm
       refine sT<|sC ?_
       refine sP (.bool false) ?_
       refine sG<|Sy.ret<|Sy.in_ret<|Sy.then_ret<|Sy.then_ret<|Sy.in_ret<|Sy.in_ret<|Sy.then_ret<|Sy.then_ret<|Sy.in_ret<|Sy.then_ret ?_
       rw [show (.bool (sgSame s v sn vn d d2 NW NV):Value)=.bool false from by rw [sgSame_row (k:=k1) (by assumption) (rowSame_j (j:=k2) (by assumption) lb6)]]
       exact rV (.bool false) rfl
    ·have lb4:(sn k1)≠(vn k1):=of_decide_eq_true hb4.symm
     refine sT<|sC ?_
     refine sP (.bool false) ?_
     refine sG<|Sy.ret<|Sy.then_ret<|Sy.in_ret<|Sy.then_ret<|Sy.then_ret<|Sy.in_ret<|Sy.then_ret ?_
     rw [show (.bool (sgSame s v sn vn d d2 NW NV):Value)=.bool false from by rw [sgSame_row (k:=k1) (by assumption) (rowSame_n lb4)]]
     exact rV (.bool false) rfl
  ·have lb2:NW≠NV:=of_decide_eq_true hb2.symm
   refine sT<|sC ?_
   refine sP (.bool false) ?_
   refine sG<|Sy.ret<|Sy.then_ret ?_
   rw [show (.bool (sgSame s v sn vn d d2 NW NV):Value)=.bool false from by rw [sgSame_n lb2]]
   exact rV (.bool false) rfl
 ·have lb1:d≠d2:=of_decide_eq_true hb1.symm
  refine sN<|sN<|sN<|sN<|sN<|sN<|sN ?_
  refine sP (.bool true) ?_
  refine sG<|sT<|sC ?_
  refine sP (.bool false) ?_
  refine sG<|Sy.ret<|Sy.then_ret ?_
  rw [show (.bool (sgSame s v sn vn d d2 NW NV):Value)=.bool false from by rw [sgSame_d lb1]]
  exact rV (.bool false) rfl
end Cu
end
section
namespace Sy
open Go.RowKit
section
variable {L M:Blocks} {w0:Base} {w:World}
theorem flat_perm {ls ms:List Blocks} (is:List Nat) (hi:is.isPerm (List.range ls.length)=true) (hm:is.map (λi=>ls[i]?)=ms.map some) (hL:L=ls.flatten) (hM:M=ms.flatten):L.Perm M:=by
 rw [hL,hM]
 exact (perm_at is hi hm).flatten
theorem St.parts {ls ms:List Blocks} (os:List Blocks) (is:List Nat) (hi:is.isPerm (List.range ls.length)=true) (hm:is.map (λi=>ls[i]?)=(ms++os).map some) (hL:L=ls.flatten) (hM:M=ms.flatten) (hw:St w0 w L):St w0 w M:=by
 have h1:L.Perm (M++os.flatten):=by
  rw [hL,hM, ← List.flatten_append]
  exact (perm_at is hi hm).flatten
 exact (hw.perm h1).less (List.sublist_append_left _ _)
end
section
variable {f:Nat→List Value} {s m k o:Nat} {sp:List Value}
theorem flat_load_sp (h:∀ j,(f j).length=s) (hk:k<m) (ho:o=0+k*s):Value.agg (((flat f m++sp).toArray.toList.drop o).take s).toArray=.agg (f k).toArray:=by
 show Value.agg (((flat f m++sp).drop o).take s).toArray=_
 rw [show o=k*s by omega,flat_split hk,List.append_assoc,List.drop_append_of_le_length (by rw [flat_len h]; exact Nat.le_refl _),List.drop_of_length_le (by rw [flat_len h]; exact Nat.le_refl _),List.nil_append,List.append_assoc,List.take_left' (h k)]
end
section
variable {r:Nat→Slc} {n i:Nat} {pre M R D E:Blocks} {b:Nat×TypeId×Array Value} {v:Value} {w0:Base} {w:World}
theorem end_front:((pre++R)++D).Perm (pre++(D++R)):=by
 rw [List.append_assoc]
 exact List.perm_append_comm.append_left pre
theorem St.row_in (hi:i<n) (h:r i=nilS) (hw:St w0 w (M++([b]++(rowsB r n++R)))):St w0 w (M++(rowsB (putR r i ⟨v,[b]⟩) n++R)):=by
 refine hw.perm (List.Perm.append_left M ?_)
 have h1:=rows_perm r hi
 rw [h] at h1
 have h2:(rowsB r n).Perm (rowsX r n i):=h1
 have h3:=rows_back (r:=r) (x:=⟨v,[b]⟩) hi
 rw [← List.append_assoc]
 exact (((h2.append_left [b]).trans h3)).append_right R
end
end Sy
end
section
namespace Cu
open Go.RowKit Sy
def sgx (d:List UInt8) (u:Value):List Value:=d.map bv++[u]
section
variable {d z:List UInt8} {u x:Value}
theorem sgx_len (h:d.length=32):(sgx d u).length=33:=by simp [sgx,h]
theorem sgx_at (h:d.length=32):(sgx d u).toArray[32]? = some u:=by
 rw [List.getElem?_toArray]
 unfold sgx
 rw [List.getElem?_append_right (by rw [List.length_map,h]; exact Nat.le_refl _),List.length_map,h]
 rfl
theorem sgx_set (h:d.length=32):(sgx d u).toArray.setIfInBounds 32 x=(sgx d x).toArray:=by
 rw [List.setIfInBounds_toArray]
 unfold sgx
 rw [List.set_append_right _ _ (by rw [List.length_map,h]; exact Nat.le_refl _),List.length_map,h]
 rfl
theorem sgx_lt (h:d.length=32):32<(sgx d u).toArray.size:=by rw [List.size_toArray,sgx_len h]; decide
end
theorem RowsAre.full {r:Nat→Slc} {e:TypeId} {sz k:Nat} {f:Nat→Nat→List Value} {n:Nat→Nat} {x:Slc} (h:RowsAre r e sz f (cntR n k 0)) (hx:x.Is e sz ((List.range (n k)).map (f k))):RowsAre (putR r k x) e sz f (cntR n (k+1) 0):=λi=>by
 rw [cntR_next]
 by_cases hi:i=k
 ·subst hi
  rw [putR_self,cntR_at]
  exact hx
 ·rw [putR_ne hi]
  have q:=h i
  have e:cntR n k (n k) i=cntR n k 0 i:=by unfold cntR; simp [hi]
  rw [e]
  exact q
def SgGives8 (d:List UInt8) (f:Nat→Nat→List Value) (nk:Nat→Nat) (NR:Nat) (v:Value) (M:Blocks):Prop:=∃ g cap sp r,v=sgv33 d (some ⟨g,0,none⟩) NR cap∧NR≤cap∧M=(g,51,(flat (λj=>[(r j).v]) NR++sp).toArray)::rowsB r NR∧RowsAre r 42 4 f (cntR nk NR 0)
theorem map_putR {r:Nat→Slc} {k:Nat} {x:Slc}:(List.range k).map (λi=>[(putR r k x i).v])=(List.range k).map λi=>[(r i).v] :=
 List.map_congr_left λi hi=>by rw [putR_ne (by have:=List.mem_range.1 hi; omega)]
end Cu
end
section
namespace Cu
open Go.RowKit Sy
theorem rPt_ring (k e x:Nat) {px py:Nat} {pi:Bool} (hd:dec px py pi=evP x):rPt (Sc.subP k (Sc.mulP e x)) e px py pi=evP k:=by
 have oB:Ec.On bP:=bP_on
 have oX:Ec.On (evP x):=evP_on x
 unfold rPt
 rw [hd,nm_p oB,nm_p oX]
 have e1:Ec.nm finv (Sc.subP k (Sc.mulP e x)) bP=Ec.add finv (Ec.nm finv k bP) (Ec.neg (Ec.nm finv e (evP x))):=by
  unfold Sc.subP
  rw [nm_p oB,Ec.nm_add fld oB]
  have e2:Ec.nm finv (Sc.pM - Sc.mulP e x%Sc.pM) bP=Ec.nm finv (Sc.negP (Sc.mulP e x)%Sc.pM) bP:=by
   unfold Sc.negP
   rw [nm_p oB,nm_p oB]
  rw [e2,nm_negP oB,nm_p oB]
  unfold Sc.mulP evP
  rw [nm_p oB,Ec.nm_mul fld oB,nm_p oB]
 rw [e1]
 have o1:=oX.nm fld e
 rw [Ec.assoc fld (oB.nm fld k) o1.neg o1,Ec.neg_add,Ec.add_zero]
 unfold evP
 rw [nm_p oB]
theorem open_dec {x px py:Nat} {pi:Bool} (h:openB x px py pi=true):dec px py pi=evP x:=by
 unfold openB sameB at h
 rw [Bool.and_eq_true,Bool.and_eq_true,decide_eq_true_iff,decide_eq_true_iff,beq_iff_eq] at h
 rw [← h.1, ← h.2.1, ← h.2.2]
 exact dec_parts (evP_on x)
section
variable {s s':Nat→Nat} {bm x:List UInt8} {i:Nat} {X Y:Nat→Nat} {I:Nat→Bool}
theorem alX_congr {f:Nat}:∀ k,(∀ j,j<k→s (f+j)=s' (f+j))→alX s bm i f X Y I x k=alX s' bm i f X Y I x k
 | 0,_=>rfl
 | k+1,h=>by
  show encS (rPt (s (f+k)) (rgC bm (alX s bm i f X Y I x k) i (f+k)) (X (f+k)) (Y (f+k)) (I (f+k)))=encS (rPt (s' (f+k)) (rgC bm (alX s' bm i f X Y I x k) i (f+k)) (X (f+k)) (Y (f+k)) (I (f+k)))
  rw [alX_congr k (λj hj=>h j (by omega)),h k (Nat.lt_succ_self k)]
theorem alX_add (f:Nat):∀ k,alX s bm i 0 X Y I x (f+k)=alX s bm i f X Y I (alX s bm i 0 X Y I x f) k
 | 0=>rfl
 | k+1=>by
  rw [← Nat.add_assoc,alX0_succ,alX_add f k]
  rfl
end
section
variable {bm sd:List UInt8} {X Y:Nat→Nat→Nat} {I:Nat→Nat→Bool} {at_ nk sx:Nat→Nat} {d:List UInt8}
theorem sgS_ne {i j:Nat} (h:j≠at_ i):sgS bm sd X Y I at_ sx d i j=rgF bm sd i j:=if_neg h
theorem sgS_at (i:Nat):sgS bm sd X Y I at_ sx d i (at_ i)=Sc.subP (rgN bm sd i) (Sc.mulP (sgE bm sd X Y I at_ d i) (sx i)):=if_pos rfl
theorem sgS_mod (i j:Nat):sgS bm sd X Y I at_ sx d i j%Sc.pM=sgS bm sd X Y I at_ sx d i j:=by
 unfold sgS
 split
 ·exact Nat.mod_mod _ _
 ·exact Nat.mod_mod _ _
theorem sg_ahead (i:Nat):alX (sgS bm sd X Y I at_ sx d i) bm i 0 (X i) (Y i) (I i) d (at_ i)=alX (rgF bm sd i) bm i 0 (X i) (Y i) (I i) d (at_ i) :=
 alX_congr _ λj hj=>sgS_ne (by omega)
theorem sg_behind {i:Nat} (h:openB (sx i) (X i (at_ i)) (Y i (at_ i)) (I i (at_ i))=true):alX (sgS bm sd X Y I at_ sx d i) bm i 0 (X i) (Y i) (I i) d (at_ i+1)=sgX bm sd i:=by
 rw [alX0_succ,sg_ahead,sgS_at]
 show encS (rPt (Sc.subP (rgN bm sd i) (Sc.mulP (sgE bm sd X Y I at_ d i) (sx i))) (sgE bm sd X Y I at_ d i) _ _ _)=encS _
 rw [rPt_ring _ _ _ (open_dec h)]
theorem sg_round {i:Nat} (ha:at_ i<nk i) (h:openB (sx i) (X i (at_ i)) (Y i (at_ i)) (I i (at_ i))=true):alX (sgS bm sd X Y I at_ sx d i) bm i 0 (X i) (Y i) (I i) d (nk i)=sgL bm sd X Y I at_ nk i:=by
 have e:nk i=at_ i+1+(nk i - (at_ i+1)):=by omega
 rw [e,alX_add,sg_behind h]
 unfold sgL
 exact alX_congr _ λj hj=>sgS_ne (by omega)
theorem sg_ends:∀ k,(∀ i,i<k→at_ i<nk i∧openB (sx i) (X i (at_ i)) (Y i (at_ i)) (I i (at_ i))=true)→endsT (sgS bm sd X Y I at_ sx d) bm X Y I d nk k=sgEnds bm sd X Y I at_ nk k
 | 0,_=>rfl
 | k+1,h=>by
  show endsT _ bm X Y I d nk k++alX _ bm k 0 _ _ _ d (nk k)=sgEnds bm sd X Y I at_ nk k++sgL bm sd X Y I at_ nk k
  rw [sg_ends k (λi hi=>h i (by omega)),sg_round (h k (Nat.lt_succ_self k)).1 (h k (Nat.lt_succ_self k)).2]
theorem chB_sign {NR:Nat} {sn:Nat→Nat} (hs:∀ i,i<NR→sn i=nk i) (h:∀ i,i<NR→at_ i<nk i∧openB (sx i) (X i (at_ i)) (Y i (at_ i)) (I i (at_ i))=true):chB (sgS bm sd X Y I at_ sx (sgD bm sd X Y I at_ nk NR)) bm X Y I (sgD bm sd X Y I at_ nk NR) NR NR sn nk=true :=
 chB_yes rfl (λi hi=>rowOk_yes (hs i hi) λj _=>sgS_mod i j) (by rw [sg_ends NR h]; rfl)
end
end Cu
end
section
namespace Cu
open Go.RowKit Sy
def aX (_ _:Nat):Nat:=gx.val
def aY (_ _:Nat):Nat:=gy.val
def aI (_ _:Nat):Bool:=false
def a1 (_:Nat):Nat:=1
def aAt (_:Nat):Int:=0
theorem ev_one:evP 1=bP:=by
 unfold evP
 rw [nm_p bP_on]
 show Ec.add finv none bP=bP
 rw [Ec.zero_add]
theorem a_right:rgtB 1 a1 aX aY aI=true:=by
 unfold rgtB
 rw [show szB 1 a1=true from (szB_iff 1 a1).2 ⟨Nat.le_refl _,by decide,λj _=>⟨Nat.le_refl _,by show 1≤64; decide⟩⟩,Bool.true_and]
 have h:rightB gx.val gy.val false=true:=rightB_parts (P:=bP) bP_on
 simp [badR,badK,a1,aX,aY,aI,h]
theorem a_open:openB 1 gx.val gy.val false=true:=by
 unfold openB
 rw [ev_one]
 exact sameB_self gx.val gy.val false
theorem a_fit:fitB aAt a1 a1 aX aY aI 1 1=true :=
 fitB_all rfl λj _=>by
  have q:=fit_op (At:=aAt) (sx:=a1) (n:=a1) (X:=aX) (Y:=aY) (I:=aI) (k:=j) (q:=0) (by show ¬ (0:Int)<0; decide) (by show ¬ (0:Int) ≥ ((1:Nat):Int); decide) rfl
  rw [q]
  exact a_open
def AlvR (v:Value) (M:Blocks):Prop:=∃ (d:List UInt8) (s:Nat→Nat→Nat) (g:Nat) (r:Nat→Slc),v=.tuple #[sgv33 d (some ⟨g,0,none⟩) 1 1,.int .i64 0]∧M=(g,51,rowsC r 1)::rowsB r 1∧d.length=32∧(∀ i k,s i k<K4)∧RowsAre r 42 4 (λi j=>fws (s i j)) (cntR a1 1 0)∧vfB [] 1 a1 aX aY aI s d 1 a1=true
theorem alv_of {sd:List UInt8} {v:Value} {M:Blocks} (h:SgnR (rgtB 1 a1 aX aY aI) (fitB aAt a1 a1 aX aY aI 1 1) (sgD (rgM [] 1 a1 aX aY aI) sd aX aY aI (λi=>(aAt i).toNat) a1 1) (sgF (rgM [] 1 a1 aX aY aI) sd aX aY aI (λi=>(aAt i).toNat) a1 (sgD (rgM [] 1 a1 aX aY aI) sd aX aY aI (λi=>(aAt i).toNat) a1 1)) a1 1 v M):AlvR v M:=by
 obtain ⟨bm,hbm⟩:∃ l,l=rgM [] 1 a1 aX aY aI:=⟨_,rfl⟩
 rw [← hbm] at h
 rcases h with ⟨h,_⟩ | ⟨_,h,_⟩ | ⟨_,_,u,rfl,g,r,rfl,rfl,hr⟩
 ·rw [a_right] at h; cases h
 ·rw [a_fit] at h; cases h
 ·refine ⟨_,sgS bm sd aX aY aI (λi=>(aAt i).toNat) a1 (sgD bm sd aX aY aI (λi=>(aAt i).toNat) a1 1),g,r,rfl,rfl,sgD_len _,λ_ _=>sgS_lt _ _,hr,?_⟩
  unfold vfB
  rw [a_right, ← hbm,Bool.true_and]
  exact chB_sign (λ_ _=>rfl) (λi _=>⟨by show (0:Nat)<1; decide,a_open⟩)
theorem one_lst {w:World} {g s:Nat} {t:TypeId} {cs:Array Value} {f:Nat→List Value} (hb:Blk w g t cs) (hf:cs.toList=f 0):Lst w s (some ⟨g,0,none⟩) 1 f:=⟨g,0,λ_=>⟨rfl,hb.lt,λj hj=>by
 obtain rfl:j=0:=by omega
 rw [Nat.zero_mul]
 refine blk_range hb ?_
 rw [List.drop_zero,hf,List.take_of_length_le (Nat.le_refl _)]⟩⟩
theorem alive_sign {w:World} {g0 g1 g2:Nat} {t0 t1 t2:TypeId} (h0:Blk w g0 t0 (pcs gx.val gy.val false)) (h1:Blk w g1 t1 #[.slice (some ⟨g0,0,none⟩) 1 1]) (h2:Blk w g2 t2 (sec5 ((0:Nat):Int) 1).toArray) (ht:Sh.TabAt w 1) :
  Calls Tryz.prog 13 #[.agg ((List.replicate 32 (0:UInt8)).map bv).toArray,.slice none 0 0,.slice (some ⟨g1,0,none⟩) 1 1,.slice (some ⟨g2,0,none⟩) 1 1] w (GetsN w AlvR):=by
 have q:=SignG_any w (List.replicate 32 0) List.length_replicate none [] 0 0 rfl (by decide) (by decide) (by decide) (λh=>absurd rfl h) (some ⟨g1,0,none⟩) 1 1 (λ_=>some ⟨g0,0,none⟩) a1 a1 aX aY aI (λ_ _=>lt4 _) (λ_ _=>lt4 _) (by decide) (λ_=>by show 1≤_; decide) (one_lst h1 rfl) (λi _=>one_lst h0 rfl) (by decide) (some ⟨g2,0,none⟩) 1 1 aAt a1 (λ_=>by show 1<K4; decide) (by decide) (one_lst h2 rfl) ht
 exact Calls.mono q λe w' ⟨v,M,h1,h2,h3⟩=>⟨v,M,h1,alv_of h2,h3⟩
theorem alive_verify {w:World} {g0 g1 gF:Nat} {t0 t1 tF:TypeId} {d:List UInt8} {s:Nat→Nat→Nat} {r:Nat→Slc} {A:Option Addr} {k:Nat} (h0:Blk w g0 t0 (pcs gx.val gy.val false)) (h1:Blk w g1 t1 #[.slice (some ⟨g0,0,none⟩) 1 1]) (hF:Blk w gF tF (rowsC r 1)) (hd:d.length=32) (hs:∀ i k,s i k<K4) (hv:(r 0).v=.slice A 1 k) (hl:Lst w 4 A 1 (λj=>fws (s 0 j))) (hc:vfB [] 1 a1 aX aY aI s d 1 a1=true) (ht:Sh.TabAt w 1) :
  Calls Tryz.prog 15 #[.slice none 0 0,.slice (some ⟨g1,0,none⟩) 1 1,sgv33 d (some ⟨gF,0,none⟩) 1 1] w (Gets w (.bool true)):=by
 have q:=VerifyG_any w none [] 0 0 rfl (by decide) (by decide) (by decide) (λh=>absurd rfl h) (some ⟨g1,0,none⟩) 1 1 (λ_=>some ⟨g0,0,none⟩) a1 a1 aX aY aI (λ_ _=>lt4 _) (λ_ _=>lt4 _) (by decide) (λ_=>by show 1≤_; decide) (one_lst h1 rfl) (λi _=>one_lst h0 rfl) (by decide) d hd (some ⟨gF,0,none⟩) 1 1 (λ_=>A) a1 (λ_=>k) s hs (by decide) (λ_ _=>by show 1≤_; decide) (one_lst hF (by
  show flat (λj=>[(r j).v]) 1=[.slice A 1 k]
  rw [← hv]
  rfl)) (λi hi=>by
  obtain rfl:i=0:=by omega
  exact hl) ht
 rw [hc] at q
 exact q
set_option maxHeartbeats 4000000 in
set_option maxRecDepth 100000 in
theorem alive8 (w:World) (ht:Sh.TabAt w 1):Calls Tryz.prog 14 #[] w (Gets w (.bool true)):=by
 refine Sy.enter (args:=[]) Tryz.func14 rfl kL ?_
 refine sC ?_
 refine sP (.bool false) ?_
 refine sA ?_
 refine sS (pv gx.val gy.val false) (qF 19 #[] (baseR_c)) ?_
 refine Sy.make kR 48 (pcs gx.val gy.val false) (λg=>.slice (some ⟨g,0,none⟩) 1 1) kF (λg0=>?_)
 refine Sy.make kR 45 #[.slice (some ⟨g0,0,none⟩) 1 1] (λg=>.slice (some ⟨g,0,none⟩) 1 1) kF (λg1=>?_)
 refine sP (.slice (some ⟨g1,0,none⟩) 1 1) ?_
 refine sA ?_
 refine sP (.agg ((List.replicate 32 (0:UInt8)).map bv).toArray)<|sP (.slice (some ⟨g1,0,none⟩) 1 1)<|sP (fv 1)<|sP (.agg (sec5 ((0:Nat):Int) 1).toArray) ?_
 refine Sy.make kR 44 (sec5 ((0:Nat):Int) 1).toArray (λg=>.slice (some ⟨g,0,none⟩) 1 1) kF (λg2=>?_)
 refine Sy.callN kR 13 #[.agg ((List.replicate 32 (0:UInt8)).map bv).toArray,.slice none 0 0,.slice (some ⟨g1,0,none⟩) 1 1,.slice (some ⟨g2,0,none⟩) 1 1] kF (AlvR) (λw hw=>alive_sign (hw.get (i:=0) rfl) (hw.get (i:=1) rfl) (hw.get (i:=2) rfl) (ht.below hw.below ht.lt)) (λvq Mq hR0=>?_)
 obtain ⟨d0,s0,gF,r0,rfl,rfl,hdl,hs4,hr0,hvf⟩:=hR0
 obtain ⟨A0,k0,hv0,_,_,hl0⟩:=hr0.lst (i:=0) (N:=1) (m:=1) rfl (by decide)
 refine Sy.permS (M:=[(g0,48,(pcs gx.val gy.val false)),(g1,45,#[.slice (some ⟨g0,0,none⟩) 1 1]),(g2,44,(sec5 ((0:Nat):Int) 1).toArray),(gF,51,(rowsC r0 1))]++(rowsB r0 1++[])) (by rw [List.append_nil]; exact List.Perm.refl _) ?_
 refine sP (.tuple #[sgv33 d0 (some ⟨gF,0,none⟩) 1 1,.int .i64 0])<|sP (sgv33 d0 (some ⟨gF,0,none⟩) 1 1)<|sP (.int .i64 0) ?_
 refine sM 31 (sgc33 (List.replicate 32 (0:UInt8)) none 0 0).toArray (λg3=>?_)
 refine Sy.movT ?_
 refine sW 4 g3 31 (sgc33 (List.replicate 32 (0:UInt8)) none 0 0).toArray (sgc33 d0 (some ⟨gF,0,none⟩) 1 1).toArray (Writes.row 31 (sgc33 d0 (some ⟨gF,0,none⟩) 1 1) 33 _ _ rfl kR kR kR (sg_len hdl) (by rw [List.size_toArray,sg_len List.length_replicate]) sg_one) ?_
 refine Sy.setT ?_
 refine sP (.int .i64 0) ?_
 refine sA ?_
 refine sP (.int .i64 0)<|sP (.bool true)<|sP (.bool true)<|sP (.pointer (some ⟨g3,32,none⟩))<|sS (.slice (some ⟨gF,0,none⟩) 1 1) (Quiet.cell 4 g3 32 31 29 (sgc33 d0 (some ⟨gF,0,none⟩) 1 1).toArray _ _ rfl kR kR Tryz.underlying29 rfl _ (sg_at hdl))<|sP (.int .i64 1)<|sP (.bool true)<|sP (.bool true) ?_
 refine sP (.bool true)<|sP (.slice (some ⟨g1,0,none⟩) 1 1)<|sS (sgv33 d0 (some ⟨gF,0,none⟩) 1 1) (Quiet.load 4 g3 0 33 31 31 (sgc33 d0 (some ⟨gF,0,none⟩) 1 1).toArray _ _ rfl kR kR Tryz.underlying31 rfl kR _ (sg_whole hdl) (sg_fit hdl))<|sS (.bool true) (qG 15 #[.slice none 0 0,.slice (some ⟨g1,0,none⟩) 1 1,sgv33 d0 (some ⟨gF,0,none⟩) 1 1] (λw hw=>alive_verify (hw.get (i:=0) rfl) (hw.get (i:=1) rfl) (hw.get (i:=3) rfl) hdl hs4 hv0 (hl0 hw (λb hb=>List.mem_append.2 (.inr (List.mem_append.2 (.inl hb))))) hvf (ht.below hw.below ht.lt)))<|sP (.bool true)<|sP (.bool true) ?_
 refine sG<|Sy.ret ?_
 exact rV (.bool true) rfl
end Cu
end
section
namespace Cu
open Go.RowKit Sy
def SgU (w0:Base) (d:List UInt8) (N:Nat) (nk:Nat→Nat) (s:Nat→Nat→Nat) (en:Int) (v:Value) (M:Blocks):Prop:=∃ (W:Option Addr) (c:Nat) (sa:Nat→Option Addr) (sc:Nat→Nat),v=.tuple #[sgv33 d W N c,.int .i64 en]∧∀ (w:World) (L:Blocks),St w0 w L→(∀ b∈M,b∈L)→Lst w 1 W N (λi=>[.slice (sa i) (nk i) (sc i)])∧∀ i,i<N→Lst w 4 (sa i) (nk i) (λk=>fws (s i k))
def slA:Value→Option Addr
 | .slice A _ _=>A
 | _=>none
def slC:Value→Nat
 | .slice _ _ c=>c
 | _=>0
theorem SgU.rows {w0:Base} {d:List UInt8} {NR g cap:Nat} {nk:Nat→Nat} {s:Nat→Nat→Nat} {r:Nat→Slc} {sp:List Value} {M:Blocks} (hr:RowsAre r 42 4 (λi j=>fws (s i j)) (cntR nk NR 0)) (hM:M=(g,51,(flat (λj=>[(r j).v]) NR++sp).toArray)::rowsB r NR) (en:Int):SgU w0 d NR nk s en (.tuple #[sgv33 d (some ⟨g,0,none⟩) NR cap,.int .i64 en]) M:=by
 have hv:∀ i,i<NR→(r i).v=.slice (slA (r i).v) (nk i) (slC (r i).v):=λi hi=>by
  obtain ⟨A,k,h1,_⟩:=hr.lst (cntR_all hi) hi
  rw [h1]
  rfl
 refine ⟨_,_,λi=>slA (r i).v,λi=>slC (r i).v,rfl,λw L hw hb=>⟨?_,λi hi=>?_⟩⟩
 ·exact Lst_ext (row_lst (f:=λj=>[(r j).v]) (λ_=>rfl) hw (hb _ (by rw [hM]; exact List.mem_cons_self ..))) (λi hi=>by rw [← hv i hi])
 ·obtain ⟨A,k,h1,_,_,h2⟩:=hr.lst (cntR_all hi) hi
  have h3:=h2 hw (λb h=>hb b (by rw [hM]; exact List.mem_cons_of_mem _ h))
  show Lst w 4 (slA (r i).v) _ _
  rw [h1]
  exact h3
section
variable {w0:Base} {br bf:Bool} {d:List UInt8} {s:Nat→Nat→Nat} {nk:Nat→Nat} {NR:Nat} {v:Value} {M:Blocks}
def uD (br bf:Bool) (d:List UInt8):List UInt8:=if br && bf then d else List.replicate 32 0
def uN (br bf:Bool) (N:Nat):Nat:=if br && bf then N else 0
def uE (br bf:Bool):Int:=if br then (if bf then 0 else 81) else 80
theorem uD_len (h:d.length=32):(uD br bf d).length=32:=by unfold uD; split; exact h; exact List.length_replicate
theorem uN_le:uN br bf NR≤NR:=by unfold uN; split; exact Nat.le_refl _; exact Nat.zero_le _
end
def csl (sd:List UInt8) (us:List Value):List Value:=sd.map bv++us
def csv (sd:List UInt8) (us:List Value):Value:=.agg (csl sd us).toArray
section
variable {sd:List UInt8} {us:List Value}
theorem cs_at (h:sd.length=32) (k:Nat):(csl sd us).toArray[32+k]? = us[k]?:=by
 rw [List.getElem?_toArray]
 unfold csl
 rw [List.getElem?_append_right (by rw [List.length_map,h]; exact Nat.le_add_right _ _),List.length_map,h,Nat.add_sub_cancel_left]
theorem cs_first (h:sd.length=32):Value.agg (((csl sd us).toArray.toList.drop 0).take 32).toArray=.agg (sd.map bv).toArray:=by
 show Value.agg (((csl sd us).drop 0).take 32).toArray=_
 rw [List.drop_zero]
 unfold csl
 rw [List.take_left' (by rw [List.length_map,h])]
theorem cs_fits (h:sd.length=32):0+32≤(csl sd us).toArray.size:=by rw [List.size_toArray]; unfold csl; rw [List.length_append,List.length_map,h]; omega
end
end Cu
end
section
namespace Cu
open Go.ChangeShapes Go.WideShapes Go.ChangeAt Go.RowKit Sy Go.Deep
theorem bulk_mem {H:Type}:∀ {l:List (DataW H)} {d:DataW H},d∈l→Rows.uptoBulk d≤Rows.uptoBulkAll l
 | [],_,h=>by cases h
 | d'::r,d,h=>by
  simp only [Rows.uptoBulkAll]
  cases List.mem_cons.1 h with
  | inl e=>subst e; omega
  | inr h=>have:=bulk_mem h; omega
theorem open_listD {α:Type} [Inhabited α] (cells:α→List Value) (ok:α→Prop) (sz:α→Nat) (s:Nat) (hs:0<s) (hc:∀ x,(cells x).length=s) (h0:ok default) (h1:sz default=0) {H:Type} {enc:TypeId×Value→H} {P:Program} {W:World} {t e:TypeId} {fuel:Nat} {cs:List Value} {x:DataW H×List MemPlace}
  (ht:P.underlying t=some (.slice e)) (hce:P.cellsOf e=s) (hel:∀ (fuel:Nat) (cs:List Value) (x:DataW H×List MemPlace),cs.length=s→DataW.trod enc P W 0 (λ_=>true) true fuel e cs=some x→∃ y,ok y∧cs=cells y∧sz y≤Rows.uptoBulk x.1)
  (hf:DataW.trod enc P W 0 (λ_=>true) true fuel t cs=some x) :
  ∃ (A:Option Addr) (m c:Nat) (T:Nat→α),cs=[.slice A m c]∧m≤c∧c≤9223372036854775807∧(∀ j,ok (T j))∧(∀ j,sz (T j)≤Rows.uptoBulk x.1)∧Lst W s A m (λj=>cells (T j))∧m≤Rows.uptoBulk x.1:=by
 rcases open_slice ht hf with ⟨hcs,hx⟩ | ⟨a,len,cap,m,n,D,Pl,hcs,_,hl,hm,hme,hx,hall⟩
 ·exact ⟨none,0,0,λ_=>default,hcs,Nat.le_refl _,by omega,λ_=>h0,λ_=>by rw [h1]; exact Nat.zero_le _,lst_of λhn=>absurd hn (Nat.lt_irrefl _),Nat.zero_le _⟩
 ·simp only [if_true] at hme
  subst hme
  rw [hce] at hall
  have hb:∀ i,i<len→Rows.uptoBulk (D i)≤Rows.uptoBulk x.1:=λi hi=>by
   subst hx
   have:=bulk_mem (l:=(List.range len).map D) (d:=D i) (List.mem_map.2 ⟨i,List.mem_range.2 hi,rfl⟩)
   simp only [Rows.uptoBulk]
   omega
  obtain ⟨X,hX0,hX⟩:=choose_ltL (α:=α) (n:=len) (p:=λi y=>(ok y∧sz y≤Rows.uptoBulk x.1)∧W.cells? 0 (a.add (i*s)) s=some (cells y)) (λi hi=>by
   obtain ⟨cs',h1,h2⟩:=hall i (by omega)
   obtain ⟨y,hy,rfl,hz⟩:=hel _ _ _ (cells_lenL h1) h2
   exact ⟨y,⟨hy,Nat.le_trans hz (hb i hi)⟩,h1⟩) (λy=>ok y∧sz y≤Rows.uptoBulk x.1) ⟨h0,by rw [h1]; exact Nat.zero_le _⟩ (λ_ _ hp=>hp.1)
  refine ⟨some a,len,m,X,hcs,hl,by simpa [maxLen] using hm,λj=>(hX0 j).1,λj=>(hX0 j).2,lst_of λhpos=>?_,?_⟩
  ·obtain ⟨_,hc0⟩:=hX 0 hpos
   obtain ⟨v0,hv0⟩:∃ v0,(cells (X 0))[0]? = some v0:=⟨(cells (X 0))[0]'(by rw [hc]; exact hs),List.getElem?_eq_getElem _⟩
   have hcell:W.cell? a=some v0:=by
    have:=cells_eachL hc0 0 v0 hv0
    simpa [Addr.add] using this
   obtain ⟨b,o,rfl,hlt⟩:=cell_spotL hcell
   refine ⟨b,o,rfl,hlt,λj hj i v hi=>?_⟩
   have:=cells_eachL (hX j hj).2 i v hi
   rwa [add_midL,add_midL] at this
  ·subst hx
   have:=bulk_len ((List.range len).map D)
   simp only [Rows.uptoBulk]
   simp only [List.length_map,List.length_range] at this
   omega
theorem one_u8 {H:Type} {enc:TypeId×Value→H} {P:Program} {W:World} {fuel:Nat} {t:TypeId} {cs:List Value} {x:DataW H×List MemPlace} (ht:P.underlying t=some (.int .u8)) (hf:DataW.trod enc P W 0 (λ_=>true) true fuel t cs=some x):∃ u:UInt8,cs=[bv u]:=by
 cases fuel with
 | zero=>simp [DataW.trod] at hf
 | succ m =>
  obtain ⟨z,e,_,w⟩:=DataW.trod_int ht hf
  refine ⟨UInt8.ofNat z.toNat,?_⟩
  have hz:0≤z∧z<256:=by
   simp [Lit.wf,IntKind.bits,IntKind.signed,IntKind.min,IntKind.max] at w
   omega
  rw [e]
  unfold bv
  congr 2
  rw [UInt8.toNat_ofNat']
  omega
set_option maxRecDepth 100000 in
theorem open_textD {H:Type} {enc:TypeId×Value→H} {W:World} {fuel:Nat} {cs:List Value} {x:DataW H×List MemPlace} (hf:DataW.trod enc Tryz.prog W 0 (λ_=>true) true fuel 24 cs=some x) :
  ∃ (A:Option Addr) (m:List UInt8) (c:Nat),cs=[.slice A m.length c]∧m.length≤c∧c≤9223372036854775807∧Sh.Src W A m∧m.length≤Rows.uptoBulk x.1:=by
 obtain ⟨A,n,c,T,e,h1,h2,_,_,hls,hn⟩:=open_listD (P:=Tryz.prog) (λu:UInt8=>[bv u]) (λ_=>True) (λ_=>0) 1 (by decide) (λ_=>rfl) trivial rfl Tryz.underlying24 (by kernel_rfl)
  (λfuel cs x hl hf=>by
   obtain ⟨u,e⟩:=one_u8 (P:=Tryz.prog) Tryz.underlying5 hf
   exact ⟨u,trivial,e,Nat.zero_le _⟩) hf
 have hl:((List.range n).map T).length=n:=by rw [List.length_map,List.length_range]
 refine ⟨A,(List.range n).map T,c,by rw [hl]; exact e,by rw [hl]; exact h1,h2,λhne=>?_,by rw [hl]; exact hn⟩
 obtain ⟨g,o,hg⟩:=hls
 have hpos:0<n:=by
  rcases Nat.eq_zero_or_pos n with h | h
  ·subst h; exact absurd rfl hne
  ·exact h
 obtain ⟨hA,hb,hr⟩:=hg hpos
 refine ⟨g,o,hA,hb,λj u hu=>?_⟩
 have hj:j<n:=by have:=(List.getElem?_eq_some_iff.1 hu).1; rwa [hl] at this
 rw [List.getElem?_map,List.getElem?_range hj] at hu
 have hu':T j=u:=by simpa using hu
 have:=hr j hj 0 (bv u) (by rw [← hu']; rfl)
 rwa [Nat.mul_one,Nat.add_zero] at this
abbrev RowP:=Option Addr×Nat×Nat×(Nat→Pr)
def RowP.is (W:World) (y:RowP):Prop:=Lst W 9 y.1 y.2.1 (λk=>(y.2.2.2 k).cells)∧∀ k,(y.2.2.2 k).ok
set_option maxRecDepth 100000 in
theorem open_ringsD {H:Type} {enc:TypeId×Value→H} {W:World} {fuel:Nat} {cs:List Value} {x:DataW H×List MemPlace} (hf:DataW.trod enc Tryz.prog W 0 (λ_=>true) true fuel 25 cs=some x) :
  ∃ (R:Option Addr) (NR cR:Nat) (a:Nat→Option Addr) (nk ck:Nat→Nat) (X Y:Nat→Nat→Nat) (I:Nat→Nat→Bool),cs=[.slice R NR cR]∧(∀ i k,X i k<K4)∧(∀ i k,Y i k<K4)∧(∀ i,nk i≤Rows.uptoBulk x.1)∧Lst W 1 R NR (λi=>[.slice (a i) (nk i) (ck i)])∧(∀ i,i<NR→Lst W 9 (a i) (nk i) (λk=>pml (X i k) (Y i k) (I i k)))∧NR≤Rows.uptoBulk x.1:=by
 obtain ⟨R,NR,cR,T,e,_,_,hok,hsz,hls,hn⟩:=open_listD (P:=Tryz.prog) (λy:RowP=>[.slice y.1 y.2.1 y.2.2.1]) (RowP.is W) (λy=>y.2.1) 1 (by decide) (λ_=>rfl)
  ⟨lst_of λh=>absurd h (Nat.lt_irrefl _),λ_=>⟨K4_pos,K4_pos⟩⟩ rfl Tryz.underlying25 (by kernel_rfl)
  (λfuel cs x _ hf=>by
   obtain ⟨A,n,c,T,e,_,_,hT,_,hls,hn⟩:=open_listD (P:=Tryz.prog) Pr.cells Pr.ok (λ_=>0) 9 (by decide) (λ_=>rfl) ⟨K4_pos,K4_pos⟩ rfl Tryz.underlying45 (by kernel_rfl)
    (λfuel cs x hl hf=>by
     obtain ⟨y,hy,e⟩:=pt_trod' fuel cs x hl hf
     exact ⟨y,hy,e,Nat.zero_le _⟩) hf
   exact ⟨(A,n,c,T),⟨hls,hT⟩,e,hn⟩) hf
 exact ⟨R,NR,cR,λi=>(T i).1,λi=>(T i).2.1,λi=>(T i).2.2.1,λi k=>((T i).2.2.2 k).x,λi k=>((T i).2.2.2 k).y,λi k=>((T i).2.2.2 k).i,e,λi k=>((hok i).2 k).1,λi k=>((hok i).2 k).2,hsz,hls,λi _=>(hok i).1,hn⟩
set_option maxRecDepth 100000 in
theorem open_secretsD {H:Type} {enc:TypeId×Value→H} {W:World} {fuel:Nat} {cs:List Value} {x:DataW H×List MemPlace} (hf:DataW.trod enc Tryz.prog W 0 (λ_=>true) true fuel 26 cs=some x) :
  ∃ (S:Option Addr) (NS cS:Nat) (At:Nat→Int) (sx:Nat→Nat),cs=[.slice S NS cS]∧(∀ i,sx i<K4)∧Lst W 5 S NS (λi=>sec5 (At i) (sx i))∧NS≤Rows.uptoBulk x.1:=by
 obtain ⟨S,NS,cS,T,e,_,_,hok,_,hls,hn⟩:=open_listD (P:=Tryz.prog) (λy:Int×Nat=>sec5 y.1 y.2) (λy=>y.2<K4) (λ_=>0) 5 (by decide) (λ_=>rfl) K4_pos rfl Tryz.underlying26 (by kernel_rfl)
  (λfuel cs x hl hf=>by
   obtain ⟨y0,y1,n,_,_,g0,g1⟩:=trod_struct2 Tryz.underlying44 hf
   obtain ⟨z,e0,_⟩:=one_int (P:=Tryz.prog) Tryz.underlying3 g0
   have l1:((cs.drop 1).take 4).length=4:=by rw [List.length_take,List.length_drop,hl]; rfl
   obtain ⟨k,hk,e1⟩:=four_words l1 (P:=Tryz.prog) Tryz.underlying42 Tryz.underlying40 (by kernel_rfl) g1
   refine ⟨(z,k),hk,?_,Nat.zero_le _⟩
   have s:=split2 (cs:=cs) (a:=1) (b:=4) hl
   have q0:(cs.drop 0).take 1=[.int .i64 z]:=e0
   rw [s,q0,e1]
   rfl) hf
 exact ⟨S,NS,cS,λi=>(T i).1,λi=>(T i).2,e,hok,hls,hn⟩
set_option maxRecDepth 100000 in
theorem open_case {H:Type} {enc:TypeId×Value→H} {W:World} {r:Reach} {b0:Nat} {v:Value} {d:DataW H} {ps:List MemPlace}
  (hval:Value.okWide Tryz.prog W r b0 28 v) (h:DataW.Trod enc Tryz.prog W 0 (λ_=>true) true 28 v d ps) :
  ∃ (sd:List UInt8) (A:Option Addr) (m:List UInt8) (c:Nat) (R:Option Addr) (NR cR:Nat) (a:Nat→Option Addr) (nk ck:Nat→Nat) (X Y:Nat→Nat→Nat) (I:Nat→Nat→Bool) (S:Option Addr) (NS cS:Nat) (At:Nat→Int) (sx:Nat→Nat),
   v=csv sd [.slice A m.length c,.slice R NR cR,.slice S NS cS]∧sd.length=32∧(m.length≤c∧c≤9223372036854775807∧Sh.Src W A m)∧((∀ i k,X i k<K4)∧(∀ i k,Y i k<K4)∧Lst W 1 R NR (λi=>[.slice (a i) (nk i) (ck i)])∧∀ i,i<NR→Lst W 9 (a i) (nk i) (λk=>pml (X i k) (Y i k) (I i k)))∧((∀ i,sx i<K4)∧Lst W 5 S NS (λi=>sec5 (At i) (sx i)))∧m.length≤Rows.uptoBulk d∧NR≤Rows.uptoBulk d∧(∀ i,nk i≤Rows.uptoBulk d)∧NS≤Rows.uptoBulk d:=by
 have ht:=Tryz.underlying28
 obtain ⟨⟨cs⟩,rfl,hsz⟩:=okWide_struct ht hval
 rw [show Tryz.prog.cellsOf 28=35 by kernel_rfl] at hsz
 have hl:cs.length=32+(1+(1+1)):=by simpa using hsz
 obtain ⟨fuel,hf⟩:=h
 obtain ⟨y0,y1,y2,y3,n,hx,_,g0,g1,g2,g3⟩:=Joins.trod_struct4 ht (by simpa [Value.cells] using hf)
 have s:=split4 hl
 obtain ⟨sd,hsd,e0⟩:=open_bytes (P:=Tryz.prog) Tryz.underlying23 Tryz.underlying5 (by kernel_rfl) (by kernel_rfl) g0
 obtain ⟨A,m,c,e1,hc1,hc2,hs1,hm⟩:=open_textD g1
 obtain ⟨R,NR,cR,a,nk,ck,X,Y,I,e2,hX,hY,hnk,hlr,hlk,hNR⟩:=open_ringsD g2
 obtain ⟨S,NS,cS,At,sx,e3,hsx,hls,hNS⟩:=open_secretsD g3
 simp only [Prod.mk.injEq] at hx
 have hd:Rows.uptoBulk d=Rows.uptoBulk y0.1+(Rows.uptoBulk y1.1+(Rows.uptoBulk y2.1+(Rows.uptoBulk y3.1+0)))+1:=by rw [hx.1]; rfl
 refine ⟨sd,A,m,c,R,NR,cR,a,nk,ck,X,Y,I,S,NS,cS,At,sx,?_,hsd,⟨hc1,hc2,hs1⟩,⟨hX,hY,hlr,hlk⟩,⟨hsx,hls⟩,by omega,by omega,λi=>?_,by omega⟩
 ·have q0:(cs.drop 0).take 32=sd.map bv:=e0
  have q1:(cs.drop 32).take 1=[.slice A m.length c]:=e1
  have q2:(cs.drop (32+1)).take 1=[.slice R NR cR]:=e2
  have q3:(cs.drop (32+1+1)).take 1=[.slice S NS cS]:=e3
  rw [s,q0,q1,q2,q3]
  rfl
 ·have:=hnk i
  omega
end Cu
end
section
namespace Cu
open Go.ChangeShapes Go.WideShapes Go.ChangeAt Go.RowKit Sy Go.Deep
abbrev RowN:=Option Addr×Nat×Nat×(Nat→Nat)
def RowN.is (W:World) (y:RowN):Prop:=Lst W 4 y.1 y.2.1 (λk=>fws (y.2.2.2 k))∧∀ k,y.2.2.2 k<K4
end Cu
end
section
namespace Cu
open Go.ChangeShapes Go.WideShapes Go.ChangeAt Go.RowKit Sy Go.Deep
theorem bulk_snoc {H:Type}:∀ (l:List (DataW H)) (d:DataW H),Rows.uptoBulkAll (l++[d])=Rows.uptoBulkAll l+Rows.uptoBulk d
 | [],d=>by simp [Rows.uptoBulkAll]
 | x::l,d=>by
  have h:=bulk_snoc l d
  show Rows.uptoBulkAll (x::(l++[d]))=Rows.uptoBulkAll (x::l)+_
  simp only [Rows.uptoBulkAll]
  omega
theorem bulk_sum {H:Type} (D:Nat→DataW H) (f:Nat→Nat):∀ n,(∀ i,i<n→f i≤Rows.uptoBulk (D i))→sumN f n≤Rows.uptoBulkAll ((List.range n).map D)
 | 0,_=>Nat.zero_le _
 | n+1,h=>by
  have h1:=bulk_sum D f n (λi hi=>h i (by omega))
  have h2:=h n (by omega)
  rw [List.range_succ,List.map_append,List.map_singleton,bulk_snoc]
  show sumN f n+f n≤_
  omega
theorem open_listS {α:Type} [Inhabited α] (cells:α→List Value) (ok:α→Prop) (sz:α→Nat) (s:Nat) (hs:0<s) (hc:∀ x,(cells x).length=s) (h0:ok default) (h1:sz default=0) {H:Type} {enc:TypeId×Value→H} {P:Program} {W:World} {t e:TypeId} {fuel:Nat} {cs:List Value} {x:DataW H×List MemPlace}
  (ht:P.underlying t=some (.slice e)) (hce:P.cellsOf e=s) (hel:∀ (fuel:Nat) (cs:List Value) (x:DataW H×List MemPlace),cs.length=s→DataW.trod enc P W 0 (λ_=>true) true fuel e cs=some x→∃ y,ok y∧cs=cells y∧sz y≤Rows.uptoBulk x.1)
  (hf:DataW.trod enc P W 0 (λ_=>true) true fuel t cs=some x) :
  ∃ (A:Option Addr) (m c:Nat) (T:Nat→α),cs=[.slice A m c]∧m≤c∧c≤9223372036854775807∧(∀ j,ok (T j))∧(∀ j,sz (T j)≤Rows.uptoBulk x.1)∧sumN (λj=>sz (T j)) m≤Rows.uptoBulk x.1∧Lst W s A m (λj=>cells (T j))∧m≤Rows.uptoBulk x.1:=by
 rcases open_slice ht hf with ⟨hcs,hx⟩ | ⟨a,len,cap,m,n,D,Pl,hcs,_,hl,hm,hme,hx,hall⟩
 ·exact ⟨none,0,0,λ_=>default,hcs,Nat.le_refl _,by omega,λ_=>h0,λ_=>by rw [h1]; exact Nat.zero_le _,Nat.zero_le _,lst_of λhn=>absurd hn (Nat.lt_irrefl _),Nat.zero_le _⟩
 ·simp only [if_true] at hme
  subst hme
  rw [hce] at hall
  have hb:∀ i,i<len→Rows.uptoBulk (D i)≤Rows.uptoBulk x.1:=λi hi=>by
   subst hx
   have:=bulk_mem (l:=(List.range len).map D) (d:=D i) (List.mem_map.2 ⟨i,List.mem_range.2 hi,rfl⟩)
   simp only [Rows.uptoBulk]
   omega
  obtain ⟨X,hX0,hX⟩:=choose_ltL (α:=α) (n:=len) (p:=λi y=>((ok y∧sz y≤Rows.uptoBulk x.1)∧sz y≤Rows.uptoBulk (D i))∧W.cells? 0 (a.add (i*s)) s=some (cells y)) (λi hi=>by
   obtain ⟨cs',h1,h2⟩:=hall i (by omega)
   obtain ⟨y,hy,rfl,hz⟩:=hel _ _ _ (cells_lenL h1) h2
   exact ⟨y,⟨⟨hy,Nat.le_trans hz (hb i hi)⟩,hz⟩,h1⟩) (λy=>ok y∧sz y≤Rows.uptoBulk x.1) ⟨h0,by rw [h1]; exact Nat.zero_le _⟩ (λ_ _ hp=>hp.1.1)
  refine ⟨some a,len,m,X,hcs,hl,by simpa [maxLen] using hm,λj=>(hX0 j).1,λj=>(hX0 j).2,?_,lst_of λhpos=>?_,?_⟩
  ·have h2:=bulk_sum D (λj=>sz (X j)) len (λi hi=>(hX i hi).1.2)
   subst hx
   simp only [Rows.uptoBulk]
   omega
  ·obtain ⟨_,hc0⟩:=hX 0 hpos
   obtain ⟨v0,hv0⟩:∃ v0,(cells (X 0))[0]? = some v0:=⟨(cells (X 0))[0]'(by rw [hc]; exact hs),List.getElem?_eq_getElem _⟩
   have hcell:W.cell? a=some v0:=by
    have:=cells_eachL hc0 0 v0 hv0
    simpa [Addr.add] using this
   obtain ⟨b,o,rfl,hlt⟩:=cell_spotL hcell
   refine ⟨b,o,rfl,hlt,λj hj i v hi=>?_⟩
   have:=cells_eachL (hX j hj).2 i v hi
   rwa [add_midL,add_midL] at this
  ·subst hx
   have:=bulk_len ((List.range len).map D)
   simp only [Rows.uptoBulk]
   simp only [List.length_map,List.length_range] at this
   omega
def RowN.isC (W:World) (y:RowN):Prop:=RowN.is W y∧y.2.1≤y.2.2.1
set_option maxRecDepth 100000 in
theorem open_rowsS {H:Type} {enc:TypeId×Value→H} {W:World} {fuel:Nat} {cs:List Value} {x:DataW H×List MemPlace} (hf:DataW.trod enc Tryz.prog W 0 (λ_=>true) true fuel 29 cs=some x) :
  ∃ (R:Option Addr) (NR cR:Nat) (a:Nat→Option Addr) (nk ck:Nat→Nat) (s:Nat→Nat→Nat),cs=[.slice R NR cR]∧(∀ i k,s i k<K4)∧(∀ i,nk i≤Rows.uptoBulk x.1)∧sumN nk NR≤Rows.uptoBulk x.1∧(∀ i,nk i≤ck i)∧Lst W 1 R NR (λi=>[.slice (a i) (nk i) (ck i)])∧(∀ i,i<NR→Lst W 4 (a i) (nk i) (λk=>fws (s i k)))∧NR≤Rows.uptoBulk x.1:=by
 obtain ⟨R,NR,cR,T,e,_,_,hok,hsz,hsum,hls,hn⟩:=open_listS (P:=Tryz.prog) (λy:RowN=>[.slice y.1 y.2.1 y.2.2.1]) (RowN.isC W) (λy=>y.2.1) 1 (by decide) (λ_=>rfl)
  ⟨⟨lst_of λh=>absurd h (Nat.lt_irrefl _),λ_=>K4_pos⟩,Nat.le_refl _⟩ rfl Tryz.underlying29 (by kernel_rfl)
  (λfuel cs x _ hf=>by
   obtain ⟨A,n,c,T,e,hc,_,hT,_,hls,hn⟩:=open_listD (P:=Tryz.prog) (λn:Nat=>fws n) (λn=>n<K4) (λ_=>0) 4 (by decide) (λ_=>rfl) K4_pos rfl Tryz.underlying51 (by kernel_rfl)
    (λfuel cs x hl hf=>by
     obtain ⟨k,hk,e⟩:=four_words hl (P:=Tryz.prog) Tryz.underlying42 Tryz.underlying40 (by kernel_rfl) hf
     exact ⟨k,hk,e,Nat.zero_le _⟩) hf
   exact ⟨(A,n,c,T),⟨⟨hls,hT⟩,hc⟩,e,hn⟩) hf
 exact ⟨R,NR,cR,λi=>(T i).1,λi=>(T i).2.1,λi=>(T i).2.2.1,λi k=>(T i).2.2.2 k,e,λi k=>(hok i).1.2 k,hsz,hsum,λi=>(hok i).2,hls,λi _=>(hok i).1.1,hn⟩
set_option maxRecDepth 100000 in
theorem open_ringsigS {H:Type} {enc:TypeId×Value→H} {W:World} {r:Reach} {b0:Nat} {v:Value} {d:DataW H} {ps:List MemPlace}
  (hval:Value.okWide Tryz.prog W r b0 31 v) (h:DataW.Trod enc Tryz.prog W 0 (λ_=>true) true 31 v d ps) :
  ∃ (dd:List UInt8) (R:Option Addr) (NR cR:Nat) (a:Nat→Option Addr) (nk ck:Nat→Nat) (s:Nat→Nat→Nat),v=sgv33 dd R NR cR∧dd.length=32∧(∀ i k,s i k<K4)∧Lst W 1 R NR (λi=>[.slice (a i) (nk i) (ck i)])∧(∀ i,i<NR→Lst W 4 (a i) (nk i) (λk=>fws (s i k)))∧NR≤Rows.uptoBulk d∧(∀ i,nk i≤Rows.uptoBulk d)∧sumN nk NR≤Rows.uptoBulk d∧∀ i,nk i≤ck i:=by
 have ht:=Tryz.underlying31
 obtain ⟨⟨cs⟩,rfl,hsz⟩:=okWide_struct ht hval
 rw [show Tryz.prog.cellsOf 31=33 by kernel_rfl] at hsz
 have hl:cs.length=32+1:=by simpa using hsz
 obtain ⟨fuel,hf⟩:=h
 obtain ⟨y0,y1,n,hx,_,g0,g1⟩:=trod_struct2 ht (by simpa [Value.cells] using hf)
 have s:=split2 hl
 obtain ⟨sd,hsd,e0⟩:=open_bytes (P:=Tryz.prog) Tryz.underlying23 Tryz.underlying5 (by kernel_rfl) (by kernel_rfl) g0
 obtain ⟨R,NR,cR,a,nk,ck,S,e1,hS,hnk,hsum,hck,hlr,hlk,hNR⟩:=open_rowsS g1
 simp only [Prod.mk.injEq] at hx
 have hd:Rows.uptoBulk d=Rows.uptoBulk y0.1+(Rows.uptoBulk y1.1+0)+1:=by rw [hx.1]; rfl
 refine ⟨sd,R,NR,cR,a,nk,ck,S,?_,hsd,hS,hlr,hlk,by omega,λi=>?_,by omega,hck⟩
 ·have q0:(cs.drop 0).take 32=sd.map bv:=e0
  have q1:(cs.drop 32).take 1=[.slice R NR cR]:=e1
  rw [s,q0,q1]
  rfl
 ·have:=hnk i
  omega
abbrev IntR:={ z:Int // -9223372036854775808≤z∧z<9223372036854775808 }
instance:Inhabited IntR:=⟨⟨0,by decide⟩⟩
set_option maxRecDepth 100000 in
theorem open_ints {H:Type} {enc:TypeId×Value→H} {W:World} {r:Reach} {b0:Nat} {v:Value} {d:DataW H} {ps:List MemPlace}
  (hval:Value.okWide Tryz.prog W r b0 57 v) (h:DataW.Trod enc Tryz.prog W 0 (λ_=>true) true 57 v d ps) :
  ∃ (A:Option Addr) (N c:Nat) (D:Nat→Int),v=.slice A N c∧(∀ i, -9223372036854775808≤D i∧D i<9223372036854775808)∧Lst W 1 A N (λi=>[.int .i64 (D i)])∧N≤Rows.uptoBulk d:=by
 obtain ⟨a0,len,cap,rfl⟩:=okWide_slice Tryz.underlying57 hval
 obtain ⟨fuel,hf⟩:=h
 obtain ⟨A,N,c,K,e1,_,hls,hN⟩:=open_listC (P:=Tryz.prog) (λx:IntR=>[.int .i64 x.1]) (λ_=>True) 1 (by decide) (λ_=>rfl) trivial Tryz.underlying57 (by kernel_rfl)
  (λfuel cs x _ hf=>by
   obtain ⟨z,e0,hz⟩:=one_int (P:=Tryz.prog) Tryz.underlying3 hf
   exact ⟨⟨z,hz⟩,trivial,e0⟩) hf
 simp [Value.cells] at e1
 obtain ⟨rfl,rfl,rfl⟩:=e1
 exact ⟨_,_,_,λi=>(K i).1,rfl,λi=>(K i).2,hls,hN⟩
end Cu
end
section
namespace Cu
open Go.RowKit Sy
end Cu
end
section
namespace Cu
open Go.RowKit Sy
section
variable {At Bt:Nat→Int} {sx sy:Nat→Nat} {NS NT:Nat}
end
end Cu
end
section
namespace Sc
open Go.RowKit Go.Lib
end Sc
end
section
namespace Sc
open Go.RowKit Go.Lib
end Sc
end
section
namespace Cu
open Go.RowKit Sy
end Cu
end
section
namespace Cu
open Go.RowKit Sy
section
variable (bm sd:List UInt8) (i:Nat) (s:Nat→Nat)
end
section
variable {bm sd:List UInt8} {i n a:Nat} {s e:Nat→Nat} {X Y:Nat→Nat} {I:Nat→Bool}
end
end Cu
end
section
namespace Cu
open Go.RowKit Sy
section
variable (bm sd:List UInt8) (nk:Nat→Nat) (s e:Nat→Nat→Nat) (X Y:Nat→Nat→Nat) (I:Nat→Nat→Bool)
end
section
variable {bm sd:List UInt8} {nk:Nat→Nat} {s e:Nat→Nat→Nat} {X Y:Nat→Nat→Nat} {I:Nat→Nat→Bool} {NR:Nat}
end
end Cu
end
section
namespace Cu
open Go.RowKit Sy
end Cu
end
section
namespace Cu
open Go.RowKit Sy
section
variable {bm sd:List UInt8} {i n k p:Nat} {s:Nat→Nat}
end
end Cu
end
section
namespace Cu
open Go.RowKit Sy
theorem textS_any (w:World) (nm:List UInt8) (hnm:nm.length=32):Calls Tryz.prog 51 #[.agg (nm.map bv).toArray] w (GetsN w (λvq Mq=>∃ y:Slc,vq=y.v∧Mq=y.bl∧y.Is 5 1 (bytesR nm))):=by
 refine (Sh.textR_any w nm hnm).mono ?_
 rintro e w' ⟨g,cap,rfl,ho,hl,hb⟩
 unfold Sh.OwnB at ho
 rw [hnm] at ho
 rcases ho.2 with ⟨h0,_⟩ | ⟨g',cap',cur,hv,hg,hk,q3,q4,q5,q6⟩
 ·cases h0
 ·cases hv
  refine ⟨_,[(g,5,cur)],rfl,⟨⟨.slice (some ⟨g,0,none⟩) 32 cap,[(g,5,cur)]⟩,rfl,rfl,?_⟩,hb,λg1 t1 cs1 hm=>?_,by simp⟩
  ·have q:=Slc.Is.mk' (g:=g) (nn:=32) (cap:=cap) (e:=5) (cs:=cur.toList) (bytesR_one nm) (bytesR_cell nm) (by rw [bytesR_len]; exact hnm) (by rw [bytesR_flat]; exact q6) (by rw [Array.length_toList]; exact q5) q3 q4
   exact q
  ·simp only [List.mem_singleton,Prod.mk.injEq] at hm
   obtain ⟨rfl,rfl,rfl⟩:=hm
   exact ⟨hg,hk⟩
def rowE (s:Nat→Nat):Nat→List UInt8
 | 0=>[]
 | k+1=>rowE s k++bytesS (s k%Sc.pM)
def rowsE (s:Nat→Nat→Nat) (sn:Nat→Nat):Nat→List UInt8
 | 0=>[]
 | k+1=>rowsE s sn k++rowE (s k) (sn k)
theorem rowE_len (s:Nat→Nat):∀ k,(rowE s k).length=32*k
 | 0=>rfl
 | k+1=>by
  show (rowE s k++bytesS _).length=_
  rw [List.length_append,rowE_len s k,bytesS_length]
  omega
theorem rowsE_len (s:Nat→Nat→Nat) {sn:Nat→Nat} (h:∀ i,sn i≤1048576):∀ k,(rowsE s sn k).length≤33554432*k
 | 0=>Nat.le_refl _
 | k+1=>by
  show (rowsE s sn k++rowE _ _).length≤_
  have h1:=rowsE_len s h k
  have h2:=h k
  rw [List.length_append,rowE_len]
  omega
set_option maxHeartbeats 4000000 in
set_option maxRecDepth 100000 in
theorem enc8_any (w:World) (d:List UInt8) (hd:d.length=32) (W:Option Addr) (NW cW:Nat) (sa:Nat→Option Addr) (sn sc:Nat→Nat) (s:Nat→Nat→Nat) (hsc:∀ i k,s i k<K4) (hNW:NW≤4611686018427387904) (hsn9:∀ i,i<NW→sn i≤4611686018427387904) (hlw:Lst w 1 W NW (λi=>[.slice (sa i) (sn i) (sc i)])) (hls:∀ i,i<NW→Lst w 4 (sa i) (sn i) (λk=>fws (s i k))) (hW9:NW≤1048576) (hsB:∀ i,sn i≤1048576):Calls Tryz.prog 26 #[sgv33 d W NW cW] w (GetsN w ((λvq Mq=>∃ y:Slc,vq=y.v∧Mq=y.bl∧y.Is 5 1 (bytesR (d++rowsE s sn NW))))):=by
 obtain ⟨gW,oW,hW⟩:=hlw
 refine Sy.enter (args:=[sgv33 d W NW cW]) Tryz.func26 rfl kL ?_
 refine sC ?_
 refine sM 31 (sgc33 d W NW cW).toArray (λg0=>?_)
 refine sP (.slice none 0 0) ?_
 refine sA ?_
 refine sP (.pointer (some ⟨g0,0,none⟩))<|sS (.agg (d.map bv).toArray) (Quiet.load 0 g0 0 32 31 23 (sgc33 d W NW cW).toArray _ _ rfl kR kR Tryz.underlying23 rfl kR _ (sg_first hd) (sg_fits hd)) ?_
 refine Sy.callN kR 51 #[.agg (d.map bv).toArray] kF ((λvq Mq=>∃ y:Slc,vq=y.v∧Mq=y.bl∧y.Is 5 1 (bytesR d))) (λw hw=>textS_any w d hd) (λvq Mq hR0=>?_)
 obtain ⟨y0,rfl,rfl,hy0⟩:=hR0
 refine Sy.permS (M:=[(g0,31,(sgc33 d W NW cW).toArray)]++(y0.bl++([]))) (by rw [List.append_nil]; exact List.Perm.refl _) ?_
 refine sP (y0.v) ?_
 refine sG<|Sy.seq<|sC ?_
 refine sP (.int .i64 0) ?_
 refine sG<|Sy.block ?_
 refine Sy.loopT (Y:=Slc) NW (λk1 y1=>[(1,.pointer (some ⟨g0,0,none⟩)),(3,y1.v),(4,.int .i64 ((k1:Nat):Int))]) (λk1 y1=>[(g0,31,(sgc33 d W NW cW).toArray)]++(y1.bl++([]))) (λk1 y1=>y1.Is 5 1 (bytesR (d++rowsE s sn k1))) y0 (by rw [show d++rowsE s sn 0=d from List.append_nil d]; exact hy0) (all_cons kR (all_cons kR (all_cons kR all_nil))) (λw hw=>hw) (λk1 y1 hk1 hh1=>?_)
 refine Sy.seq<|sC ?_
 refine sP (.int .i64 ((k1:Nat):Int))<|sP (.pointer (some ⟨g0,32,none⟩))<|sS (.slice W NW cW) (Quiet.cell 0 g0 32 31 29 (sgc33 d W NW cW).toArray _ _ rfl kR kR Tryz.underlying29 rfl _ (sg_at hd))<|sP (.int .i64 ((NW:Nat):Int)) ?_
 obtain ⟨b1,hb1⟩:∃ z:Bool,z=decide (k1<NW):=⟨_,rfl⟩
 refine sS (.bool b1) (Quiet.pure (exec_int .lss _ _ _ .i64 _ _ _ rfl rfl rfl (int_lss _ _ _ _ _ (by rw [hb1]; exact decide_eq_decide.2 (by omega))))) ?_
 refine sG ?_
 cases b1
 ·have lb1:¬ (k1<NW):=of_decide_eq_false hb1.symm
  refine sU<|Sy.exit<|Sy.then_exit<|Sy.then_exit ?_
  obtain rfl:NW=k1:=by omega
  refine Sy.in_exit<|sB ?_
  refine sP (y1.v)<|sP (y1.v) ?_
  refine sG<|Sy.ret ?_
  exact retGM y1.bl rfl (v:=y1.v) (.inl (show _=_ by kernel_rfl)) (λw hw=>St.parts (ls:=[[(g0,31,(sgc33 d W NW cW).toArray)],y1.bl]) (ms:=[y1.bl]) [[(g0,31,(sgc33 d W NW cW).toArray)]] [1,0] kR (by rfl) (by rfl) (by simp) hw) ⟨y1,rfl,rfl,hh1⟩
 ·have lb1:k1<NW:=of_decide_eq_true hb1.symm
  obtain ⟨gS,oS,hS⟩:=hls k1 lb1
  have hsn1:=hsB k1
  refine sT<|Sy.skip<|Sy.then_<|Sy.seq<|Sy.block<|sC ?_
  refine sP (.int .i64 0) ?_
  refine sG<|Sy.block ?_
  refine Sy.loopT (Y:=Slc) (sn k1) (λk2 y2=>[(1,.pointer (some ⟨g0,0,none⟩)),(3,y2.v),(4,.int .i64 ((k1:Nat):Int)),(5,.int .i64 ((k2:Nat):Int))]) (λk2 y2=>[(g0,31,(sgc33 d W NW cW).toArray)]++(y2.bl++([]))) (λk2 y2=>y2.Is 5 1 (bytesR (d++(rowsE s sn k1++rowE (s k1) k2)))) y1 (by rw [show rowsE s sn k1++rowE (s k1) 0=rowsE s sn k1 from List.append_nil _]; exact hh1) (all_cons kR (all_cons kR (all_cons kR (all_cons kR all_nil)))) (λw hw=>hw) (λk2 y2 hk2 hh2=>?_)
  refine Sy.seq<|sC ?_
  refine sP (.int .i64 ((k2:Nat):Int))<|sP (.pointer (some ⟨g0,32,none⟩))<|sS (.slice W NW cW) (Quiet.cell 0 g0 32 31 29 (sgc33 d W NW cW).toArray _ _ rfl kR kR Tryz.underlying29 rfl _ (sg_at hd))<|sP (.int .i64 ((k1:Nat):Int))<|sS (.pointer (some ⟨gW,oW+k1*1,none⟩)) (Quiet.pure (exec_atO 29 _ _ _ W gW oW NW cW k1 1 .i64 (hW (by omega)).1 rfl rfl rfl Tryz.underlying29 kF (by omega)))<|sS (.slice (sa k1) (sn k1) (sc k1)) (Quiet.thereOne gW (oW+k1*1) 51 _ _ rfl kR (hW (by omega)).2.1 _ (range_one ((hW (by omega)).2.2 k1 (by omega)) 0 rfl) Tryz.underlying51 rfl)<|sP (.int .i64 (((sn k1):Nat):Int)) ?_
  obtain ⟨b2,hb2⟩:∃ z:Bool,z=decide (k2<(sn k1)):=⟨_,rfl⟩
  refine sS (.bool b2) (Quiet.pure (exec_int .lss _ _ _ .i64 _ _ _ rfl rfl rfl (int_lss _ _ _ _ _ (by rw [hb2]; exact decide_eq_decide.2 (by omega))))) ?_
  refine sG ?_
  cases b2
  ·have lb2:¬ (k2<(sn k1)):=of_decide_eq_false hb2.symm
   refine sU<|Sy.exit<|Sy.then_exit<|Sy.then_exit ?_
   obtain rfl:k2=sn k1:=by omega
   refine Sy.in_exit<|Sy.in_<|Sy.then_<|Sy.region ?_
   refine sP (.int .i64 ((k1:Nat):Int))<|sS (.int .i64 ((k1+1:Nat):Int)) (Quiet.pure (exec_int .add _ _ _ .i64 _ _ _ rfl rfl rfl (int_add _ _ _ _ _ ((wrap_i64 (by omega) (by omega)).trans (by omega)))))<|sP (.int .i64 ((k1+1:Nat):Int)) ?_
   refine Sy.nil ?_
   exact Sy.againT (y2) (by omega) (by rw [show d++rowsE s sn (k1+1)=d++(rowsE s sn k1++rowE (s k1) (sn k1)) from rfl]; exact hh2) (all_cons kR (all_cons kR (all_cons kR all_nil))) (λw hw=>hw)
  ·have lb2:k2<(sn k1):=of_decide_eq_true hb2.symm
   refine sT<|Sy.skip<|Sy.then_<|Sy.seq<|Sy.block<|Sy.region ?_
   refine sP (y2.v)<|sP (.pointer (some ⟨g0,32,none⟩))<|sS (.slice W NW cW) (Quiet.cell 0 g0 32 31 29 (sgc33 d W NW cW).toArray _ _ rfl kR kR Tryz.underlying29 rfl _ (sg_at hd))<|sP (.int .i64 ((k1:Nat):Int))<|sS (.pointer (some ⟨gW,oW+k1*1,none⟩)) (Quiet.pure (exec_atO 29 _ _ _ W gW oW NW cW k1 1 .i64 (hW (by omega)).1 rfl rfl rfl Tryz.underlying29 kF (by omega)))<|sS (.slice (sa k1) (sn k1) (sc k1)) (Quiet.thereOne gW (oW+k1*1) 51 _ _ rfl kR (hW (by omega)).2.1 _ (range_one ((hW (by omega)).2.2 k1 (by omega)) 0 rfl) Tryz.underlying51 rfl)<|sP (.int .i64 ((k2:Nat):Int))<|sS (.pointer (some ⟨gS,oS+k2*4,none⟩)) (Quiet.pure (exec_atO 51 _ _ _ (sa k1) gS oS (sn k1) (sc k1) k2 4 .i64 (hS (by omega)).1 rfl rfl rfl Tryz.underlying51 kF (by omega))) ?_
   refine sS (fv (s k1 k2)) (Quiet.there gS (oS+k2*4) 4 42 (fws (s k1 k2)) _ _ rfl kR (hS (by omega)).2.1 ((hS (by omega)).2.2 k2 (by omega)) Tryz.underlying42 rfl kR rfl _ rfl) ?_
   refine Sy.callN kR 76 #[fv (s k1 k2)] kF ((λvq Mq=>∃ (g:Nat) (sp:List Value) (cap:Nat),vq=.slice (some ⟨g,0,none⟩) 32 cap∧(32≤cap∧cap≤9223372036854775807)∧Mq=[(g,5,((bytesS (s k1 k2%Sc.pM)).map bv++sp).toArray)])) (λw hw=>bscN w _ (hsc _ _)) (λvq Mq hR0=>?_)
   obtain ⟨q8,sp8,cp8,rfl,hc8,rfl⟩:=hR0
   refine Sy.movT ?_
   refine Sy.appendM kR 24 5 _ _ 1 1 Tryz.underlying24 info_b8 rfl rfl rfl rfl (by decide) _ _ rfl (ys:=bytesR (bytesS (s k1 k2%Sc.pM))) hh2 kR (bytesR_one _) (bytesR_cell _) (some ⟨q8,0,none⟩) 32 cp8 (by rw [bytesR_len]; exact (bytesS_length _)) hc8.1 kR (λ_=>From.own (i:=1) (t:=5) (sp:=sp8) kR) (by have hq:=rowsE_len s hsB k1; simp only [bytesR_len,List.length_append,rowE_len]; omega) (by have hq:=rowsE_len s hsB k1; simp only [bytesR_len,List.length_append,rowE_len,maxLen]; omega) (λr1 hr1=>?_)
   refine sP (r1.v) ?_
   refine Sy.nil<|Sy.in_<|Sy.then_<|Sy.region ?_
   refine sP (.int .i64 ((k2:Nat):Int))<|sS (.int .i64 ((k2+1:Nat):Int)) (Quiet.pure (exec_int .add _ _ _ .i64 _ _ _ rfl rfl rfl (int_add _ _ _ _ _ ((wrap_i64 (by omega) (by omega)).trans (by omega)))))<|sP (.int .i64 ((k2+1:Nat):Int)) ?_
   refine Sy.nil ?_
   exact Sy.againT (r1) (by omega) (by rw [show d++(rowsE s sn k1++rowE (s k1) (k2+1))=(d++(rowsE s sn k1++rowE (s k1) k2))++bytesS (s k1 k2%Sc.pM) by show d++(rowsE s sn k1++(rowE (s k1) k2++_))=_; simp only [List.append_assoc],bytesR_add]; exact hr1) (all_cons kR (all_cons kR (all_cons kR (all_cons kR all_nil)))) (λw hw=>St.parts (ls:=[[(g0,31,(sgc33 d W NW cW).toArray)],[(q8,5,((bytesS (s k1 k2%Sc.pM)).map bv++sp8).toArray)],r1.bl]) (ms:=[[(g0,31,(sgc33 d W NW cW).toArray)],r1.bl]) [[(q8,5,((bytesS (s k1 k2%Sc.pM)).map bv++sp8).toArray)]] [0,2,1] kR (by rfl) (by rfl) (by rfl) hw)
end Cu
end
section
namespace Cu
open Go.RowKit Sy
set_option maxRecDepth 100000
set_option maxHeartbeats 4000000
theorem cloneB_any (w:World) (gA oA:Nat) (m:List UInt8) (n c:Nat) (hm:m.length=n) (hm9:n≤999000000) (hc:n≤c) (hc2:c≤9223372036854775807) (hs0:Sh.Src w (some ⟨gA,oA,none⟩) m):Calls Tryz.prog 73 #[.slice (some ⟨gA,oA,none⟩) n c] w (GetsN w ((λvq Mq=>∃ y:Slc,vq=y.v∧Mq=y.bl∧y.Is 5 1 (bytesR m)))):=by
 refine Sy.enter (args:=[.slice (some ⟨gA,oA,none⟩) n c]) Tryz.func73 rfl kL ?_
 refine sC ?_
 refine sP (.slice none 0 0) ?_
 refine sG<|Sy.seq<|sC ?_
 refine sP (.slice (some ⟨gA,oA,none⟩) n c)<|sP (.bool false) ?_
 refine sG<|sU<|Sy.skip<|sB ?_
 refine Sy.make kR 5 #[] (λg=>.slice (some ⟨g,0,none⟩) 0 0) kF (λg0=>?_)
 refine sP (.slice (some ⟨gA,oA,none⟩) n c) ?_
 refine Sy.permS (M:=[]++((⟨.slice (some ⟨g0,0,none⟩) 0 0,[(g0,5,#[])]⟩:Slc).bl++[])) (by exact List.Perm.refl _) ?_
 refine Sy.appendM kR 24 5 _ _ 1 1 Tryz.underlying24 info_b8 rfl rfl rfl rfl (by decide) _ _ rfl (ys:=bytesR m) bytesR_start kR (bytesR_one _) (bytesR_cell _) (some ⟨gA,oA,none⟩) n c (by rw [bytesR_len]; exact hm) hc kR (λ_=>From.src hs0) (by simp [bytesR]; omega) (by simp [bytesR,maxLen]; omega) (λr1 hr1=>?_)
 refine sP (r1.v) ?_
 refine sG<|Sy.ret ?_
 exact retGM r1.bl rfl (v:=r1.v) (.inl (show _=_ by kernel_rfl)) (λw hw=>by simpa using hw) ⟨r1,rfl,rfl,by have q:=hr1; simpa [bytesR] using q⟩
theorem growS_any (w:World) (q:Nat) (hq:q≤2000000):Calls Tryz.prog 136 #[.slice none 0 0,.int .i64 ((q:Nat):Int)] w (GetsN w (GivesRow 42 4 [])):=by
 refine Sy.enter (args:=[.slice none 0 0,.int .i64 ((q:Nat):Int)]) Tryz.func136 rfl kL ?_
 refine sC ?_
 refine sP (.slice none 0 0) ?_
 refine sG<|Sy.seq<|sC ?_
 refine sP (.int .i64 ((q:Nat):Int)) ?_
 obtain ⟨b1,hb1⟩:∃ z:Bool,z=decide (q<0):=⟨_,rfl⟩
 refine sS (.bool b1) (Quiet.pure (exec_int .lss _ _ _ .i64 _ _ _ rfl rfl rfl (int_lss _ _ _ _ _ (by rw [hb1]; exact decide_eq_decide.2 (by omega))))) ?_
 refine sG ?_
 cases b1
 ·have lb1:¬ (q<0):=of_decide_eq_false hb1.symm
  refine sU<|Sy.skip<|Sy.then_<|Sy.seq<|sC ?_
  refine sP (.int .i64 ((q:Nat):Int))<|sP (.slice none 0 0)<|sP (.int .i64 0)<|sP (.slice none 0 0)<|sP (.int .i64 0)<|sP (.int .i64 0)<|sS (.int .i64 ((q:Nat):Int)) (Quiet.pure (exec_int .sub _ _ _ .i64 _ _ _ rfl rfl rfl (int_sub _ _ _ _ _ ((wrap_i64 (by omega) (by omega)).trans (by omega)))))<|sP (.int .i64 ((q:Nat):Int)) ?_
  refine sA ?_
  refine sP (.int .i64 ((q:Nat):Int)) ?_
  obtain ⟨b2,hb2⟩:∃ z:Bool,z=decide (q>0):=⟨_,rfl⟩
  refine sS (.bool b2) (Quiet.pure (exec_int .gtr _ _ _ .i64 _ _ _ rfl rfl rfl (int_gtr _ _ _ _ _ (by rw [hb2]; exact decide_eq_decide.2 (by omega))))) ?_
  refine sG ?_
  cases b2
  ·have lb2:¬ (q>0):=of_decide_eq_false hb2.symm
   refine sU<|Sy.skip<|sB ?_
   refine sP (.slice none 0 0)<|sP (.slice none 0 0) ?_
   refine sG<|Sy.ret ?_
   exact retGM [] rfl (v:=.slice none 0 0) (.inl (show _=_ by kernel_rfl)) (λ_ hw=>hw) ⟨nilS,Slc.Is.nil _ _,rfl,rfl⟩
  ·have lb2:q>0:=of_decide_eq_true hb2.symm
   refine sT<|Sy.region ?_
   refine sP (.slice none 0 0)<|sP (.slice none 0 0)<|sP (.int .i64 0)<|sP (.slice none 0 0)<|sP (.int .i64 ((q:Nat):Int)) ?_
   refine Sy.appendZ kR 51 3 42 _ _ 4 32 Tryz.underlying51 Tryz.underlying3 info_sc rfl rfl rfl rfl (by decide) _ _ rfl rfl q (by omega) rfl (by omega) (by simp only [maxLen]; omega) (λgz cz zs hz1 hz2 hz3=>?_)
   refine sP (.slice none 0 0)<|sP (.int .i64 0)<|sS (.slice (some ⟨gz,0,none⟩) 0 cz) (Quiet.pure (exec_upto 51 _ _ gz 0 q cz 0 4 .i64 rfl rfl rfl Tryz.underlying51 kF (Nat.zero_le _)))<|sP (.slice (some ⟨gz,0,none⟩) 0 cz) ?_
   refine sA ?_
   refine sP (.slice (some ⟨gz,0,none⟩) 0 cz)<|sP (.slice (some ⟨gz,0,none⟩) 0 cz) ?_
   refine sG<|Sy.ret ?_
   exact retGM [(gz,42,zs.toArray)] rfl (v:=.slice (some ⟨gz,0,none⟩) 0 cz) (.inl (show _=_ by kernel_rfl)) (λ_ hw=>hw) ⟨⟨.slice (some ⟨gz,0,none⟩) 0 cz,[(gz,42,zs.toArray)]⟩,Slc.Is.mk' (by simp) (by simp) rfl (by simp) hz1 (Nat.zero_le _) hz3,rfl,rfl⟩
 ·have lb1:q<0:=of_decide_eq_true hb1.symm
  exact absurd lb1 (by omega)
theorem concatS_any (w:World) (T:Option Addr) (N d:Nat) (a:Nat→Option Addr) (n c:Nat→Nat) (f:Nat→Nat→List Value) (hf1:∀ i k,(f i k).length=4) (hf2:∀ i k, ∀ u∈f i k,u.oneCell'=true) (hN:N≤2000000) (hs:sumN n N≤2000000) (hnc:∀ i,i<N→n i≤c i) (hlt:Lst w 1 T N (λi=>[.slice (a i) (n i) (c i)])) (hl:∀ i,i<N→Lst w 4 (a i) (n i) (f i)):Calls Tryz.prog 74 #[.slice T N d] w (GetsN w (GivesRow 42 4 (catR n f N))):=by
 obtain ⟨gT,oT,hT⟩:=hlt
 refine Sy.enter (args:=[.slice T N d]) Tryz.func74 rfl kL ?_
 refine sC ?_
 refine sP (.slice none 0 0) ?_
 refine sA ?_
 refine sP (.int .i64 0) ?_
 refine sG<|Sy.seq<|sC ?_
 refine sP (.slice T N d)<|sP (.int .i64 ((N:Nat):Int))<|sP (.int .i64 0) ?_
 refine sG<|Sy.block ?_
 refine Sy.loopK N (λk1=>[(0,.slice T N d),(3,.int .i64 (((sumN n k1):Nat):Int)),(9,.slice T N d),(10,.int .i64 ((N:Nat):Int)),(11,.int .i64 ((k1:Nat):Int))]) (λk1=>[]) [] (M:=[]) (all_cons kR (all_cons kR (all_cons kR (all_cons kR (all_cons kR all_nil))))) kR rfl (λk1 hk1=>?_)
 refine sC ?_
 obtain ⟨b1,hb1⟩:∃ z:Bool,z=decide (k1<N):=⟨_,rfl⟩
 refine sS (.bool b1) (Quiet.pure (exec_int .lss _ _ _ .i64 _ _ _ rfl rfl rfl (int_lss _ _ _ _ _ (by rw [hb1]; exact decide_eq_decide.2 (by omega))))) ?_
 refine sG<|Sy.seq ?_
 cases b1
 ·have lb1:¬ (k1<N):=of_decide_eq_false hb1.symm
  refine sU<|Sy.exit<|Sy.then_exit<|Sy.then_exit ?_
  obtain rfl:N=k1:=by omega
  refine Sy.in_exit<|sB ?_
  refine sP (.int .i64 (((sumN n N):Nat):Int)) ?_
  refine Sy.callN kR 136 #[.slice none 0 0,.int .i64 (((sumN n N):Nat):Int)] kF (GivesRow 42 4 []) (λw hw=>growS_any w _ (by omega)) (λvq Mq hR0=>?_)
  obtain ⟨y0,hy0,rfl,rfl⟩:=hR0
  refine sP (y0.v) ?_
  refine sG<|Sy.seq<|sC ?_
  refine sP (.slice T N d)<|sP (.int .i64 ((N:Nat):Int))<|sP (.int .i64 0) ?_
  refine sG<|Sy.block ?_
  refine Sy.loopT (Y:=Slc) N (λk1 y1=>[(0,.slice T N d),(6,y1.v),(25,.slice T N d),(26,.int .i64 ((N:Nat):Int)),(27,.int .i64 ((k1:Nat):Int))]) (λk1 y1=>[]++(y1.bl++[])) (λk1 y1=>y1.Is 42 4 (catR n f k1)) y0 hy0 (all_cons kR (all_cons kR (all_cons kR (all_cons kR (all_cons kR all_nil))))) (λw hw=>by simpa using hw) (λk1 y1 hk1 hh1=>?_)
  refine sC ?_
  obtain ⟨b2,hb2⟩:∃ z:Bool,z=decide (k1<N):=⟨_,rfl⟩
  refine sS (.bool b2) (Quiet.pure (exec_int .lss _ _ _ .i64 _ _ _ rfl rfl rfl (int_lss _ _ _ _ _ (by rw [hb2]; exact decide_eq_decide.2 (by omega))))) ?_
  refine sG<|Sy.seq ?_
  cases b2
  ·have lb2:¬ (k1<N):=of_decide_eq_false hb2.symm
   refine sU<|Sy.exit<|Sy.then_exit<|Sy.then_exit ?_
   obtain rfl:N=k1:=by omega
   refine Sy.in_exit<|sB ?_
   refine sP (y1.v)<|sP (y1.v) ?_
   refine sG<|Sy.ret ?_
   exact retGM (y1.bl) rfl (v:=y1.v) (.inl (show _=_ by kernel_rfl)) (λ_ hw=>by simpa using hw) ⟨y1,hh1,rfl,rfl⟩
  ·have lb2:k1<N:=of_decide_eq_true hb2.symm
   have hsk:sumN n k1+n k1≤sumN n N:=sumN_mono n (show k1+1≤N by omega)
   refine sT<|Sy.skip<|Sy.then_<|Sy.seq<|Sy.block<|sC ?_
   refine sS (.pointer (some ⟨gT,oT+k1*1,none⟩)) (Quiet.pure (exec_atO 29 _ _ _ T gT oT N d k1 1 .i64 (hT (by omega)).1 rfl rfl rfl Tryz.underlying29 kF (by omega)))<|sS (.slice (a k1) (n k1) (c k1)) (Quiet.thereOne gT (oT+k1*1) 51 _ _ rfl kR (hT (by omega)).2.1 _ (range_one ((hT (by omega)).2.2 k1 (by omega)) 0 rfl) Tryz.underlying51 rfl)<|sP (.slice (a k1) (n k1) (c k1)) ?_
   refine sG<|Sy.region ?_
   refine sP (y1.v)<|sP (.slice (a k1) (n k1) (c k1)) ?_
   refine Sy.appendM kR 51 42 _ _ 4 32 Tryz.underlying51 info_sc rfl rfl rfl rfl (by decide) _ _ rfl (ys:=(List.range (n k1)).map (f k1)) hh1 kR (λz hz=>by obtain ⟨i,_,rfl⟩:=List.mem_map.1 hz; exact hf1 _ _) (λz hz=>by obtain ⟨i,_,rfl⟩:=List.mem_map.1 hz; exact hf2 _ _) (a k1) (n k1) (c k1) (by rw [List.length_map,List.length_range]) (hnc k1 (by omega)) kR (λ_=>From.lst (hl k1 (by omega)) (hf1 k1)) (by rw [catR_len]; omega) (by rw [catR_len]; simp only [maxLen]; omega) (λr1 hr1=>?_)
   refine sP (r1.v) ?_
   refine Sy.nil<|Sy.in_<|Sy.then_<|Sy.region ?_
   refine sS (.int .i64 ((k1+1:Nat):Int)) (Quiet.pure (exec_int .add _ _ _ .i64 _ _ _ rfl rfl rfl (int_add _ _ _ _ _ ((wrap_i64 (by omega) (by omega)).trans (by omega)))))<|sP (.int .i64 ((k1+1:Nat):Int)) ?_
   refine Sy.nil ?_
   exact Sy.againT (r1) (by omega) (hr1) (all_cons kR (all_cons kR (all_cons kR (all_cons kR (all_cons kR all_nil))))) (λw hw=>hw)
 ·have lb1:k1<N:=of_decide_eq_true hb1.symm
  have hsk:sumN n k1+n k1≤sumN n N:=sumN_mono n (show k1+1≤N by omega)
  refine sT<|Sy.skip<|Sy.then_<|Sy.seq<|Sy.block<|sC ?_
  refine sS (.pointer (some ⟨gT,oT+k1*1,none⟩)) (Quiet.pure (exec_atO 29 _ _ _ T gT oT N d k1 1 .i64 (hT (by omega)).1 rfl rfl rfl Tryz.underlying29 kF (by omega)))<|sS (.slice (a k1) (n k1) (c k1)) (Quiet.thereOne gT (oT+k1*1) 51 _ _ rfl kR (hT (by omega)).2.1 _ (range_one ((hT (by omega)).2.2 k1 (by omega)) 0 rfl) Tryz.underlying51 rfl)<|sP (.slice (a k1) (n k1) (c k1)) ?_
  refine sA ?_
  refine sP (.int .i64 (((sumN n k1):Nat):Int))<|sP (.slice (a k1) (n k1) (c k1))<|sP (.int .i64 (((n k1):Nat):Int))<|sS (.int .i64 (((sumN n k1)+(n k1):Nat):Int)) (Quiet.pure (exec_int .add _ _ _ .i64 _ _ _ rfl rfl rfl (int_add _ _ _ _ _ ((wrap_i64 (by omega) (by omega)).trans (by omega)))))<|sP (.int .i64 (((sumN n k1)+(n k1):Nat):Int)) ?_
  refine sA ?_
  refine sP (.int .i64 (((sumN n k1)+(n k1):Nat):Int)) ?_
  obtain ⟨b3,hb3⟩:∃ z:Bool,z=decide ((sumN n k1)+(n k1)<0):=⟨_,rfl⟩
  refine sS (.bool b3) (Quiet.pure (exec_int .lss _ _ _ .i64 _ _ _ rfl rfl rfl (int_lss _ _ _ _ _ (by rw [hb3]; exact decide_eq_decide.2 (by omega))))) ?_
  refine sG ?_
  cases b3
  ·have lb3:¬ ((sumN n k1)+(n k1)<0):=of_decide_eq_false hb3.symm
   refine sU<|Sy.skip<|Sy.in_<|Sy.then_<|Sy.region ?_
   refine sS (.int .i64 ((k1+1:Nat):Int)) (Quiet.pure (exec_int .add _ _ _ .i64 _ _ _ rfl rfl rfl (int_add _ _ _ _ _ ((wrap_i64 (by omega) (by omega)).trans (by omega)))))<|sP (.int .i64 ((k1+1:Nat):Int)) ?_
   refine Sy.nil ?_
   exact Sy.againK [] (M:=[]) (by omega) (all_cons kR (all_cons kR (all_cons kR (all_cons kR (all_cons kR all_nil))))) kR rfl
  ·have lb3:(sumN n k1)+(n k1)<0:=of_decide_eq_true hb3.symm
   exact absurd lb3 (by omega)
end Cu
end
section
namespace Cu
open Go.RowKit Sy
def lenS (D:Nat→Nat):Nat→Nat
 | 0=>32
 | k+1=>lenS D k+D k*32
set_option maxHeartbeats 4000000 in
set_option maxRecDepth 100000 in
theorem length_any (w:World) (Z:Option Addr) (N zc:Nat) (D:Nat→Nat) (hN:N≤32) (hD:∀ i,i<N→D i≤64) (hlz:Lst w 1 Z N (λk=>[.int .i64 ((D k:Nat):Int)])):Calls Tryz.prog 70 #[.slice Z N zc] w (Gets w (.int .i64 ((lenS D N:Nat):Int))):=by
 obtain ⟨gZ,oZ,hZ⟩:=hlz
 refine Sy.enter (args:=[.slice Z N zc]) Tryz.func70 rfl kL ?_
 refine sC ?_
 refine sP (.int .i64 0) ?_
 refine sA ?_
 refine sP (.int .i64 32) ?_
 refine sG<|Sy.seq<|sC ?_
 refine sP (.slice Z N zc)<|sP (.int .i64 ((N:Nat):Int))<|sP (.int .i64 0) ?_
 refine sG<|Sy.block ?_
 refine Sy.loopH N (λk1=>lenS D k1≤32+2048*k1) (λk1=>[(0,.slice Z N zc),(3,.int .i64 (((lenS D k1):Nat):Int)),(6,.slice Z N zc),(7,.int .i64 ((N:Nat):Int)),(8,.int .i64 ((k1:Nat):Int))]) (λk1=>[]) [] (M:=[]) (Nat.le_refl _) (all_cons kR (all_cons kR (all_cons kR (all_cons kR (all_cons kR all_nil))))) kR rfl (λk1 hk1 hh=>?_)
 have hh1:=hh
 refine sC ?_
 obtain ⟨b1,hb1⟩:∃ z:Bool,z=decide (k1<N):=⟨_,rfl⟩
 refine sS (.bool b1) (Quiet.pure (exec_int .lss _ _ _ .i64 _ _ _ rfl rfl rfl (int_lss _ _ _ _ _ (by rw [hb1]; exact decide_eq_decide.2 (by omega))))) ?_
 refine sG<|Sy.seq ?_
 cases b1
 ·have lb1:¬ (k1<N):=of_decide_eq_false hb1.symm
  refine sU<|Sy.exit<|Sy.then_exit<|Sy.then_exit ?_
  obtain rfl:N=k1:=by omega
  refine Sy.in_exit<|sB ?_
  refine sP (.int .i64 (((lenS D N):Nat):Int))<|sP (.int .i64 (((lenS D N):Nat):Int)) ?_
  refine sG<|Sy.ret ?_
  exact rV (.int .i64 (((lenS D N):Nat):Int)) rfl
 ·have lb1:k1<N:=of_decide_eq_true hb1.symm
  have hD1:=hD k1 lb1
  refine sT<|Sy.skip<|Sy.then_<|Sy.seq<|Sy.block<|sC ?_
  refine sS (.pointer (some ⟨gZ,oZ+k1*1,none⟩)) (Quiet.pure (exec_atO 57 _ _ _ Z gZ oZ N zc k1 1 .i64 (hZ (by omega)).1 rfl rfl rfl Tryz.underlying57 kF (by omega)))<|sS (.int .i64 (((D k1):Nat):Int)) (Quiet.thereOne gZ (oZ+k1*1) 3 _ _ rfl kR (hZ (by omega)).2.1 _ (range_one ((hZ (by omega)).2.2 k1 (by omega)) 0 rfl) Tryz.underlying3 rfl)<|sP (.int .i64 (((D k1):Nat):Int)) ?_
  refine sG<|Sy.region ?_
  refine sP (.int .i64 (((lenS D k1):Nat):Int))<|sP (.int .i64 (((D k1):Nat):Int))<|sS (.int .i64 (((D k1)*32:Nat):Int)) (Quiet.pure (exec_int .mul _ _ _ .i64 _ _ _ rfl rfl rfl (int_mul _ _ _ _ _ ((wrap_i64 (by omega) (by omega)).trans (by omega)))))<|sS (.int .i64 (((lenS D k1)+((D k1)*32):Nat):Int)) (Quiet.pure (exec_int .add _ _ _ .i64 _ _ _ rfl rfl rfl (int_add _ _ _ _ _ ((wrap_i64 (by omega) (by omega)).trans (by omega)))))<|sP (.int .i64 (((lenS D k1)+((D k1)*32):Nat):Int)) ?_
  refine Sy.nil<|Sy.in_<|Sy.then_<|Sy.region ?_
  refine sS (.int .i64 ((k1+1:Nat):Int)) (Quiet.pure (exec_int .add _ _ _ .i64 _ _ _ rfl rfl rfl (int_add _ _ _ _ _ ((wrap_i64 (by omega) (by omega)).trans (by omega)))))<|sP (.int .i64 ((k1+1:Nat):Int)) ?_
  refine Sy.nil ?_
  exact Sy.againH [] (M:=[]) (by omega) (by show lenS D k1+D k1*32≤_; have:=hD k1 (by omega); omega) (all_cons kR (all_cons kR (all_cons kR (all_cons kR (all_cons kR all_nil))))) kR rfl
end Cu
end
section
namespace Cu
open Go.RowKit Sy
def catNm (s:Nat→Nat→Nat) (sn:Nat→Nat):Nat→List Nat
 | 0=>[]
 | k+1=>catNm s sn k++(List.range (sn k)).map (s k)
theorem catNm_len (s:Nat→Nat→Nat) (sn:Nat→Nat):∀ k,(catNm s sn k).length=sumN sn k
 | 0=>rfl
 | k+1=>by
  show (catNm s sn k++_).length=sumN sn k+sn k
  rw [List.length_append,catNm_len s sn k,List.length_map,List.length_range]
theorem catNm_lt {s:Nat→Nat→Nat} {sn:Nat→Nat} (h:∀ i k,s i k<K4):∀ k, ∀ x∈catNm s sn k,x<K4
 | 0,x,hx=>by cases hx
 | k+1,x,hx=>by
  rcases List.mem_append.1 hx with hx | hx
  ·exact catNm_lt h k x hx
  ·obtain ⟨i,_,rfl⟩:=List.mem_map.1 hx
   exact h _ _
theorem catR_map (s:Nat→Nat→Nat) (sn:Nat→Nat):∀ k,catR sn (λi j=>fws (s i j)) k=(catNm s sn k).map fws
 | 0=>rfl
 | k+1=>by
  show catR sn _ k++_=(catNm s sn k++_).map fws
  rw [List.map_append,catR_map s sn k,List.map_map]
  rfl
theorem rowE_congr {f g:Nat→Nat}:∀ k,(∀ j,j<k→f j=g j)→rowE f k=rowE g k
 | 0,_=>rfl
 | k+1,h=>by
  show rowE f k++_=rowE g k++_
  rw [rowE_congr k (λj hj=>h j (by omega)),h k (Nat.lt_succ_self k)]
theorem rowE_split (f:Nat→Nat) (a:Nat):∀ b,rowE f (a+b)=rowE f a++rowE (λj=>f (a+j)) b
 | 0=>(List.append_nil _).symm
 | b+1=>by
  show rowE f (a+b)++_=_++(rowE _ b++_)
  rw [rowE_split f a b,List.append_assoc]
  rfl
def atL (l:List Nat) (j:Nat):Nat:=l.getD j 0
theorem atL_left {a b:List Nat} {j:Nat} (h:j<a.length):atL (a++b) j=atL a j:=by unfold atL; rw [List.getD_eq_getElem?_getD,List.getD_eq_getElem?_getD,List.getElem?_append_left h]
theorem atL_right {a b:List Nat} {j:Nat}:atL (a++b) (a.length+j)=atL b j:=by unfold atL; rw [List.getD_eq_getElem?_getD,List.getD_eq_getElem?_getD,List.getElem?_append_right (Nat.le_add_right _ _),Nat.add_sub_cancel_left]
theorem atL_range {f:Nat→Nat} {n j:Nat} (h:j<n):atL ((List.range n).map f) j=f j:=by unfold atL; rw [List.getD_eq_getElem?_getD,List.getElem?_map,List.getElem?_range h]; rfl
theorem rowE_cat (s:Nat→Nat→Nat) (sn:Nat→Nat):∀ k,rowE (atL (catNm s sn k)) (sumN sn k)=rowsE s sn k
 | 0=>rfl
 | k+1=>by
  show rowE (atL (catNm s sn k++(List.range (sn k)).map (s k))) (sumN sn k+sn k)=rowsE s sn k++rowE (s k) (sn k)
  rw [rowE_split,rowE_congr (g:=atL (catNm s sn k)) _ (λj hj=>atL_left (by rw [catNm_len]; exact hj)),rowE_cat s sn k,rowE_congr (g:=s k) _ (λj hj=>by
   rw [← catNm_len s sn k,atL_right,atL_range hj])]
theorem map_atL (l:List Nat):l.map fws=(List.range l.length).map (λj=>fws (atL l j)):=by
 apply List.ext_getElem
 ·rw [List.length_map,List.length_map,List.length_range]
 ·intro j h1 h2
  rw [List.getElem_map,List.getElem_map,List.getElem_range]
  unfold atL
  rw [List.getD_eq_getElem?_getD,List.getElem?_eq_getElem (by simpa using h1)]
  rfl
theorem atL_lt {l:List Nat} (h:∀ x∈l,x<K4) (j:Nat):atL l j<K4:=by
 unfold atL
 rw [List.getD_eq_getElem?_getD]
 cases hx:l[j]? with
 | none=>exact K4_pos
 | some x=>exact h x (List.mem_of_getElem? hx)
set_option maxHeartbeats 4000000 in
set_option maxRecDepth 100000 in
theorem encG_any (w:World) (d:List UInt8) (hd:d.length=32) (W:Option Addr) (NW cW:Nat) (sa:Nat→Option Addr) (sn sc:Nat→Nat) (s:Nat→Nat→Nat) (hsc:∀ i k,s i k<K4) (hNW:NW≤4611686018427387904) (hsn9:∀ i,i<NW→sn i≤4611686018427387904) (hlw:Lst w 1 W NW (λi=>[.slice (sa i) (sn i) (sc i)])) (hls:∀ i,i<NW→Lst w 4 (sa i) (sn i) (λk=>fws (s i k))) (hW9:NW≤2000000) (hsum:sumN sn NW≤2000000) (hsc9:∀ i,i<NW→sn i≤sc i):Calls Tryz.prog 25 #[sgv33 d W NW cW] w (GetsN w ((λvq Mq=>∃ y:Slc,vq=y.v∧Mq=y.bl∧y.Is 5 1 (bytesR (d++rowsE s sn NW))))):=by
 have hlw0:=hlw
 obtain ⟨gW,oW,hW⟩:=hlw
 refine Sy.enter (args:=[sgv33 d W NW cW]) Tryz.func25 rfl kL ?_
 refine sC ?_
 refine sM 31 (sgc33 d W NW cW).toArray (λg0=>?_)
 refine sP (.slice none 0 0) ?_
 refine sA ?_
 refine sP (.pointer (some ⟨g0,0,none⟩))<|sP (.slice (some ⟨g0,0,none⟩) 32 32) ?_
 refine Sy.callN kR 73 #[.slice (some ⟨g0,0,none⟩) 32 32] kF ((λvq Mq=>∃ y:Slc,vq=y.v∧Mq=y.bl∧y.Is 5 1 (bytesR d))) (λw hw=>cloneB_any w g0 0 d 32 32 hd (by decide) (Nat.le_refl _) (by decide) (sg_src (hw.get (i:=0) rfl))) (λvq Mq hR0=>?_)
 obtain ⟨yC,rfl,rfl,hyC⟩:=hR0
 refine Sy.permS (M:=[(g0,31,(sgc33 d W NW cW).toArray)]++(yC.bl++([]))) (by rw [List.append_nil]; exact List.Perm.refl _) ?_
 refine sP (yC.v) ?_
 refine sG<|Sy.seq<|sC ?_
 refine sP (.pointer (some ⟨g0,32,none⟩))<|sS (.slice W NW cW) (Quiet.cell 0 g0 32 31 29 (sgc33 d W NW cW).toArray _ _ rfl kR kR Tryz.underlying29 rfl _ (sg_at hd)) ?_
 refine Sy.callN kR 74 #[.slice W NW cW] kF (GivesRow 42 4 (catR sn (λi j=>fws (s i j)) NW)) (λw hw=>concatS_any w W NW cW sa sn sc (λi j=>fws (s i j)) (λ_ _=>rfl) (λ_ _=>fws_one _) hW9 hsum hsc9 (hlw0.below hw.below) (λi hi=>(hls i hi).below hw.below)) (λvq Mq hR0=>?_)
 obtain ⟨y0,hy0,rfl,rfl⟩:=hR0
 obtain ⟨lN,hlN⟩:∃ l,l=catNm s sn NW:=⟨_,rfl⟩
 obtain ⟨T,hT⟩:∃ k,k=sumN sn NW:=⟨_,rfl⟩
 have hTl:lN.length=T:=by rw [hlN,hT]; exact catNm_len _ _ _
 have hT9:T≤2000000:=by rw [hT]; exact hsum
 have hN4:∀ j,atL lN j<K4:=atL_lt (by rw [hlN]; exact catNm_lt hsc _)
 rw [catR_map, ← hlN,map_atL,hTl] at hy0
 refine Sy.permS Sy.end_front ?_
 refine sS (.int .i64 ((T:Nat):Int)) (Quiet.lenR hy0 (by rw [List.length_map,List.length_range]) _ Tryz.underlying51 rfl rfl)<|sP (.int .i64 0) ?_
 refine sG<|Sy.block ?_
 refine Sy.loopT (Y:=Slc) T (λk1 y1=>[(1,.pointer (some ⟨g0,0,none⟩)),(3,y1.v),(12,y0.v),(13,.int .i64 ((T:Nat):Int)),(14,.int .i64 ((k1:Nat):Int))]) (λk1 y1=>[(g0,31,(sgc33 d W NW cW).toArray)]++(y0.bl++(y1.bl++([])))) (λk1 y1=>y1.Is 5 1 (bytesR (d++rowE (atL lN) k1))) yC (by rw [show d++rowE (atL lN) 0=d from List.append_nil d]; exact hyC) (all_cons kR (all_cons kR (all_cons kR (all_cons kR (all_cons kR all_nil))))) (λw hw=>hw) (λk1 y1 hk1 hh1=>?_)
 refine sC ?_
 obtain ⟨b1,hb1⟩:∃ z:Bool,z=decide (k1<T):=⟨_,rfl⟩
 refine sS (.bool b1) (Quiet.pure (exec_int .lss _ _ _ .i64 _ _ _ rfl rfl rfl (int_lss _ _ _ _ _ (by rw [hb1]; exact decide_eq_decide.2 (by omega))))) ?_
 refine sG<|Sy.seq ?_
 cases b1
 ·have lb1:¬ (k1<T):=of_decide_eq_false hb1.symm
  refine sU<|Sy.exit<|Sy.then_exit<|Sy.then_exit ?_
  obtain rfl:T=k1:=by omega
  refine Sy.in_exit<|sB ?_
  refine sP (y1.v)<|sP (y1.v) ?_
  refine sG<|Sy.ret ?_
  exact retGM y1.bl rfl (v:=y1.v) (.inl (show _=_ by kernel_rfl)) (λw hw=>St.parts (ls:=[[(g0,31,(sgc33 d W NW cW).toArray)],y0.bl,y1.bl]) (ms:=[y1.bl]) [[(g0,31,(sgc33 d W NW cW).toArray)],y0.bl] [2,0,1] kR (by rfl) (by rfl) (by simp) hw) ⟨y1,rfl,rfl,by rw [← rowE_cat, ← hlN, ← hT]; exact hh1⟩
 ·have lb1:k1<T:=of_decide_eq_true hb1.symm
  obtain ⟨gR,cR2,spR,hv0,hb0,hk1s,hk2s,hk3s⟩:=hy0.open (by omega)
  obtain ⟨fL,hfL⟩:∃ f:Nat→List Value,f=λj=>fws (atL lN j):=⟨_,rfl⟩
  rw [← hfL] at hb0
  have hf4:∀ j,(fL j).length=4:=λj=>by rw [hfL]; rfl
  obtain ⟨yv,yb⟩:=y0
  obtain rfl:yv=_:=hv0
  obtain rfl:yb=_:=hb0
  refine Sy.permC (M:=[(g0,31,(sgc33 d W NW cW).toArray),(gR,42,(flat fL T++spR).toArray)]++(y1.bl++([]))) (by exact List.Perm.refl _) ?_
  refine sT<|Sy.skip<|Sy.then_<|Sy.seq<|Sy.block<|sC ?_
  refine sS (.pointer (some ⟨gR,0+k1*4,none⟩)) (Quiet.pure (exec_at 51 _ _ _ gR 0 T cR2 k1 4 .i64 rfl rfl rfl Tryz.underlying51 kF (by omega)))<|sS (fv (atL lN k1)) (Quiet.load 1 gR (0+k1*4) 4 42 42 (flat fL T++spR).toArray _ _ rfl kR kR Tryz.underlying42 rfl kR _ ((flat_load_sp (k:=k1) hf4 (by omega) rfl).trans (by rw [hfL]; rfl)) (flat_fit1 (k:=k1) hf4 (by omega) rfl)) ?_
  refine sM 42 (fcs 0) (λg1=>?_)
  refine Sy.movT ?_
  refine sW 2 g1 42 (fcs 0) (fcs (atL lN k1)) (wS 0 42 (fcs (atL lN k1)) rfl) ?_
  refine Sy.setT ?_
  refine sA ?_
  refine sS (fv (atL lN k1)) (qL 2 g1 0 4 42 42 (fcs (atL lN k1)) rfl Tryz.underlying42)<|sS (.agg ((bytesS ((atL lN k1)%Sc.pM)).map bv).toArray) (qF 75 #[fv (atL lN k1)] (λw=>Sc.bytes_any w _ (hN4 _))) ?_
  refine Sy.make kR 22 (Zl 32).toArray ptr kF (λg2=>?_)
  refine Sy.movT ?_
  refine Sy.write kR 3 g2 22 (Zl 32).toArray ((bytesS ((atL lN k1)%Sc.pM)).map bv).toArray kR (Writes.store 0 22 ((bytesS ((atL lN k1)%Sc.pM)).map bv).toArray _ _ rfl kR kR (by rw [key_sz (bytesS ((atL lN k1)%Sc.pM)) (bytesS_length _)]; kernel_rfl) (by rw [key_sz (bytesS ((atL lN k1)%Sc.pM)) (bytesS_length _)]; exact Nat.le_of_ble_eq_true kR) (key_one _) (key_set _ _ (by rw [(bytesS_length _)]; kernel_rfl))) ?_
  refine Sy.setT ?_
  refine sG<|Sy.region ?_
  refine sP (y1.v)<|sP (.slice (some ⟨g2,0,none⟩) 32 32) ?_
  refine Sy.appendM kR 24 5 _ _ 1 1 Tryz.underlying24 info_b8 rfl rfl rfl rfl (by decide) _ _ rfl (ys:=bytesR (bytesS ((atL lN k1)%Sc.pM))) hh1 kR (bytesR_one _) (bytesR_cell _) (some ⟨g2,0,none⟩) 32 32 (by rw [bytesR_len]; exact (bytesS_length _)) (Nat.le_refl _) kR (λ_=>From.arr (i:=3) (t:=22) (l:=(bytesS ((atL lN k1)%Sc.pM))) kR) (by simp only [bytesR_len,List.length_append,rowE_len]; omega) (by simp only [bytesR_len,List.length_append,rowE_len,maxLen]; omega) (λr1 hr1=>?_)
  refine sP (r1.v) ?_
  refine Sy.nil<|Sy.in_<|Sy.then_<|Sy.region ?_
  refine sS (.int .i64 ((k1+1:Nat):Int)) (Quiet.pure (exec_int .add _ _ _ .i64 _ _ _ rfl rfl rfl (int_add _ _ _ _ _ ((wrap_i64 (by omega) (by omega)).trans (by omega)))))<|sP (.int .i64 ((k1+1:Nat):Int)) ?_
  refine Sy.nil ?_
  exact Sy.againT (r1) (by omega) (by rw [show d++rowE (atL lN) (k1+1)=(d++rowE (atL lN) k1)++bytesS (atL lN k1%Sc.pM) from (List.append_assoc ..).symm,bytesR_add]; exact hr1) (all_cons kR (all_cons kR (all_cons kR (all_cons kR (all_cons kR all_nil))))) (λw hw=>St.parts (ls:=[[(g0,31,(sgc33 d W NW cW).toArray)],[(gR,42,(flat fL T++spR).toArray)],[(g1,42,(fcs (atL lN k1)))],[(g2,22,((bytesS ((atL lN k1)%Sc.pM)).map bv).toArray)],r1.bl]) (ms:=[[(g0,31,(sgc33 d W NW cW).toArray)],[(gR,42,(flat fL T++spR).toArray)],r1.bl]) [[(g1,42,(fcs (atL lN k1)))],[(g2,22,((bytesS ((atL lN k1)%Sc.pM)).map bv).toArray)]] [0,1,4,2,3] kR (by rfl) (by rfl) (by rfl) hw)
end Cu
end
section
namespace Cu
open Go.RowKit Sy
set_option maxRecDepth 100000
set_option maxHeartbeats 4000000
def mnZ (D:Nat→Int):Nat→Int
 | 0=>D 0
 | k+1=>min (mnZ D k) (D (k+1))
def mxZ (D:Nat→Int):Nat→Int
 | 0=>D 0
 | k+1=>max (mxZ D k) (D (k+1))
theorem mnZ_ge (D:Nat→Int) (a:Int) (k:Nat):a≤mnZ D k↔∀ j,j≤k→a≤D j:=by
 induction k with
 | zero=>exact ⟨λh j hj=>by rw [Nat.le_zero.1 hj]; exact h,λh=>h 0 (Nat.le_refl _)⟩
 | succ k ih =>
  show a≤min (mnZ D k) (D (k+1))↔_
  rw [Int.le_min,ih]
  exact ⟨λh j hj=>(Nat.lt_or_eq_of_le hj).elim (λq=>h.1 j (by omega)) (λq=>by rw [q]; exact h.2),λh=>⟨λj hj=>h j (by omega),h _ (Nat.le_refl _)⟩⟩
theorem mxZ_le (D:Nat→Int) (a:Int) (k:Nat):mxZ D k≤a↔∀ j,j≤k→D j≤a:=by
 induction k with
 | zero=>exact ⟨λh j hj=>by rw [Nat.le_zero.1 hj]; exact h,λh=>h 0 (Nat.le_refl _)⟩
 | succ k ih =>
  show max (mxZ D k) (D (k+1))≤a↔_
  rw [Int.max_le,ih]
  exact ⟨λh j hj=>(Nat.lt_or_eq_of_le hj).elim (λq=>h.1 j (by omega)) (λq=>by rw [q]; exact h.2),λh=>⟨λj hj=>h j (by omega),h _ (Nat.le_refl _)⟩⟩
section
variable {F:Slots} {o:Oper}
theorem exec_minZ (x y:Operand) {ts:Array TypeId} (k:IntKind) (a b c:Int) (ho:o.op=.call { callee:=.builtin .min,args:=#[x,y],argTypes:=ts }) (hx:evF F x=.int k a) (hy:evF F y=.int k b) (h:min a b=c) (w:World):(execOp (evF F) o).run Tryz.prog w=.ok (.value (.int k c)) w:=by
 have e:(if b<a then b else a)=c:=by split <;> omega
 unfold execOp
 simp [ho,hx,hy,resolve,invoke,builtin,Builtin.min_,Builtin.min2,Sem.run_bind,Result.andThen]
 omega
theorem exec_maxZ (x y:Operand) {ts:Array TypeId} (k:IntKind) (a b c:Int) (ho:o.op=.call { callee:=.builtin .max,args:=#[x,y],argTypes:=ts }) (hx:evF F x=.int k a) (hy:evF F y=.int k b) (h:max a b=c) (w:World):(execOp (evF F) o).run Tryz.prog w=.ok (.value (.int k c)) w:=by
 have e:(if a<b then b else a)=c:=by split <;> omega
 unfold execOp
 simp [ho,hx,hy,resolve,invoke,builtin,Builtin.max_,Builtin.max2]
 omega
end
theorem minZ_any (w:World) (A:Option Addr) (M c:Nat) (D:Nat→Int) (hN:M+1≤4611686018427387904) (hlk:Lst w 1 A (M+1) (λk=>[.int .i64 (D k)])):Calls Tryz.prog 130 #[.slice A (M+1) c] w (Gets w (.int .i64 (mnZ D M))):=by
 obtain ⟨gK,oK,hT⟩:=hlk
 refine Sy.enter (args:=[.slice A (M+1) c]) Tryz.func130 rfl kL ?_
 refine sC ?_
 refine sP (.int .i64 0) ?_
 refine sG<|Sy.seq<|sC ?_
 refine sP (.slice A (M+1) c)<|sP (.int .i64 (((M+1):Nat):Int)) ?_
 obtain ⟨b1,hb1⟩:∃ z:Bool,z=decide ((M+1)<1):=⟨_,rfl⟩
 refine sS (.bool b1) (Quiet.pure (exec_int .lss _ _ _ .i64 _ _ _ rfl rfl rfl (int_lss _ _ _ _ _ (by rw [hb1]; exact decide_eq_decide.2 (by omega))))) ?_
 refine sG ?_
 cases b1
 ·have lb1:¬ ((M+1)<1):=of_decide_eq_false hb1.symm
  refine sU<|Sy.skip<|sB ?_
  refine sP (.slice A (M+1) c)<|sS (.pointer (some ⟨gK,oK+0*1,none⟩)) (Quiet.pure (exec_atO 57 _ _ _ A gK oK (M+1) c 0 1 .i64 (hT (by omega)).1 rfl rfl rfl Tryz.underlying57 kF (by omega)))<|sS (.int .i64 (D 0)) (Quiet.thereOne gK (oK+0*1) 3 _ _ rfl kR (hT (by omega)).2.1 _ (range_one ((hT (by omega)).2.2 0 (by omega)) 0 rfl) Tryz.underlying3 rfl)<|sP (.int .i64 (D 0)) ?_
  refine sG<|Sy.seq<|sC ?_
  refine sP (.int .i64 1) ?_
  refine sG<|Sy.block ?_
  refine Sy.loopK M (λk1=>[(0,.slice A (M+1) c),(3,.int .i64 (mnZ D k1)),(4,.int .i64 ((k1+1:Nat):Int))]) (λk1=>[]) [] (M:=[]) (all_cons kR (all_cons kR (all_cons kR all_nil))) kR rfl (λk1 hk1=>?_)
  refine Sy.seq<|sC ?_
  refine sP (.int .i64 ((k1+1:Nat):Int))<|sP (.slice A (M+1) c)<|sP (.int .i64 (((M+1):Nat):Int)) ?_
  obtain ⟨b2,hb2⟩:∃ z:Bool,z=decide (k1+1<(M+1)):=⟨_,rfl⟩
  refine sS (.bool b2) (Quiet.pure (exec_int .lss _ _ _ .i64 _ _ _ rfl rfl rfl (int_lss _ _ _ _ _ (by rw [hb2]; exact decide_eq_decide.2 (by omega))))) ?_
  refine sG ?_
  cases b2
  ·have lb2:¬ (k1+1<(M+1)):=of_decide_eq_false hb2.symm
   refine sU<|Sy.exit<|Sy.then_exit<|Sy.then_exit ?_
   obtain rfl:M=k1:=by omega
   refine Sy.in_exit<|sB ?_
   refine sP (.int .i64 (mnZ D M))<|sP (.int .i64 (mnZ D M)) ?_
   refine sG<|Sy.ret ?_
   rw [show (.int .i64 (mnZ D M):Value)=.int .i64 (mnZ D M) from rfl]
   exact rV (.int .i64 (mnZ D M)) rfl
  ·have lb2:k1+1<(M+1):=of_decide_eq_true hb2.symm
   refine sT<|Sy.skip<|Sy.then_<|Sy.seq<|Sy.block<|Sy.region ?_
   refine sP (.int .i64 (mnZ D k1))<|sP (.slice A (M+1) c)<|sP (.int .i64 ((k1+1:Nat):Int))<|sS (.pointer (some ⟨gK,oK+(k1+1)*1,none⟩)) (Quiet.pure (exec_atO 57 _ _ _ A gK oK (M+1) c (k1+1) 1 .i64 (hT (by omega)).1 rfl rfl rfl Tryz.underlying57 kF (by omega)))<|sS (.int .i64 (D (k1+1))) (Quiet.thereOne gK (oK+(k1+1)*1) 3 _ _ rfl kR (hT (by omega)).2.1 _ (range_one ((hT (by omega)).2.2 (k1+1) (by omega)) 0 rfl) Tryz.underlying3 rfl)<|sS (.int .i64 (mnZ D (k1+1))) (Quiet.pure (exec_minZ _ _ .i64 (mnZ D k1) (D (k1+1)) (mnZ D (k1+1)) rfl rfl rfl rfl))<|sP (.int .i64 (mnZ D (k1+1))) ?_
   refine Sy.nil<|Sy.in_<|Sy.then_<|Sy.region ?_
   refine sP (.int .i64 ((k1+1:Nat):Int))<|sS (.int .i64 (((k1+1)+1:Nat):Int)) (Quiet.pure (exec_int .add _ _ _ .i64 _ _ _ rfl rfl rfl (int_add _ _ _ _ _ ((wrap_i64 (by omega) (by omega)).trans (by omega)))))<|sP (.int .i64 (((k1+1)+1:Nat):Int)) ?_
   refine Sy.nil ?_
   exact Sy.againK [] (M:=[]) (by omega) (all_cons kR (all_cons kR (all_cons kR all_nil))) kR rfl
 ·have lb1:(M+1)<1:=of_decide_eq_true hb1.symm
  exact absurd lb1 (by omega)
theorem maxZ_any (w:World) (A:Option Addr) (M c:Nat) (D:Nat→Int) (hN:M+1≤4611686018427387904) (hlk:Lst w 1 A (M+1) (λk=>[.int .i64 (D k)])):Calls Tryz.prog 131 #[.slice A (M+1) c] w (Gets w (.int .i64 (mxZ D M))):=by
 obtain ⟨gK,oK,hT⟩:=hlk
 refine Sy.enter (args:=[.slice A (M+1) c]) Tryz.func131 rfl kL ?_
 refine sC ?_
 refine sP (.int .i64 0) ?_
 refine sG<|Sy.seq<|sC ?_
 refine sP (.slice A (M+1) c)<|sP (.int .i64 (((M+1):Nat):Int)) ?_
 obtain ⟨b1,hb1⟩:∃ z:Bool,z=decide ((M+1)<1):=⟨_,rfl⟩
 refine sS (.bool b1) (Quiet.pure (exec_int .lss _ _ _ .i64 _ _ _ rfl rfl rfl (int_lss _ _ _ _ _ (by rw [hb1]; exact decide_eq_decide.2 (by omega))))) ?_
 refine sG ?_
 cases b1
 ·have lb1:¬ ((M+1)<1):=of_decide_eq_false hb1.symm
  refine sU<|Sy.skip<|sB ?_
  refine sP (.slice A (M+1) c)<|sS (.pointer (some ⟨gK,oK+0*1,none⟩)) (Quiet.pure (exec_atO 57 _ _ _ A gK oK (M+1) c 0 1 .i64 (hT (by omega)).1 rfl rfl rfl Tryz.underlying57 kF (by omega)))<|sS (.int .i64 (D 0)) (Quiet.thereOne gK (oK+0*1) 3 _ _ rfl kR (hT (by omega)).2.1 _ (range_one ((hT (by omega)).2.2 0 (by omega)) 0 rfl) Tryz.underlying3 rfl)<|sP (.int .i64 (D 0)) ?_
  refine sG<|Sy.seq<|sC ?_
  refine sP (.int .i64 1) ?_
  refine sG<|Sy.block ?_
  refine Sy.loopK M (λk1=>[(0,.slice A (M+1) c),(3,.int .i64 (mxZ D k1)),(4,.int .i64 ((k1+1:Nat):Int))]) (λk1=>[]) [] (M:=[]) (all_cons kR (all_cons kR (all_cons kR all_nil))) kR rfl (λk1 hk1=>?_)
  refine Sy.seq<|sC ?_
  refine sP (.int .i64 ((k1+1:Nat):Int))<|sP (.slice A (M+1) c)<|sP (.int .i64 (((M+1):Nat):Int)) ?_
  obtain ⟨b2,hb2⟩:∃ z:Bool,z=decide (k1+1<(M+1)):=⟨_,rfl⟩
  refine sS (.bool b2) (Quiet.pure (exec_int .lss _ _ _ .i64 _ _ _ rfl rfl rfl (int_lss _ _ _ _ _ (by rw [hb2]; exact decide_eq_decide.2 (by omega))))) ?_
  refine sG ?_
  cases b2
  ·have lb2:¬ (k1+1<(M+1)):=of_decide_eq_false hb2.symm
   refine sU<|Sy.exit<|Sy.then_exit<|Sy.then_exit ?_
   obtain rfl:M=k1:=by omega
   refine Sy.in_exit<|sB ?_
   refine sP (.int .i64 (mxZ D M))<|sP (.int .i64 (mxZ D M)) ?_
   refine sG<|Sy.ret ?_
   rw [show (.int .i64 (mxZ D M):Value)=.int .i64 (mxZ D M) from rfl]
   exact rV (.int .i64 (mxZ D M)) rfl
  ·have lb2:k1+1<(M+1):=of_decide_eq_true hb2.symm
   refine sT<|Sy.skip<|Sy.then_<|Sy.seq<|Sy.block<|Sy.region ?_
   refine sP (.int .i64 (mxZ D k1))<|sP (.slice A (M+1) c)<|sP (.int .i64 ((k1+1:Nat):Int))<|sS (.pointer (some ⟨gK,oK+(k1+1)*1,none⟩)) (Quiet.pure (exec_atO 57 _ _ _ A gK oK (M+1) c (k1+1) 1 .i64 (hT (by omega)).1 rfl rfl rfl Tryz.underlying57 kF (by omega)))<|sS (.int .i64 (D (k1+1))) (Quiet.thereOne gK (oK+(k1+1)*1) 3 _ _ rfl kR (hT (by omega)).2.1 _ (range_one ((hT (by omega)).2.2 (k1+1) (by omega)) 0 rfl) Tryz.underlying3 rfl)<|sS (.int .i64 (mxZ D (k1+1))) (Quiet.pure (exec_maxZ _ _ .i64 (mxZ D k1) (D (k1+1)) (mxZ D (k1+1)) rfl rfl rfl rfl))<|sP (.int .i64 (mxZ D (k1+1))) ?_
   refine Sy.nil<|Sy.in_<|Sy.then_<|Sy.region ?_
   refine sP (.int .i64 ((k1+1:Nat):Int))<|sS (.int .i64 (((k1+1)+1:Nat):Int)) (Quiet.pure (exec_int .add _ _ _ .i64 _ _ _ rfl rfl rfl (int_add _ _ _ _ _ ((wrap_i64 (by omega) (by omega)).trans (by omega)))))<|sP (.int .i64 (((k1+1)+1:Nat):Int)) ?_
   refine Sy.nil ?_
   exact Sy.againK [] (M:=[]) (by omega) (all_cons kR (all_cons kR (all_cons kR all_nil))) kR rfl
 ·have lb1:(M+1)<1:=of_decide_eq_true hb1.symm
  exact absurd lb1 (by omega)
def szZ (N:Nat) (D:Nat→Int):Bool:=decide (1≤N) && (decide (N≤32) && (decide (mnZ D (N - 1) ≥ 1) && decide (mxZ D (N - 1)≤64)))
theorem szZ_iff (N:Nat) (D:Nat→Int):szZ N D=true↔1≤N∧N≤32∧∀ j,j<N→1≤D j∧D j≤64:=by
 unfold szZ
 simp only [Bool.and_eq_true,decide_eq_true_eq,ge_iff_le,mnZ_ge,mxZ_le]
 exact ⟨λ⟨a,b,c,d⟩=>⟨a,b,λj hj=>⟨c j (by omega),d j (by omega)⟩⟩,λ⟨a,b,c⟩=>⟨a,b,λj hj=>(c j (by omega)).1,λj hj=>(c j (by omega)).2⟩⟩
theorem szZ_1 {N:Nat} {D:Nat→Int} (h:N<1):szZ N D=false:=by unfold szZ; rw [decide_eq_false (by omega:¬ 1≤N)]; rfl
theorem szZ_2 {N:Nat} {D:Nat→Int} (h:N>32):szZ N D=false:=by unfold szZ; rw [decide_eq_false (by omega:¬ N≤32),Bool.false_and,Bool.and_false]
theorem szZ_3 {N:Nat} {D:Nat→Int} (h:¬ (mnZ D (N - 1) ≥ 1)):szZ N D=false:=by unfold szZ; rw [decide_eq_false h,Bool.false_and,Bool.and_false,Bool.and_false]
theorem szZ_4 {N:Nat} {D:Nat→Int} (h1:¬ N<1) (h2:¬ N>32) (h3:mnZ D (N - 1) ≥ 1):szZ N D=decide (mxZ D (N - 1)≤64):=by
 unfold szZ
 rw [decide_eq_true (by omega:1≤N),decide_eq_true (by omega:N≤32),decide_eq_true h3,Bool.true_and,Bool.true_and,Bool.true_and]
theorem minZ_anyN (w:World) (A:Option Addr) (N c:Nat) (D:Nat→Int) (h1:1≤N) (hN:N≤4611686018427387904) (hlk:Lst w 1 A N (λk=>[.int .i64 (D k)])):Calls Tryz.prog 130 #[.slice A N c] w (Gets w (.int .i64 (mnZ D (N - 1)))):=by
 have e:N - 1+1=N:=by omega
 have q:=minZ_any w A (N - 1) c D (by omega) (by rw [e]; exact hlk)
 rwa [e] at q
theorem maxZ_anyN (w:World) (A:Option Addr) (N c:Nat) (D:Nat→Int) (h1:1≤N) (hN:N≤4611686018427387904) (hlk:Lst w 1 A N (λk=>[.int .i64 (D k)])):Calls Tryz.prog 131 #[.slice A N c] w (Gets w (.int .i64 (mxZ D (N - 1)))):=by
 have e:N - 1+1=N:=by omega
 have q:=maxZ_any w A (N - 1) c D (by omega) (by rw [e]; exact hlk)
 rwa [e] at q
theorem allowedZ_any (w:World) (A:Option Addr) (N c:Nat) (D:Nat→Int) (hN:N≤4611686018427387904) (hlk:Lst w 1 A N (λk=>[.int .i64 (D k)])):Calls Tryz.prog 69 #[.slice A N c] w (Gets w (.bool (szZ N D))):=by
 have hlk0:=hlk
 obtain ⟨gK,oK,hT⟩:=hlk
 refine Sy.enter (args:=[.slice A N c]) Tryz.func69 rfl kL ?_
 refine sC ?_
 refine sP (.bool false) ?_
 refine sG<|Sy.seq<|sC ?_
 refine sP (.slice A N c)<|sP (.int .i64 ((N:Nat):Int)) ?_
 obtain ⟨b1,hb1⟩:∃ z:Bool,z=decide (N<1):=⟨_,rfl⟩
 refine sS (.bool b1) (Quiet.pure (exec_int .lss _ _ _ .i64 _ _ _ rfl rfl rfl (int_lss _ _ _ _ _ (by rw [hb1]; exact decide_eq_decide.2 (by omega)))))<|sP (.bool b1) ?_
 cases b1
 ·have lb1:¬ (N<1):=of_decide_eq_false hb1.symm
  refine sP (.slice A N c)<|sP (.int .i64 ((N:Nat):Int)) ?_
  obtain ⟨b2,hb2⟩:∃ z:Bool,z=decide (N>32):=⟨_,rfl⟩
  refine sS (.bool b2) (Quiet.pure (exec_int .gtr _ _ _ .i64 _ _ _ rfl rfl rfl (int_gtr _ _ _ _ _ (by rw [hb2]; exact decide_eq_decide.2 (by omega)))))<|sP (.bool b2) ?_
  refine sG ?_
  cases b2
  ·have lb2:¬ (N>32):=of_decide_eq_false hb2.symm
   refine sU<|Sy.skip<|sB ?_
   refine sP (.slice A N c)<|sS (.int .i64 (mnZ D (N - 1))) (Quiet.callS 130 #[.slice A N c] kF (λw hw=>minZ_anyN w A N c D (by omega) hN (hlk0.below hw.below))) ?_
   obtain ⟨b3,hb3⟩:∃ z:Bool,z=decide ((mnZ D (N - 1)) ≥ 1):=⟨_,rfl⟩
   refine sS (.bool b3) (Quiet.pure (exec_int .geq _ _ _ .i64 _ _ _ rfl rfl rfl (int_geq _ _ _ _ _ hb3.symm)))<|sP (.bool b3) ?_
   cases b3
   ·have lb3:¬ ((mnZ D (N - 1)) ≥ 1):=of_decide_eq_false hb3.symm
    refine sN<|sN<|sN ?_
    refine sP (.bool false)<|sP (.bool false) ?_
    refine sG<|Sy.ret ?_
    rw [show (.bool (szZ N D):Value)=.bool false from by rw [szZ_3 lb3]]
    exact rV (.bool false) rfl
   ·have lb3:(mnZ D (N - 1)) ≥ 1:=of_decide_eq_true hb3.symm
    refine sP (.slice A N c)<|sS (.int .i64 (mxZ D (N - 1))) (Quiet.callS 131 #[.slice A N c] kF (λw hw=>maxZ_anyN w A N c D (by omega) hN (hlk0.below hw.below))) ?_
    obtain ⟨b4,hb4⟩:∃ z:Bool,z=decide ((mxZ D (N - 1))≤64):=⟨_,rfl⟩
    refine sS (.bool b4) (Quiet.pure (exec_int .leq _ _ _ .i64 _ _ _ rfl rfl rfl (int_leq _ _ _ _ _ hb4.symm)))<|sP (.bool b4)<|sP (.bool b4) ?_
    refine sG<|Sy.ret ?_
    rw [show (.bool (szZ N D):Value)=.bool b4 from by rw [szZ_4 lb1 lb2 lb3, ← hb4]]
    exact rV (.bool b4) rfl
  ·have lb2:N>32:=of_decide_eq_true hb2.symm
   refine sT<|sC ?_
   refine sP (.bool false) ?_
   refine sG<|Sy.ret<|Sy.then_ret ?_
   rw [show (.bool (szZ N D):Value)=.bool false from by rw [szZ_2 lb2]]
   exact rV (.bool false) rfl
 ·have lb1:N<1:=of_decide_eq_true hb1.symm
  refine sN<|sN<|sN ?_
  refine sP (.bool true) ?_
  refine sG<|sT<|sC ?_
  refine sP (.bool false) ?_
  refine sG<|Sy.ret<|Sy.then_ret ?_
  rw [show (.bool (szZ N D):Value)=.bool false from by rw [szZ_1 lb1]]
  exact rV (.bool false) rfl
end Cu
end
section
namespace Sy
open Go.RowKit
section
variable {P:Program} {w0 fz0:World} {n:Nat} {Q:Exit→Act→World→Prop} {F:Slots} {L:Blocks}
def BPY {α Y:Type} (w0 fz:World) (l:Nat) (HI:List α→Y→Prop) (LL:List α→Y→Blocks) (XR:List α→Y→Blocks) (HX:List α→Y→Prop) (pre:List α):Exit→Act→World→Prop
 | .normal,_,w=>∃ y,HI pre y∧St (rb w0 fz l) w (LL pre y)
 | .ret,_,w=>∃ y,HX pre y∧St (rb w0 fz l) w (XR pre y)
 | _,_,_=>False
def APY (w0 fz:World) (l n:Nat) (FA:Slots) (LP:Blocks):Exit→Act→World→Prop
 | .normal,a,w=>Fr [] a n FA∧St (rb w0 fz l) w LP
 | _,_,_=>False
theorem rangeY {α Y:Type} {g:Operand} {ps:Array Tmp} {assign body:Code} (gf:Nat) (lb:Array Value) (hgi:inF F g=true) (hg:evF F g=.func (.func gf) #[] lb) (eg:∀ args w,(callFunc gf args).run P w=.ok (.enter gf args) w)
  (encs:α→Array Value) (kl:Blocks) (S Sp:List α→Prop) (N:Nat) (hps:∀ x,(encs x).size=ps.size) (hpn:∀ p∈ps.toList,p<n)
  (HI:List α→Y→Prop) (LL XR:List α→Y→Blocks) (HX:List α→Y→Prop) (y0:Y) (hI0:HI [] y0) (h0:∀ w,St ⟨w0,fz0,[],Fence.wide,9⟩ w L→St ⟨w0,fz0,[],Fence.wide,9⟩ w (LL [] y0))
  (hseq:∀ w,St ⟨w0,fz0,[],Fence.wide,9⟩ w L→∃ wk,Below wk.heap.size wk w∧SeqStopsK Fence.wide 8 P gf lb encs (KpL w0.heap.size kl) S Sp N wk)
  (hkl:∀ p∈kl, ∀ pre y,p∈LL pre y) (FA:α→Slots)
  (hassign:∀ l fz pre y x,wpC P (rb w0 fz l) n (APY w0 fz l n (FA x) (LL pre y)) (roundF F ps (encs x)) (LL pre y) assign)
  (hbody:∀ l fz pre y x,pre.length<N→HI pre y→wpC P (rb w0 fz l) n (BPY w0 fz l HI LL XR HX (pre++[x])) (FA x) (LL pre y) body)
  (hdone:∀ D fz xs y,S xs→HI xs y→w0.heap.size≤D→fz.heap[D]? = some (.deferred (some []))→X (ab w0 fz D) n Q F (LL xs y) .normal)
  (hstop:∀ D fz pre y,Sp pre→HX pre y→w0.heap.size≤D→fz.heap[D]? = some (.deferred (some []))→X (ab w0 fz D) n Q F (XR pre y) .ret) :
  wpC P ⟨w0,fz0,[],Fence.wide,9⟩ n Q F L (.rangeFunc g ps assign body):=by
 intro a w ha hw
 obtain ⟨wk,hbk,hsq⟩:=hseq w hw
 have hsz:fz0.heap.size≤w.heap.size:=hw.size
 have hsz0:w0.heap.size≤w.heap.size:=hw.below.size
 have had:a.defers=[]:=ha.1
 have hK:∀ {W W':World} {L0 L1:Blocks} {pre':List α} {y':Y} {l:Nat},St ⟨w0,fz0,[],Fence.wide,9⟩ W L0→St (rb w0 W l) W' L1→(LL pre' y').Sublist L1→KpL w0.heap.size kl W W':=λ{W W' L0 L1 pre' y' l} h1 h2 hs =>
  ⟨h1.between h2,λp hp _=>by
   exact (h2.blk _ _ _ (hs.subset (hkl p hp pre' y'))).2⟩
 have hKX:∀ {W W':World} {L0 L1:Blocks} {l:Nat},St ⟨w0,fz0,[],Fence.wide,9⟩ W L0→St (rb w0 W l) W' L1→(∀ p∈kl,p∈L1)→KpL w0.heap.size kl W W':=λ{W W' L0 L1 l} h1 h2 hs =>
  ⟨h1.between h2,λp hp _=>by
   exact (h2.blk _ _ _ (hs p hp)).2⟩
 refine wpIn_rangeFunc_ownH (F:=Fence.wide) (n:=9) rfl (by omega) (gf:=gf) (lb:=lb) ((ha.eval hgi).trans hg) trivial eg (encs:=encs) (Kp:=KpL w0.heap.size kl) (S:=S) (Sp:=Sp) (N:=N) (w0:=wk) hsq KpL.trans
  (λW l o o' hl ho hc _=>KpL.put (by omega) ho hc) hbk hps
  (λpre W=>∃ y,HI pre y∧St ⟨w0,fz0,[],Fence.wide,9⟩ W (LL pre y)) (λc pre W=>c=.ret∧∃ y,HX pre y∧St ⟨w0,fz0,[],Fence.wide,9⟩ W (XR pre y))
  (λpre X Y row ⟨y,hi,hs⟩ hg hr=>⟨y,hi,St.own hs hsz hsz0 hg hr⟩) (λc pre X Y row ⟨hc,y,hi,hs⟩ hg hr=>⟨hc,y,hi,St.own hs hsz hsz0 hg hr⟩) ⟨y0,hI0,h0 w hw⟩
  (λx a' W=>Fr [] a' n (FA x))
  (λx a' _ X Y row hs hg hr=>hs) ?_ ?_ ?_ ?_
 ·-- the loop variables
  intro l pre x W K ⟨y,hH,hI⟩ hk
  have hfr:Fr [] { tmps:=(ps.zip (encs x)).foldl (λt (p,v)=>t.setIfInBounds p v) a.tmps,defers:=[] } n (roundF F ps (encs x)):=by
   have h1:Fr [] { tmps:=a.tmps,defers:=[] } n F:=⟨rfl,ha.2.1,ha.2.2⟩
   have h2:=Fr.round (ps.toList.zip (encs x).toList) (λy hy=>hpn y.1 (List.of_mem_zip hy).1) h1
   have e:(ps.zip (encs x)).foldl (λt (p,v)=>t.setIfInBounds p v) a.tmps=(ps.toList.zip (encs x).toList).foldl (λt x=>t.setIfInBounds x.1 x.2) a.tmps:=by
    rw [← Array.foldl_toList,Array.toList_zip]
   rw [e]
   exact h2
  refine wpIn_mono (hassign l W pre y x _ W hfr (hI.refix _ _ _)) λe a' W' hq=>?_
  cases e with
  | normal =>
   obtain ⟨h1,h2⟩:=hq
   exact hk a' W' (hI.keeps h2 hsz0) (hK hI h2 (List.Sublist.refl _)) ⟨y,hH,hI.back h2 _ _ _⟩ h1
  | _=>exact hq.elim
 ·-- the body
  intro l pre x a' W hl _ ⟨y,hH,hI⟩ h1 hlen
  refine wpIn_mono (hbody l W pre y x hlen hH a' W h1 (hI.refix _ _ _)) λe a3 W3 hq=>?_
  cases e with
  | normal =>
   obtain ⟨y',hH',hs'⟩:=hq
   exact ⟨hI.keeps hs' hsz0,hK hI hs' (List.Sublist.refl _),y',hH',hI.back hs' _ _ _⟩
  | ret =>
   obtain ⟨y',hH',hs'⟩:=hq
   exact ⟨hI.keeps hs' hsz0,rfl,y',hH',hI.back hs' _ _ _⟩
  | _=>exact hq.elim
 ·intro D xs W hD hS ⟨y,hH,hI⟩ hd
  exact hdone D W xs y hS hH (Nat.le_trans hsz0 hD) hd _ W ⟨by simp [had],ha.2.1,ha.2.2⟩ (hI.refix _ _ _)
 ·rintro D c pre W hD hS ⟨rfl,y,hx,hI⟩ hd
  exact wpIn_ret (hstop D W pre y hS hx (Nat.le_trans hsz0 hD) hd _ W ⟨by simp [had],ha.2.1,ha.2.2⟩ (hI.refix _ _ _))
theorem bpY {α Y:Type} {l:Nat} {HI:List α→Y→Prop} {LL XR:List α→Y→Blocks} {HX:List α→Y→Prop} {pre:List α} (y:Y) (hi:HI pre y) (hL:∀ w,St (rb w0 fz0 l) w L→St (rb w0 fz0 l) w (LL pre y)):X (rb w0 fz0 l) n (BPY w0 fz0 l HI LL XR HX pre) F L .normal:=λ_ w _ hw=>⟨y,hi,hL w hw⟩
theorem bpYR {α Y:Type} {l:Nat} {HI:List α→Y→Prop} {LL XR:List α→Y→Blocks} {HX:List α→Y→Prop} {pre:List α} (y:Y) (hi:HX pre y) (hL:∀ w,St (rb w0 fz0 l) w L→St (rb w0 fz0 l) w (XR pre y)):X (rb w0 fz0 l) n (BPY w0 fz0 l HI LL XR HX pre) F L .ret:=λ_ w _ hw=>⟨y,hi,hL w hw⟩
theorem apY {l:Nat} {FA:Slots} {LP:Blocks} (hF:∀ p∈FA,F.lookup p.1=some p.2) (hL:∀ w,St (rb w0 fz0 l) w L→St (rb w0 fz0 l) w LP):X (rb w0 fz0 l) n (APY w0 fz0 l n FA LP) F L .normal:=λ_ w ha hw=>⟨ha.all hF,hL w hw⟩
theorem retMG2 {w1 fz:World} {D:Nat} {fn:Func} {r s:ResultVar} {v u:Value} {R:Value→Blocks→Prop} (M:Blocks) (hr:fn.results=#[r,s]) (h:Has P F L r v) (k:Has P F L s u) (hM:∀ w,St (Base.of w1) w L→St (Base.of w1) w M) (hR:R (.tuple #[v,u]) M) (hD:w1.heap.size≤D) (hm:fz.heap[D]? = some (.deferred (some []))):X (ab w1 fz D) n (bodyPostM Fence.wide 9 P fn (GetsN w1 R)) F L .ret:=λa w ha hw=>by
 obtain ⟨e1,e2⟩:=St.unmark (P:=P) hw hD hm
 have hd:a.defers=[mark D]:=ha.1
 show LeavesInM Fence.wide 9 P fn a.tmps (GetsN w1 R) a.defers .returning w
 rw [hd]
 refine ⟨by simp,.inl ⟨D,_,rfl,e1,?_⟩⟩
 refine ⟨.tuple #[v,u],?_,_,M,rfl,hR,e2.below,λg t cs hm=>(hM _ e2).blk g t cs hm,(hM _ e2).apart⟩
 rcases Res.run h ha e2 with ⟨t,rfl,f1⟩ | ⟨t,ty,ad,rfl,f1,f2⟩ <;> rcases Res.run k ha e2 with ⟨t',rfl,g1⟩ | ⟨t',ty',ad',rfl,g1,g2⟩ <;> simp [results,Result.andThen, *]
theorem hasC {t:Tmp} {ty:TypeId} {v:Value} {d:TypeDesc} (g i:Nat) (cs:Array Value) (h3:P.underlying ty=some d) (h1:F.lookup t=some (.pointer (some ⟨g,0,none⟩)):=by kernel_rfl) (h2:L[i]? = some (g,ty,cs):=by kernel_rfl) (h4:d.isRow=false:=by rfl) (h5:cs[0]? = some v:=by kernel_rfl):Has P F L (.cell t ty) v:=.inr ⟨t,ty,rfl,g,i,ty,cs,d,h1,h2,h3,h4,h5⟩
end
end Sy
end
section
namespace Cu
open Go.RowKit Sy
set_option maxRecDepth 100000
set_option maxHeartbeats 4000000
def chVB (b off m c:Nat):Value:=.slice (some ⟨b,off+32*c*1,none⟩) (szC m c) (szC m c)
def chEB (b off m:Nat) {N:Nat} (x:Fin N):Array Value:=#[chVB b off m x.val]
set_option maxHeartbeats 1000000 in
theorem chunkB_any (w : World) (A : Option Addr) (m cap : Nat) :
    Calls Tryz.prog 132 #[.slice A m cap,.int .i64 32] w (GetsN w λv M=>∃ g1 g2,v=.func (.func 185) #[] #[.pointer (some ⟨g1,0,none⟩),.pointer (some ⟨g2,0,none⟩)]∧M=[(g1,24,#[.slice A m cap]),(g2,3,#[.int .i64 32])]):=by
  go_enter Tryz.func132,Tryz.ntmps132
  go_wp2
  go_ret
  refine ⟨_,_,rfl,⟨_,_,rfl,rfl⟩,below_alloc2 w _ _,λg t cs hm=>?_,?_⟩
  · simp only [List.mem_cons,List.not_mem_nil,or_false,Prod.mk.injEq] at hm
    rcases hm with ⟨rfl,rfl,rfl⟩ | ⟨rfl,rfl,rfl⟩
    · exact ⟨Nat.le_refl _,(Blk.new w _ _).alloc _⟩
    · exact ⟨by omega,blk_new2 w _ _ _⟩
  · simp
theorem chunkB1_in (n l Bs Bn n₀ b off m cap N : Nat) (hN0 : N = (m + 31) / 32) (hm : m ≤ cap) (hm2 : m ≤ 4611686018427387904) (J Jx : List (Fin N) → World → Prop) (W : World) (hJ : AbidesFrom W.heap.size J) (hJx : AbidesFrom W.heap.size Jx)
    (hY:∀ pre x W1,J pre W1→pre.length<N→YieldAt Fence.wide (n - 1) Tryz.prog l (chEB b off m x) W1 λe W'=>(e=.returned (.bool true)∧J (pre++[x]) W'∧KpL n₀ [(Bs,24,#[.slice (some ⟨b,off,none⟩) m cap]),(Bn,3,#[.int .i64 32])] W1 W')∨(e=.returned (.bool false)∧Jx (pre++[x]) W'))
    (hS:Blk W Bs 24 #[.slice (some ⟨b,off,none⟩) m cap]) (hN:Blk W Bn 3 #[.int .i64 32]) (h0:J [] W) :
    CallsIn Fence.wide n Tryz.prog 185 #[.func (.yield l) #[] #[],.pointer (some ⟨Bs,0,none⟩),.pointer (some ⟨Bn,0,none⟩)] W λe W'=>(∃ v,e=.returned v)∧((∃ ys:List (Fin N),ys.map (·.1)=List.range N∧J ys W')∨(∃ pre:List (Fin N),(∃ k,k≤N∧pre.map (·.1)=List.range k)∧Jx pre W')):=by
  refine Sy.enterP (args:=[.func (.yield l) #[] #[],.pointer (some ⟨Bs,0,none⟩),.pointer (some ⟨Bn,0,none⟩)]) Tryz.func185 rfl kL ?_
  refine sC ?_
  refine sP (.int .i64 0) ?_
  refine sG<|Sy.block ?_
  refine Sy.loopP N (λk1=>[(0,.func (.yield l) #[] #[]),(1,.pointer (some ⟨Bs,0,none⟩)),(2,.pointer (some ⟨Bn,0,none⟩)),(4,.int .i64 ((32*k1:Nat):Int))]) (λk1 w=>∃ pre:List (Fin N),pre.map (·.1)=List.range k1∧J pre w∧Blk w Bs 24 #[.slice (some ⟨b,off,none⟩) m cap]∧Blk w Bn 3 #[.int .i64 32]) (all_cons kR (all_cons kR (all_cons kR (all_cons kR all_nil)))) (λw hg=>⟨[],rfl,abides_gr hJ h0 hg,hg.blk hS,hg.blk hN⟩) (λk1 wr hk1 hz=>?_)
  clear hS hN
  obtain ⟨pre,hpre,hj,hS,hN⟩:=hz
  have hlen:pre.length=k1:=by have:=congrArg List.length hpre; rwa [List.length_map,List.length_range] at this
  refine Sy.seq<|sC ?_
  refine sP (.int .i64 ((32*k1:Nat):Int))<|sS (.slice (some ⟨b,off,none⟩) m cap) (Quiet.thereOne Bs 0 24 _ _ rfl kR hS.lt _ (hS.cell 0) Tryz.underlying24 rfl)<|sP (.int .i64 ((m:Nat):Int)) ?_
  obtain ⟨b1,hb1⟩:∃ z:Bool,z=decide (32*k1<m):=⟨_,rfl⟩
  refine sS (.bool b1) (Quiet.pure (exec_int .lss _ _ _ .i64 _ _ _ rfl rfl rfl (int_lss _ _ _ _ _ (by rw [hb1]; exact decide_eq_decide.2 (by omega))))) ?_
  refine sG ?_
  cases b1
  · have lb1:¬ (32*k1<m):=of_decide_eq_false hb1.symm
    refine sU<|Sy.exit<|Sy.then_exit<|Sy.then_exit ?_
    obtain rfl:N=k1:=by omega
    refine Sy.in_exit ?_
    exact Sy.retP rfl (λv w3 hg=>⟨⟨_,rfl⟩,.inl ⟨pre,hpre,abides_gr hJ hj hg⟩⟩) (.inr rfl)
  · have lb1 : 32 * k1 < m := of_decide_eq_true hb1.symm
    refine sT<|Sy.skip<|Sy.then_<|Sy.seq<|Sy.block<|Sy.seq ?_
    refine Sy.regionD (λj=>false) kR ?_
    refine sD 0 rfl (.int .i64 ((32:Nat):Int)) (Quiet.thereOne Bn 0 3 _ _ rfl kR hN.lt _ (hN.cell 0) Tryz.underlying3 rfl)<|sD 1 rfl (.slice (some ⟨b,off,none⟩) m cap) (Quiet.thereOne Bs 0 24 _ _ rfl kR hS.lt _ (hS.cell 0) Tryz.underlying24 rfl)<|sZ 2 rfl (.int .i64 ((32*k1:Nat):Int))<|sD 3 rfl (.slice (some ⟨b,off+(32*k1)*1,none⟩) (m - (32*k1)) (cap - (32*k1))) (Quiet.pure (exec_sl1 _ _ _ b off m cap (32*k1) 1 .i64 rfl rfl rfl kR kF (by omega) (by omega)))<|sZ 4 rfl (.int .i64 (((m - (32*k1)):Nat):Int)) ?_
    obtain ⟨sz,hsz⟩:∃ z,z=szC m k1:=⟨_,rfl⟩
    have hs:0<sz∧32*k1+sz≤m:=by rw [hsz]; unfold szC; omega
    refine sD 5 rfl (.int .i64 ((sz:Nat):Int)) (Quiet.pure (exec_min _ _ .i64 32 (m - (32*k1)) sz rfl rfl rfl (by rw [hsz]; unfold szC; omega)))<|sZ 6 rfl (.int .i64 ((sz:Nat):Int)) ?_
    refine sI ?_
    refine Sy.seq ?_
    have hx:k1<N:=by omega
    refine Sy.regionY 10 (by rintro ⟨_,_,⟨_,hv⟩,_⟩; cases hv) kR ?_
    refine sP (.func (.yield l) #[] #[])<|sS (.slice (some ⟨b,off,none⟩) m cap) (Quiet.thereOne Bs 0 24 _ _ rfl kR hS.lt _ (hS.cell 0) Tryz.underlying24 rfl)<|sP (.int .i64 ((32*k1:Nat):Int))<|sP (.int .i64 ((32*k1:Nat):Int))<|sP (.int .i64 ((sz:Nat):Int))<|sS (.int .i64 (((32*k1)+sz:Nat):Int)) (Quiet.pure (exec_int .add _ _ _ .i64 _ _ _ rfl rfl rfl (int_add _ _ _ _ _ ((wrap_i64 (by omega) (by omega)).trans (by omega)))))<|sP (.int .i64 ((32*k1:Nat):Int))<|sP (.int .i64 ((sz:Nat):Int)) ?_
    refine sS (.int .i64 (((32*k1)+sz:Nat):Int)) (Quiet.pure (exec_int .add _ _ _ .i64 _ _ _ rfl rfl rfl (int_add _ _ _ _ _ ((wrap_i64 (by omega) (by omega)).trans (by omega)))))<|sS (.slice (some ⟨b,off+(32*k1)*1,none⟩) (((32*k1)+sz) - (32*k1)) (((32*k1)+sz) - (32*k1))) (Quiet.pure (exec_sl3 _ _ _ _ _ b off m cap (32*k1) ((32*k1)+sz) ((32*k1)+sz) 1 .i64 .i64 .i64 rfl rfl rfl rfl rfl kR kF (by have:=hs; omega) (by have:=hs; omega) (by have:=hs; omega) (by have:=hs; omega))) ?_
    refine Sy.nil ?_
    refine Sy.yieldX (ro := none) rfl (by rintro ⟨_, _, ⟨_, hv⟩, _⟩; cases hv) kR kR l #[.slice (some ⟨b, off + (32 * k1) * 1, none⟩) (((32 * k1) + sz) - (32 * k1)) (((32 * k1) + sz) - (32 * k1))] kF (fun e W' => (e = .returned (.bool true) ∧ J (pre ++ [⟨k1, hx⟩]) W' ∧ Blk W' Bs 24 #[.slice (some ⟨b, off, none⟩) m cap] ∧ Blk W' Bn 3 #[.int .i64 32]) ∨ (e = .returned (.bool false) ∧ Jx (pre ++ [⟨k1, hx⟩]) W')) (fun w hg => by
            have e:chEB b off m ⟨k1,hx⟩=#[.slice (some ⟨b,off+32*k1*1,none⟩) (32*k1+sz - 32*k1) (32*k1+sz - 32*k1)]:=by unfold chEB chVB; rw [← hsz,Nat.add_sub_cancel_left]
            have y:=hY pre ⟨k1,hx⟩ w (abides_gr hJ hj hg) (by omega)
            rw [e] at y
            exact yield_mono y (λe w' q=>q.imp (λq=>⟨q.1,q.2.1,q.2.2.2 (Bs,24,_) (by simp) (hg.blk hS),q.2.2.2 (Bn,3,_) (by simp) (hg.blk hN)⟩) id)) (λe w' q=>q.elim (λq=>⟨_,q.1⟩) (λq=>⟨_,q.1⟩)) rfl (λw2 b hr=>?_)
    cases b
    · have hx2:=hr.elim (λq=>by cases q.1) (λq=>q.2)
      refine sP (.bool true) ?_
      refine sG<|sT<|Sy.ret<|Sy.in_ret<|Sy.then_ret<|Sy.then_ret<|Sy.in_ret ?_
      exact Sy.retP rfl (λv w3 hg=>⟨⟨_,rfl⟩,.inr ⟨pre++[⟨k1,hx⟩],⟨k1+1,by omega,by rw [List.map_append,hpre,List.range_succ]; rfl⟩,abides_gr hJx hx2 hg⟩⟩) (.inl rfl)
    · clear hS hN hj
      obtain ⟨hj,hS,hN⟩:=hr.elim (λq=>q.2) (λq=>by cases q.1)
      refine sP (.bool false) ?_
      refine sG<|sU<|Sy.skip<|Sy.in_<|Sy.then_<|Sy.region ?_
      refine sP (.int .i64 ((32*k1:Nat):Int))<|sS (.int .i64 ((32:Nat):Int)) (Quiet.thereOne Bn 0 3 _ _ rfl kR hN.lt _ (hN.cell 0) Tryz.underlying3 rfl)<|sS (.int .i64 (((32*k1)+32:Nat):Int)) (Quiet.pure (exec_int .add _ _ _ .i64 _ _ _ rfl rfl rfl (int_add _ _ _ _ _ ((wrap_i64 (by omega) (by omega)).trans (by omega)))))<|sP (.int .i64 (((32*k1)+32:Nat):Int)) ?_
      refine Sy.nil ?_
      exact Sy.againP (by omega) (all_cons kR (all_cons kR (all_cons kR (all_cons kR all_nil)))) (λw3 hg=>⟨pre++[⟨k1,hx⟩],by rw [List.map_append,hpre,List.range_succ]; rfl,abides_gr hJ hj hg,hg.blk hS,hg.blk hN⟩)
theorem chunkB0_in (n l Bs Bn cap : Nat) (A : Option Addr) (J Jx : List (Fin 0) → World → Prop) (W : World) (hJ : AbidesFrom W.heap.size J)
    (hS:Blk W Bs 24 #[.slice A 0 cap]) (hN:Blk W Bn 3 #[.int .i64 32]) (h0:J [] W) :
    CallsIn Fence.wide n Tryz.prog 185 #[.func (.yield l) #[] #[],.pointer (some ⟨Bs,0,none⟩),.pointer (some ⟨Bn,0,none⟩)] W λe W'=>(∃ v,e=.returned v)∧((∃ ys:List (Fin 0),ys.map (·.1)=List.range 0∧J ys W')∨(∃ pre:List (Fin 0),(∃ k,k≤0∧pre.map (·.1)=List.range k)∧Jx pre W')):=by
  refine Sy.enterP (args:=[.func (.yield l) #[] #[],.pointer (some ⟨Bs,0,none⟩),.pointer (some ⟨Bn,0,none⟩)]) Tryz.func185 rfl kL ?_
  refine sC ?_
  refine sP (.int .i64 0) ?_
  refine sG<|Sy.block ?_
  refine Sy.loopP 0 (λk1=>[(0,.func (.yield l) #[] #[]),(1,.pointer (some ⟨Bs,0,none⟩)),(2,.pointer (some ⟨Bn,0,none⟩)),(4,.int .i64 ((32*k1:Nat):Int))]) (λk1 w=>J [] w∧Blk w Bs 24 #[.slice A 0 cap]∧Blk w Bn 3 #[.int .i64 32]) (all_cons kR (all_cons kR (all_cons kR (all_cons kR all_nil)))) (λw hg=>⟨abides_gr hJ h0 hg,hg.blk hS,hg.blk hN⟩) (λk1 wr hk1 hz=>?_)
  clear hS hN
  obtain ⟨hj,hS,hN⟩:=hz
  refine Sy.seq<|sC ?_
  refine sP (.int .i64 ((32*k1:Nat):Int))<|sS (.slice A 0 cap) (Quiet.thereOne Bs 0 24 _ _ rfl kR hS.lt _ (hS.cell 0) Tryz.underlying24 rfl)<|sP (.int .i64 ((0:Nat):Int)) ?_
  obtain ⟨b1,hb1⟩:∃ z:Bool,z=decide (32*k1<0):=⟨_,rfl⟩
  refine sS (.bool b1) (Quiet.pure (exec_int .lss _ _ _ .i64 _ _ _ rfl rfl rfl (int_lss _ _ _ _ _ (by rw [hb1]; exact decide_eq_decide.2 (by omega))))) ?_
  refine sG ?_
  cases b1
  · have lb1:¬ (32*k1<0):=of_decide_eq_false hb1.symm
    refine sU<|Sy.exit<|Sy.then_exit<|Sy.then_exit ?_
    obtain rfl:k1=0:=by omega
    refine Sy.in_exit ?_
    exact Sy.retP rfl (λv w3 hg=>⟨⟨_,rfl⟩,.inl ⟨[],rfl,abides_gr hJ hj hg⟩⟩) (.inr rfl)
  · have lb1:32*k1<0:=of_decide_eq_true hb1.symm
    refine sT<|Sy.skip<|Sy.then_<|Sy.seq ?_
    exact absurd lb1 (by omega)
theorem chunkB_stops (n Bs Bn n₀ b off m cap N : Nat) (A : Option Addr) (hN0 : N = (m + 31) / 32) (hm : m ≤ cap) (hm2 : m ≤ 4611686018427387904) (hA : 0 < m → A = some ⟨b, off, none⟩) (w : World) (hS : Blk w Bs 24 #[.slice A m cap]) (hN : Blk w Bn 3 #[.int .i64 32]) :
    SeqStopsK Fence.wide n Tryz.prog 185 #[.pointer (some ⟨Bs,0,none⟩),.pointer (some ⟨Bn,0,none⟩)] (chEB b off m (N:=N)) (KpL n₀ [(Bs,24,#[.slice A m cap]),(Bn,3,#[.int .i64 32])]) (λys=>ys.map (·.1)=List.range N) (λpre=>∃ k,k≤N∧pre.map (·.1)=List.range k) N w:=λl J Jx W hW hJ hJx hY h0=>by
  have hS':=hS.below hW hS.lt
  have hN':=hN.below hW hN.lt
  rcases Nat.eq_zero_or_pos m with h | h
  · subst h
    obtain rfl:N=0:=hN0
    exact chunkB0_in n l Bs Bn cap A J Jx W hJ hS' hN' h0
  · obtain rfl:=hA h
    exact chunkB1_in n l Bs Bn n₀ b off m cap N hN0 hm hm2 J Jx W hJ hJx hY hS' hN' h0
end Cu
end
section
namespace Cu
open Go.RowKit Sy
set_option maxRecDepth 100000
set_option maxHeartbeats 4000000
def b32 (m:List UInt8) (k:Nat):List UInt8:=(m.drop (32*k)).take 32
def nmB (m:List UInt8) (k:Nat):Nat:=valB (b32 m k)
theorem b32_len {m:List UInt8} {D k:Nat} (h:m.length=32*D) (hk:k<D):(b32 m k).length=32:=by
 unfold b32
 rw [List.length_take,List.length_drop]
 omega
def nmsB (m:List UInt8) (D:Nat):Bool:=(List.range D).all λj=>decide (nmB m j<Sc.pM)
theorem nms_yes {m:List UInt8} {D:Nat} (h:∀ j,j<D→nmB m j<Sc.pM):nmsB m D=true:=List.all_eq_true.2 λj hj=>decide_eq_true (h j (List.mem_range.1 hj))
theorem nms_no {m:List UInt8} {D j:Nat} (hj:j<D) (h:¬ nmB m j<Sc.pM):nmsB m D=false:=List.all_eq_false.2 ⟨j,List.mem_range.2 hj,by rw [decide_eq_false h]; decide⟩
def ScsR (b:Bool) (f:Nat→Nat) (D:Nat) (v:Value) (M:Blocks):Prop:=(b=false∧v=.tuple #[.slice none 0 0,.bool false]∧M=[])∨(b=true∧∃ y:Slc,v=.tuple #[y.v,.bool true]∧M=y.bl∧y.Is 42 4 ((List.range D).map λj=>fws (f j)))
theorem src_b32 {w:World} {g o D k:Nat} {m:List UInt8} (hm:m.length=32*D) (hk:k<D) (hs:Sh.Src w (some ⟨g,o,none⟩) m):g<w.heap.size∧w.rangeAt g (o+32*k*1) ((b32 m k).map bv):=by
 have hne:m≠[]:=λe=>by rw [e] at hm; simp at hm; omega
 obtain ⟨b,o',e,h2,h3⟩:=hs hne
 cases e
 refine ⟨h2,λj v hj=>?_⟩
 rw [List.getElem?_map] at hj
 cases hx:(b32 m k)[j]? with
 | none=>rw [hx] at hj; cases hj
 | some u =>
  rw [hx] at hj
  injection hj with hj
  rw [← hj]
  have hl:=(List.getElem?_eq_some_iff.1 hx).1
  rw [b32_len hm hk] at hl
  unfold b32 at hx
  rw [List.getElem?_take_of_lt hl,List.getElem?_drop] at hx
  have:=h3 _ u hx
  rw [show o+32*k*1+j=o+(32*k+j) by omega]
  exact this
theorem scalars_any (w:World) (g o D c:Nat) (m:List UInt8) (hm:m.length=32*D) (h1:1≤D) (hD:D≤1000000) (hc:32*D≤c) (hc2:c≤9223372036854775807) (hs:Sh.Src w (some ⟨g,o,none⟩) m):Calls Tryz.prog 71 #[.slice (some ⟨g,o,none⟩) (32*D) c] w (GetsN w (ScsR (nmsB m D) (nmB m) D)):=by
 refine Sy.enterM (args:=[.slice (some ⟨g,o,none⟩) (32*D) c]) Tryz.func71 rfl kL ?_
 refine sC ?_
 refine sM 51 #[.slice none 0 0] (λg0=>?_)
 refine sM 4 #[.bool false] (λg1=>?_)
 refine sG<|sC ?_
 refine sM 51 #[.slice none 0 0] (λg2=>?_)
 refine sG<|Sy.seq<|sC ?_
 refine sP (.slice (some ⟨g,o,none⟩) (32*D) c) ?_
 refine Sy.callN kR 132 #[.slice (some ⟨g,o,none⟩) (32*D) c,.int .i64 32] kF _ (λw _=>chunkB_any w _ _ _) (λv M hR0=>?_)
 obtain ⟨u1,u2,rfl,rfl⟩:=hR0
 refine sG<|Sy.block ?_
 have hg:g<w.heap.size:=(src_b32 hm h1 hs).1
 refine Sy.rangeY (α:=Fin D) (Y:=Slc) 185 #[.pointer (some ⟨u1,0,none⟩),.pointer (some ⟨u2,0,none⟩)] kR kR (enters_of Tryz.func185 kR rfl) (chEB g o (32*D)) [(u1,24,#[.slice (some ⟨g,o,none⟩) (32*D) c]),(u2,3,#[.int .i64 32])] (λys=>ys.map (·.1)=List.range D) (λpre=>∃ k,k≤D∧pre.map (·.1)=List.range k) D (λ_=>rfl) (by decide)
  (λpre y=>y.Is 42 4 (pre.map λx=>fws (nmB m x.val))∧pre.length≤D∧∀ x∈pre,nmB m x.val<Sc.pM)
  (λ_ y=>[(g0,51,#[.slice none 0 0]),(g1,4,#[.bool false]),(g2,51,#[y.v]),(u1,24,#[.slice (some ⟨g,o,none⟩) (32*D) c]),(u2,3,#[.int .i64 32])]++(y.bl++[]))
  (λ_ _=>[(g0,51,#[.slice none 0 0]),(g1,4,#[.bool false]),(u1,24,#[.slice (some ⟨g,o,none⟩) (32*D) c]),(u2,3,#[.int .i64 32])]++[])
  (λpre _=>∃ x∈pre, ¬ nmB m x.val<Sc.pM) nilS ⟨Slc.Is.nil _ _,Nat.zero_le _,λx hx=>by cases hx⟩ (λw hw=>hw) (λw hw=>?_) (λp hp pre y=>?_) (λx=>[(2,ptr g0),(3,ptr g1),(4,ptr g2),(5,chVB g o (32*D) x.val)]) ?_ ?_ ?_ ?_
 ·exact ⟨w,Below.refl _ _,chunkB_stops 8 u1 u2 _ g o (32*D) c D _ (by omega) hc (by omega) (λ_=>rfl) w (hw.get (i:=3) rfl) (hw.get (i:=4) rfl)⟩
 ·simp only [List.mem_cons,List.not_mem_nil,or_false] at hp
  rcases hp with rfl | rfl <;> simp
 ·intro l fz pre y x
  refine Sy.regionR (by rintro ⟨_,_,h⟩; exact h) kR ⟨_,rfl⟩ ?_
  refine sP (chVB g o (32*D) x.val) ?_
  refine Sy.nil ?_
  exact Sy.apY (all_cons kR (all_cons kR (all_cons kR (all_cons kR all_nil)))) (λw hw=>hw)
 ·intro l fz pre y x hlen ⟨hy,hpl,hok⟩
  have hxN:=x.isLt
  have hz:szC (32*D) x.val=32:=by unfold szC; omega
  obtain ⟨bl,hbl⟩:∃ l,l=b32 m x.val:=⟨_,rfl⟩
  have hl32:bl.length=32:=by rw [hbl]; exact b32_len hm hxN
  obtain ⟨kx,hkx⟩:∃ k,k=(Sc.readS bl).1:=⟨_,rfl⟩
  obtain ⟨b1,hb1⟩:∃ b,b=(Sc.readS bl).2:=⟨_,rfl⟩
  refine Sy.block<|Sy.seq ?_
  refine Sy.regionR (by rintro ⟨_,_,h⟩; exact h) kR ⟨_,rfl⟩ ?_
  refine sP (chVB g o (32*D) x.val) ?_
  refine sS (.pointer (some ⟨g,o+32*x.val*1,none⟩)) (Quiet.pure (λw=>exec_array 22 _ _ (some ⟨g,o+32*x.val*1,none⟩) 32 (szC (32*D) x.val) (szC (32*D) x.val) rfl kR Tryz.underlying22 (by rw [hz]; decide) w)) ?_
  refine sS (.agg (bl.map bv).toArray) (Quiet.there g (o+32*x.val*1) 32 22 (bl.map bv) _ _ rfl kR hg (by rw [hbl]; exact (src_b32 hm hxN hs).2) Tryz.underlying22 rfl kR ((List.length_map ..).trans hl32) _ rfl) ?_
  refine sS (.tuple #[fv kx,.bool b1]) (qF 133 #[.agg (bl.map bv).toArray] (λw=>by rw [hkx,hb1]; exact Sc.read_any w bl hl32))<|sP (.tuple #[fv kx,.bool b1])<|sP (fv kx)<|sP (.bool b1) ?_
  refine sM 42 (fcs 0) (λg6=>?_)
  refine Sy.movT ?_
  refine sW 5 g6 42 (fcs 0) (fcs kx) (wS 0 42 (fcs kx) rfl) ?_
  refine Sy.setT ?_
  refine sP (.bool b1) ?_
  refine sG<|Sy.seq<|Sy.seq ?_
  refine Sy.regionR (by rintro ⟨_,_,h⟩; exact h) kR ⟨_,rfl⟩ ?_
  refine sP (.bool b1) ?_
  cases b1
  ·have hno:¬ nmB m x.val<Sc.pM:=λh=>by
    unfold Sc.readS at hb1
    rw [show valB bl=nmB m x.val from by rw [hbl]; rfl,if_pos h] at hb1
    cases hb1
   refine sP (.bool true) ?_
   refine sG<|sT<|Sy.seq ?_
   refine Sy.regionR (by rintro ⟨_,_,h⟩; exact h) kR ⟨_,rfl⟩ ?_
   refine sW 0 g0 51 #[.slice none 0 0] #[.slice none 0 0] (wO 0 51 (.slice none 0 0) rfl) ?_
   refine Sy.setT ?_
   refine sW 1 g1 4 #[.bool false] #[.bool false] (wO 0 4 (.bool false) rfl) ?_
   refine Sy.setT ?_
   refine sG<|Sy.ret<|Sy.then_ret<|Sy.in_ret ?_
   exact Sy.bpYR nilS ⟨x,List.mem_append.2 (.inr (List.mem_singleton.2 rfl)),hno⟩ (λw hw=>St.pick (T:=[]) [0,1,3,4] (by decide) (by kernel_rfl) (St.less hw (List.Sublist.append (List.Sublist.refl _) (List.nil_sublist _))))
  ·obtain ⟨hlt,hkv⟩:nmB m x.val<Sc.pM∧kx=nmB m x.val:=by
    unfold Sc.readS at hb1 hkx
    rw [show valB bl=nmB m x.val from by rw [hbl]; rfl] at hb1 hkx
    by_cases h:nmB m x.val<Sc.pM
    ·rw [if_pos h] at hkx; exact ⟨h,hkx⟩
    ·rw [if_neg h] at hb1; cases hb1
   refine sP (.bool false) ?_
   refine sG<|sU<|Sy.skip<|Sy.then_ ?_
   refine Sy.regionR (by rintro ⟨_,_,h⟩; exact h) kR ⟨_,rfl⟩ ?_
   refine sS y.v (qC 2 g2 0 51 51 #[y.v] rfl Tryz.underlying51)<|sS (fv kx) (qL 5 g6 0 4 42 42 (fcs kx) rfl Tryz.underlying42) ?_
   refine Sy.make kR 42 (fcs kx) (λg=>.slice (some ⟨g,0,none⟩) 1 1) (λ_=>kR) (λg7=>?_)
   refine Sy.movT ?_
   refine Sy.appendR kR 51 42 _ _ 4 32 Tryz.underlying51 info_sc rfl rfl rfl rfl (by decide) _ _ rfl hy kR (fws kx) rfl (fws_one _) 6 g7 42 kR kR (by rw [List.length_map]; omega) (by rw [List.length_map]; simp only [maxLen]; omega) (λr hr=>?_)
   refine sW 2 g2 51 #[y.v] #[r.v] (Writes.one 0 51 r.v _ _ rfl kR kR kR hr.cells.1 hr.cells.2 (Nat.lt_succ_self 0) rfl) ?_
   refine Sy.setT ?_
   refine Sy.nil<|Sy.in_ ?_
   exact Sy.bpY r ⟨by rw [List.map_append,List.map_singleton, ← hkv]; exact hr,by rw [List.length_append,List.length_singleton]; omega,λz hz=>(List.mem_append.1 hz).elim (hok z) (λh=>by rw [List.mem_singleton.1 h]; exact hlt)⟩ (λw hw=>St.pick [0,1,2,3,4] (by decide) (by kernel_rfl) hw)
 ·intro D' fz xs y hS ⟨hy,hpl,hok⟩ hD' hm'
  have hS0:xs.map (·.1)=List.range D:=hS
  refine Sy.in_<|sB ?_
  refine sS y.v (qC 2 g2 0 51 51 #[y.v] rfl Tryz.underlying51) ?_
  refine sW 0 g0 51 #[.slice none 0 0] #[y.v] (Writes.one 0 51 y.v _ _ rfl kR kR kR hy.cells.1 hy.cells.2 (Nat.lt_succ_self 0) rfl) ?_
  refine Sy.setT ?_
  refine sW 1 g1 4 #[.bool false] #[.bool true] (wO 0 4 (.bool true) rfl) ?_
  refine Sy.setT ?_
  refine sG<|Sy.ret ?_
  have hall:nmsB m D=true:=nms_yes λj hj=>by
   have:j∈xs.map (·.1):=by rw [hS0]; exact List.mem_range.2 hj
   obtain ⟨x,hx,rfl⟩:=List.mem_map.1 this
   exact hok x hx
  refine Sy.retMG2 y.bl rfl (Sy.hasC g0 0 #[y.v] Tryz.underlying51) (Sy.hasC (v:=.bool true) g1 1 #[.bool true] Tryz.underlying4) (λw hw=>?_) (.inr ⟨hall,y,rfl,rfl,?_⟩) hD' hm'
  ·exact St.less hw (by rw [List.append_nil]; exact List.sublist_append_right _ _)
  ·rw [← hS0,List.map_map]; exact hy
 ·intro D' fz pre y hS ⟨x,hx,hno⟩ hD' hm'
  refine Sy.in_ret<|Sy.then_ret ?_
  exact Sy.retMG2 [] rfl (Sy.hasC g0 0 #[.slice none 0 0] Tryz.underlying51) (Sy.hasC (v:=.bool false) g1 1 #[.bool false] Tryz.underlying4) (λw hw=>hw.none) (.inl ⟨nms_no x.isLt hno,rfl,rfl⟩) hD' hm'
end Cu
end
section
namespace Cu
open Go.RowKit Sy
set_option maxRecDepth 100000
set_option maxHeartbeats 4000000
theorem lenS_is (E:Nat→Nat):∀ k,lenS E k=32*(1+sumN E k)
 | 0=>rfl
 | k+1=>by
  show lenS E k+E k*32=32*(1+(sumN E k+E k))
  rw [lenS_is E k]
  omega
def nmD (m:List UInt8) (E:Nat→Nat) (i j:Nat):Nat:=nmB m (1+sumN E i+j)
def dcOk (m:List UInt8) (E:Nat→Nat) (i:Nat):Bool:=(List.range (E i)).all λj=>decide (nmD m E i j<Sc.pM)
def dcsOk (m:List UInt8) (E:Nat→Nat) (N:Nat):Bool:=(List.range N).all (dcOk m E)
theorem dcsOk_yes {m:List UInt8} {E:Nat→Nat} {N:Nat} (h:∀ i,i<N→dcOk m E i=true):dcsOk m E N=true:=List.all_eq_true.2 λi hi=>h i (List.mem_range.1 hi)
theorem dcsOk_no {m:List UInt8} {E:Nat→Nat} {N i:Nat} (hi:i<N) (h:dcOk m E i=false):dcsOk m E N=false:=List.all_eq_false.2 ⟨i,List.mem_range.2 hi,by rw [h]; decide⟩
def decB (m:List UInt8) (D:Nat→Int) (N:Nat):Bool:=szZ N D && (decide (m.length=lenS (λi=>(D i).toNat) N) && dcsOk m (λi=>(D i).toNat) N)
def DecR (b:Bool) (d:List UInt8) (f:Nat→Nat→Nat) (nk:Nat→Nat) (NR:Nat) (v:Value) (M:Blocks):Prop :=
 (b=false∧v=.tuple #[sgv33 (List.replicate 32 0) none 0 0,.bool false]∧M=[])∨(b=true∧∃ u,v=.tuple #[u,.bool true]∧SgGives8 d (λi j=>fws (f i j)) nk NR u M)
def cutB (m:List UInt8) (E:Nat→Nat) (k:Nat):List UInt8:=(m.drop (lenS E k)).take (32*E k)
theorem lenS_le (E:Nat→Nat) {k N:Nat} (h:k<N):lenS E k+32*E k≤lenS E N:=by
 have h1:sumN E (k+1)≤sumN E N:=sumN_mono E h
 rw [lenS_is,lenS_is]
 have h2:sumN E (k+1)=sumN E k+E k:=rfl
 omega
theorem cutB_len {m:List UInt8} {E:Nat→Nat} {k N:Nat} (hm:m.length=lenS E N) (hk:k<N):(cutB m E k).length=32*E k:=by
 have:=lenS_le E hk
 unfold cutB
 rw [List.length_take,List.length_drop]
 omega
theorem cutB_nm {m:List UInt8} {E:Nat→Nat} {k j:Nat} (hj:j<E k):nmB (cutB m E k) j=nmD m E k j:=by
 unfold nmD nmB b32 cutB
 rw [lenS_is,List.drop_take,List.take_take,List.drop_drop]
 congr 3
 ·omega
 ·omega
theorem cutB_ok {m:List UInt8} {E:Nat→Nat} {k:Nat}:nmsB (cutB m E k) (E k)=dcOk m E k:=by
 unfold nmsB dcOk
 refine Bool.eq_iff_iff.2 ?_
 rw [List.all_eq_true,List.all_eq_true]
 exact ⟨λh x hx=>by have:=h x hx; rwa [cutB_nm (List.mem_range.1 hx)] at this,λh x hx=>by have:=h x hx; rwa [cutB_nm (List.mem_range.1 hx)]⟩
theorem src_cut {w:World} {g o N k:Nat} {m:List UInt8} {E:Nat→Nat} (hm:m.length=lenS E N) (hk:k<N) (hs:Sh.Src w (some ⟨g,o,none⟩) m):Sh.Src w (some ⟨g,o+lenS E k,none⟩) (cutB m E k):=λhne=>by
 have hl:=lenS_le E hk
 obtain ⟨b,o',e,h2,h3⟩:=hs (λe=>by rw [e] at hm; have:=lenS_is E N; simp at hm; omega)
 cases e
 refine ⟨_,_,rfl,h2,λj u hj=>?_⟩
 have hjl:=(List.getElem?_eq_some_iff.1 hj).1
 rw [cutB_len hm hk] at hjl
 unfold cutB at hj
 rw [List.getElem?_take_of_lt hjl,List.getElem?_drop] at hj
 rw [Nat.add_assoc]
 exact h3 _ u hj
section
variable {P:Program} {w0:Base} {F:Slots} {L:Blocks} {o:Oper}
theorem exec_sl1A (t:TypeId) (x lx:Operand) (g f len cap lo s:Nat) (kl:IntKind) (ho:o.op=.slice t x (some lx) none none) (hx:evF F x=.slice (some ⟨g,f,none⟩) len cap) (hl:evF F lx=.int kl (lo:Int)) (ht:P.underlying t=some (.slice (P.elem t))) (hsz:∀ w,(sizeOf (P.elem t)).run P w=.ok s w) (h1:lo≤len) (w:World) :
  (execOp (evF F) o).run P w=.ok (.value (.slice (some ⟨g,if cap=lo then f else f+lo*s,none⟩) (len - lo) (cap - lo))) w:=by
 have e:(Instr.sliceAt t (.slice (some ⟨g,f,none⟩) len cap) (some (.int kl (lo:Int))) none none).run P w=.ok (.slice (some ⟨g,if cap=lo then f else f+lo*s,none⟩) (len - lo) (cap - lo)) w:=by
  rw [run_sliceAt_slice w t _ _ _ _ ht,run_slice_l w t (some ⟨g,f,none⟩) len cap ht kl lo (by omega) (by omega)]
  by_cases h:cap=lo <;> simp [hsz,sliced,h,addr_off,Result.andThen]
 unfold execOp
 simp only [ho,hx,hl,Option.map_some,Option.map_none,e,Sem.run_bind,Sem.run_pure,Result.andThen_ok]
theorem exec_sl2 (t:TypeId) (x lx hx':Operand) (g f len cap lo hi s:Nat) (kl kh:IntKind) (ho:o.op=.slice t x (some lx) (some hx') none) (hx:evF F x=.slice (some ⟨g,f,none⟩) len cap) (hl:evF F lx=.int kl (lo:Int)) (hh:evF F hx'=.int kh (hi:Int)) (ht:P.underlying t=some (.slice (P.elem t))) (hsz:∀ w,(sizeOf (P.elem t)).run P w=.ok s w)
  (h1:lo≤hi) (h2:hi≤cap) (h3:lo<cap) (w:World):(execOp (evF F) o).run P w=.ok (.value (.slice (some ⟨g,f+lo*s,none⟩) (hi - lo) (cap - lo))) w:=by
 have hne:¬ cap=lo:=by omega
 have e:(Instr.sliceAt t (.slice (some ⟨g,f,none⟩) len cap) (some (.int kl (lo:Int))) (some (.int kh (hi:Int))) none).run P w=.ok (.slice (some ⟨g,f+lo*s,none⟩) (hi - lo) (cap - lo)) w:=by
  rw [run_sliceAt_slice w t _ _ _ _ ht,run_slice_lh w t (some ⟨g,f,none⟩) len cap ht kl kh lo hi (by omega) (by omega) (by omega)]
  simp [hsz,sliced,hne,addr_off,Result.andThen]
 unfold execOp
 simp only [ho,hx,hl,hh,Option.map_some,Option.map_none,e,Sem.run_bind,Sem.run_pure,Result.andThen_ok]
end
theorem src_take {w:World} {g o:Nat} {m:List UInt8} {k:Nat} (h:∀ j u,m[j]? = some u→w.cell? ⟨g,o+j,none⟩=some (bv u)):w.rangeAt g o ((m.take k).map bv):=λj v hj=>by
 rw [List.getElem?_map] at hj
 cases hx:(m.take k)[j]? with
 | none=>rw [hx] at hj; cases hj
 | some u =>
  rw [hx] at hj
  injection hj with hj
  rw [← hj]
  have hl:=(List.getElem?_eq_some_iff.1 hx).1
  rw [List.length_take] at hl
  rw [List.getElem?_take_of_lt (by omega)] at hx
  exact h j u hx
theorem fill_first {place:Nat→Option (Nat×Nat)} {z c:List Value} {u:Value} {n:Nat} (hp:place 0=some (0,n)) (hc:c.length=n) (hz:z.length=n):Instr.fill place (z++[u]).toArray [(0,.agg c.toArray)]=some (c++[u]).toArray:=by
 unfold Instr.fill
 rw [hp]
 simp only [Value.cells,List.size_toArray,hc,Nat.zero_add,ne_eq,not_true_eq_false,decide_false,Bool.false_or]
 rw [if_neg (by simp [hz])]
 unfold Instr.fill
 have h1:c.toArray.zipIdx.foldl (λcs (x:Value×Nat)=>cs.setIfInBounds (0+x.2) x.1) (z++[u]).toArray=setAll (z++[u]).toArray (0+0) c:=by
  rw [← fold_all c 0 0, ← Array.foldl_toList,Array.toList_zipIdx]
 simp only [Nat.zero_add] at h1
 rw [h1]
 have h2:=setAll_is c 0 (z++[u]).toArray (by rw [List.size_toArray,List.length_append,hz,hc]; simp)
 rw [h2]
 simp only [List.take_zero,List.nil_append,Nat.zero_add]
 rw [List.drop_left' (by rw [hz,hc])]
theorem Quiet.build1F {P:Program} {w0:Base} {F:Slots} {L:Blocks} {o:Oper} (t:TypeId) (fs:Array Field) (it:TypeInfo) (z c:List Value) (u:Value) (x:Operand) (n:Nat) (ho:o.op=.build t #[(0,x)]) (hx:evF F x=.agg c.toArray) (hu:P.underlying t=some (.struct fs)) (hit:P.info? t=some it) (hz:it.zero=some (.agg (z++[u]).toArray))
  (hpl:fs.toList.mapM (λf=>(P.info? f.type).map λi=>(f.offset,i.size))=some [(0,n),(n,1)]) (hc:c.length=n) (hzl:z.length=n):Quiet P w0 F L o (.agg (c++[u]).toArray):=Quiet.pure λw=>by
 have hb:P.built t #[(0,.agg c.toArray)].toList=some (c++[u]).toArray:=by
  unfold Program.built
  rw [hit,hu]
  simp only [hz,hpl]
  exact fill_first rfl hc hzl
 have hr:=run_build (P:=P) w t #[(0,.agg c.toArray)] _ hb
 unfold execOp
 simp only [ho,Sem.run_bind,List.map_toArray,List.map_cons,List.map_nil,hx,hr,Result.andThen_ok,Sem.run_pure]
noncomputable def infRS:TypeInfo:=(Tryz.prog.info? 31).getD default
theorem info_rs:Tryz.prog.info? 31=some infRS:=by kernel_rfl
theorem zero_rs:infRS.zero=some (.agg (List.replicate 32 (Value.int .u8 0)++[Value.slice none 0 0]).toArray):=by kernel_rfl
theorem buildSig {w0:Base} {F:Slots} {L:Blocks} {o:Oper} {x:Operand} (d:List UInt8) (hd:d.length=32) (ho:o.op=.build 31 #[(0,x)]) (hx:evF F x=.agg (d.map bv).toArray):Quiet Tryz.prog w0 F L o (sgv33 d none 0 0) :=
 Quiet.build1F 31 _ infRS _ _ _ x 32 ho hx Tryz.underlying31 info_rs zero_rs (by kernel_rfl) ((List.length_map ..).trans hd) List.length_replicate
theorem decG_any (w:World) (A:Option Addr) (m:List UInt8) (n c:Nat) (hm:m.length=n) (hc:n≤c) (hc2:c≤9223372036854775807) (hs:Sh.Src w A m) (Z:Option Addr) (N zc:Nat) (D:Nat→Int) (hN:N≤4611686018427387904) (hlz:Lst w 1 Z N (λk=>[.int .i64 (D k)])) :
  Calls Tryz.prog 23 #[.slice A n c,.slice Z N zc] w (GetsN w (DecR (decB m D N) (m.take 32) (nmD m λi=>(D i).toNat) (λi=>(D i).toNat) N)):=by
 have hlz0:=hlz
 obtain ⟨E,hE⟩:∃ E:Nat→Nat,E=λi=>(D i).toNat:=⟨_,rfl⟩
 rw [show decB m D N=(szZ N D && (decide (m.length=lenS E N) && dcsOk m E N)) by rw [hE]; rfl, ← hE]
 refine Sy.enter (args:=[.slice A n c,.slice Z N zc]) Tryz.func23 rfl kL ?_
 refine sC ?_
 refine sM 31 (sgc33 (List.replicate 32 0) none 0 0).toArray (λg0=>?_)
 refine sP (.bool false) ?_
 refine sG<|Sy.seq<|sC ?_
 obtain ⟨b1,hb1⟩:∃ b,b=szZ N D:=⟨_,rfl⟩
 refine sP (.slice Z N zc)<|sS (.bool b1) (qG 69 #[.slice Z N zc] (λw hw=>by rw [hb1]; exact allowedZ_any w Z N zc D hN (hlz0.below hw.below))) ?_
 cases b1
 ·rw [← hb1,Bool.false_and]
  refine sP (.bool true)<|sP (.bool true)<|sN<|sN<|sN<|sN<|sN<|sP (.bool true) ?_
  refine sG<|sT<|sC ?_
  refine sP (sgv33 (List.replicate 32 (0:UInt8)) none 0 0)<|sW 0 g0 31 (sgc33 (List.replicate 32 (0:UInt8)) none 0 0).toArray (sgc33 (List.replicate 32 (0:UInt8)) none 0 0).toArray (Writes.row 31 (sgc33 (List.replicate 32 (0:UInt8)) none 0 0) 33 _ _ rfl kR kR kR (sg_len List.length_replicate) (by rw [List.size_toArray,sg_len List.length_replicate]) sg_one)<|sP (.bool false) ?_
  refine sG<|Sy.ret<|Sy.then_ret ?_
  exact retGM2 [] rfl (v:=sgv33 (List.replicate 32 (0:UInt8)) none 0 0) (u:=.bool false) (.inl (Res.cell (ty':=31) g0 0 (sgc33 (List.replicate 32 (0:UInt8)) none 0 0).toArray _ kR kR Tryz.underlying31 rfl (by rw [List.size_toArray,sg_len List.length_replicate]; kernel_rfl) rfl)) (.inl (show _=_ by kernel_rfl)) (λ_ hw=>hw.none) (.inl ⟨rfl,rfl,rfl⟩)
 ·have hsz:=(szZ_iff N D).1 hb1.symm
  have hDE:∀ i,i<N→D i=((E i:Nat):Int)∧1≤E i∧E i≤64:=λi hi=>by
   have:=hsz.2.2 i hi
   rw [hE]
   show D i=(((D i).toNat:Nat):Int)∧1≤(D i).toNat∧(D i).toNat≤64
   omega
  have hlzE:Lst w 1 Z N (λk=>[.int .i64 ((E k:Nat):Int)]):=Lst_ext hlz0 (λi hi=>by rw [(hDE i hi).1])
  obtain ⟨tl,htl⟩:∃ k,k=lenS E N:=⟨_,rfl⟩
  obtain ⟨b2,hb2⟩:∃ b,b=decide (n≠tl):=⟨_,rfl⟩
  refine sP (.bool false)<|sP (.bool false)<|sP (.slice A n c)<|sP (.int .i64 ((n:Nat):Int))<|sP (.slice Z N zc)<|sS (.int .i64 ((tl:Nat):Int)) (qG 70 #[.slice Z N zc] (λw hw=>by rw [htl]; exact length_any w Z N zc E (by omega) (λi hi=>(hDE i hi).2.2) (hlzE.below hw.below))) <|
   sS (.bool b2) (Quiet.pure (exec_int .neq _ _ _ .i64 _ _ _ rfl rfl rfl (int_neq _ _ _ _ _ (by rw [hb2]; exact decide_eq_decide.2 (by omega)))))<|sP (.bool b2) ?_
  refine sG ?_
  cases b2
  ·have hn:n=tl:=Decidable.of_not_not (of_decide_eq_false hb2.symm)
   have hml:m.length=lenS E N:=by rw [hm,hn,htl]
   have hP:∀ k,k<N→lenS E k+32*E k≤n:=λk hk=>by rw [hn,htl]; exact lenS_le E hk
   have hL32:∀ k,32≤lenS E k:=λk=>by rw [lenS_is]; omega
   obtain ⟨gz,oz,hZ⟩:=hlzE
   have h0N:0<N:=by omega
   have hne:m≠[]:=λe=>by
    have h1:=hP 0 h0N
    have h2:=hL32 0
    rw [e] at hm
    have:n=0:=hm.symm
    omega
   have hA:=hs hne
   obtain ⟨g,o,rfl,hg,hcl⟩:=hA
   obtain ⟨d,hd⟩:∃ d,d=m.take 32:=⟨_,rfl⟩
   have hn32:32≤n:=by have:=hP 0 h0N; have:=hL32 0; omega
   have hdl:d.length=32:=by rw [hd,List.length_take]; omega
   refine sU<|Sy.skip<|Sy.then_<|sC ?_
   refine sP (.slice (some ⟨g,o,none⟩) n c)<|sS (.slice (some ⟨g,o,none⟩) 32 c) (Quiet.pure (exec_upto _ _ _ g o n c 32 1 .i64 rfl rfl rfl Tryz.underlying24 kF (by omega))) <|
    sS (.pointer (some ⟨g,o,none⟩)) (Quiet.pure (λw=>exec_array 23 _ _ (some ⟨g,o,none⟩) 32 32 c rfl kR Tryz.underlying23 (by decide) w)) <|
    sS (.agg (d.map bv).toArray) (Quiet.there g o 32 23 (d.map bv) _ _ rfl kR hg (by rw [hd]; exact src_take hcl) Tryz.underlying23 rfl kR ((List.length_map ..).trans hdl) _ rfl) ?_
   refine sS (sgv33 d none 0 0) (buildSig d hdl rfl rfl) ?_
   refine sM 31 (sgc33 (List.replicate 32 (0:UInt8)) none 0 0).toArray (λg1=>?_)
   refine sW 1 g1 31 (sgc33 (List.replicate 32 (0:UInt8)) none 0 0).toArray (sgx d (.slice none 0 0)).toArray (Writes.row 31 (sgx d (.slice none 0 0)) 33 _ _ rfl kR kR kR (sgx_len hdl) (by rw [List.size_toArray,sg_len List.length_replicate]) sg_one) ?_
   refine sA ?_
   have hE0:=(hDE 0 h0N).2.1
   have hP0:=hP 0 h0N
   have hL0:lenS E 0=32:=rfl
   refine sP (.slice (some ⟨g,o,none⟩) n c)<|sS (.slice (some ⟨g,o+lenS E 0,none⟩) (n - lenS E 0) (c - lenS E 0)) (Quiet.pure (exec_sl1 _ _ _ g o n c 32 1 .i64 rfl rfl rfl Tryz.underlying24 kF (by omega) (by omega)))<|sP (.slice (some ⟨g,o+lenS E 0,none⟩) (n - lenS E 0) (c - lenS E 0)) ?_
   refine sG<|Sy.seq<|sC ?_
   refine sP (.slice Z N zc)<|sP (.int .i64 ((N:Nat):Int))<|sP (.int .i64 0) ?_
   refine sG<|Sy.block ?_
   refine Sy.loopT (Y:=(Nat→Slc)×Slc×Value) N (λk1 y1=>[(0,y1.2.2),(4,ptr g0),(6,ptr g1),(29,.slice Z N zc),(30,.int .i64 ((N:Nat):Int)),(31,.int .i64 ((k1:Nat):Int))]) (λk1 y1=>[(g0,31,(sgc33 (List.replicate 32 (0:UInt8)) none 0 0).toArray),(g1,31,(sgx d y1.2.1.v).toArray)]++(rowsB y1.1 N++(y1.2.1.bl++[])))
    (λk1 y1=>RowsAre y1.1 42 4 (λi j=>fws (nmD m E i j)) (cntR E k1 0)∧y1.2.1.Is 51 1 ((List.range k1).map λi=>[(y1.1 i).v])∧(∀ i,k1≤i→y1.1 i=nilS)∧(k1<N→y1.2.2=.slice (some ⟨g,o+lenS E k1,none⟩) (n - lenS E k1) (c - lenS E k1))∧∀ i,i<k1→dcOk m E i=true)
    (λ_=>nilS,nilS,.slice (some ⟨g,o+lenS E 0,none⟩) (n - lenS E 0) (c - lenS E 0)) ⟨(RowsAre.nil _ _ _).cnt (cntR_zero E),Slc.Is.nil _ _,λ_ _=>rfl,λ_=>rfl,λi hi=>absurd hi (Nat.not_lt_zero _)⟩
    (all_cons kR (all_cons kR (all_cons kR (all_cons kR (all_cons kR (all_cons kR all_nil)))))) (λw hw=>by rw [rowsB_nil]; exact hw) (λk1 y1 hk1 hh1=>?_)
   obtain ⟨q1,O1,v1⟩:=y1
   dsimp only at hh1 ⊢
   obtain ⟨hr1,hO1,hn1,hv1,hk1ok⟩:=hh1
   refine sC ?_
   obtain ⟨b3,hb3⟩:∃ z:Bool,z=decide (k1<N):=⟨_,rfl⟩
   refine sS (.bool b3) (Quiet.pure (exec_int .lss _ _ _ .i64 _ _ _ rfl rfl rfl (int_lss _ _ _ _ _ (by rw [hb3]; exact decide_eq_decide.2 (by omega))))) ?_
   refine sG<|Sy.seq ?_
   cases b3
   ·have lb3:¬ (k1<N):=of_decide_eq_false hb3.symm
    obtain rfl:N=k1:=by omega
    obtain ⟨gO,cO,spO,hOv,hOb,hO2,hcO,hO3⟩:=hO1.open h0N
    obtain ⟨ov,ob⟩:=O1
    obtain rfl:ov=_:=hOv
    obtain rfl:ob=_:=hOb
    refine sU<|Sy.exit<|Sy.then_exit<|Sy.then_exit<|Sy.in_exit<|sB ?_
    refine sS (sgv33 d (some ⟨gO,0,none⟩) N cO) (Quiet.load 1 g1 0 33 31 31 (sgc33 d (some ⟨gO,0,none⟩) N cO).toArray _ _ rfl kR kR Tryz.underlying31 rfl kR _ (sg_whole hdl) (sg_fit hdl)) ?_
    refine sW 0 g0 31 (sgc33 (List.replicate 32 (0:UInt8)) none 0 0).toArray (sgc33 d (some ⟨gO,0,none⟩) N cO).toArray (Writes.row 31 (sgc33 d (some ⟨gO,0,none⟩) N cO) 33 _ _ rfl kR kR kR (sg_len hdl) (by rw [List.size_toArray,sg_len List.length_replicate]) sg_one) ?_
    refine Sy.setT ?_
    refine sP (.bool true) ?_
    refine sG<|Sy.ret ?_
    exact retGM2 ((gO,51,(flat (λj=>[(q1 j).v]) N++spO).toArray)::rowsB q1 N) rfl (v:=sgv33 d (some ⟨gO,0,none⟩) N cO) (u:=.bool true) (.inl (Res.cell (ty':=31) g0 0 (sgc33 d (some ⟨gO,0,none⟩) N cO).toArray _ kR kR Tryz.underlying31 rfl (by rw [List.size_toArray,sg_len hdl]; kernel_rfl) rfl)) (.inl (show _=_ by kernel_rfl))
     (λw hw=>St.parts (ls:=[[(g0,31,(sgc33 d (some ⟨gO,0,none⟩) N cO).toArray)],[(g1,31,(sgc33 d (some ⟨gO,0,none⟩) N cO).toArray)],rowsB q1 N,[(gO,51,(flat (λj=>[(q1 j).v]) N++spO).toArray)]]) (ms:=[[(gO,51,(flat (λj=>[(q1 j).v]) N++spO).toArray)],rowsB q1 N]) [[(g0,31,(sgc33 d (some ⟨gO,0,none⟩) N cO).toArray)],[(g1,31,(sgc33 d (some ⟨gO,0,none⟩) N cO).toArray)]] [3,2,0,1] kR (by rfl) (by rfl) (by simp) hw)
     (.inr ⟨by rw [← hb1,decide_eq_true hml,dcsOk_yes hk1ok]; rfl,_,rfl,gO,cO,spO,q1,by rw [← hd],hcO,rfl,hr1⟩)
   ·have lb3:k1<N:=of_decide_eq_true hb3.symm
    obtain rfl:v1=_:=hv1 lb3
    have hEk:=hDE k1 lb3
    have hPk:=hP k1 lb3
    have hLk:=hL32 k1
    refine sT<|Sy.skip<|Sy.then_<|Sy.seq<|Sy.block<|sC ?_
    refine sS (.pointer (some ⟨gz,oz+k1*1,none⟩)) (Quiet.pure (exec_atO 57 _ _ _ Z gz oz N zc k1 1 .i64 (hZ (by omega)).1 rfl rfl rfl Tryz.underlying57 kF (by omega)))<|sS (.int .i64 ((E k1:Nat):Int)) (Quiet.thereOne gz (oz+k1*1) 3 _ _ rfl kR (hZ (by omega)).2.1 _ (range_one ((hZ (by omega)).2.2 k1 (by omega)) 0 rfl) Tryz.underlying3 rfl)<|sP (.int .i64 ((E k1:Nat):Int)) ?_
    refine sA ?_
    refine sP (.slice (some ⟨g,o+lenS E k1,none⟩) (n - lenS E k1) (c - lenS E k1))<|sP (.int .i64 ((E k1:Nat):Int))<|sS (.int .i64 ((32*E k1:Nat):Int)) (Quiet.pure (exec_int .mul _ _ _ .i64 _ _ _ rfl rfl rfl (int_mul _ _ _ _ _ ((wrap_i64 (by omega) (by omega)).trans (by omega))))) <|
     sS (.slice (some ⟨g,o+lenS E k1,none⟩) (32*E k1) (c - lenS E k1)) (Quiet.pure (exec_upto _ _ _ g (o+lenS E k1) (n - lenS E k1) (c - lenS E k1) (32*E k1) 1 .i64 rfl rfl rfl Tryz.underlying24 kF (by omega))) ?_
    refine Sy.callN kR 71 #[.slice (some ⟨g,o+lenS E k1,none⟩) (32*E k1) (c - lenS E k1)] kF _ (λw hw=>scalars_any w g (o+lenS E k1) (E k1) (c - lenS E k1) (cutB m E k1) (cutB_len hml lb3) hEk.2.1 (by omega) (by omega) (by omega) ((src_cut hml lb3 hs).below hw.below)) (λv M hR0=>?_)
    rcases hR0 with ⟨hb,rfl,rfl⟩ | ⟨hb,r,rfl,rfl,hr⟩
    ·rw [List.append_nil]
     have hno:dcsOk m E N=false:=dcsOk_no lb3 (by rw [← cutB_ok]; exact hb)
     rw [hno,Bool.and_false,Bool.and_false]
     refine sP (.tuple #[.slice none 0 0,.bool false])<|sP (.slice none 0 0)<|sP (.bool false)<|sP (.slice none 0 0)<|sP (.bool false) ?_
     refine sG<|Sy.seq<|sC ?_
     refine sP (.bool false)<|sP (.bool true) ?_
     refine sG<|sT<|sC ?_
     refine sP (sgv33 (List.replicate 32 (0:UInt8)) none 0 0)<|sW 0 g0 31 (sgc33 (List.replicate 32 (0:UInt8)) none 0 0).toArray (sgc33 (List.replicate 32 (0:UInt8)) none 0 0).toArray (Writes.row 31 (sgc33 (List.replicate 32 (0:UInt8)) none 0 0) 33 _ _ rfl kR kR kR (sg_len List.length_replicate) (by rw [List.size_toArray,sg_len List.length_replicate]) sg_one) ?_
     refine Sy.setT ?_
     refine sP (.bool false) ?_
     refine sG<|Sy.ret ?_
     repeat' first | refine Sy.then_ret ?_ | refine Sy.in_ret ?_
     exact retGM2 [] rfl (v:=sgv33 (List.replicate 32 (0:UInt8)) none 0 0) (u:=.bool false) (.inl (Res.cell (ty':=31) g0 0 (sgc33 (List.replicate 32 (0:UInt8)) none 0 0).toArray _ kR kR Tryz.underlying31 rfl (by rw [List.size_toArray,sg_len List.length_replicate]; kernel_rfl) rfl)) (.inl (show _=_ by kernel_rfl)) (λ_ hw=>hw.none) (.inl ⟨rfl,rfl,rfl⟩)
    ·obtain ⟨gk,ck,sp,hkv,hkb,hk1s,hk2s,hk3s⟩:=hr.open (by omega)
     obtain ⟨rv,rb⟩:=r
     obtain rfl:rv=_:=hkv
     obtain rfl:rb=_:=hkb
     obtain ⟨bk,hbk⟩:∃ b:Nat×TypeId×Array Value,b=(gk,42,(flat (λj=>fws (nmB (cutB m E k1) j)) (E k1)++sp).toArray):=⟨_,rfl⟩
     refine sP (.tuple #[.slice (some ⟨gk,0,none⟩) (E k1) ck,.bool true])<|sP (.slice (some ⟨gk,0,none⟩) (E k1) ck)<|sP (.bool true)<|sP (.slice (some ⟨gk,0,none⟩) (E k1) ck)<|sP (.bool true) ?_
     refine sG<|Sy.seq<|sC ?_
     refine sP (.bool true)<|sP (.bool false) ?_
     refine sG<|sU<|Sy.skip<|sB ?_
     rw [← hbk] at hr ⊢
     refine Sy.permS (M:=[(g0,31,(sgc33 (List.replicate 32 (0:UInt8)) none 0 0).toArray),(g1,31,(sgx d O1.v).toArray)]++(O1.bl++([bk]++(rowsB q1 N++[])))) (Sy.flat_perm (ls:=[[(g0,31,(sgc33 (List.replicate 32 (0:UInt8)) none 0 0).toArray),(g1,31,(sgx d O1.v).toArray)],rowsB q1 N,O1.bl,[bk]]) (ms:=[[(g0,31,(sgc33 (List.replicate 32 (0:UInt8)) none 0 0).toArray),(g1,31,(sgx d O1.v).toArray)],O1.bl,[bk],rowsB q1 N]) [0,2,3,1] (by kernel_rfl) (by rfl) (by simp) (by simp)) ?_
     refine sP (.pointer (some ⟨g1,32,none⟩))<|sS O1.v (Quiet.cell 1 g1 32 31 29 (sgx d O1.v).toArray _ _ rfl kR kR Tryz.underlying29 rfl _ (sgx_at hdl))<|sP (.slice (some ⟨gk,0,none⟩) (E k1) ck) ?_
     refine Sy.make kR 51 #[.slice (some ⟨gk,0,none⟩) (E k1) ck] (λg=>.slice (some ⟨g,0,none⟩) 1 1) (λ_=>kR) (λg7=>?_)
     refine Sy.movT ?_
     refine Sy.appendR kR 29 51 _ _ 1 24 Tryz.underlying29 info_scs rfl rfl rfl rfl (by decide) _ _ rfl hO1 kR [.slice (some ⟨gk,0,none⟩) (E k1) ck] rfl (one_sl _ _ _) 2 g7 51 kR kR (by rw [List.length_map,List.length_range]; omega) (by rw [List.length_map,List.length_range]; simp only [maxLen]; omega) (λr1 hr1'=>?_)
     refine sP (.pointer (some ⟨g1,32,none⟩))<|sW 1 g1 31 (sgx d O1.v).toArray (sgx d r1.v).toArray (Writes.one 32 29 r1.v _ _ rfl kR kR kR hr1'.cells.1 hr1'.cells.2 (sgx_lt hdl) (sgx_set hdl)) ?_
     refine Sy.setT ?_
     refine sG<|Sy.region ?_
     obtain ⟨v2,hv2⟩:∃ v,v=Value.slice (some ⟨g,if c - lenS E k1=32*E k1 then o+lenS E k1 else o+lenS E k1+32*E k1*1,none⟩) (n - lenS E k1 - 32*E k1) (c - lenS E k1 - 32*E k1):=⟨_,rfl⟩
     refine sP (.slice (some ⟨g,o+lenS E k1,none⟩) (n - lenS E k1) (c - lenS E k1))<|sP (.int .i64 ((E k1:Nat):Int))<|sS (.int .i64 ((32*E k1:Nat):Int)) (Quiet.pure (exec_int .mul _ _ _ .i64 _ _ _ rfl rfl rfl (int_mul _ _ _ _ _ ((wrap_i64 (by omega) (by omega)).trans (by omega))))) <|
      sS v2 (Quiet.pure (λw=>by rw [hv2]; exact exec_sl1A _ _ _ g (o+lenS E k1) (n - lenS E k1) (c - lenS E k1) (32*E k1) 1 .i64 rfl rfl rfl Tryz.underlying24 kF (by omega) w))<|sP v2 ?_
     refine Sy.nil<|Sy.in_<|Sy.then_<|Sy.region ?_
     refine sS (.int .i64 ((k1+1:Nat):Int)) (Quiet.pure (exec_int .add _ _ _ .i64 _ _ _ rfl rfl rfl (int_add _ _ _ _ _ ((wrap_i64 (by omega) (by omega)).trans (by omega)))))<|sP (.int .i64 ((k1+1:Nat):Int)) ?_
     refine Sy.nil ?_
     have hrD:(List.range (E k1)).map (λj=>fws (nmB (cutB m E k1) j))=(List.range (E k1)).map (λj=>fws (nmD m E k1 j)):=List.map_congr_left λj hj=>by rw [cutB_nm (List.mem_range.1 hj)]
     rw [hrD] at hr
     have eL:lenS E (k1+1)=lenS E k1+E k1*32:=rfl
     exact Sy.againT (putR q1 k1 ⟨.slice (some ⟨gk,0,none⟩) (E k1) ck,[bk]⟩,r1,v2) (by omega)
      ⟨RowsAre.full hr1 hr,by rw [List.range_succ,List.map_append,map_putR]; show Slc.Is _ _ _ (_++[[(putR q1 k1 _ k1).v]]); rw [putR_self]; exact hr1',λi hi=>by show putR _ _ _ i=nilS; rw [putR_ne (by omega)]; exact hn1 i (by omega),
       λhlt=>by
        have h1:=hP (k1+1) hlt
        have h2:=(hDE (k1+1) hlt).2.1
        rw [hv2,if_neg (by omega),eL,show o+lenS E k1+32*E k1*1=o+(lenS E k1+E k1*32) by omega,show n - lenS E k1 - 32*E k1=n - (lenS E k1+E k1*32) by omega,show c - lenS E k1 - 32*E k1=c - (lenS E k1+E k1*32) by omega],
       λi hi=>(Nat.lt_succ_iff_lt_or_eq.1 hi).elim (hk1ok i) (λh=>by rw [h, ← cutB_ok]; exact hb)⟩
      (all_cons kR (all_cons kR (all_cons kR (all_cons kR (all_cons kR (all_cons kR all_nil))))))
      (λw hw=>by
       have q:=St.row_in (i:=k1) (v:=.slice (some ⟨gk,0,none⟩) (E k1) ck) (M:=[(g0,31,(sgc33 (List.replicate 32 (0:UInt8)) none 0 0).toArray),(g1,31,(sgx d r1.v).toArray)]) (b:=bk) (n:=N) (r:=q1) (R:=r1.bl++[]) lb3 (hn1 k1 (Nat.le_refl _)) (St.parts (ls:=[[(g0,31,(sgc33 (List.replicate 32 (0:UInt8)) none 0 0).toArray)],[(g1,31,(sgx d r1.v).toArray)],[(g7,51,#[.slice (some ⟨gk,0,none⟩) (E k1) ck])],r1.bl,[bk],rowsB q1 N]) (ms:=[[(g0,31,(sgc33 (List.replicate 32 (0:UInt8)) none 0 0).toArray)],[(g1,31,(sgx d r1.v).toArray)],[bk],rowsB q1 N,r1.bl]) [[(g7,51,#[.slice (some ⟨gk,0,none⟩) (E k1) ck])]] [0,1,4,5,3,2] kR (by rfl) (by simp) (by simp) hw)
       exact q)
  ·have hn:n≠tl:=of_decide_eq_true hb2.symm
   rw [show decide (m.length=lenS E N)=false from decide_eq_false (by rw [hm, ← htl]; exact hn),Bool.false_and,Bool.and_false]
   refine sT<|sC ?_
   refine sP (sgv33 (List.replicate 32 (0:UInt8)) none 0 0)<|sW 0 g0 31 (sgc33 (List.replicate 32 (0:UInt8)) none 0 0).toArray (sgc33 (List.replicate 32 (0:UInt8)) none 0 0).toArray (Writes.row 31 (sgc33 (List.replicate 32 (0:UInt8)) none 0 0) 33 _ _ rfl kR kR kR (sg_len List.length_replicate) (by rw [List.size_toArray,sg_len List.length_replicate]) sg_one)<|sP (.bool false) ?_
   refine sG<|Sy.ret<|Sy.then_ret ?_
   exact retGM2 [] rfl (v:=sgv33 (List.replicate 32 (0:UInt8)) none 0 0) (u:=.bool false) (.inl (Res.cell (ty':=31) g0 0 (sgc33 (List.replicate 32 (0:UInt8)) none 0 0).toArray _ kR kR Tryz.underlying31 rfl (by rw [List.size_toArray,sg_len List.length_replicate]; kernel_rfl) rfl)) (.inl (show _=_ by kernel_rfl)) (λ_ hw=>hw.none) (.inl ⟨rfl,rfl,rfl⟩)
end Cu
end
end Go.Proofs.YtmennpefjofhjaaGreatDoor
