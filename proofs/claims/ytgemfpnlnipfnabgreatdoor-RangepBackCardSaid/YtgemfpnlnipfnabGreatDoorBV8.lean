/-
  Texts of ours.
-/
import Derived.Test.YtgemfpnlnipfnabGreatDoorBV7
set_option linter.unusedVariables false
set_option linter.unusedSimpArgs false
set_option maxRecDepth 100000
set_option maxHeartbeats 40000000
namespace Go.Proofs.YtgemfpnlnipfnabGreatDoor
section
namespace Cu
open Go.RowKit Sy
noncomputable def Yp:TypeInfo:=(Tryz.prog.info? 3).getD default
theorem Ni:Tryz.prog.info? 3=some Yp:=kZ
theorem Tf (z:Int):∀ u∈[Value.int .i64 z],u.oneCell'=true:=λu hu=>by rw [List.mem_singleton.1 hu]; rfl
def szR (n:Nat→Nat) (k:Nat):List (List Value):=(List.range k).map λi=>[iZ (n i)]
theorem Lj (n:Nat→Nat) (k:Nat):(szR n k).length=k:=by simp [szR]
theorem Sq (n:Nat→Nat) (k:Nat):szR n (k+1)=szR n k++[[iZ (n k)]]:=by
 unfold szR
 rw [List.range_succ,List.map_append]
 rfl
theorem VP {n:Nat→Nat} {k i:Nat} (hi:i<k):(szR n k).getD i []=[iZ (n i)]:=by
 unfold szR
 rw [List.getD_eq_getElem?_getD,List.getElem?_map,List.getElem?_range hi]
 rfl
def Fm (NR:Nat) (n:Nat→Nat) (X Y:Nat→Nat→Nat) (I:Nat→Nat→Bool):Bool:=szB NR n && !(List.range NR).any (IR n X Y I)
theorem Jf (w:World) (R:Option Addr) (NR cR:Nat) (a:Nat→Option Addr) (n c:Nat→Nat) (X Y:Nat→Nat→Nat) (I:Nat→Nat→Bool) (hX:∀ i k,X i k<K4) (hY:∀ i k,Y i k<K4) (hNR:NR≤4611686018427387904) (hn:∀ i,n i≤4611686018427387904) (hlr:Lst w 1 R NR (λi=>[.slice (a i) (n i) (c i)])) (hlk:∀ i,i<NR→Lst w 9 (a i) (n i) (λk=>pml (X i k) (Y i k) (I i k))) (hN9:NR≤17592186044416):AY 95 #[.slice R NR cR] w (Gets w (.bool (Fm NR n X Y I))):=by
 have hlr0:=hlr
 obtain ⟨gR,oR,hR⟩:=hlr
 refine Sy.enter (args:=[.slice R NR cR]) Tryz.func95 U kL<|sC<|sp U<|sA<|sp U<|sG<|Sy.seq<|sC<|sp U<|sP (iZ NR)<|sp U<|sG<|Sy.block<|Sy.loopT (Y:=Slc) NR (λk1 y1=>[(0,.slice R NR cR),(3,y1.v),(6,.slice R NR cR),(7,iZ NR),(8,iZ k1)]) (λk1 y1=>[]++(y1.bl++[])) (λk1 y1=>y1.Is 3 1 (szR n k1)) ⟨.slice none 0 0,[]⟩ (Slc.Is.nil _ _) ac5 (λw hw=>hw) (λk1 y1 hk1 hh1=>?_)
 refine sC ?_
 obtain ⟨b1,hb1⟩:=xE (decide (k1<NR))
 refine sS (.bool b1) (qls U U U hb1)<|sG<|Sy.seq ?_
 cases b1
 ·have lb1:=dN hb1
  refine sU<|Sy.exit<|Sy.then_exit<|Sy.then_exit ?_
  obtain rfl:NR=k1:=om
  refine Sy.in_exit<|sB<|sp U ?_
  obtain ⟨b2,hb2⟩:=xE (szB NR n)
  refine sS (.bool b2) (qg (args:=#[y1.v]) (λw hw=>by obtain ⟨A,c2,hv,_,_,hl⟩:=hh1.out; rw [Lj] at hv hl; rw [hv,hb2]; exact OM w A NR c2 n hNR (Ei (hl hw (λb hb=>List.mem_append.2 (.inr (List.mem_append.2 (.inl hb))))) (λi hi=>VP hi))))<|sp U ?_
  cases b2
  ·refine sN<|sN<|sN ?_
   refine sP (.bool false)<|sp U<|sG<|Sy.ret ?_
   rw [show (.bool (Fm NR n X Y I):Value)=.bool false from by unfold Fm; rw [← hb2]; rfl]
   exact rV (.bool false) rfl
  ·refine sp U ?_
   obtain ⟨b3,hb3⟩:=xE ((List.range NR).any (IR n X Y I))
   refine sS (.bool b3) (qg (λw hw=>by rw [hb3]; exact W0 w R NR cR a n c X Y I hX hY hNR hn (hlr0.below hw.below) (λi hi=>(hlk i hi).below hw.below))) ?_
   cases b3
   ·refine sP (.bool true)<|sP (.bool true)<|sp U ?_
    refine sG<|Sy.ret ?_
    rw [show (.bool (Fm NR n X Y I):Value)=.bool true from by unfold Fm; rw [← hb2, ← hb3]; rfl]
    exact rV (.bool true) rfl
   ·refine sP (.bool false)<|sP (.bool false)<|sp U ?_
    refine sG<|Sy.ret ?_
    rw [show (.bool (Fm NR n X Y I):Value)=.bool false from by unfold Fm; rw [← hb2, ← hb3]; rfl]
    exact rV (.bool false) rfl
 ·have lb1:=dY hb1
  refine sT<|Sy.skip<|Sy.then_<|Sy.seq<|Sy.block<|sC<|sS (.pointer (some ⟨gR,oR+k1*1,none⟩)) (Quiet.pure (Af 73 _ _ _ R gR oR NR cR k1 1 .i64 (hR om).1 U U U D0 kF om))<|sS (.slice (a k1) (n k1) (c k1)) (Quiet.thereOne gR (oR+k1*1) 54 _ _ U kR (hR om).2.1 _ (Ar ((hR om).2.2 k1 om) 0 U) CE U)<|sp U<|sG<|Sy.region<|sp U<|sp U<|sP (iZ ((n k1)))<|Sy.make kR 3 #[iZ ((n k1))] (λg=>.slice (pA g) 1 1) kF (λg0=>?_)
  refine Sy.movT<|Sy.appendR kR 139 3 _ _ 1 8 D1 Ni U U U U dZ _ _ U hh1 kR [iZ ((n k1))] rfl (Tf _) 0 g0 3 kR kR (by rw [Lj]; omega) (by rw [Lj]; simp only [maxLen]; omega) (λr1 hr1=>?_)
  refine sp U<|Sy.nil<|Sy.in_<|Sy.then_<|Sy.region<|sS (iZ (k1+1)) (qad U U U)<|sp U<|Sy.nil ?_
  exact Sy.againT r1 om (by rw [Sq]; exact hr1) ac5 (λw hw=>hw.pick [] dZ kR)
theorem Kw {NR:Nat} {nk:Nat→Nat} {X Y:Nat→Nat→Nat} {I:Nat→Nat→Bool} (h:true=Fm NR nk X Y I):NR≤32∧(∀ i,i<NR→nk i≤64)∧(∀ i,i<NR→1≤nk i)∧1≤NR:=by
 unfold Fm at h
 have q:=(P7 NR nk).1 (Bool.and_eq_true_iff.1 h.symm).1
 exact ⟨q.2.1,λi hi=>(q.2.2 i hi).2,λi hi=>(q.2.2 i hi).1,q.1⟩
theorem R6 {At:Nat→Int} {sx:Nat→Nat} {nk:Nat→Nat} {X Y:Nat→Nat→Nat} {I:Nat→Nat→Bool} {NS NR:Nat} (h:true=Fa At sx nk X Y I NS NR):NS=NR∧∀ i,i<NR→At i=(((At i).toNat:Nat):Int)∧(At i).toNat<nk i∧D7 (sx i) (X i (At i).toNat) (Y i (At i).toNat) (I i (At i).toNat)=true:=by
 unfold Fa at h
 obtain ⟨h1,h2⟩:=Bool.and_eq_true_iff.1 h.symm
 refine ⟨of_decide_eq_true h1,λi hi=>?_⟩
 have q:=List.all_eq_true.1 h2 i (List.mem_range.2 hi)
 unfold II at q
 rw [Bool.and_eq_true,Bool.and_eq_true,decide_eq_true_iff,decide_eq_true_iff] at q
 exact ⟨by omega,by omega,q.2.2⟩
def vfB (m:AF) (NR:Nat) (nk:Nat→Nat) (X Y:Nat→Nat→Nat) (I:Nat→Nat→Bool) (s:Nat→Nat→Nat) (d:AF) (NW:Nat) (sn:Nat→Nat):Bool:=Fm NR nk X Y I && chB s (rgM m NR nk X Y I) X Y I d NW NR sn nk
theorem ChR.tup {b:Bool} {f:Nat→Nat→List Value} {nk:Nat→Nat} {NR:Nat} {v:Value} {M:AC} (h:ChR b f nk NR v M):∃ u,v=.tuple #[u,.bool b]:=by
 rcases h with ⟨rfl,rfl,_⟩ | ⟨rfl,u,rfl,_⟩ <;> exact ⟨_,rfl⟩
def SgnR (br bf:Bool) (d:AF) (f:Nat→Nat→List Value) (nk:Nat→Nat) (NR:Nat) (v:Value) (M:AC):Prop :=
 (br=false∧v=.tuple #[Aq (List.replicate 32 0) none 0 0,.int .i64 80]∧M=[])∨(br=true∧bf=false∧v=.tuple #[Aq (List.replicate 32 0) none 0 0,.int .i64 81]∧M=[])∨(br=true∧bf=true∧∃ u,v=.tuple #[u,.int .i64 0]∧Mf d f nk NR u M)
theorem ON (w:World) (A:Option Addr) (m:AF) (n c:Nat) (hm:m.length=n) (hm9:n≤999000000) (hc:n≤c) (hc2:c≤9223372036854775807) (hs0:Sh.Src w A m) (R:Option Addr) (NR cR:Nat) (a:Nat→Option Addr) (nk ck:Nat→Nat) (X Y:Nat→Nat→Nat) (I:Nat→Nat→Bool) (hX:∀ i k,X i k<K4) (hY:∀ i k,Y i k<K4) (hNR:NR≤4611686018427387904) (hnk:∀ i,nk i≤4611686018427387904) (hlr:Lst w 1 R NR (λi=>[.slice (a i) (nk i) (ck i)])) (hlk:∀ i,i<NR→Lst w 9 (a i) (nk i) (λk=>pml (X i k) (Y i k) (I i k))) (hN9:NR≤17592186044416) (d:AF) (hd:d.length=32) (W:Option Addr) (NW cW:Nat) (sa:Nat→Option Addr) (sn sc:Nat→Nat) (s:Nat→Nat→Nat) (hsc:∀ i k,s i k<K4) (hNW:NW≤4611686018427387904) (hsn9:∀ i,i<NW→sn i≤4611686018427387904) (hlw:Lst w 1 W NW (λi=>[.slice (sa i) (sn i) (sc i)])) (hls:∀ i,i<NW→Lst w 4 (sa i) (sn i) (λk=>fws (s i k))) (ht:Sh.TabAt w 1):AY 44 #[.slice A n c,.slice R NR cR,Aq d W NW cW] w (Gets w (.bool (vfB m NR nk X Y I s d NW sn))):=by
 have hlr0:=hlr
 obtain ⟨gR,oR,hR⟩:=hlr
 refine Sy.enter (args:=[.slice A n c,.slice R NR cR,Aq d W NW cW]) Tryz.func44 U kL<|sC<|sM 69 (AV d W NW cW).toArray (λg0=>?_)
 refine sp U<|sG<|Sy.seq<|sC<|sp U ?_
 obtain ⟨b1,hb1⟩:=xE (Fm NR nk X Y I)
 refine sS (.bool b1) (qg (λw hw=>by rw [hb1]; exact Jf w R NR cR a nk ck X Y I hX hY hNR hnk (hlr0.below hw.below) (λi hi=>(hlk i hi).below hw.below) hN9)) ?_
 cases b1
 ·refine sP (.bool true) ?_
  refine sG<|sT<|sC<|sp U<|sG<|Sy.ret<|Sy.then_ret ?_
  rw [show (.bool (vfB m NR nk X Y I s d NW sn):Value)=.bool false from by unfold vfB; rw [← hb1]; rfl]
  exact rV (.bool false) rfl
 ·obtain ⟨hN32,hn64,hn1,hN1⟩:=Kw hb1
  refine sP (.bool false)<|sG<|sU<|Sy.skip<|sR (λj=>false) ?_
  refine sz 0 U U<|sz 1 U U ?_
  obtain ⟨bM,hbM⟩:=xE (rgM m NR nk X Y I)
  have hbl:bM.length=32:=by rw [hbM]; exact Lw _ _ _ _ _ _
  refine sD 2 U (CK R NR cR bM) (qg (λw hw=>by rw [hbM]; exact OH w R NR cR a nk ck X Y I hX hY hNR hnk (hlr0.below hw.below) (λi hi=>(hlk i hi).below hw.below) hN32 hn64 A m n c hm hm9 hc hc2 (hs0.below hw.below) (ht.below hw.below ht.lt)))<|sD 3 U (Aq d W NW cW) (qx 0 0 33 U U Cw (Be hd) (Cc hd)) ?_
  obtain ⟨b2,hb2⟩:=xE (chB s bM X Y I d NW NR sn nk)
  refine Sy.callND 4 U kR kR 97 #[CK R NR cR bM,Aq d W NW cW] kF (ChR b2 (eF s bM X Y I d) nk NR) (λw hw=>by rw [hb2]; exact Ip w R NR cR a nk ck X Y I hX hY hNR hnk (hlr0.below hw.below) (λi hi=>(hlk i hi).below hw.below) hN32 hn64 hn1 bM hbl d hd W NW cW sa sn sc s hsc hNW hsn9 (hlw.below hw.below) (λi hi=>(hls i hi).below hw.below) (ht.below hw.below ht.lt)) (λvq Mq hR0=>?_)
  obtain ⟨u,rfl⟩:=hR0.tup
  refine sz 5 U U<|sz 6 U U<|sz 7 U U<|sz 8 U U<|sz 9 U U<|sE<|sB<|sp U<|sp U<|sG<|Sy.ret ?_
  rw [show (.bool (vfB m NR nk X Y I s d NW sn):Value)=.bool b2 from by unfold vfB; rw [← hb1, ← hbM, ← hb2]; rfl]
  exact rV (.bool b2) rfl
theorem SR (w:World) (sd:AF) (hsd:sd.length=32) (A:Option Addr) (m:AF) (n c:Nat) (hm:m.length=n) (hm9:n≤999000000) (hc:n≤c) (hc2:c≤9223372036854775807) (hs0:Sh.Src w A m) (R:Option Addr) (NR cR:Nat) (a:Nat→Option Addr) (nk ck:Nat→Nat) (X Y:Nat→Nat→Nat) (I:Nat→Nat→Bool) (hX:∀ i k,X i k<K4) (hY:∀ i k,Y i k<K4) (hNR:NR≤4611686018427387904) (hnk:∀ i,nk i≤4611686018427387904) (hlr:Lst w 1 R NR (λi=>[.slice (a i) (nk i) (ck i)])) (hlk:∀ i,i<NR→Lst w 9 (a i) (nk i) (λk=>pml (X i k) (Y i k) (I i k))) (hN9:NR≤17592186044416) (S:Option Addr) (NS cS:Nat) (At:Nat→Int) (sx:Nat→Nat) (hsx:∀ i,sx i<K4) (hNS:NS≤4611686018427387904) (hls:Lst w 5 S NS (λi=>Bp (At i) (sx i))) (ht:Sh.TabAt w 1):AY 59 #[.agg (sd.map bv).toArray,.slice A n c,.slice R NR cR,.slice S NS cS] w (GetsN w (SgnR (Fm NR nk X Y I) (Fa At sx nk X Y I NS NR) (sgD (rgM m NR nk X Y I) sd X Y I (λi=>(At i).toNat) nk NR) (sgF (rgM m NR nk X Y I) sd X Y I (λi=>(At i).toNat) sx (sgD (rgM m NR nk X Y I) sd X Y I (λi=>(At i).toNat) nk NR)) nk NR)):=by
 have hls0:=hls
 obtain ⟨gS,oS,hS⟩:=hls
 have hlr0:=hlr
 obtain ⟨gR,oR,hR⟩:=hlr
 refine Sy.enter (args:=[.agg (sd.map bv).toArray,.slice A n c,.slice R NR cR,.slice S NS cS]) Tryz.func59 U kL<|sC<|sM 23 (sd.map bv).toArray (λg0=>?_)
 refine sM 69 zS33.toArray (λg1=>?_)
 refine sp U<|sG<|Sy.seq<|sC<|sp U ?_
 obtain ⟨b1,hb1⟩:=xE (Fm NR nk X Y I)
 refine sS (.bool b1) (qg (λw hw=>by rw [hb1]; exact Jf w R NR cR a nk ck X Y I hX hY hNR hnk (hlr0.below hw.below) (λi hi=>(hlk i hi).below hw.below) hN9)) ?_
 cases b1
 ·refine sP (.bool true) ?_
  refine sG<|sT<|sC<|sP (Aq (List.replicate 32 (0:UInt8)) none 0 0)<|sw 1 U zS33.toArray (Writes.row 69 zS33 33 _ _ U kR kR kR (Ag List.length_replicate) (by rw [List.size_toArray,Ag List.length_replicate]) CG)<|sp U<|sG<|Sy.ret<|Sy.then_ret ?_
  exact DE [] rfl (v:=Aq (List.replicate 32 (0:UInt8)) none 0 0) (u:=.int .i64 80) (.inl (Res.cell (ty':=69) g1 1 zS33.toArray _ kR kR Cw U (by rw [List.size_toArray,Ag List.length_replicate]; kernel_rfl) rfl)) (.inl (show _=_ by kernel_rfl)) (λ_ hw=>hw.none) (.inl ⟨hb1.symm,rfl,rfl⟩)
 ·obtain ⟨hN32,hn64,hn1,hN1⟩:=Kw hb1
  refine sP (.bool false)<|sG<|sU<|Sy.skip<|Sy.then_<|Sy.seq<|sC<|sp U<|sp U ?_
  obtain ⟨b2,hb2⟩:=xE (Fa At sx nk X Y I NS NR)
  refine sS (.bool b2) (qg (λw hw=>by rw [hb2]; exact Wk w S NS cS At sx hsx hNS (hls0.below hw.below) R NR cR a nk ck X Y I hX hY hNR hnk (hlr0.below hw.below) (λi hi=>(hlk i hi).below hw.below))) ?_
  cases b2
  ·refine sP (.bool true) ?_
   refine sG<|sT<|sC<|sP (Aq (List.replicate 32 (0:UInt8)) none 0 0)<|sW 1 g1 69 zS33.toArray zS33.toArray (Writes.row 69 zS33 33 _ _ U kR kR kR (Ag List.length_replicate) (by rw [List.size_toArray,Ag List.length_replicate]) CG)<|sp U<|sG<|Sy.ret<|Sy.then_ret ?_
   exact DE [] rfl (v:=Aq (List.replicate 32 (0:UInt8)) none 0 0) (u:=.int .i64 81) (.inl (Res.cell (ty':=69) g1 1 zS33.toArray _ kR kR Cw U (by rw [List.size_toArray,Ag List.length_replicate]; kernel_rfl) rfl)) (.inl (show _=_ by kernel_rfl)) (λ_ hw=>hw.none) (.inr (.inl ⟨hb1.symm,hb2.symm,rfl,rfl⟩))
  ·obtain ⟨hNE,hfp⟩:=R6 hb2
   obtain rfl:NR=NS:=hNE.symm
   refine sP (.bool false)<|sG<|sU<|Sy.skip<|sR (λj=>j == 6) ?_
   refine sz 0 U U<|sz 1 U U ?_
   obtain ⟨bM,hbM⟩:=xE (rgM m NR nk X Y I)
   have hbl:bM.length=32:=by rw [hbM]; exact Lw _ _ _ _ _ _
   refine sD 2 U (CK R NR cR bM) (qg (λw hw=>by rw [hbM]; exact OH w R NR cR a nk ck X Y I hX hY hNR hnk (hlr0.below hw.below) (λi hi=>(hlk i hi).below hw.below) hN32 hn64 A m n c hm hm9 hc hc2 (hs0.below hw.below) (ht.below hw.below ht.lt)))<|sD 3 U (.agg (sd.map bv).toArray) (qx 0 0 32 U U Dc (BO sd hsd) (Bf sd hsd))<|sz 4 U U ?_
   obtain ⟨d0,hd0⟩:=xE ((sgD bM sd X Y I (λi=>(At i).toNat) nk NR))
   have hdl:d0.length=32:=by rw [hd0]; exact Iw _
   refine Sy.callND 5 U kR kR 120 #[CK R NR cR bM,.agg (sd.map bv).toArray,.slice S NR cS] kF (Mf d0 (sgF bM sd X Y I (λi=>(At i).toNat) sx d0) nk NR) (λw hw=>by rw [hd0]; exact RI w R NR cR a nk ck X Y I hX hY hNR hnk (hlr0.below hw.below) (λi hi=>(hlk i hi).below hw.below) hN32 hn64 hn1 bM hbl sd hsd S cS (λi=>(At i).toNat) sx hsx (Ei (hls0.below hw.below) (λi hi=>by rw [← (hfp i hi).1])) (λi hi=>(hfp i hi).2.1) (ht.below hw.below ht.lt)) (λvq Mq hR0=>?_)
   obtain ⟨gF,r0,rfl,rfl,hr0⟩:=hR0
   refine Sy.permD (M:=[(g0,23,(sd.map bv).toArray),(g1,69,zS33.toArray),(gF,117,(BF r0 NR))]++(Bb r0 NR++[])) (by rw [List.append_nil]; exact List.Perm.refl _)<|sX 6 U 1 g1 69 zS33.toArray (AV d0 (pA gF) NR NR).toArray (Writes.row 69 (AV d0 (pA gF) NR NR) 33 _ _ U kR kR kR (Ag hdl) (by rw [List.size_toArray,Ag List.length_replicate]) CG)<|Sy.setTD<|Sy.anyOf [7] kR dZ (Sy.each1 ?_)
   refine Sy.oneQuiet U kR (.int .i64 0) qP<|sI<|Sy.ret ?_
   exact DE ((gF,117,BF r0 NR)::Bb r0 NR) rfl (v:=Aq d0 (pA gF) NR NR) (u:=.int .i64 0) (.inl (Res.cell (ty':=69) g1 1 (AV d0 (pA gF) NR NR).toArray _ kR kR Cw U (by rw [List.size_toArray,Ag hdl]; kernel_rfl) rfl)) (.inl (show _=_ by kernel_rfl)) (λw hw=>by simpa using St.pick (pre:=[(g0,23,(sd.map bv).toArray),(g1,69,(AV d0 (pA gF) NR NR).toArray),(gF,117,(BF r0 NR))]) (M:=[(gF,117,BF r0 NR)]) [2] dZ kR hw) (.inr (.inr ⟨hb1.symm,hb2.symm,_,rfl,gF,r0,by rw [hd0,hbM],rfl,by rw [hd0,hbM] at hr0; exact hr0⟩))
section
variable {NR:Nat} {nk:Nat→Nat} {X Y:Nat→Nat→Nat} {I:Nat→Nat→Bool}
theorem QH (h1:¬ NR<1) (h2:¬ NR>32) (h3:∀ k,k<NR→(1≤nk k∧nk k≤64)∧∀ j,j<nk k→A6 (X k j) (Y k j) (I k j)=true):Fm NR nk X Y I=true:=by
 unfold Fm
 have hs:szB NR nk=true:=(P7 NR nk).2 ⟨by omega,by omega,λj hj=>(h3 j hj).1⟩
 have:(List.range NR).any (IR nk X Y I)=false:=by
  rw [List.any_eq_false]
  intro k hk
  rw [Bool.not_eq_true]
  unfold IR
  rw [List.any_eq_false]
  intro j hj
  unfold Hv
  rw [(h3 k (List.mem_range.1 hk)).2 j (List.mem_range.1 hj)]
  decide
 rw [hs,this]
 rfl
end
def BN (l:AF):List (List Value):=l.map λb=>[bv b]
theorem B1 (l:AF):(BN l).length=l.length:=List.length_map ..
theorem Eg:∀ l:AF,(BN l).flatten=l.map bv
 | []=>rfl
 | b::l=>by
  show [bv b]++(BN l).flatten=_
  rw [Eg l]
  rfl
theorem EI (l:AF):∀ y∈BN l,y.length=1:=λy hy=>by obtain ⟨b,_,rfl⟩:=List.mem_map.1 hy; rfl
theorem Di (l:AF):∀ y∈BN l, ∀ u∈y,u.oneCell'=true:=λy hy u hu=>by
 obtain ⟨b,_,rfl⟩:=List.mem_map.1 hy
 rw [List.mem_singleton.1 hu]
 rfl
theorem Gq (a b:AF):BN (a++b)=BN a++BN b:=List.map_append
theorem From.src {w0:Base} {L:AC} {A:Option Addr} {l:AF} (hs:Sh.Src w0.world A l):From w0 L A (BN l).flatten:=λw hw=>by
 rw [Eg]
 by_cases h0:l=[]
 ·subst h0; exact .inl U
 ·obtain ⟨b,o,rfl,h2,h3⟩:=hs h0
  refine .inr ⟨_,rfl,λj u hj=>?_⟩
  rw [Bm]
  rw [List.getElem?_map] at hj
  cases hx:l[j]? with
  | none=>rw [hx] at hj; cases hj
  | some x =>
   rw [hx] at hj
   injection hj with hj
   rw [← hj]
   exact (hw.below.cell (p:=⟨b,o+j,none⟩) h2).trans (h3 j x hx)
theorem From.arr {w0:Base} {L:AC} {i g:Nat} {t:TypeId} {l:AF} (hL:L[i]? = some (g,t,(l.map bv).toArray)):From w0 L (pA g) (BN l).flatten:=by
 rw [Eg]
 refine From.blk hL ?_
 show ((l.map bv).drop 0).take _=_
 rw [List.drop_zero,List.take_of_length_le (Nat.le_refl _)]
theorem MV {g:Nat} {e:TypeId}:Slc.Is ⟨.slice (pA g) 0 0,[(g,e,#[])]⟩ e 1 (BN []):=Slc.Is.mk' (cs:=[]) (by simp [BN]) (by simp [BN]) U U U (Nat.le_refl _) (Nat.zero_le _)
theorem VT {w:World} {A:Option Addr} {n:Nat} {l:AF} (hn:l.length=n) (h:Lst w 1 A n (λi=>(BN l).getD i [])):Sh.Src w A l:=λhne=>by
 obtain ⟨g,o,q⟩:=h
 obtain ⟨q1,q2,q3⟩:=q (by rw [← hn]; exact List.length_pos_iff.2 hne)
 refine ⟨g,o,q1,q2,λj u hj=>?_⟩
 have hl:=(List.getElem?_eq_some_iff.1 hj).1
 have q4:w.rangeAt g (o+j*1) ((BN l).getD j []):=q3 j om
 rw [List.getD_eq_getElem?_getD,show (BN l)[j]? = some [bv u] from by unfold BN; rw [List.getElem?_map,hj]; rfl] at q4
 have q5:=Ar q4 0 U
 rwa [Nat.mul_one,Nat.add_zero] at q5
theorem Oh {e:TypeId} {y:Slc} {l:AF} (h:y.Is e 1 (BN l)):∃ A c,y.v=.slice A l.length c∧l.length≤c∧c≤maxLen∧∀ {w0:Base} {w:World} {L:AC},St w0 w L→(∀ b∈y.bl,b∈L)→Sh.Src w A l:=by
 obtain ⟨A,c,h1,h2,h3,h4⟩:=h.out
 rw [B1] at h1 h2 h4
 exact ⟨A,c,h1,h2,h3,λhw hb=>VT U (h4 hw hb)⟩
noncomputable def Z7:TypeInfo:=(Tryz.prog.info? 5).getD default
theorem I3:Tryz.prog.info? 5=some Z7:=kZ
section
variable {l:AF} {j:Nat} {xt:Sh.Tx} {xb:AC} {w0:Base} {w:World} {L:AC}
end
section
variable (s v:Nat→Nat→Nat) (sn vn:Nat→Nat)
end
section
variable {s v:Nat→Nat→Nat} {sn vn:Nat→Nat} {d d2:AF} {NW NV:Nat}
end
end Cu
end
section
namespace Sy
open Go.RowKit
section
variable {L M:AC} {w0:Base} {w:World}
theorem flat_perm {ls ms:List AC} (is:List Nat) (hi:is.isPerm (List.range ls.length)=true) (hm:is.map (λi=>ls[i]?)=ms.map some) (hL:L=ls.flatten) (hM:M=ms.flatten):L.Perm M:=by
 rw [hL,hM]
 exact (QP is hi hm).flatten
theorem St.parts {ls ms:List AC} (os:List AC) (is:List Nat) (hi:is.isPerm (List.range ls.length)=true) (hm:is.map (λi=>ls[i]?)=(ms++os).map some) (hL:L=ls.flatten) (hM:M=ms.flatten) (hw:St w0 w L):St w0 w M:=by
 have h1:L.Perm (M++os.flatten):=by
  rw [hL,hM, ← List.flatten_append]
  exact (QP is hi hm).flatten
 exact (hw.perm h1).less (List.sublist_append_left _ _)
end
section
variable {f:Nat→List Value} {s m k o:Nat} {sp:List Value}
theorem MK (h:∀ j,(f j).length=s) (hk:k<m) (ho:o=0+k*s):Value.agg (((AL f m++sp).toArray.toList.drop o).take s).toArray=.agg (f k).toArray:=by
 show Value.agg (((AL f m++sp).drop o).take s).toArray=_
 rw [show o=k*s by omega,ED hk,List.append_assoc,List.drop_append_of_le_length (by rw [Am h]; exact Nat.le_refl _),List.drop_of_length_le (by rw [Am h]; exact Nat.le_refl _),List.nil_append,List.append_assoc,List.take_left' (h k)]
end
section
variable {r:Nat→Slc} {n i:Nat} {pre M R D E:AC} {b:Nat×TypeId×Array Value} {v:Value} {w0:Base} {w:World}
theorem end_front:((pre++R)++D).Perm (pre++(D++R)):=by
 rw [List.append_assoc]
 exact List.perm_append_comm.append_left pre
theorem St.row_in (hi:i<n) (h:r i=nilS) (hw:St w0 w (M++([b]++(Bb r n++R)))):St w0 w (M++(Bb (DP r i ⟨v,[b]⟩) n++R)):=by
 refine hw.perm (List.Perm.append_left M ?_)
 have h1:=H9 r hi
 rw [h] at h1
 have h2:(Bb r n).Perm (FJ r n i):=h1
 have h3:=Ks (r:=r) (x:=⟨v,[b]⟩) hi
 rw [← List.append_assoc]
 exact (((h2.append_left [b]).trans h3)).append_right R
end
end Sy
end
section
namespace Cu
open Go.RowKit Sy
def sgx (d:AF) (u:Value):List Value:=d.map bv++[u]
section
variable {d z:AF} {u x:Value}
theorem QA (h:d.length=32):(sgx d u).length=33:=by simp [sgx,h]
theorem X0 (h:d.length=32):(sgx d u).toArray[32]? = some u:=by
 rw [List.getElem?_toArray]
 unfold sgx
 rw [List.getElem?_append_right (by rw [List.length_map,h]; exact Nat.le_refl _),List.length_map,h]
 rfl
theorem Vc (h:d.length=32):(sgx d u).toArray.setIfInBounds 32 x=(sgx d x).toArray:=by
 rw [List.setIfInBounds_toArray]
 unfold sgx
 rw [List.set_append_right _ _ (by rw [List.length_map,h]; exact Nat.le_refl _),List.length_map,h]
 rfl
theorem Xz (h:d.length=32):32<(sgx d u).toArray.size:=by rw [List.size_toArray,QA h]; decide
end
theorem RowsAre.full {r:Nat→Slc} {e:TypeId} {sz k:Nat} {f:Nat→Nat→List Value} {n:Nat→Nat} {x:Slc} (h:RowsAre r e sz f (Ce n k 0)) (hx:x.Is e sz ((List.range (n k)).map (f k))):RowsAre (DP r k x) e sz f (Ce n (k+1) 0):=λi=>by
 rw [Sy.Zz]
 by_cases hi:i=k
 ·subst hi
  rw [Dv,Ef]
  exact hx
 ·rw [E6 hi]
  have q:=h i
  have e:Ce n k (n k) i=Ce n k 0 i:=by unfold Ce; simp [hi]
  rw [e]
  exact q
def U_ (d:AF) (f:Nat→Nat→List Value) (nk:Nat→Nat) (NR:Nat) (v:Value) (M:AC):Prop:=∃ g cap sp r,v=Aq d (pA g) NR cap∧NR≤cap∧M=(g,117,(AL (λj=>[(r j).v]) NR++sp).toArray)::Bb r NR∧RowsAre r 26 4 f (Ce nk NR 0)
theorem Tw {r:Nat→Slc} {k:Nat} {x:Slc}:(List.range k).map (λi=>[(DP r k x i).v])=(List.range k).map λi=>[(r i).v] :=
 List.map_congr_left λi hi=>by rw [E6 (by have:=List.mem_range.1 hi; omega)]
def X9 (z:Int) (x:Nat):Value:=.agg (Bp z x).toArray
section
variable {At Bt:Nat→Int} {sx sy:Nat→Nat} {NS NT:Nat}
end
end Cu
end
section
namespace Sc
open Go.RowKit Go.Lib
end Sc
end
section
namespace Cu
open Go.RowKit Sy
theorem QE (z:Int) (x:Nat):∀ u∈Bp z x,u.oneCell'=true:=λu hu=>by
 rcases List.mem_cons.1 hu with rfl | h
 ·rfl
 ·exact Eb _ u h
section
variable (bm sd:AF) (i:Nat) (s:Nat→Nat)
end
section
variable {bm sd:AF} {i n a:Nat} {s e:Nat→Nat} {X Y:Nat→Nat} {I:Nat→Bool}
end
noncomputable def Yn:TypeInfo:=(Tryz.prog.info? 65).getD default
theorem Nh:Tryz.prog.info? 65=some Yn:=kZ
section
variable (bm sd:AF) (nk:Nat→Nat) (s e:Nat→Nat→Nat) (X Y:Nat→Nat→Nat) (I:Nat→Nat→Bool)
end
section
variable {bm sd:AF} {nk:Nat→Nat} {s e:Nat→Nat→Nat} {X Y:Nat→Nat→Nat} {I:Nat→Nat→Bool} {NR:Nat}
end
theorem TS (k e x:Nat) {px py:Nat} {pi:Bool} (hd:dec px py pi=evP x):rPt (Sc.subP k (Sc.mulP e x)) e px py pi=evP k:=by
 have oB:Ec.On bP:=bP_on
 have oX:Ec.On (evP x):=PX x
 unfold rPt
 rw [hd,FW oB,FW oX]
 have e1:Ec.nm AR (Sc.subP k (Sc.mulP e x)) bP=Ec.add AR (Ec.nm AR k bP) (Ec.neg (Ec.nm AR e (evP x))):=by
  unfold Sc.subP
  rw [FW oB,Ec.nm_add fld oB]
  have e2:Ec.nm AR (Sc.pM - Sc.mulP e x%Sc.pM) bP=Ec.nm AR (Sc.negP (Sc.mulP e x)%Sc.pM) bP:=by
   unfold Sc.negP
   rw [FW oB,FW oB]
  rw [e2,V' oB,FW oB]
  unfold Sc.mulP evP
  rw [FW oB,Ec.nm_mul fld oB,FW oB]
 rw [e1]
 have o1:=oX.nm fld e
 rw [Ec.assoc fld (oB.nm fld k) o1.neg o1,Ec.neg_add,Ec.add_zero]
 unfold evP
 rw [FW oB]
theorem Tc {x px py:Nat} {pi:Bool} (h:D7 x px py pi=true):dec px py pi=evP x:=by
 unfold D7 CH at h
 rw [Bool.and_eq_true,Bool.and_eq_true,decide_eq_true_iff,decide_eq_true_iff,beq_iff_eq] at h
 rw [← h.1, ← h.2.1, ← h.2.2]
 exact Ap (PX x)
section
variable {s s':Nat→Nat} {bm x:AF} {i:Nat} {X Y:Nat→Nat} {I:Nat→Bool}
theorem IU {f:Nat}:∀ k,(∀ j,j<k→s (f+j)=s' (f+j))→alX s bm i f X Y I x k=alX s' bm i f X Y I x k
 | 0,_=>rfl
 | k+1,h=>by
  show Ay (rPt (s (f+k)) (rgC bm (alX s bm i f X Y I x k) i (f+k)) (X (f+k)) (Y (f+k)) (I (f+k)))=Ay (rPt (s' (f+k)) (rgC bm (alX s' bm i f X Y I x k) i (f+k)) (X (f+k)) (Y (f+k)) (I (f+k)))
  rw [IU k (λj hj=>h j om),h k (Nat.lt_succ_self k)]
theorem Qz (f:Nat):∀ k,alX s bm i 0 X Y I x (f+k)=alX s bm i f X Y I (alX s bm i 0 X Y I x f) k
 | 0=>rfl
 | k+1=>by
  rw [← Nat.add_assoc,Ez,Qz f k]
  rfl
end
section
variable {bm sd:AF} {X Y:Nat→Nat→Nat} {I:Nat→Nat→Bool} {at_ nk sx:Nat→Nat} {d:AF}
theorem S7 {i j:Nat} (h:j≠at_ i):sgS bm sd X Y I at_ sx d i j=rgF bm sd i j:=if_neg h
theorem X5 (i:Nat):sgS bm sd X Y I at_ sx d i (at_ i)=Sc.subP (rgN bm sd i) (Sc.mulP (sgE bm sd X Y I at_ d i) (sx i)):=if_pos U
theorem QC (i j:Nat):sgS bm sd X Y I at_ sx d i j%Sc.pM=sgS bm sd X Y I at_ sx d i j:=by
 unfold sgS
 split
 ·exact Nat.mod_mod _ _
 ·exact Nat.mod_mod _ _
theorem S6 (i:Nat):alX (sgS bm sd X Y I at_ sx d i) bm i 0 (X i) (Y i) (I i) d (at_ i)=alX (rgF bm sd i) bm i 0 (X i) (Y i) (I i) d (at_ i) :=
 IU _ λj hj=>S7 om
theorem RK {i:Nat} (h:D7 (sx i) (X i (at_ i)) (Y i (at_ i)) (I i (at_ i))=true):alX (sgS bm sd X Y I at_ sx d i) bm i 0 (X i) (Y i) (I i) d (at_ i+1)=sgX bm sd i:=by
 rw [Ez,S6,X5]
 show Ay (rPt (Sc.subP (rgN bm sd i) (Sc.mulP (sgE bm sd X Y I at_ d i) (sx i))) (sgE bm sd X Y I at_ d i) _ _ _)=Ay _
 rw [TS _ _ _ (Tc h)]
theorem S4 {i:Nat} (ha:at_ i<nk i) (h:D7 (sx i) (X i (at_ i)) (Y i (at_ i)) (I i (at_ i))=true):alX (sgS bm sd X Y I at_ sx d i) bm i 0 (X i) (Y i) (I i) d (nk i)=sgL bm sd X Y I at_ nk i:=by
 have e:nk i=at_ i+1+(nk i - (at_ i+1)):=om
 rw [e,Qz,RK h]
 unfold sgL
 exact IU _ λj hj=>S7 om
theorem QB:∀ k,(∀ i,i<k→at_ i<nk i∧D7 (sx i) (X i (at_ i)) (Y i (at_ i)) (I i (at_ i))=true)→DQ (sgS bm sd X Y I at_ sx d) bm X Y I d nk k=Gb bm sd X Y I at_ nk k
 | 0,_=>rfl
 | k+1,h=>by
  show DQ _ bm X Y I d nk k++alX _ bm k 0 _ _ _ d (nk k)=Gb bm sd X Y I at_ nk k++sgL bm sd X Y I at_ nk k
  rw [QB k (λi hi=>h i om),S4 (h k (Nat.lt_succ_self k)).1 (h k (Nat.lt_succ_self k)).2]
theorem Uk {NR:Nat} {sn:Nat→Nat} (hs:∀ i,i<NR→sn i=nk i) (h:∀ i,i<NR→at_ i<nk i∧D7 (sx i) (X i (at_ i)) (Y i (at_ i)) (I i (at_ i))=true):chB (sgS bm sd X Y I at_ sx (sgD bm sd X Y I at_ nk NR)) bm X Y I (sgD bm sd X Y I at_ nk NR) NR NR sn nk=true :=
 MT U (λi hi=>Ku (hs i hi) λj _=>QC i j) (by rw [QB NR h]; rfl)
end
def slA:Value→Option Addr
 | .slice A _ _=>A
 | _=>none
def slC:Value→Nat
 | .slice _ _ c=>c
 | _=>0
section
variable {w0:Base} {br bf:Bool} {d:AF} {s:Nat→Nat→Nat} {nk:Nat→Nat} {NR:Nat} {v:Value} {M:AC}
def uD (br bf:Bool) (d:AF):List UInt8:=if br && bf then d else List.replicate 32 0
def uN (br bf:Bool) (N:Nat):Nat:=if br && bf then N else 0
def uE (br bf:Bool):Int:=if br then (if bf then 0 else 81) else 80
theorem Si (h:d.length=32):(uD br bf d).length=32:=by unfold uD; split; exact h; exact List.length_replicate
end
section
variable {sd:AF} {us:List Value}
end
section
variable {bm sd:AF} {i n k p:Nat} {s:Nat→Nat}
end
def EN (s:Nat→Nat):Nat→List UInt8
 | 0=>[]
 | k+1=>EN s k++BA (s k%Sc.pM)
def EQ (s:Nat→Nat→Nat) (sn:Nat→Nat):Nat→List UInt8
 | 0=>[]
 | k+1=>EQ s sn k++EN (s k) (sn k)
theorem Fl (s:Nat→Nat):∀ k,(EN s k).length=32*k
 | 0=>rfl
 | k+1=>by
  show (EN s k++BA _).length=_
  rw [List.length_append,Fl s k,BT]
  omega
theorem Pa (w:World) (gA oA:Nat) (m:AF) (n c:Nat) (hm:m.length=n) (hm9:n≤999000000) (hc:n≤c) (hc2:c≤9223372036854775807) (hs0:Sh.Src w (some ⟨gA,oA,none⟩) m):AY 124 #[.slice (some ⟨gA,oA,none⟩) n c] w (GetsN w ((λvq Mq=>∃ y:Slc,vq=y.v∧Mq=y.bl∧y.Is 5 1 (BN m)))):=by
 refine Sy.enter (args:=[.slice (some ⟨gA,oA,none⟩) n c]) Tryz.func124 U kL<|sC<|sp U<|sG<|Sy.seq<|sC<|sp U<|sP (.bool false)<|sG<|sU<|Sy.skip<|sB<|Sy.make kR 5 #[] (λg=>.slice (pA g) 0 0) kF (λg0=>?_)
 refine sp U<|Sy.permS (M:=[]++((⟨.slice (pA g0) 0 0,[(g0,5,#[])]⟩:Slc).bl++[])) (by exact List.Perm.refl _)<|Sy.appendM kR 29 5 _ _ 1 1 EM I3 U U U U dZ _ _ U (ys:=BN m) MV kR (EI _) (Di _) (some ⟨gA,oA,none⟩) n c (by rw [B1]; exact hm) hc kR (λ_=>From.src hs0) (by simp [BN]; omega) (by simp [BN,maxLen]; omega) (λr1 hr1=>?_)
 refine sp U<|sG<|Sy.ret ?_
 exact retGM r1.bl U (v:=r1.v) (.inl (show _=_ by kernel_rfl)) (λw hw=>by simpa using hw) ⟨r1,rfl,rfl,by have q:=hr1; simpa [BN] using q⟩
theorem Rw (w:World) (q:Nat) (hq:q≤2000000):AY 193 #[.slice none 0 0,iZ q] w (GetsN w (DO 26 4 [])):=by
 refine Sy.enter (args:=[.slice none 0 0,iZ q]) Tryz.func193 U kL<|sC<|sp U<|sG<|Sy.seq<|sC<|sp U ?_
 obtain ⟨b1,hb1⟩:=xE (decide (q<0))
 refine sS (.bool b1) (qls U U U hb1)<|sG ?_
 cases b1
 ·have lb1:=dN hb1
  refine sU<|Sy.skip<|Sy.then_<|Sy.seq<|sC<|sp U<|sp U<|sP (.int .i64 0)<|sp U<|sP (.int .i64 0)<|sP (.int .i64 0)<|sS (iZ q) (qsb U U U)<|sp U<|sA<|sp U ?_
  obtain ⟨b2,hb2⟩:=xE (decide (q>0))
  refine sS (.bool b2) (qgt U U U hb2)<|sG ?_
  cases b2
  ·have lb2:=dN hb2
   refine sU<|Sy.skip<|sB<|sp U<|sp U<|sG<|Sy.ret ?_
   exact retGM [] rfl (v:=.slice none 0 0) (.inl (show _=_ by kernel_rfl)) (λ_ hw=>hw) ⟨nilS,Slc.Is.nil _ _,rfl,rfl⟩
  ·have lb2:=dY hb2
   refine sT<|Sy.region<|sp U<|sp U<|sP (.int .i64 0)<|sP (.slice none 0 0)<|sp U<|Sy.appendZ kR 117 3 26 _ _ 4 32 CU uy3 He U U U U dZ _ _ U U q om U om (by simp only [maxLen]; omega) (λgz cz zs hz1 hz2 hz3=>?_)
   refine sp U<|sP (.int .i64 0)<|sS (.slice (pA gz) 0 cz) (Quiet.pure (Et 117 _ _ gz 0 q cz 0 4 .i64 U U U CU kF (Nat.zero_le _)))<|sp U<|sA<|sp U<|sp U<|sG<|Sy.ret ?_
   exact retGM [(gz,26,zs.toArray)] rfl (v:=.slice (pA gz) 0 cz) (.inl (show _=_ by kernel_rfl)) (λ_ hw=>hw) ⟨⟨.slice (pA gz) 0 cz,[(gz,26,zs.toArray)]⟩,Slc.Is.mk' (by simp) (by simp) rfl (by simp) hz1 (Nat.zero_le _) hz3,rfl,rfl⟩
 ·have lb1:=dY hb1
  exact absurd lb1 om
theorem N3 (w:World) (T:Option Addr) (N d:Nat) (a:Nat→Option Addr) (n c:Nat→Nat) (f:Nat→Nat→List Value) (hf1:∀ i k,(f i k).length=4) (hf2:∀ i k, ∀ u∈f i k,u.oneCell'=true) (hN:N≤2000000) (hs:Bq n N≤2000000) (hnc:∀ i,i<N→n i≤c i) (hlt:Lst w 1 T N (λi=>[.slice (a i) (n i) (c i)])) (hl:∀ i,i<N→Lst w 4 (a i) (n i) (f i)):AY 125 #[.slice T N d] w (GetsN w (DO 26 4 (KG n f N))):=by
 obtain ⟨gT,oT,hT⟩:=hlt
 refine Sy.enter (args:=[.slice T N d]) Tryz.func125 U kL<|sC<|sp U<|sA<|sp U<|sG<|Sy.seq<|sC<|sp U<|sP (iZ N)<|sp U<|sG<|Sy.block<|Sy.loopK N (λk1=>[(0,.slice T N d),(3,iZ ((Bq n k1))),(9,.slice T N d),(10,iZ N),(11,iZ k1)]) (λk1=>[]) [] (M:=[]) ac5 kR U (λk1 hk1=>?_)
 refine sC ?_
 obtain ⟨b1,hb1⟩:=xE (decide (k1<N))
 refine sS (.bool b1) (qls U U U hb1)<|sG<|Sy.seq ?_
 cases b1
 ·have lb1:=dN hb1
  refine sU<|Sy.exit<|Sy.then_exit<|Sy.then_exit ?_
  obtain rfl:N=k1:=om
  refine Sy.in_exit<|sB<|sp U<|Sy.callN kR 193 #[.slice none 0 0,iZ ((Bq n N))] kF (DO 26 4 []) (λw hw=>Rw w _ om) (λvq Mq hR0=>?_)
  obtain ⟨y0,hy0,rfl,rfl⟩:=hR0
  refine sp U<|sG<|Sy.seq<|sC<|sp U<|sP (iZ N)<|sp U<|sG<|Sy.block<|Sy.loopT (Y:=Slc) N (λk1 y1=>[(0,.slice T N d),(6,y1.v),(25,.slice T N d),(26,iZ N),(27,iZ k1)]) (λk1 y1=>[]++(y1.bl++[])) (λk1 y1=>y1.Is 26 4 (KG n f k1)) y0 hy0 ac5 (λw hw=>by simpa using hw) (λk1 y1 hk1 hh1=>?_)
  refine sC ?_
  obtain ⟨b2,hb2⟩:=xE (decide (k1<N))
  refine sS (.bool b2) (qls U U U hb2)<|sG<|Sy.seq ?_
  cases b2
  ·have lb2:=dN hb2
   refine sU<|Sy.exit<|Sy.then_exit<|Sy.then_exit ?_
   obtain rfl:N=k1:=om
   refine Sy.in_exit<|sB<|sp U<|sp U<|sG<|Sy.ret ?_
   exact retGM y1.bl rfl (v:=y1.v) (.inl (show _=_ by kernel_rfl)) (λ_ hw=>by simpa using hw) ⟨y1,hh1,rfl,rfl⟩
  ·have lb2:=dY hb2
   have hsk:Bq n k1+n k1≤Bq n N:=DT n (show k1+1≤N by omega)
   refine sT<|Sy.skip<|Sy.then_<|Sy.seq<|Sy.block<|sC<|sS (.pointer (some ⟨gT,oT+k1*1,none⟩)) (Quiet.pure (Af 67 _ _ _ T gT oT N d k1 1 .i64 (hT om).1 U U U EL kF om))<|sS (.slice (a k1) (n k1) (c k1)) (Quiet.thereOne gT (oT+k1*1) 117 _ _ U kR (hT om).2.1 _ (Ar ((hT om).2.2 k1 om) 0 U) CU U)<|sp U<|sG<|Sy.region<|sp U<|sp U<|Sy.appendM kR 117 26 _ _ 4 32 CU He U U U U dZ _ _ U (ys:=(List.range (n k1)).map (f k1)) hh1 kR (λz hz=>by obtain ⟨i,_,rfl⟩:=List.mem_map.1 hz; exact hf1 _ _) (λz hz=>by obtain ⟨i,_,rfl⟩:=List.mem_map.1 hz; exact hf2 _ _) (a k1) (n k1) (c k1) (by rw [List.length_map,List.length_range]) (hnc k1 om) kR (λ_=>From.lst (hl k1 om) (hf1 k1)) (by rw [F8]; omega) (by rw [F8]; simp only [maxLen]; omega) (λr1 hr1=>?_)
   refine sp U<|Sy.nil<|Sy.in_<|Sy.then_<|Sy.region<|sS (iZ (k1+1)) (qad U U U)<|sp U<|Sy.nil ?_
   exact Sy.againT r1 om hr1 ac5 (λw hw=>hw)
 ·have lb1:=dY hb1
  have hsk:Bq n k1+n k1≤Bq n N:=DT n (show k1+1≤N by omega)
  refine sT<|Sy.skip<|Sy.then_<|Sy.seq<|Sy.block<|sC<|sS (.pointer (some ⟨gT,oT+k1*1,none⟩)) (Quiet.pure (Af 67 _ _ _ T gT oT N d k1 1 .i64 (hT om).1 U U U EL kF om))<|sS (.slice (a k1) (n k1) (c k1)) (Quiet.thereOne gT (oT+k1*1) 117 _ _ U kR (hT om).2.1 _ (Ar ((hT om).2.2 k1 om) 0 U) CU U)<|sp U<|sA<|sp U<|sp U<|sP (iZ ((n k1)))<|sS (iZ ((Bq n k1)+(n k1))) (qad U U U)<|sp U<|sA<|sp U ?_
  obtain ⟨b3,hb3⟩:=xE (decide ((Bq n k1)+(n k1)<0))
  refine sS (.bool b3) (qls U U U hb3)<|sG ?_
  cases b3
  ·have lb3:=dN hb3
   refine sU<|Sy.skip<|Sy.in_<|Sy.then_<|Sy.region<|sS (iZ (k1+1)) (qad U U U)<|sp U<|Sy.nil ?_
   exact Sy.againK [] (M:=[]) om ac5 kR U
  ·have lb3:=dY hb3
   exact absurd lb3 om
def Bd (D:Nat→Nat):Nat→Nat
 | 0=>32
 | k+1=>Bd D k+D k*32
theorem PI (w:World) (Z:Option Addr) (N zc:Nat) (D:Nat→Nat) (hN:N≤32) (hD:∀ i,i<N→D i≤64) (hlz:Lst w 1 Z N (λk=>[iZ (D k)])):AY 202 #[.slice Z N zc] w (Gets w (iZ (Bd D N))):=by
 obtain ⟨gZ,oZ,hZ⟩:=hlz
 refine Sy.enter (args:=[.slice Z N zc]) Tryz.func202 U kL<|sC<|sp U<|sA<|sp U<|sG<|Sy.seq<|sC<|sp U<|sP (iZ N)<|sp U<|sG<|Sy.block<|Sy.loopH N (λk1=>Bd D k1≤32+2048*k1) (λk1=>[(0,.slice Z N zc),(3,iZ ((Bd D k1))),(6,.slice Z N zc),(7,iZ N),(8,iZ k1)]) (λk1=>[]) [] (M:=[]) (Nat.le_refl _) ac5 kR U (λk1 hk1 hh=>?_)
 have hh1:=hh
 refine sC ?_
 obtain ⟨b1,hb1⟩:=xE (decide (k1<N))
 refine sS (.bool b1) (qls U U U hb1)<|sG<|Sy.seq ?_
 cases b1
 ·have lb1:=dN hb1
  refine sU<|Sy.exit<|Sy.then_exit<|Sy.then_exit ?_
  obtain rfl:N=k1:=om
  refine Sy.in_exit<|sB<|sp U<|sp U<|sG<|Sy.ret ?_
  exact rV (iZ ((Bd D N))) U
 ·have lb1:=dY hb1
  have hD1:=hD k1 lb1
  refine sT<|Sy.skip<|Sy.then_<|Sy.seq<|Sy.block<|sC<|sS (.pointer (some ⟨gZ,oZ+k1*1,none⟩)) (Quiet.pure (Af 139 _ _ _ Z gZ oZ N zc k1 1 .i64 (hZ om).1 U U U D1 kF om))<|sS (iZ ((D k1))) (Quiet.thereOne gZ (oZ+k1*1) 3 _ _ U kR (hZ om).2.1 _ (Ar ((hZ om).2.2 k1 om) 0 U) uy3 U)<|sp U<|sG<|Sy.region<|sp U<|sp U<|sS (iZ ((D k1)*32)) (qml U U U)<|sS (.int .i64 (((Bd D k1)+((D k1)*32):Nat):Int)) (qad U U U)<|sp U<|Sy.nil<|Sy.in_<|Sy.then_<|Sy.region<|sS (iZ (k1+1)) (qad U U U)<|sp U<|Sy.nil ?_
  exact Sy.againH [] (M:=[]) om (by show Bd D k1+D k1*32≤_; have:=hD k1 (by omega); omega) ac5 kR U
def FM (s:Nat→Nat→Nat) (sn:Nat→Nat):Nat→List Nat
 | 0=>[]
 | k+1=>FM s sn k++(List.range (sn k)).map (s k)
theorem Ex (s:Nat→Nat→Nat) (sn:Nat→Nat):∀ k,(FM s sn k).length=Bq sn k
 | 0=>rfl
 | k+1=>by
  show (FM s sn k++_).length=Bq sn k+sn k
  rw [List.length_append,Ex s sn k,List.length_map,List.length_range]
theorem N_ {s:Nat→Nat→Nat} {sn:Nat→Nat} (h:∀ i k,s i k<K4):∀ k, ∀ x∈FM s sn k,x<K4
 | 0,x,hx=>by cases hx
 | k+1,x,hx=>by
  rcases List.mem_append.1 hx with hx | hx
  ·exact N_ h k x hx
  ·obtain ⟨i,_,rfl⟩:=List.mem_map.1 hx
   exact h _ _
theorem N9 (s:Nat→Nat→Nat) (sn:Nat→Nat):∀ k,KG sn (λi j=>fws (s i j)) k=(FM s sn k).map fws
 | 0=>rfl
 | k+1=>by
  show KG sn _ k++_=(FM s sn k++_).map fws
  rw [List.map_append,N9 s sn k,List.map_map]
  rfl
theorem Ge {f g:Nat→Nat}:∀ k,(∀ j,j<k→f j=g j)→EN f k=EN g k
 | 0,_=>rfl
 | k+1,h=>by
  show EN f k++_=EN g k++_
  rw [Ge k (λj hj=>h j om),h k (Nat.lt_succ_self k)]
theorem Ja (f:Nat→Nat) (a:Nat):∀ b,EN f (a+b)=EN f a++EN (λj=>f (a+j)) b
 | 0=>(List.append_nil _).symm
 | b+1=>by
  show EN f (a+b)++_=_++(EN _ b++_)
  rw [Ja f a b,List.append_assoc]
  rfl
def atL (l:List Nat) (j:Nat):Nat:=l.getD j 0
theorem OK {a b:List Nat} {j:Nat} (h:j<a.length):atL (a++b) j=atL a j:=by unfold atL; rw [List.getD_eq_getElem?_getD,List.getD_eq_getElem?_getD,List.getElem?_append_left h]
theorem LT {a b:List Nat} {j:Nat}:atL (a++b) (a.length+j)=atL b j:=by unfold atL; rw [List.getD_eq_getElem?_getD,List.getD_eq_getElem?_getD,List.getElem?_append_right (Nat.le_add_right _ _),Nat.add_sub_cancel_left]
theorem LU {f:Nat→Nat} {n j:Nat} (h:j<n):atL ((List.range n).map f) j=f j:=by unfold atL; rw [List.getD_eq_getElem?_getD,List.getElem?_map,List.getElem?_range h]; rfl
theorem G2 (s:Nat→Nat→Nat) (sn:Nat→Nat):∀ k,EN (atL (FM s sn k)) (Bq sn k)=EQ s sn k
 | 0=>rfl
 | k+1=>by
  show EN (atL (FM s sn k++(List.range (sn k)).map (s k))) (Bq sn k+sn k)=EQ s sn k++EN (s k) (sn k)
  rw [Ja,Ge (g:=atL (FM s sn k)) _ (λj hj=>OK (by rw [Ex]; exact hj)),G2 s sn k,Ge (g:=s k) _ (λj hj=>by
   rw [← Ex s sn k,LT,LU hj])]
theorem WO (l:List Nat):l.map fws=(List.range l.length).map (λj=>fws (atL l j)):=by
 apply List.ext_getElem
 ·rw [List.length_map,List.length_map,List.length_range]
 ·intro j h1 h2
  rw [List.getElem_map,List.getElem_map,List.getElem_range]
  unfold atL
  rw [List.getD_eq_getElem?_getD,List.getElem?_eq_getElem (by simpa using h1)]
  rfl
theorem Y9 {l:List Nat} (h:∀ x∈l,x<K4) (j:Nat):atL l j<K4:=by
 unfold atL
 rw [List.getD_eq_getElem?_getD]
 cases hx:l[j]? with
 | none=>exact ZN
 | some x=>exact h x (List.mem_of_getElem? hx)
theorem UQ (w:World) (d:AF) (hd:d.length=32) (W:Option Addr) (NW cW:Nat) (sa:Nat→Option Addr) (sn sc:Nat→Nat) (s:Nat→Nat→Nat) (hsc:∀ i k,s i k<K4) (hNW:NW≤4611686018427387904) (hsn9:∀ i,i<NW→sn i≤4611686018427387904) (hlw:Lst w 1 W NW (λi=>[.slice (sa i) (sn i) (sc i)])) (hls:∀ i,i<NW→Lst w 4 (sa i) (sn i) (λk=>fws (s i k))) (hW9:NW≤2000000) (hsum:Bq sn NW≤2000000) (hsc9:∀ i,i<NW→sn i≤sc i):AY 61 #[Aq d W NW cW] w (GetsN w ((λvq Mq=>∃ y:Slc,vq=y.v∧Mq=y.bl∧y.Is 5 1 (BN (d++EQ s sn NW))))):=by
 have hlw0:=hlw
 obtain ⟨gW,oW,hW⟩:=hlw
 refine Sy.enter (args:=[Aq d W NW cW]) Tryz.func61 U kL<|sC<|sM 69 (AV d W NW cW).toArray (λg0=>?_)
 refine sp U<|sA<|sP (pT g0 0)<|sP (.slice (pA g0) 32 32)<|Sy.callN kR 124 #[.slice (pA g0) 32 32] kF ((λvq Mq=>∃ y:Slc,vq=y.v∧Mq=y.bl∧y.Is 5 1 (BN d))) (λw hw=>Pa w g0 0 d 32 32 hd dZ (Nat.le_refl _) dZ (Lo (hw.get (i:=0) rfl))) (λvq Mq hR0=>?_)
 obtain ⟨yC,rfl,rfl,hyC⟩:=hR0
 refine Sy.permS (M:=[(g0,69,(AV d W NW cW).toArray)]++(yC.bl++([]))) (by rw [List.append_nil]; exact List.Perm.refl _)<|sp U<|sG<|Sy.seq<|sC<|sP (pT g0 32)<|sS (.slice W NW cW) (qy 0 32 U U EL (JT hd))<|Sy.callN kR 125 #[.slice W NW cW] kF (DO 26 4 (KG sn (λi j=>fws (s i j)) NW)) (λw hw=>N3 w W NW cW sa sn sc (λi j=>fws (s i j)) (λ_ _=>rfl) (λ_ _=>Eb _) hW9 hsum hsc9 (hlw0.below hw.below) (λi hi=>(hls i hi).below hw.below)) (λvq Mq hR0=>?_)
 obtain ⟨y0,hy0,rfl,rfl⟩:=hR0
 obtain ⟨lN,hlN⟩:=xE (FM s sn NW)
 obtain ⟨T,hT⟩:=xE (Bq sn NW)
 have hTl:lN.length=T:=by rw [hlN,hT]; exact Ex _ _ _
 have hT9:T≤2000000:=by rw [hT]; exact hsum
 have hN4:∀ j,atL lN j<K4:=Y9 (by rw [hlN]; exact N_ hsc _)
 rw [N9, ← hlN,WO,hTl] at hy0
 refine Sy.permS Sy.end_front<|sS (iZ T) (Quiet.lenR hy0 (by rw [List.length_map,List.length_range]) _ CU U U)<|sp U<|sG<|Sy.block<|Sy.loopT (Y:=Slc) T (λk1 y1=>[(1,pT g0 0),(3,y1.v),(12,y0.v),(13,iZ T),(14,iZ k1)]) (λk1 y1=>[(g0,69,(AV d W NW cW).toArray)]++(y0.bl++(y1.bl++([])))) (λk1 y1=>y1.Is 5 1 (BN (d++EN (atL lN) k1))) yC (by rw [show d++EN (atL lN) 0=d from List.append_nil d]; exact hyC) ac5 (λw hw=>hw) (λk1 y1 hk1 hh1=>?_)
 refine sC ?_
 obtain ⟨b1,hb1⟩:=xE (decide (k1<T))
 refine sS (.bool b1) (qls U U U hb1)<|sG<|Sy.seq ?_
 cases b1
 ·have lb1:=dN hb1
  refine sU<|Sy.exit<|Sy.then_exit<|Sy.then_exit ?_
  obtain rfl:T=k1:=om
  refine Sy.in_exit<|sB<|sp U<|sp U<|sG<|Sy.ret ?_
  exact retGM y1.bl U (v:=y1.v) (.inl (show _=_ by kernel_rfl)) (λw hw=>St.parts (ls:=[[(g0,69,(AV d W NW cW).toArray)],y0.bl,y1.bl]) (ms:=[y1.bl]) [[(g0,69,(AV d W NW cW).toArray)],y0.bl] [2,0,1] kR (by rfl) (by rfl) (by simp) hw) ⟨y1,rfl,rfl,by rw [← G2, ← hlN, ← hT]; exact hh1⟩
 ·have lb1:=dY hb1
  obtain ⟨gR,cR2,spR,hv0,hb0,hk1s,hk2s,hk3s⟩:=hy0.open om
  obtain ⟨fL,hfL⟩:∃ f:Nat→List Value,f=λj=>fws (atL lN j):=⟨_,rfl⟩
  rw [← hfL] at hb0
  have hf4:∀ j,(fL j).length=4:=λj=>by rw [hfL]; rfl
  obtain ⟨yv,yb⟩:=y0
  obtain rfl:yv=_:=hv0
  obtain rfl:yb=_:=hb0
  refine Sy.permC (M:=[(g0,69,(AV d W NW cW).toArray),(gR,26,(AL fL T++spR).toArray)]++(y1.bl++([]))) (by exact List.Perm.refl _)<|sT<|Sy.skip<|Sy.then_<|Sy.seq<|Sy.block<|sC<|sS (.pointer (some ⟨gR,0+k1*4,none⟩)) (Quiet.pure (CQ 117 _ _ _ gR 0 T cR2 k1 4 .i64 U U U CU kF om))<|sS (fv (atL lN k1)) (qx 1 (0+k1*4) 4 U U Au ((MK (k:=k1) hf4 om U).trans (by rw [hfL]; rfl)) (LI (k:=k1) hf4 om U))<|sM 26 (fcs 0) (λg1=>?_)
  refine Sy.movT<|sw 2 U (fcs (atL lN k1)) (wA U)<|Sy.setT<|sA<|sS (fv (atL lN k1)) (qk 2 0 4 U U Au)<|sS (.agg ((BA ((atL lN k1)%Sc.pM)).map bv).toArray) (qf (λw=>Sc.bytes_any w _ (hN4 _)))<|Sy.make kR 22 (Zl 32).toArray ptr kF (λg2=>?_)
  refine Sy.movT<|Sy.write kR 3 g2 22 (Zl 32).toArray ((BA ((atL lN k1)%Sc.pM)).map bv).toArray kR (Writes.store 0 22 ((BA ((atL lN k1)%Sc.pM)).map bv).toArray _ _ U kR kR (by rw [Cm (BA ((atL lN k1)%Sc.pM)) (BT _)]; kernel_rfl) (by rw [Cm (BA ((atL lN k1)%Sc.pM)) (BT _)]; exact Nat.le_of_ble_eq_true kR) (EZ _) (FB _ _ (by rw [(BT _)]; kernel_rfl)))<|Sy.setT<|sG<|Sy.region<|sp U<|sP (.slice (pA g2) 32 32)<|Sy.appendM kR 29 5 _ _ 1 1 EM I3 U U U U dZ _ _ U (ys:=BN (BA ((atL lN k1)%Sc.pM))) hh1 kR (EI _) (Di _) (pA g2) 32 32 (by rw [B1]; exact (BT _)) (Nat.le_refl _) kR (λ_=>From.arr (i:=3) (t:=22) (l:=(BA ((atL lN k1)%Sc.pM))) kR) (by simp only [B1,List.length_append,Fl]; omega) (by simp only [B1,List.length_append,Fl,maxLen]; omega) (λr1 hr1=>?_)
  refine sp U<|Sy.nil<|Sy.in_<|Sy.then_<|Sy.region<|sS (iZ (k1+1)) (qad U U U)<|sp U<|Sy.nil ?_
  exact Sy.againT r1 om (by rw [show d++EN (atL lN) (k1+1)=(d++EN (atL lN) k1)++BA (atL lN k1%Sc.pM) from (List.append_assoc ..).symm,Gq]; exact hr1) ac5 (λw hw=>St.parts (ls:=[[(g0,69,(AV d W NW cW).toArray)],[(gR,26,(AL fL T++spR).toArray)],[(g1,26,(fcs (atL lN k1)))],[(g2,22,((BA ((atL lN k1)%Sc.pM)).map bv).toArray)],r1.bl]) (ms:=[[(g0,69,(AV d W NW cW).toArray)],[(gR,26,(AL fL T++spR).toArray)],r1.bl]) [[(g1,26,(fcs (atL lN k1)))],[(g2,22,((BA ((atL lN k1)%Sc.pM)).map bv).toArray)]] [0,1,4,2,3] kR (by rfl) (by rfl) (by rfl) hw)
def mnZ (D:Nat→Int):Nat→Int
 | 0=>D 0
 | k+1=>min (mnZ D k) (D (k+1))
def mxZ (D:Nat→Int):Nat→Int
 | 0=>D 0
 | k+1=>max (mxZ D k) (D (k+1))
theorem Yg (D:Nat→Int) (a:Int) (k:Nat):a≤mnZ D k↔∀ j,j≤k→a≤D j:=by
 induction k with
 | zero=>exact ⟨λh j hj=>by rw [Nat.le_zero.1 hj]; exact h,λh=>h 0 (Nat.le_refl _)⟩
 | succ k ih =>
  show a≤min (mnZ D k) (D (k+1))↔_
  rw [Int.le_min,ih]
  exact ⟨λh j hj=>(Nat.lt_or_eq_of_le hj).elim (λq=>h.1 j om) (λq=>by rw [q]; exact h.2),λh=>⟨λj hj=>h j om,h _ (Nat.le_refl _)⟩⟩
theorem Yd (D:Nat→Int) (a:Int) (k:Nat):mxZ D k≤a↔∀ j,j≤k→D j≤a:=by
 induction k with
 | zero=>exact ⟨λh j hj=>by rw [Nat.le_zero.1 hj]; exact h,λh=>h 0 (Nat.le_refl _)⟩
 | succ k ih =>
  show max (mxZ D k) (D (k+1))≤a↔_
  rw [Int.max_le,ih]
  exact ⟨λh j hj=>(Nat.lt_or_eq_of_le hj).elim (λq=>h.1 j om) (λq=>by rw [q]; exact h.2),λh=>⟨λj hj=>h j om,h _ (Nat.le_refl _)⟩⟩
section
variable {F:AO} {o:Oper}
theorem SB (x y:Operand) {ts:Array TypeId} (k:IntKind) (a b c:Int) (ho:o.op=.call { callee:=.builtin .min,args:=#[x,y],argTypes:=ts }) (hx:evF F x=.int k a) (hy:evF F y=.int k b) (h:min a b=c) (w:World):(execOp (evF F) o).run Tryz.prog w=.ok (.value (.int k c)) w:=by
 have e:(if b<a then b else a)=c:=by split <;> omega
 unfold execOp
 simp [ho,hx,hy,resolve,invoke,builtin,Builtin.min_,Builtin.min2,Sem.run_bind,Result.andThen]
 omega
theorem SC (x y:Operand) {ts:Array TypeId} (k:IntKind) (a b c:Int) (ho:o.op=.call { callee:=.builtin .max,args:=#[x,y],argTypes:=ts }) (hx:evF F x=.int k a) (hy:evF F y=.int k b) (h:max a b=c) (w:World):(execOp (evF F) o).run Tryz.prog w=.ok (.value (.int k c)) w:=by
 have e:(if a<b then b else a)=c:=by split <;> omega
 unfold execOp
 simp [ho,hx,hy,resolve,invoke,builtin,Builtin.max_,Builtin.max2]
 omega
end
theorem Tt (w:World) (A:Option Addr) (M c:Nat) (D:Nat→Int) (hN:M+1≤4611686018427387904) (hlk:Lst w 1 A (M+1) (λk=>[.int .i64 (D k)])):AY 213 #[.slice A (M+1) c] w (Gets w (.int .i64 (mnZ D M))):=by
 obtain ⟨gK,oK,hT⟩:=hlk
 refine Sy.enter (args:=[.slice A (M+1) c]) Tryz.func213 U kL<|sC<|sp U<|sG<|Sy.seq<|sC<|sp U<|sP (iZ ((M+1))) ?_
 obtain ⟨b1,hb1⟩:=xE (decide ((M+1)<1))
 refine sS (.bool b1) (qls U U U hb1)<|sG ?_
 cases b1
 ·have lb1:=dN hb1
  refine sU<|Sy.skip<|sB<|sp U<|sS (.pointer (some ⟨gK,oK+0*1,none⟩)) (Quiet.pure (Af 139 _ _ _ A gK oK (M+1) c 0 1 .i64 (hT om).1 U U U D1 kF om))<|sS (.int .i64 (D 0)) (Quiet.thereOne gK (oK+0*1) 3 _ _ U kR (hT om).2.1 _ (Ar ((hT om).2.2 0 om) 0 U) uy3 U)<|sp U<|sG<|Sy.seq<|sC<|sp U<|sG<|Sy.block<|Sy.loopK M (λk1=>[(0,.slice A (M+1) c),(3,.int .i64 (mnZ D k1)),(4,iZ (k1+1))]) (λk1=>[]) [] (M:=[]) ac3 kR U (λk1 hk1=>?_)
  refine Sy.seq<|sC<|sp U<|sp U<|sP (iZ ((M+1))) ?_
  obtain ⟨b2,hb2⟩:=xE (decide (k1+1<(M+1)))
  refine sS (.bool b2) (qls U U U hb2)<|sG ?_
  cases b2
  ·have lb2:=dN hb2
   refine sU<|Sy.exit<|Sy.then_exit<|Sy.then_exit ?_
   obtain rfl:M=k1:=om
   refine Sy.in_exit<|sB<|sp U<|sp U<|sG<|Sy.ret ?_
   rw [show (.int .i64 (mnZ D M):Value)=.int .i64 (mnZ D M) from rfl]
   exact rV (.int .i64 (mnZ D M)) U
  ·have lb2:=dY hb2
   refine sT<|Sy.skip<|Sy.then_<|Sy.seq<|Sy.block<|Sy.region<|sp U<|sp U<|sp U<|sS (.pointer (some ⟨gK,oK+(k1+1)*1,none⟩)) (Quiet.pure (Af 139 _ _ _ A gK oK (M+1) c (k1+1) 1 .i64 (hT om).1 U U U D1 kF om))<|sS (.int .i64 (D (k1+1))) (Quiet.thereOne gK (oK+(k1+1)*1) 3 _ _ U kR (hT om).2.1 _ (Ar ((hT om).2.2 (k1+1) om) 0 U) uy3 U)<|sS (.int .i64 (mnZ D (k1+1))) (Quiet.pure (SB _ _ .i64 (mnZ D k1) (D (k1+1)) (mnZ D (k1+1)) U U U U))<|sp U<|Sy.nil<|Sy.in_<|Sy.then_<|Sy.region<|sp U<|sS (iZ ((k1+1)+1)) (qad U U U)<|sp U<|Sy.nil ?_
   exact Sy.againK [] (M:=[]) om ac3 kR U
 ·have lb1:=dY hb1
  exact absurd lb1 om
theorem Tv (w:World) (A:Option Addr) (M c:Nat) (D:Nat→Int) (hN:M+1≤4611686018427387904) (hlk:Lst w 1 A (M+1) (λk=>[.int .i64 (D k)])):AY 214 #[.slice A (M+1) c] w (Gets w (.int .i64 (mxZ D M))):=by
 obtain ⟨gK,oK,hT⟩:=hlk
 refine Sy.enter (args:=[.slice A (M+1) c]) Tryz.func214 U kL<|sC<|sp U<|sG<|Sy.seq<|sC<|sp U<|sP (iZ ((M+1))) ?_
 obtain ⟨b1,hb1⟩:=xE (decide ((M+1)<1))
 refine sS (.bool b1) (qls U U U hb1)<|sG ?_
 cases b1
 ·have lb1:=dN hb1
  refine sU<|Sy.skip<|sB<|sp U<|sS (.pointer (some ⟨gK,oK+0*1,none⟩)) (Quiet.pure (Af 139 _ _ _ A gK oK (M+1) c 0 1 .i64 (hT om).1 U U U D1 kF om))<|sS (.int .i64 (D 0)) (Quiet.thereOne gK (oK+0*1) 3 _ _ U kR (hT om).2.1 _ (Ar ((hT om).2.2 0 om) 0 U) uy3 U)<|sp U<|sG<|Sy.seq<|sC<|sp U<|sG<|Sy.block<|Sy.loopK M (λk1=>[(0,.slice A (M+1) c),(3,.int .i64 (mxZ D k1)),(4,iZ (k1+1))]) (λk1=>[]) [] (M:=[]) ac3 kR U (λk1 hk1=>?_)
  refine Sy.seq<|sC<|sp U<|sp U<|sP (iZ ((M+1))) ?_
  obtain ⟨b2,hb2⟩:=xE (decide (k1+1<(M+1)))
  refine sS (.bool b2) (qls U U U hb2)<|sG ?_
  cases b2
  ·have lb2:=dN hb2
   refine sU<|Sy.exit<|Sy.then_exit<|Sy.then_exit ?_
   obtain rfl:M=k1:=om
   refine Sy.in_exit<|sB<|sp U<|sp U<|sG<|Sy.ret ?_
   rw [show (.int .i64 (mxZ D M):Value)=.int .i64 (mxZ D M) from rfl]
   exact rV (.int .i64 (mxZ D M)) U
  ·have lb2:=dY hb2
   refine sT<|Sy.skip<|Sy.then_<|Sy.seq<|Sy.block<|Sy.region<|sp U<|sp U<|sp U<|sS (.pointer (some ⟨gK,oK+(k1+1)*1,none⟩)) (Quiet.pure (Af 139 _ _ _ A gK oK (M+1) c (k1+1) 1 .i64 (hT om).1 U U U D1 kF om))<|sS (.int .i64 (D (k1+1))) (Quiet.thereOne gK (oK+(k1+1)*1) 3 _ _ U kR (hT om).2.1 _ (Ar ((hT om).2.2 (k1+1) om) 0 U) uy3 U)<|sS (.int .i64 (mxZ D (k1+1))) (Quiet.pure (SC _ _ .i64 (mxZ D k1) (D (k1+1)) (mxZ D (k1+1)) U U U U))<|sp U<|Sy.nil<|Sy.in_<|Sy.then_<|Sy.region<|sp U<|sS (iZ ((k1+1)+1)) (qad U U U)<|sp U<|Sy.nil ?_
   exact Sy.againK [] (M:=[]) om ac3 kR U
 ·have lb1:=dY hb1
  exact absurd lb1 om
def szZ (N:Nat) (D:Nat→Int):Bool:=decide (1≤N) && (decide (N≤32) && (decide (mnZ D (N - 1) ≥ 1) && decide (mxZ D (N - 1)≤64)))
theorem P6 (N:Nat) (D:Nat→Int):szZ N D=true↔1≤N∧N≤32∧∀ j,j<N→1≤D j∧D j≤64:=by
 unfold szZ
 simp only [Bool.and_eq_true,decide_eq_true_eq,ge_iff_le,Yg,Yd]
 exact ⟨λ⟨a,b,c,d⟩=>⟨a,b,λj hj=>⟨c j om,d j om⟩⟩,λ⟨a,b,c⟩=>⟨a,b,λj hj=>(c j om).1,λj hj=>(c j om).2⟩⟩
theorem ZZ {N:Nat} {D:Nat→Int} (h:N<1):szZ N D=false:=by unfold szZ; rw [decide_eq_false (by omega:¬ 1≤N)]; rfl
theorem ZY {N:Nat} {D:Nat→Int} (h:N>32):szZ N D=false:=by unfold szZ; rw [decide_eq_false (by omega:¬ N≤32),Bool.false_and,Bool.and_false]
theorem ZX {N:Nat} {D:Nat→Int} (h:¬ (mnZ D (N - 1) ≥ 1)):szZ N D=false:=by unfold szZ; rw [decide_eq_false h,Bool.false_and,Bool.and_false,Bool.and_false]
theorem ZW {N:Nat} {D:Nat→Int} (h1:¬ N<1) (h2:¬ N>32) (h3:mnZ D (N - 1) ≥ 1):szZ N D=decide (mxZ D (N - 1)≤64):=by
 unfold szZ
 rw [decide_eq_true (by omega:1≤N),decide_eq_true (by omega:N≤32),decide_eq_true h3,Bool.true_and,Bool.true_and,Bool.true_and]
theorem Rr (w:World) (A:Option Addr) (N c:Nat) (D:Nat→Int) (h1:1≤N) (hN:N≤4611686018427387904) (hlk:Lst w 1 A N (λk=>[.int .i64 (D k)])):Calls Tryz.prog 213 #[.slice A N c] w (Gets w (.int .i64 (mnZ D (N - 1)))):=by
 have e:N - 1+1=N:=om
 have q:=Tt w A (N - 1) c D om (by rw [e]; exact hlk)
 rwa [e] at q
theorem Rs (w:World) (A:Option Addr) (N c:Nat) (D:Nat→Int) (h1:1≤N) (hN:N≤4611686018427387904) (hlk:Lst w 1 A N (λk=>[.int .i64 (D k)])):Calls Tryz.prog 214 #[.slice A N c] w (Gets w (.int .i64 (mxZ D (N - 1)))):=by
 have e:N - 1+1=N:=om
 have q:=Tv w A (N - 1) c D om (by rw [e]; exact hlk)
 rwa [e] at q
theorem Ma (w:World) (A:Option Addr) (N c:Nat) (D:Nat→Int) (hN:N≤4611686018427387904) (hlk:Lst w 1 A N (λk=>[.int .i64 (D k)])):AY 153 #[.slice A N c] w (Gets w (.bool (szZ N D))):=by
 have hlk0:=hlk
 obtain ⟨gK,oK,hT⟩:=hlk
 refine Sy.enter (args:=[.slice A N c]) Tryz.func153 U kL<|sC<|sp U<|sG<|Sy.seq<|sC<|sp U<|sP (iZ N) ?_
 obtain ⟨b1,hb1⟩:=xE (decide (N<1))
 refine sS (.bool b1) (qls U U U hb1)<|sp U ?_
 cases b1
 ·have lb1:=dN hb1
  refine sp U<|sP (iZ N) ?_
  obtain ⟨b2,hb2⟩:=xE (decide (N>32))
  refine sS (.bool b2) (qgt U U U hb2)<|sP (.bool b2)<|sG ?_
  cases b2
  ·have lb2:=dN hb2
   refine sU<|Sy.skip<|sB<|sp U<|sS (.int .i64 (mnZ D (N - 1))) (qg (λw hw=>Rr w A N c D om hN (hlk0.below hw.below))) ?_
   obtain ⟨b3,hb3⟩:=xE (decide ((mnZ D (N - 1)) ≥ 1))
   refine sS (.bool b3) (Quiet.pure (AK .geq _ _ _ .i64 _ _ _ U U U (GN _ _ _ _ _ hb3.symm)))<|sp U ?_
   cases b3
   ·have lb3:=dN hb3
    refine sN<|sN<|sN<|sP (.bool false)<|sp U<|sG<|Sy.ret ?_
    rw [show (.bool (szZ N D):Value)=.bool false from by rw [ZX lb3]]
    exact rV (.bool false) rfl
   ·have lb3:=dY hb3
    refine sp U<|sS (.int .i64 (mxZ D (N - 1))) (qg (λw hw=>Rs w A N c D om hN (hlk0.below hw.below))) ?_
    obtain ⟨b4,hb4⟩:=xE (decide ((mxZ D (N - 1))≤64))
    refine sS (.bool b4) (Quiet.pure (AK .leq _ _ _ .i64 _ _ _ U U U (Qb _ _ _ _ _ hb4.symm)))<|sP (.bool b4)<|sp U<|sG<|Sy.ret ?_
    rw [show (.bool (szZ N D):Value)=.bool b4 from by rw [ZW lb1 lb2 lb3, ← hb4]]
    exact rV (.bool b4) rfl
  ·have lb2:=dY hb2
   refine sT<|sC<|sp U<|sG<|Sy.ret<|Sy.then_ret ?_
   rw [show (.bool (szZ N D):Value)=.bool false from by rw [ZY lb2]]
   exact rV (.bool false) rfl
 ·have lb1:=dY hb1
  refine sN<|sN<|sN<|sP (.bool true)<|sG<|sT<|sC<|sp U<|sG<|Sy.ret<|Sy.then_ret ?_
  rw [show (.bool (szZ N D):Value)=.bool false from by rw [ZZ lb1]]
  exact rV (.bool false) rfl
end Cu
end
section
namespace Sy
open Go.RowKit
section
variable {P:Program} {w0 fz0:World} {n:Nat} {Q:Exit→Act→World→Prop} {F:AO} {L:AC}
def BPY {α Y:Type} (w0 fz:World) (l:Nat) (HI:List α→Y→Prop) (LL:List α→Y→AC) (XR:List α→Y→AC) (HX:List α→Y→Prop) (pre:List α):Exit→Act→World→Prop
 | .normal,_,w=>∃ y,HI pre y∧St (rb w0 fz l) w (LL pre y)
 | .ret,_,w=>∃ y,HX pre y∧St (rb w0 fz l) w (XR pre y)
 | _,_,_=>False
def APY (w0 fz:World) (l n:Nat) (FA:AO) (LP:AC):Exit→Act→World→Prop
 | .normal,a,w=>Fr [] a n FA∧St (rb w0 fz l) w LP
 | _,_,_=>False
theorem rangeY {α Y:Type} {g:Operand} {ps:Array Tmp} {assign body:Code} (gf:Nat) (lb:Array Value) (hgi:inF F g=true) (hg:evF F g=.func (.func gf) #[] lb) (eg:∀ args w,(callFunc gf args).run P w=.ok (.enter gf args) w)
  (encs:α→Array Value) (kl:AC) (S Sp:List α→Prop) (N:Nat) (hps:∀ x,(encs x).size=ps.size) (hpn:∀ p∈ps.toList,p<n)
  (HI:List α→Y→Prop) (LL XR:List α→Y→AC) (HX:List α→Y→Prop) (y0:Y) (hI0:HI [] y0) (h0:∀ w,St ⟨w0,fz0,[],Fence.wide,9⟩ w L→St ⟨w0,fz0,[],Fence.wide,9⟩ w (LL [] y0))
  (hseq:∀ w,St ⟨w0,fz0,[],Fence.wide,9⟩ w L→∃ wk,Below wk.heap.size wk w∧SeqStopsK Fence.wide 8 P gf lb encs (KpL w0.heap.size kl) S Sp N wk)
  (hkl:∀ p∈kl, ∀ pre y,p∈LL pre y) (FA:α→AO)
  (hassign:∀ l fz pre y x,wpC P (rb w0 fz l) n (APY w0 fz l n (FA x) (LL pre y)) (Lt F ps (encs x)) (LL pre y) assign)
  (hbody:∀ l fz pre y x,pre.length<N→HI pre y→wpC P (rb w0 fz l) n (BPY w0 fz l HI LL XR HX (pre++[x])) (FA x) (LL pre y) body)
  (hdone:∀ D fz xs y,S xs→HI xs y→w0.heap.size≤D→fz.heap[D]? = some (.deferred (some []))→X (ab w0 fz D) n Q F (LL xs y) .normal)
  (hstop:∀ D fz pre y,Sp pre→HX pre y→w0.heap.size≤D→fz.heap[D]? = some (.deferred (some []))→X (ab w0 fz D) n Q F (XR pre y) .ret) :
  wpC P ⟨w0,fz0,[],Fence.wide,9⟩ n Q F L (.rangeFunc g ps assign body):=by
 intro a w ha hw
 obtain ⟨wk,hbk,hsq⟩:=hseq w hw
 have hsz:fz0.heap.size≤w.heap.size:=hw.size
 have hsz0:w0.heap.size≤w.heap.size:=hw.below.size
 have had:a.defers=[]:=ha.1
 have hK:∀ {W W':World} {L0 L1:AC} {pre':List α} {y':Y} {l:Nat},St ⟨w0,fz0,[],Fence.wide,9⟩ W L0→St (rb w0 W l) W' L1→(LL pre' y').Sublist L1→KpL w0.heap.size kl W W':=λ{W W' L0 L1 pre' y' l} h1 h2 hs =>
  ⟨h1.between h2,λp hp _=>by
   exact (h2.blk _ _ _ (hs.subset (hkl p hp pre' y'))).2⟩
 have hKX:∀ {W W':World} {L0 L1:AC} {l:Nat},St ⟨w0,fz0,[],Fence.wide,9⟩ W L0→St (rb w0 W l) W' L1→(∀ p∈kl,p∈L1)→KpL w0.heap.size kl W W':=λ{W W' L0 L1 l} h1 h2 hs =>
  ⟨h1.between h2,λp hp _=>by
   exact (h2.blk _ _ _ (hs p hp)).2⟩
 refine wpIn_rangeFunc_ownH (F:=Fence.wide) (n:=9) rfl om (gf:=gf) (lb:=lb) ((ha.eval hgi).trans hg) trivial eg (encs:=encs) (Kp:=KpL w0.heap.size kl) (S:=S) (Sp:=Sp) (N:=N) (w0:=wk) hsq KpL.trans
  (λW l o o' hl ho hc _=>KpL.put om ho hc) hbk hps
  (λpre W=>∃ y,HI pre y∧St ⟨w0,fz0,[],Fence.wide,9⟩ W (LL pre y)) (λc pre W=>c=.ret∧∃ y,HX pre y∧St ⟨w0,fz0,[],Fence.wide,9⟩ W (XR pre y))
  (λpre X Y row ⟨y,hi,hs⟩ hg hr=>⟨y,hi,St.own hs hsz hsz0 hg hr⟩) (λc pre X Y row ⟨hc,y,hi,hs⟩ hg hr=>⟨hc,y,hi,St.own hs hsz hsz0 hg hr⟩) ⟨y0,hI0,h0 w hw⟩
  (λx a' W=>Fr [] a' n (FA x))
  (λx a' _ X Y row hs hg hr=>hs) ?_ ?_ ?_ ?_
 ·-- the loop variables
  intro l pre x W K ⟨y,hH,hI⟩ hk
  have hfr:Fr [] { tmps:=(ps.zip (encs x)).foldl (λt (p,v)=>t.setIfInBounds p v) a.tmps,defers:=[] } n (Lt F ps (encs x)):=by
   have h1:Fr [] { tmps:=a.tmps,defers:=[] } n F:=⟨rfl,ha.2.1,ha.2.2⟩
   have h2:=Fr.round (ps.toList.zip (encs x).toList) (λy hy=>hpn y.1 (List.of_mem_zip hy).1) h1
   have e:(ps.zip (encs x)).foldl (λt (p,v)=>t.setIfInBounds p v) a.tmps=(ps.toList.zip (encs x).toList).foldl (λt x=>t.setIfInBounds x.1 x.2) a.tmps:=by
    rw [← Array.foldl_toList,Array.toList_zip]
   rw [e]
   exact h2
  refine wpIn_mono (hassign l W pre y x _ W hfr (hI.refix _ _ _)) λe a' W' hq=>?_
  cases e with
  | normal =>
   obtain ⟨h1,h2⟩:=hq
   exact hk a' W' (hI.keeps h2 hsz0) (hK hI h2 (List.Sublist.refl _)) ⟨y,hH,hI.back h2 _ _ _⟩ h1
  | _=>exact hq.elim
 ·-- the body
  intro l pre x a' W hl _ ⟨y,hH,hI⟩ h1 hlen
  refine wpIn_mono (hbody l W pre y x hlen hH a' W h1 (hI.refix _ _ _)) λe a3 W3 hq=>?_
  cases e with
  | normal =>
   obtain ⟨y',hH',hs'⟩:=hq
   exact ⟨hI.keeps hs' hsz0,hK hI hs' (List.Sublist.refl _),y',hH',hI.back hs' _ _ _⟩
  | ret =>
   obtain ⟨y',hH',hs'⟩:=hq
   exact ⟨hI.keeps hs' hsz0,rfl,y',hH',hI.back hs' _ _ _⟩
  | _=>exact hq.elim
 ·intro D xs W hD hS ⟨y,hH,hI⟩ hd
  exact hdone D W xs y hS hH (Nat.le_trans hsz0 hD) hd _ W ⟨by simp [had],ha.2.1,ha.2.2⟩ (hI.refix _ _ _)
 ·rintro D c pre W hD hS ⟨rfl,y,hx,hI⟩ hd
  exact wpIn_ret (hstop D W pre y hS hx (Nat.le_trans hsz0 hD) hd _ W ⟨by simp [had],ha.2.1,ha.2.2⟩ (hI.refix _ _ _))
theorem bpY {α Y:Type} {l:Nat} {HI:List α→Y→Prop} {LL XR:List α→Y→AC} {HX:List α→Y→Prop} {pre:List α} (y:Y) (hi:HI pre y) (hL:∀ w,St (rb w0 fz0 l) w L→St (rb w0 fz0 l) w (LL pre y)):X (rb w0 fz0 l) n (BPY w0 fz0 l HI LL XR HX pre) F L .normal:=λ_ w _ hw=>⟨y,hi,hL w hw⟩
theorem bpYR {α Y:Type} {l:Nat} {HI:List α→Y→Prop} {LL XR:List α→Y→AC} {HX:List α→Y→Prop} {pre:List α} (y:Y) (hi:HX pre y) (hL:∀ w,St (rb w0 fz0 l) w L→St (rb w0 fz0 l) w (XR pre y)):X (rb w0 fz0 l) n (BPY w0 fz0 l HI LL XR HX pre) F L .ret:=λ_ w _ hw=>⟨y,hi,hL w hw⟩
theorem apY {l:Nat} {FA:AO} {LP:AC} (hF:∀ p∈FA,F.lookup p.1=some p.2) (hL:∀ w,St (rb w0 fz0 l) w L→St (rb w0 fz0 l) w LP):X (rb w0 fz0 l) n (APY w0 fz0 l n FA LP) F L .normal:=λ_ w ha hw=>⟨ha.all hF,hL w hw⟩
theorem retMG2 {w1 fz:World} {D:Nat} {fn:Func} {r s:ResultVar} {v u:Value} {R:Value→AC→Prop} (M:AC) (hr:fn.results=#[r,s]) (h:Has P F L r v) (k:Has P F L s u) (hM:∀ w,St (Base.of w1) w L→St (Base.of w1) w M) (hR:R (.tuple #[v,u]) M) (hD:w1.heap.size≤D) (hm:fz.heap[D]? = some (.deferred (some []))):X (ab w1 fz D) n (bodyPostM Fence.wide 9 P fn (GetsN w1 R)) F L .ret:=λa w ha hw=>by
 obtain ⟨e1,e2⟩:=St.unmark (P:=P) hw hD hm
 have hd:a.defers=[mark D]:=ha.1
 show LeavesInM Fence.wide 9 P fn a.tmps (GetsN w1 R) a.defers .returning w
 rw [hd]
 refine ⟨by simp,.inl ⟨D,_,rfl,e1,?_⟩⟩
 refine ⟨.tuple #[v,u],?_,_,M,rfl,hR,e2.below,λg t cs hm=>(hM _ e2).blk g t cs hm,(hM _ e2).apart⟩
 rcases Res.run h ha e2 with ⟨t,rfl,f1⟩ | ⟨t,ty,ad,rfl,f1,f2⟩ <;> rcases Res.run k ha e2 with ⟨t',rfl,g1⟩ | ⟨t',ty',ad',rfl,g1,g2⟩ <;> simp [results,Result.andThen, *]
theorem hasC {t:Tmp} {ty:TypeId} {v:Value} {d:TypeDesc} (g i:Nat) (cs:Array Value) (h3:P.underlying ty=some d) (h1:F.lookup t=some (pT g 0):=by kernel_rfl) (h2:L[i]? = some (g,ty,cs):=by kernel_rfl) (h4:d.isRow=false:=by rfl) (h5:cs[0]? = some v:=by kernel_rfl):Has P F L (.cell t ty) v:=.inr ⟨t,ty,rfl,g,i,ty,cs,d,h1,h2,h3,h4,h5⟩
end
end Sy
end
section
namespace Cu
open Go.RowKit Sy
def szT (n c:Nat):Nat:=min 33 (n - c*33)
def ctV (b off m c:Nat):Value:=.slice (some ⟨b,off+33*c*1,none⟩) (szT m c) (szT m c)
def ctE (b off m:Nat) {N:Nat} (x:Fin N):Array Value:=#[ctV b off m x.val]
theorem Pb (w : World) (A : Option Addr) (m cap : Nat) :
    Calls Tryz.prog 200 #[.slice A m cap,.int .i64 33] w (GetsN w λv M=>∃ g1 g2,v=.func (.func 234) #[] #[pT g1 0,pT g2 0]∧M=[(g1,29,#[.slice A m cap]),(g2,3,#[.int .i64 33])]):=by
  go_enter Tryz.func200,Tryz.ntmps200
  go_wp2
  go_ret
  refine ⟨_,_,rfl,⟨_,_,rfl,rfl⟩,Ad w _ _,λg t cs hm=>?_,?_⟩
  · simp only [List.mem_cons,List.not_mem_nil,or_false,Prod.mk.injEq] at hm
    rcases hm with ⟨rfl,rfl,rfl⟩ | ⟨rfl,rfl,rfl⟩
    · exact ⟨Nat.le_refl _,(Blk.new w _ _).alloc _⟩
    · exact ⟨by omega,AZ w _ _ _⟩
  · simp
theorem Pc (n l Bs Bn n₀ b off m cap N : Nat) (hN0 : N = (m + 32) / 33) (hm : m ≤ cap) (hm2 : m ≤ 4611686018427387904) (J Jx : List (Fin N) → World → Prop) (W : World) (hJ : AbidesFrom W.heap.size J) (hJx : AbidesFrom W.heap.size Jx)
    (hY:∀ pre x W1,J pre W1→pre.length<N→YieldAt Fence.wide (n - 1) Tryz.prog l (ctE b off m x) W1 λe W'=>(e=.returned (.bool true)∧J (pre++[x]) W'∧KpL n₀ [(Bs,29,#[.slice (some ⟨b,off,none⟩) m cap]),(Bn,3,#[.int .i64 33])] W1 W')∨(e=.returned (.bool false)∧Jx (pre++[x]) W'))
    (hS:Blk W Bs 29 #[.slice (some ⟨b,off,none⟩) m cap]) (hN:Blk W Bn 3 #[.int .i64 33]) (h0:J [] W) :
    CallsIn Fence.wide n Tryz.prog 234 #[.func (.yield l) #[] #[],pT Bs 0,pT Bn 0] W λe W'=>(∃ v,e=.returned v)∧((∃ ys:List (Fin N),ys.map (·.1)=List.range N∧J ys W')∨(∃ pre:List (Fin N),(∃ k,k≤N∧pre.map (·.1)=List.range k)∧Jx pre W')):=by
  refine Sy.enterP (args:=[.func (.yield l) #[] #[],pT Bs 0,pT Bn 0]) Tryz.func234 U kL<|sC<|Sy.sp U<|sG<|Sy.block<|Sy.loopP N (λk1=>[(0,.func (.yield l) #[] #[]),(1,pT Bs 0),(2,pT Bn 0),(4,iZ (33*k1))]) (λk1 w=>∃ pre:List (Fin N),pre.map (·.1)=List.range k1∧J pre w∧Blk w Bs 29 #[.slice (some ⟨b,off,none⟩) m cap]∧Blk w Bn 3 #[.int .i64 33]) ac4 (λw hg=>⟨[],rfl,Ab hJ h0 hg,hg.blk hS,hg.blk hN⟩) (λk1 wr hk1 hz=>?_)
  clear hS hN
  obtain ⟨pre,hpre,hj,hS,hN⟩:=hz
  have hlen:pre.length=k1:=by have:=congrArg List.length hpre; rwa [List.length_map,List.length_range] at this
  refine Sy.seq<|sC<|Sy.sp U<|sS (.slice (some ⟨b,off,none⟩) m cap) (Quiet.thereOne Bs 0 29 _ _ U kR hS.lt _ (hS.cell 0) EM U)<|sP (iZ m) ?_
  obtain ⟨b1,hb1⟩:=xE (decide (33*k1<m))
  refine sS (.bool b1) (qls U U U hb1)<|sG ?_
  cases b1
  · have lb1:=dN hb1
    refine sU<|Sy.exit<|Sy.then_exit<|Sy.then_exit ?_
    obtain rfl:N=k1:=om
    refine Sy.in_exit ?_
    exact Sy.retP U (λv w3 hg=>⟨⟨_,rfl⟩,.inl ⟨pre,hpre,Ab hJ hj hg⟩⟩) (.inr U)
  · have lb1 : 33 * k1 < m := of_decide_eq_true hb1.symm
    refine sT<|Sy.skip<|Sy.then_<|Sy.seq<|Sy.block<|Sy.seq<|Sy.regionD (λj=>false) kR<|sD 0 U (iZ 33) (Quiet.thereOne Bn 0 3 _ _ U kR hN.lt _ (hN.cell 0) uy3 U)<|sD 1 U (.slice (some ⟨b,off,none⟩) m cap) (Quiet.thereOne Bs 0 29 _ _ U kR hS.lt _ (hS.cell 0) EM U)<|Sy.sz 2 U U<|sD 3 U (.slice (some ⟨b,off+(33*k1)*1,none⟩) (m - (33*k1)) (cap - (33*k1))) (Quiet.pure (Dg _ _ _ b off m cap (33*k1) 1 .i64 U U U kR kF om om))<|sZ 4 U (.int .i64 (((m - (33*k1)):Nat):Int)) ?_
    obtain ⟨sz,hsz⟩:=xE (szT m k1)
    have hs:0<sz∧33*k1+sz≤m:=by rw [hsz]; unfold szT; omega
    refine sD 5 U (iZ sz) (Quiet.pure (F4 _ _ .i64 33 (m - (33*k1)) sz U U U (by rw [hsz]; unfold szT; omega)))<|Sy.sz 6 U U<|sI<|Sy.seq ?_
    have hx:k1<N:=om
    refine Sy.regionY 10 (by rintro ⟨_,_,⟨_,hv⟩,_⟩; cases hv) kR<|Sy.sp rfl<|sS (.slice (some ⟨b,off,none⟩) m cap) (Quiet.thereOne Bs 0 29 _ _ rfl kR hS.lt _ (hS.cell 0) EM rfl)<|Sy.sp rfl<|Sy.sp rfl<|Sy.sp rfl<|sS (iZ ((33*k1)+sz)) (qad rfl rfl rfl)<|Sy.sp rfl<|Sy.sp rfl<|sS (iZ ((33*k1)+sz)) (qad rfl rfl rfl)<|sS (.slice (some ⟨b,off+(33*k1)*1,none⟩) (((33*k1)+sz) - (33*k1)) (((33*k1)+sz) - (33*k1))) (Quiet.pure (Hk _ _ _ _ _ b off m cap (33*k1) ((33*k1)+sz) ((33*k1)+sz) 1 .i64 .i64 .i64 rfl rfl rfl rfl rfl kR kF (by have:=hs; omega) (by have:=hs; omega) (by have:=hs; omega) (by have:=hs; omega)))<|Sy.nil<|Sy.yieldX (ro := none) rfl (by rintro ⟨_, _, ⟨_, hv⟩, _⟩; cases hv) kR kR l #[.slice (some ⟨b, off + (33 * k1) * 1, none⟩) (((33 * k1) + sz) - (33 * k1)) (((33 * k1) + sz) - (33 * k1))] kF (fun e W' => (e = .returned (.bool true) ∧ J (pre ++ [⟨k1, hx⟩]) W' ∧ Blk W' Bs 29 #[.slice (some ⟨b, off, none⟩) m cap] ∧ Blk W' Bn 3 #[.int .i64 33]) ∨ (e = .returned (.bool false) ∧ Jx (pre ++ [⟨k1, hx⟩]) W')) (fun w hg => by
            have e:ctE b off m ⟨k1,hx⟩=#[.slice (some ⟨b,off+33*k1*1,none⟩) (33*k1+sz - 33*k1) (33*k1+sz - 33*k1)]:=by unfold ctE ctV; rw [← hsz,Nat.add_sub_cancel_left]
            have y:=hY pre ⟨k1,hx⟩ w (Ab hJ hj hg) om
            rw [e] at y
            exact C4 y (λe w' q=>q.imp (λq=>⟨q.1,q.2.1,q.2.2.2 (Bs,29,_) (by simp) (hg.blk hS),q.2.2.2 (Bn,3,_) (by simp) (hg.blk hN)⟩) id)) (λe w' q=>q.elim (λq=>⟨_,q.1⟩) (λq=>⟨_,q.1⟩)) U (λw2 b hr=>?_)
    cases b
    · have hx2:=hr.elim (λq=>by cases q.1) (λq=>q.2)
      refine sP (.bool true)<|sG<|sT<|Sy.ret<|Sy.in_ret<|Sy.then_ret<|Sy.then_ret<|Sy.in_ret ?_
      exact Sy.retP U (λv w3 hg=>⟨⟨_,rfl⟩,.inr ⟨pre++[⟨k1,hx⟩],⟨k1+1,by omega,by rw [List.map_append,hpre,List.range_succ]; rfl⟩,Ab hJx hx2 hg⟩⟩) (.inl U)
    · clear hS hN hj
      obtain ⟨hj,hS,hN⟩:=hr.elim (λq=>q.2) (λq=>by cases q.1)
      refine sP (.bool false)<|sG<|sU<|Sy.skip<|Sy.in_<|Sy.then_<|Sy.region<|Sy.sp U<|sS (iZ 33) (Quiet.thereOne Bn 0 3 _ _ U kR hN.lt _ (hN.cell 0) uy3 U)<|sS (iZ ((33*k1)+33)) (qad U U U)<|Sy.sp U<|Sy.nil ?_
      exact Sy.againP om ac4 (λw3 hg=>⟨pre++[⟨k1,hx⟩],by rw [List.map_append,hpre,List.range_succ]; rfl,Ab hJ hj hg,hg.blk hS,hg.blk hN⟩)
theorem Pd (n l Bs Bn cap : Nat) (A : Option Addr) (J Jx : List (Fin 0) → World → Prop) (W : World) (hJ : AbidesFrom W.heap.size J)
    (hS:Blk W Bs 29 #[.slice A 0 cap]) (hN:Blk W Bn 3 #[.int .i64 33]) (h0:J [] W) :
    CallsIn Fence.wide n Tryz.prog 234 #[.func (.yield l) #[] #[],pT Bs 0,pT Bn 0] W λe W'=>(∃ v,e=.returned v)∧((∃ ys:List (Fin 0),ys.map (·.1)=List.range 0∧J ys W')∨(∃ pre:List (Fin 0),(∃ k,k≤0∧pre.map (·.1)=List.range k)∧Jx pre W')):=by
  refine Sy.enterP (args:=[.func (.yield l) #[] #[],pT Bs 0,pT Bn 0]) Tryz.func234 U kL<|sC<|sp U<|sG<|Sy.block<|Sy.loopP 0 (λk1=>[(0,.func (.yield l) #[] #[]),(1,pT Bs 0),(2,pT Bn 0),(4,iZ (33*k1))]) (λk1 w=>J [] w∧Blk w Bs 29 #[.slice A 0 cap]∧Blk w Bn 3 #[.int .i64 33]) ac4 (λw hg=>⟨Ab hJ h0 hg,hg.blk hS,hg.blk hN⟩) (λk1 wr hk1 hz=>?_)
  clear hS hN
  obtain ⟨hj,hS,hN⟩:=hz
  refine Sy.seq<|sC<|sp U<|sS (.slice A 0 cap) (Quiet.thereOne Bs 0 29 _ _ U kR hS.lt _ (hS.cell 0) EM U)<|sP (iZ 0) ?_
  obtain ⟨b1,hb1⟩:=xE (decide (33*k1<0))
  refine sS (.bool b1) (qls U U U hb1)<|sG ?_
  cases b1
  · have lb1:=dN hb1
    refine sU<|Sy.exit<|Sy.then_exit<|Sy.then_exit ?_
    obtain rfl:k1=0:=om
    refine Sy.in_exit ?_
    exact Sy.retP U (λv w3 hg=>⟨⟨_,rfl⟩,.inl ⟨[],rfl,Ab hJ hj hg⟩⟩) (.inr U)
  · have lb1:=dY hb1
    refine sT<|Sy.skip<|Sy.then_<|Sy.seq ?_
    exact absurd lb1 om
theorem MP (n Bs Bn n₀ b off m cap N : Nat) (A : Option Addr) (hN0 : N = (m + 32) / 33) (hm : m ≤ cap) (hm2 : m ≤ 4611686018427387904) (hA : 0 < m → A = some ⟨b, off, none⟩) (w : World) (hS : Blk w Bs 29 #[.slice A m cap]) (hN : Blk w Bn 3 #[.int .i64 33]) :
    SeqStopsK Fence.wide n Tryz.prog 234 #[pT Bs 0,pT Bn 0] (ctE b off m (N:=N)) (KpL n₀ [(Bs,29,#[.slice A m cap]),(Bn,3,#[.int .i64 33])]) (λys=>ys.map (·.1)=List.range N) (λpre=>∃ k,k≤N∧pre.map (·.1)=List.range k) N w:=λl J Jx W hW hJ hJx hY h0=>by
  have hS':=hS.below hW hS.lt
  have hN':=hN.below hW hN.lt
  rcases Nat.eq_zero_or_pos m with h | h
  · subst h
    obtain rfl:N=0:=hN0
    exact Pd n l Bs Bn cap A J Jx W hJ hS' hN' h0
  · obtain rfl:=hA h
    exact Pc n l Bs Bn n₀ b off m cap N hN0 hm hm2 J Jx W hJ hJx hY hS' hN' h0
def wP (P:Pt) (i:Nat):Pt:=Ec.nm AR (4 ^ i%Sc.pM) P
def kP (P C:Pt) (i j:Nat):Pt:=Ec.add AR C (Ec.neg (Ec.nm AR (j%Sc.pM) (wP P i)))
section
variable {P C:Pt} (hP:Ec.On P) (hC:Ec.On C)
include hP
theorem Kh (i:Nat):Ec.On (wP P i):=hP.nm fld _
include hC
theorem T5 (i j:Nat):Ec.On (kP P C i j):=Ec.On.add fld hC ((Kh hP i).nm fld _).neg
theorem WU (i:Nat):kP P C i 0=C:=by
 have _:=hC
 unfold kP
 rw [FW (Kh hP i)]
 show Ec.add AR C (Ec.neg none)=C
 exact Ec.add_zero C
theorem WV (i j:Nat):Ec.add AR (kP P C i j) (Ec.neg (wP P i))=kP P C i (j+1):=by
 have o:=Kh hP i
 unfold kP
 rw [FW o,FW o,Ec.assoc fld hC (o.nm fld j).neg o.neg, ← Ec.neg_sum fld (o.nm fld j) o,Ec.nm_add fld o j 1,Ec.nm_one]
end
theorem Ti {P:Pt} (hP:Ec.On P) (d i:Nat):Ec.nm AR (d*4 ^ i%Sc.pM) P=Ec.nm AR (d%Sc.pM) (wP P i):=by
 rw [FW hP,Ec.nm_mul fld hP,FW (Kh hP i)]
 unfold wP
 rw [FW hP]
theorem Yl {P:Pt} (hP:Ec.On P) (d i b:Nat):kP P (Co (d*4 ^ i) P b) i d=Ec.nm AR (b%Sc.pM) bP:=by
 have o:=(Kh hP i).nm fld (d%Sc.pM)
 have q:=bP_on.nm fld (b%Sc.pM)
 unfold kP Co
 rw [Ti hP,Ec.comm fld o q]
 exact Ec.back fld q o
def dgV (d:Nat→Nat):Nat→Nat
 | 0=>0
 | k+1=>dgV d k+d k*4 ^ k
def dgB (b:Nat→Nat):Nat→Nat
 | 0=>0
 | k+1=>Sc.addP (dgB b k) (b k)
def dgP (C:Nat→Pt):Nat→Pt
 | 0=>none
 | k+1=>Ec.add AR (dgP C k) (C k)
theorem UX {C:Nat→Pt} (hC:∀ i,Ec.On (C i)):∀ k,Ec.On (dgP C k)
 | 0=>trivial
 | k+1=>Ec.On.add fld (UX hC k) (hC k)
theorem Qh {P:Pt} (hP:Ec.On P) (C:Nat→Pt) (d b:Nat→Nat):∀ k,(∀ i,i<k→C i=Co (d i*4 ^ i) P (b i))→dgP C k=Co (dgV d k) P (dgB b k)
 | 0,_=>by
  show none=Co 0 P 0
  unfold Co
  rfl
 | k+1,h=>by
  show Ec.add AR (dgP C k) (C k)=Co (dgV d k+d k*4 ^ k) P (Sc.addP (dgB b k) (b k))
  rw [Qh hP C d b k (λi hi=>h i om),h k (Nat.lt_succ_self k),Sa hP]
  rfl
theorem UW (v:Nat):∀ k,dgV (λi=>v / 4 ^ i%4) k=v%4 ^ k
 | 0=>by show 0=v%1; omega
 | k+1=>by
  show dgV _ k+v / 4 ^ k%4*4 ^ k=v%4 ^ (k+1)
  rw [UW v k,Nat.pow_succ,Nat.mod_mul,Nat.mul_comm (4 ^ k)]
theorem R7 (w:World) (Bs:Nat) (nm:AF) (hnm:nm.length=32) (hS:Blk w Bs 23 (nm.map bv).toArray) (ht:Sh.TabAt w 1):AY 110 #[.func (.func 172) #[] #[pT Bs 0]] w (Gets w (ptv (Cd nm))):=by
 refine Sy.enterM (args:=[.func (.func 172) #[] #[pT Bs 0]]) Tryz.func110 U kL<|sC<|sM 37 (pcs 0 0 false) (λg0=>?_)
 refine sG<|Sy.seq<|sC<|Sy.sp U<|sG<|Sy.block<|Sy.rangeF (α:=Fin 256) 172 #[pT Bs 0] kR kR (enters_of Tryz.func172 kR U) (caE nm) [] (λys=>ys.map (·.1)=List.range 256) (λpre=>∃ k,k≤256∧pre.map (·.1)=List.range k) 256 (λ_=>rfl) dZ [g0] (λpre=>∀ y∈pre,A7 (Av nm y.val)=false) ((λ_ h=>by cases h)) (λpre=>[(g0,37,(pcs 0 0 false))]) (λpre=>[(g0,37,(pcs (qX (EA nm pre)) (qY (EA nm pre)) (qI (EA nm pre))))]) (λpre=>GHx nm pre) [true] kR (λ_=>rfl) ?_ ?_ 1 (λx gs=>[(2,pT g0 0),(3,.pointer (some ⟨(gs.getD 0 0),0,none⟩))]) (λx gs=>[(gs.getD 0 0,146,((Av nm x.val).map bv).toArray)]) (λx gs h=>by match gs,h with | [_],_=>rfl) ?_ ?_ ?_ ?_
 ·intro w hw
  exact ⟨w,Below.refl _ _,Pl 8 Bs nm hnm _ w hw.below hS ht⟩
 ·intro p hp pre
  cases hp
 ·intro l fz pre x
  refine Sy.regionR (by rintro ⟨_,_,h⟩; exact h) kR ⟨_,rfl⟩<|sM 146 (Zl 32).toArray (λg1=>?_)
  refine sw 1 U ((Av nm x.val).map bv).toArray (Writes.store 0 146 ((Av nm x.val).map bv).toArray _ _ U kR kR (by rw [Cm (Av nm x.val) (A8 nm x.val)]; kernel_rfl) (by rw [Cm (Av nm x.val) (A8 nm x.val)]; exact Nat.le_of_ble_eq_true kR) (EZ _) (FB _ _ (by rw [(A8 nm x.val)]; kernel_rfl)))<|Sy.nil ?_
  exact Sy.apN [g1] rfl ac2 [true,true] kR
 ·intro l fz pre x gs hgs hlen hH
  obtain ⟨y0,rfl⟩:∃ y,gs=[y]:=by match gs,hgs with | [y],_=>exact ⟨y,rfl⟩
  refine Sy.block<|Sy.seq<|Sy.regionR (by rintro ⟨_,_,h⟩; exact h) kR ⟨_,rfl⟩<|sS (.agg ((Av nm x.val).map bv).toArray) (qx 1 0 32 rfl rfl Kj (BO (Av nm x.val) (A8 nm x.val)) (Bf (Av nm x.val) (A8 nm x.val))) ?_
  obtain ⟨b1,hb1⟩:=xE (A7 (Av nm x.val))
  refine sS (.tuple #[pv (qX (Ah (Av nm x.val))) (qY (Ah (Av nm x.val))) (qI (Ah (Av nm x.val))),.bool b1]) (qf (λw=>by rw [← GW,hb1]; exact Nc w (Av nm x.val) (A8 _ _)))<|Sy.sp U<|Sy.sp U<|Sy.sp U<|sM 37 (pcs 0 0 false) (λg2=>?_)
  refine sw 2 rfl (pcs (qX (Ah (Av nm x.val))) (qY (Ah (Av nm x.val))) (qI (Ah (Av nm x.val)))) (wA rfl)<|Sy.sp rfl<|sG<|Sy.seq<|Sy.regionR (by rintro ⟨_,_,h⟩; exact h) kR ⟨_,rfl⟩<|Sy.sp rfl<|sG ?_
  cases b1
  ·refine sU<|Sy.skip<|Sy.in_ ?_
   exact Sy.bpN [true,false,false] (M:=[(g0,37,(pcs 0 0 false))]) kR (AW U U) (U3 hH hb1)
  ·refine sT<|Sy.seq ?_
   refine Sy.regionR (by rintro ⟨_,_,h⟩; exact h) kR ⟨_,rfl⟩<|sS (pv (qX (Ah (Av nm x.val))) (qY (Ah (Av nm x.val))) (qI (Ah (Av nm x.val)))) (qk 2 0 9 rfl rfl AX)<|sw 0 rfl (pcs (qX (Ah (Av nm x.val))) (qY (Ah (Av nm x.val))) (qI (Ah (Av nm x.val)))) (wA rfl)<|sG<|Sy.ret<|Sy.in_ret ?_
   exact Sy.bpR [true,false,false] (M:=[(g0,37,(pcs (qX (Ah (Av nm x.val))) (qY (Ah (Av nm x.val))) (qI (Ah (Av nm x.val)))))]) kR (AW (beq (by rw [J3])) U) (⟨pre,x,rfl,hH,hb1.symm⟩)
 ·intro D fz xs hS_ hH hD hm
  have hgn:=Nl (OJ hS_ hH)
  refine Sy.in_<|sB<|sS (pv (qX bP) (qY bP) (qI bP)) (qf (λw=>by rw [← GW]; exact KK w))<|sw 0 U (pcs (qX bP) (qY bP) (qI bP)) (wA U)<|sG<|Sy.ret ?_
  rw [show (ptv (Cd nm):Value)=pv (qX bP) (qY bP) (qI bP) from by rw [← GW,hgn]]
  exact Sy.retM1 (v:=pv (qX bP) (qY bP) (qI bP)) U (.inl (Res.cell (ty':=37) g0 0 (pcs (qX bP) (qY bP) (qI bP)) _ kR kR AX U kR kR)) hD hm
 ·intro D fz pre hS_ hx hD hm
  have hgs:=UC hS_ hx
  refine Sy.in_ret<|Sy.then_ret ?_
  rw [show (ptv (Cd nm):Value)=pv (qX (EA nm pre)) (qY (EA nm pre)) (qI (EA nm pre)) from by rw [← GW,hgs]]
  exact Sy.retM1 (v:=pv (qX (EA nm pre)) (qY (EA nm pre)) (qI (EA nm pre))) U (.inl (Res.cell (ty':=37) g0 0 (pcs (qX (EA nm pre)) (qY (EA nm pre)) (qI (EA nm pre))) _ kR kR AX U kR kR)) hD hm
theorem We (w:World) (nm:AF) (hnm:nm.length=32) (ht:Sh.TabAt w 1):AY 52 #[.agg (nm.map bv).toArray] w (Gets w (ptv (Cd nm))):=by
 refine Sy.enter (args:=[.agg (nm.map bv).toArray]) Tryz.func52 U kL<|sC<|sM 23 (nm.map bv).toArray (λg0=>?_)
 refine sM 37 (pcs 0 0 false) (λg1=>?_)
 refine sA<|sS (.agg (nm.map bv).toArray) (qx 0 0 32 U U Dc (BO nm hnm) (Bf nm hnm))<|Sy.callN kR 111 #[.agg (nm.map bv).toArray] kF (λvq Mq=>∃ g1,vq=.func (.func 172) #[] #[pT g1 0]∧Mq=[(g1,23,(nm.map bv).toArray)]) (λw _=>SP w nm) (λvq Mq hR0=>?_)
 obtain ⟨u1,rfl,rfl⟩:=hR0
 refine sS (pv (qX (Cd nm)) (qY (Cd nm)) (qI (Cd nm))) (qg (λw hw=>by rw [← GW]; exact R7 w u1 nm hnm (hw.get (i:=2) rfl) (ht.below hw.below ht.lt)))<|sw 1 U (pcs (qX (Cd nm)) (qY (Cd nm)) (qI (Cd nm))) (wA U)<|sG<|Sy.ret ?_
 rw [show (ptv (Cd nm):Value)=pv (qX (Cd nm)) (qY (Cd nm)) (qI (Cd nm)) from GW _]
 exact rc (v:=pv (qX (Cd nm)) (qY (Cd nm)) (qI (Cd nm))) 1 U U AX
def KY (id:AF) (b:Nat):Pt:=Co 1 (Cd id) b
theorem Qw (id:AF) (b:Nat):Ec.On (KY id b):=Gx (I4 id) 1 b
theorem XB (w:World) (id:AF) (hid:id.length=32) (k:Nat) (hk:k<K4) (ht:Sh.TabAt w 1):AY 19 #[.agg (id.map bv).toArray,fv k] w (Gets w (ptv (KY id k))):=by
 refine Sy.enter (args:=[.agg (id.map bv).toArray,fv k]) Tryz.func19 U kL<|sC<|sM 23 (id.map bv).toArray (λg0=>?_)
 refine sM 26 (fcs k) (λg1=>?_)
 refine sM 37 (pcs 0 0 false) (λg2=>?_)
 refine sH (λj=>j == 4) ?_
 refine sD 0 U (.agg (id.map bv).toArray) (qx 0 0 32 U U Dc (BO id hid) (Bf id hid)) ?_
 obtain ⟨R1,hR1⟩:∃ P:Pt,P=Cd id:=⟨_,rfl⟩
 have oR1:Ec.On R1:=by rw [hR1]; exact I4 _
 refine sD 1 U (pv (pX R1) (pY R1) (pI R1)) (qg (λw hw=>by rw [← Ak,hR1]; exact We w id hid (ht.below hw.below ht.lt)))<|sD 2 U (fv k) (qk 1 0 4 U U Au) ?_
 obtain ⟨R2,hR2⟩:∃ P:Pt,P=Co 1 R1 k:=⟨_,rfl⟩
 have oR2:Ec.On R2:=by rw [hR2]; exact Gx oR1 _ _
 refine sD 3 U (pv (pX R2) (pY R2) (pI R2)) (qf (Oa dZ lP lP lP (Ap oR1) hR2.symm))<|sx 4 U 2 U (pcs (pX R2) (pY R2) (pI R2)) (wA U)<|sI<|Sy.ret ?_
 rw [show (ptv (KY id k):Value)=pv (pX R2) (pY R2) (pI R2) from by rw [← Ak,hR2,hR1]; rfl]
 exact rc (v:=pv (pX R2) (pY R2) (pI R2)) 2 U U AX
theorem Uy (w:World) (id:AF) (hid:id.length=32) (k:Nat) (hk:k<K4) (htr:Sh.TabAt w 0):AY 16 #[.agg (id.map bv).toArray,fv k] w (Gets w (ptv (KY id k))):=by
 refine Sy.enter (args:=[.agg (id.map bv).toArray,fv k]) Tryz.func16 U kL<|sC<|sM 23 (id.map bv).toArray (λg0=>?_)
 refine sM 26 (fcs k) (λg1=>?_)
 refine sM 37 (pcs 0 0 false) (λg2=>?_)
 refine sH (λj=>j == 6) ?_
 refine sD 0 U (.agg (id.map bv).toArray) (qx 0 0 32 U U Dc (BO id hid) (Bf id hid)) ?_
 obtain ⟨R1,hR1⟩:∃ P:Pt,P=Cd id:=⟨_,rfl⟩
 have oR1:Ec.On R1:=by rw [hR1]; exact I4 _
 refine sD 1 U (pv (pX R1) (pY R1) (pI R1)) (qg (λw hw=>by rw [← Ak,hR1]; exact UD w id hid (htr.below hw.below htr.lt)))<|sD 2 U (fv k) (qk 1 0 4 U U Au)<|sD 3 U (pv (pX bP) (pY bP) (pI bP)) (qf (λw=>by rw [← Ak]; exact MZ w)) ?_
 obtain ⟨R2,hR2⟩:∃ P:Pt,P=Ec.nm AR (k%Sc.pM) bP:=⟨_,rfl⟩
 have oR2:Ec.On R2:=by rw [hR2]; exact bP_on.nm fld _
 refine sD 4 U (pv (pX R2) (pY R2) (pI R2)) (qf (MB lP lP lP (Ap bP_on) hR2.symm)) ?_
 obtain ⟨R3,hR3⟩:∃ P:Pt,P=Ec.add AR R1 R2:=⟨_,rfl⟩
 have oR3:Ec.On R3:=by rw [hR3]; exact Ec.On.add fld oR1 oR2
 refine sD 5 U (pv (pX R3) (pY R3) (pI R3)) (qf (Q0 lP lP lP lP (Ap oR1) (Ap oR2)  hR3.symm))<|sx 6 U 2 U (pcs (pX R3) (pY R3) (pI R3)) (wA U)<|sI<|Sy.ret ?_
 rw [show (ptv (KY id k):Value)=pv (pX R3) (pY R3) (pI R3) from by unfold KY; rw [JH, ← Ak,hR3,hR2,hR1]]
 exact rc (v:=pv (pX R3) (pY R3) (pI R3)) 2 U U AX
theorem ZA {w:World} {R:Pt} {id:AF} {k:Nat} (hid:id.length=32) (hk:k<K4) (ht:Sh.TabAt w 1) (hR:KY id k=R):Calls Tryz.prog 19 #[.agg (id.map bv).toArray,fv k] w (Gets w (pv (pX R) (pY R) (pI R))):=by
 have h:=XB w id hid k hk ht
 rw [hR,Ak] at h
 exact h
theorem Qv {w:World} {R:Pt} {id:AF} {k:Nat} (hid:id.length=32) (hk:k<K4) (ht:Sh.TabAt w 0) (hR:KY id k=R):Calls Tryz.prog 16 #[.agg (id.map bv).toArray,fv k] w (Gets w (pv (pX R) (pY R) (pI R))):=by
 have h:=Uy w id hid k hk ht
 rw [hR,Ak] at h
 exact h
def F1 (x y:Nat) (i:Bool):Bool:=A6 x y i && !CH x y i 0 0 true
def En (b:Bool) (id:AF) (x y:Nat) (i:Bool):Bool:=if b=true then decide (id=l32 (λ_=>(0:UInt8))) && F1 x y i else CH x y i 0 0 false
def Eo (b:Bool) (v x y:Nat) (i:Bool):Bool:=if b=true then decide (v=0) && F1 x y i else CH x y i 0 0 false
theorem Qe (x y:Nat) (i:Bool):F1 x y i=(A6 x y i && !i):=by
 unfold F1
 cases i with
 | false=>unfold CH; simp
 | true =>
  cases h:A6 x y true with
  | false=>rfl
  | true =>
   have q:=Gg x y
   rw [h] at q
   rw [q]
theorem LE (w:World) (x y:Nat) (i:Bool) (hx:x<K4) (hy:y<K4):AY 182 #[pv x y i] w (Gets w (.bool (F1 x y i))):=by
 refine Sy.enter (args:=[pv x y i]) Tryz.func182 U kL<|sC<|sM 37 (pcs x y i) (λg0=>?_)
 refine sp U<|sH (λj=>false) ?_
 refine sD 0 U (pv x y i) (qk 0 0 9 U U AX) ?_
 obtain ⟨b1,hb1⟩:=xE (A6 x y i)
 refine sD 1 U (.bool b1) (qf (λw=>by rw [hb1]; exact Lu w x y i lP lP))<|sz 2 U U ?_
 cases b1
 ·refine sQ 3 U<|sQ 4 U<|sQ 5 U<|sZ 6 U (.bool false)<|sz 7 U U ?_
  refine sI<|Sy.ret ?_
  rw [show (.bool (F1 x y i):Value)=.bool false from by unfold F1; rw [← hb1] <;> rfl]
  exact rV (.bool false) rfl
 ·refine sD 3 U (pv x y i) (qk 0 0 9 U U AX)<|sD 4 U (pv 0 0 true) (qf (CC)) ?_
  obtain ⟨b2,hb2⟩:=xE (CH x y i 0 0 true)
  cases b2
  ·refine sD 5 U (.bool true) (Quiet.pure (λw=>(Tl w _ _ _ _ _ _ _ _ _ _ U U U lP lP lP lP).trans (by rw [← hb2]; rfl)))<|sZ 6 U (.bool true)<|sz 7 U U ?_
   refine sI<|Sy.ret ?_
   rw [show (.bool (F1 x y i):Value)=.bool true from by unfold F1; rw [← hb1, ← hb2] <;> rfl]
   exact rV (.bool true) rfl
  ·refine sD 5 U (.bool false) (Quiet.pure (λw=>(Tl w _ _ _ _ _ _ _ _ _ _ U U U lP lP lP lP).trans (by rw [← hb2]; rfl)))<|sZ 6 U (.bool false)<|sz 7 U U ?_
   refine sI<|Sy.ret ?_
   rw [show (.bool (F1 x y i):Value)=.bool false from by unfold F1; rw [← hb1, ← hb2] <;> rfl]
   exact rV (.bool false) rfl
theorem YB (w:World) (f:Nat→UInt8) (x y:Nat) (i:Bool) (hx:x<K4) (hy:y<K4):AY 116 #[tgv true (l32 f) x y i] w (Gets w (.bool (En true (l32 f) x y i))):=by
 refine Sy.enter (args:=[tgv true (l32 f) x y i]) Tryz.func116 U kL<|sC<|sM 161 (ZU true (l32 f) x y i) (λg0=>?_)
 refine sp U<|sG<|Sy.seq<|sC<|sP (pT g0 0)<|sS (.bool true) (qc 0 0 U U uy4)<|sG<|sT<|sC<|sP (pT g0 1)<|sS (.agg ((l32 f).map bv).toArray) (qk 0 1 32 U U Dc)<|sP (.agg ((l32 (λ_=>(0:UInt8))).map bv).toArray) ?_
 obtain ⟨b1,hb1⟩:=xE (decide ((l32 f)=(l32 (λ_=>(0:UInt8)))))
 cases b1
 ·refine sS (.bool false) (Quiet.pure (λw=>(KD w _ _ _ _ (l32 f) (l32 (λ_=>(0:UInt8))) (EY f) (EY (λ_=>(0:UInt8))) U U U).trans (by rw [← hb1])))<|sp U ?_
  refine sN<|sN<|sN<|sP (.bool false)<|sp U<|sG<|Sy.ret<|Sy.then_ret ?_
  rw [show (.bool (En true (l32 f) x y i):Value)=.bool false from by unfold En; rw [if_pos U]; rw [← hb1] <;> rfl]
  exact rV (.bool false) rfl
 ·refine sS (.bool true) (Quiet.pure (λw=>(KD w _ _ _ _ (l32 f) (l32 (λ_=>(0:UInt8))) (EY f) (EY (λ_=>(0:UInt8))) U U U).trans (by rw [← hb1])))<|sp U<|sP (pT g0 33)<|sS (pv x y i) (qk 0 33 9 U U AX) ?_
  obtain ⟨b2,hb2⟩:=xE (F1 x y i)
  refine sS (.bool b2) (qf (λw=>by rw [hb2]; exact LE w x y i lP lP))<|sP (.bool b2)<|sp U<|sG<|Sy.ret<|Sy.then_ret ?_
  rw [show (.bool (En true (l32 f) x y i):Value)=.bool b2 from by unfold En; rw [if_pos U]; rw [← hb1, ← hb2] <;> rfl]
  exact rV (.bool b2) rfl
theorem YG (w:World) (v:Nat) (hv:v<18446744073709551616) (x y:Nat) (i:Bool) (hx:x<K4) (hy:y<K4):AY 117 #[amv true v x y i] w (Gets w (.bool (Eo true v x y i))):=by
 refine Sy.enter (args:=[amv true v x y i]) Tryz.func117 U kL<|sC<|sM 163 (aL true v x y i) (λg0=>?_)
 refine sp U<|sG<|Sy.seq<|sC<|sP (pT g0 0)<|sS (.bool true) (qc 0 0 U U uy4)<|sG<|sT<|sC<|sP (pT g0 1)<|sS (uZ ((v:Nat):Int)) (qc 0 1 U U B2) ?_
 obtain ⟨b1,hb1⟩:=xE (decide (v=0))
 cases b1
 ·refine sS (.bool false) (Quiet.pure (AK .eql _ _ _ .u64 _ _ _ U U U (Hc _ _ _ _ _ ((decide_eq_decide.2 om).trans hb1.symm))))<|sp U ?_
  refine sN<|sN<|sN<|sP (.bool false)<|sp U<|sG<|Sy.ret<|Sy.then_ret ?_
  rw [show (.bool (Eo true v x y i):Value)=.bool false from by unfold Eo; rw [if_pos U]; rw [← hb1] <;> rfl]
  exact rV (.bool false) rfl
 ·refine sS (.bool true) (Quiet.pure (AK .eql _ _ _ .u64 _ _ _ U U U (Hc _ _ _ _ _ ((decide_eq_decide.2 om).trans hb1.symm))))<|sp U<|sP (pT g0 2)<|sS (pv x y i) (qk 0 2 9 U U AX) ?_
  obtain ⟨b2,hb2⟩:=xE (F1 x y i)
  refine sS (.bool b2) (qf (λw=>by rw [hb2]; exact LE w x y i lP lP))<|sP (.bool b2)<|sp U<|sG<|Sy.ret<|Sy.then_ret ?_
  rw [show (.bool (Eo true v x y i):Value)=.bool b2 from by unfold Eo; rw [if_pos U]; rw [← hb1, ← hb2] <;> rfl]
  exact rV (.bool b2) rfl
theorem YC (w:World) (f:Nat→UInt8) (x y:Nat) (i:Bool) (hx:x<K4) (hy:y<K4):AY 116 #[tgv false (l32 f) x y i] w (Gets w (.bool (En false (l32 f) x y i))):=by
 refine Sy.enter (args:=[tgv false (l32 f) x y i]) Tryz.func116 U kL<|sC<|sM 161 (ZU false (l32 f) x y i) (λg0=>?_)
 refine sp U<|sG<|Sy.seq<|sC<|sP (pT g0 0)<|sS (.bool false) (qc 0 0 U U uy4)<|sG<|sU<|Sy.skip<|sB<|sP (pT g0 33)<|sS (pv x y i) (qk 0 33 9 U U AX)<|sP (pv 0 0 false) ?_
 obtain ⟨b1,hb1⟩:=xE (CH x y i 0 0 false)
 cases b1
 ·refine sS (.bool false) (Quiet.pure (λw=>(C7 w _ _ _ _ _ _ _ _ _ _ U U U lP lP lP lP).trans (by rw [← hb1])))<|sp U ?_
  refine sG<|Sy.ret ?_
  rw [show (.bool (En false (l32 f) x y i):Value)=.bool false from by unfold En; rw [if_neg dZ]; rw [← hb1] <;> rfl]
  exact rV (.bool false) rfl
 ·refine sS (.bool true) (Quiet.pure (λw=>(C7 w _ _ _ _ _ _ _ _ _ _ U U U lP lP lP lP).trans (by rw [← hb1])))<|sp U ?_
  refine sG<|Sy.ret ?_
  rw [show (.bool (En false (l32 f) x y i):Value)=.bool true from by unfold En; rw [if_neg dZ]; rw [← hb1] <;> rfl]
  exact rV (.bool true) rfl
theorem YH (w:World) (v:Nat) (hv:v<18446744073709551616) (x y:Nat) (i:Bool) (hx:x<K4) (hy:y<K4):AY 117 #[amv false v x y i] w (Gets w (.bool (Eo false v x y i))):=by
 refine Sy.enter (args:=[amv false v x y i]) Tryz.func117 U kL<|sC<|sM 163 (aL false v x y i) (λg0=>?_)
 refine sp U<|sG<|Sy.seq<|sC<|sP (pT g0 0)<|sS (.bool false) (qc 0 0 U U uy4)<|sG<|sU<|Sy.skip<|sB<|sP (pT g0 2)<|sS (pv x y i) (qk 0 2 9 U U AX)<|sP (pv 0 0 false) ?_
 obtain ⟨b1,hb1⟩:=xE (CH x y i 0 0 false)
 cases b1
 ·refine sS (.bool false) (Quiet.pure (λw=>(C7 w _ _ _ _ _ _ _ _ _ _ U U U lP lP lP lP).trans (by rw [← hb1])))<|sp U ?_
  refine sG<|Sy.ret ?_
  rw [show (.bool (Eo false v x y i):Value)=.bool false from by unfold Eo; rw [if_neg dZ]; rw [← hb1] <;> rfl]
  exact rV (.bool false) rfl
 ·refine sS (.bool true) (Quiet.pure (λw=>(C7 w _ _ _ _ _ _ _ _ _ _ U U U lP lP lP lP).trans (by rw [← hb1])))<|sp U ?_
  refine sG<|Sy.ret ?_
  rw [show (.bool (Eo false v x y i):Value)=.bool true from by unfold Eo; rw [if_neg dZ]; rw [← hb1] <;> rfl]
  exact rV (.bool true) rfl
theorem TE (w:World) (b:Bool) (f:Nat→UInt8) (x y:Nat) (i:Bool) (hx:x<K4) (hy:y<K4):Calls Tryz.prog 116 #[tgv b (l32 f) x y i] w (Gets w (.bool (En b (l32 f) x y i))):=by
 cases b
 ·exact YC w f x y i hx hy
 ·exact YB w f x y i hx hy
theorem TP (w:World) (b:Bool) (v:Nat) (hv:v<18446744073709551616) (x y:Nat) (i:Bool) (hx:x<K4) (hy:y<K4):Calls Tryz.prog 117 #[amv b v x y i] w (Gets w (.bool (Eo b v x y i))):=by
 cases b
 ·exact YH w v hv x y i hx hy
 ·exact YG w v hv x y i hx hy
def Yy (b off m c:Nat):Value:=.slice (some ⟨b,off+32*c*1,none⟩) (szC m c) (szC m c)
def Uj (b off m:Nat) {N:Nat} (x:Fin N):Array Value:=#[Yy b off m x.val]
theorem Ph (w : World) (A : Option Addr) (m cap : Nat) :
    Calls Tryz.prog 200 #[.slice A m cap,.int .i64 32] w (GetsN w λv M=>∃ g1 g2,v=.func (.func 234) #[] #[pT g1 0,pT g2 0]∧M=[(g1,29,#[.slice A m cap]),(g2,3,#[.int .i64 32])]):=by
  go_enter Tryz.func200,Tryz.ntmps200
  go_wp2
  go_ret
  refine ⟨_,_,rfl,⟨_,_,rfl,rfl⟩,Ad w _ _,λg t cs hm=>?_,?_⟩
  · simp only [List.mem_cons,List.not_mem_nil,or_false,Prod.mk.injEq] at hm
    rcases hm with ⟨rfl,rfl,rfl⟩ | ⟨rfl,rfl,rfl⟩
    · exact ⟨Nat.le_refl _,(Blk.new w _ _).alloc _⟩
    · exact ⟨by omega,AZ w _ _ _⟩
  · simp
theorem Pi (n l Bs Bn n₀ b off m cap N : Nat) (hN0 : N = (m + 31) / 32) (hm : m ≤ cap) (hm2 : m ≤ 4611686018427387904) (J Jx : List (Fin N) → World → Prop) (W : World) (hJ : AbidesFrom W.heap.size J) (hJx : AbidesFrom W.heap.size Jx)
    (hY:∀ pre x W1,J pre W1→pre.length<N→YieldAt Fence.wide (n - 1) Tryz.prog l (Uj b off m x) W1 λe W'=>(e=.returned (.bool true)∧J (pre++[x]) W'∧KpL n₀ [(Bs,29,#[.slice (some ⟨b,off,none⟩) m cap]),(Bn,3,#[.int .i64 32])] W1 W')∨(e=.returned (.bool false)∧Jx (pre++[x]) W'))
    (hS:Blk W Bs 29 #[.slice (some ⟨b,off,none⟩) m cap]) (hN:Blk W Bn 3 #[.int .i64 32]) (h0:J [] W) :
    CallsIn Fence.wide n Tryz.prog 234 #[.func (.yield l) #[] #[],pT Bs 0,pT Bn 0] W λe W'=>(∃ v,e=.returned v)∧((∃ ys:List (Fin N),ys.map (·.1)=List.range N∧J ys W')∨(∃ pre:List (Fin N),(∃ k,k≤N∧pre.map (·.1)=List.range k)∧Jx pre W')):=by
  refine Sy.enterP (args:=[.func (.yield l) #[] #[],pT Bs 0,pT Bn 0]) Tryz.func234 U kL<|sC<|Sy.sp U<|sG<|Sy.block<|Sy.loopP N (λk1=>[(0,.func (.yield l) #[] #[]),(1,pT Bs 0),(2,pT Bn 0),(4,iZ (32*k1))]) (λk1 w=>∃ pre:List (Fin N),pre.map (·.1)=List.range k1∧J pre w∧Blk w Bs 29 #[.slice (some ⟨b,off,none⟩) m cap]∧Blk w Bn 3 #[.int .i64 32]) ac4 (λw hg=>⟨[],rfl,Ab hJ h0 hg,hg.blk hS,hg.blk hN⟩) (λk1 wr hk1 hz=>?_)
  clear hS hN
  obtain ⟨pre,hpre,hj,hS,hN⟩:=hz
  have hlen:pre.length=k1:=by have:=congrArg List.length hpre; rwa [List.length_map,List.length_range] at this
  refine Sy.seq<|sC<|Sy.sp U<|sS (.slice (some ⟨b,off,none⟩) m cap) (Quiet.thereOne Bs 0 29 _ _ U kR hS.lt _ (hS.cell 0) EM U)<|sP (iZ m) ?_
  obtain ⟨b1,hb1⟩:=xE (decide (32*k1<m))
  refine sS (.bool b1) (qls U U U hb1)<|sG ?_
  cases b1
  · have lb1:=dN hb1
    refine sU<|Sy.exit<|Sy.then_exit<|Sy.then_exit ?_
    obtain rfl:N=k1:=om
    refine Sy.in_exit ?_
    exact Sy.retP U (λv w3 hg=>⟨⟨_,rfl⟩,.inl ⟨pre,hpre,Ab hJ hj hg⟩⟩) (.inr U)
  · have lb1 : 32 * k1 < m := of_decide_eq_true hb1.symm
    refine sT<|Sy.skip<|Sy.then_<|Sy.seq<|Sy.block<|Sy.seq<|Sy.regionD (λj=>false) kR<|sD 0 U (iZ 32) (Quiet.thereOne Bn 0 3 _ _ U kR hN.lt _ (hN.cell 0) uy3 U)<|sD 1 U (.slice (some ⟨b,off,none⟩) m cap) (Quiet.thereOne Bs 0 29 _ _ U kR hS.lt _ (hS.cell 0) EM U)<|Sy.sz 2 U U<|sD 3 U (.slice (some ⟨b,off+(32*k1)*1,none⟩) (m - (32*k1)) (cap - (32*k1))) (Quiet.pure (Dg _ _ _ b off m cap (32*k1) 1 .i64 U U U kR kF om om))<|sZ 4 U (.int .i64 (((m - (32*k1)):Nat):Int)) ?_
    obtain ⟨sz,hsz⟩:=xE (szC m k1)
    have hs:0<sz∧32*k1+sz≤m:=by rw [hsz]; unfold szC; omega
    refine sD 5 U (iZ sz) (Quiet.pure (F4 _ _ .i64 32 (m - (32*k1)) sz U U U (by rw [hsz]; unfold szC; omega)))<|Sy.sz 6 U U<|sI<|Sy.seq ?_
    have hx:k1<N:=om
    refine Sy.regionY 10 (by rintro ⟨_,_,⟨_,hv⟩,_⟩; cases hv) kR<|Sy.sp rfl<|sS (.slice (some ⟨b,off,none⟩) m cap) (Quiet.thereOne Bs 0 29 _ _ rfl kR hS.lt _ (hS.cell 0) EM rfl)<|Sy.sp rfl<|Sy.sp rfl<|Sy.sp rfl<|sS (iZ ((32*k1)+sz)) (qad rfl rfl rfl)<|Sy.sp rfl<|Sy.sp rfl<|sS (iZ ((32*k1)+sz)) (qad rfl rfl rfl)<|sS (.slice (some ⟨b,off+(32*k1)*1,none⟩) (((32*k1)+sz) - (32*k1)) (((32*k1)+sz) - (32*k1))) (Quiet.pure (Hk _ _ _ _ _ b off m cap (32*k1) ((32*k1)+sz) ((32*k1)+sz) 1 .i64 .i64 .i64 rfl rfl rfl rfl rfl kR kF (by have:=hs; omega) (by have:=hs; omega) (by have:=hs; omega) (by have:=hs; omega)))<|Sy.nil<|Sy.yieldX (ro := none) rfl (by rintro ⟨_, _, ⟨_, hv⟩, _⟩; cases hv) kR kR l #[.slice (some ⟨b, off + (32 * k1) * 1, none⟩) (((32 * k1) + sz) - (32 * k1)) (((32 * k1) + sz) - (32 * k1))] kF (fun e W' => (e = .returned (.bool true) ∧ J (pre ++ [⟨k1, hx⟩]) W' ∧ Blk W' Bs 29 #[.slice (some ⟨b, off, none⟩) m cap] ∧ Blk W' Bn 3 #[.int .i64 32]) ∨ (e = .returned (.bool false) ∧ Jx (pre ++ [⟨k1, hx⟩]) W')) (fun w hg => by
            have e:Uj b off m ⟨k1,hx⟩=#[.slice (some ⟨b,off+32*k1*1,none⟩) (32*k1+sz - 32*k1) (32*k1+sz - 32*k1)]:=by unfold Uj Yy; rw [← hsz,Nat.add_sub_cancel_left]
            have y:=hY pre ⟨k1,hx⟩ w (Ab hJ hj hg) om
            rw [e] at y
            exact C4 y (λe w' q=>q.imp (λq=>⟨q.1,q.2.1,q.2.2.2 (Bs,29,_) (by simp) (hg.blk hS),q.2.2.2 (Bn,3,_) (by simp) (hg.blk hN)⟩) id)) (λe w' q=>q.elim (λq=>⟨_,q.1⟩) (λq=>⟨_,q.1⟩)) U (λw2 b hr=>?_)
    cases b
    · have hx2:=hr.elim (λq=>by cases q.1) (λq=>q.2)
      refine sP (.bool true)<|sG<|sT<|Sy.ret<|Sy.in_ret<|Sy.then_ret<|Sy.then_ret<|Sy.in_ret ?_
      exact Sy.retP U (λv w3 hg=>⟨⟨_,rfl⟩,.inr ⟨pre++[⟨k1,hx⟩],⟨k1+1,by omega,by rw [List.map_append,hpre,List.range_succ]; rfl⟩,Ab hJx hx2 hg⟩⟩) (.inl U)
    · clear hS hN hj
      obtain ⟨hj,hS,hN⟩:=hr.elim (λq=>q.2) (λq=>by cases q.1)
      refine sP (.bool false)<|sG<|sU<|Sy.skip<|Sy.in_<|Sy.then_<|Sy.region<|Sy.sp U<|sS (iZ 32) (Quiet.thereOne Bn 0 3 _ _ U kR hN.lt _ (hN.cell 0) uy3 U)<|sS (iZ ((32*k1)+32)) (qad U U U)<|Sy.sp U<|Sy.nil ?_
      exact Sy.againP om ac4 (λw3 hg=>⟨pre++[⟨k1,hx⟩],by rw [List.map_append,hpre,List.range_succ]; rfl,Ab hJ hj hg,hg.blk hS,hg.blk hN⟩)
theorem Pj (n l Bs Bn cap : Nat) (A : Option Addr) (J Jx : List (Fin 0) → World → Prop) (W : World) (hJ : AbidesFrom W.heap.size J)
    (hS:Blk W Bs 29 #[.slice A 0 cap]) (hN:Blk W Bn 3 #[.int .i64 32]) (h0:J [] W) :
    CallsIn Fence.wide n Tryz.prog 234 #[.func (.yield l) #[] #[],pT Bs 0,pT Bn 0] W λe W'=>(∃ v,e=.returned v)∧((∃ ys:List (Fin 0),ys.map (·.1)=List.range 0∧J ys W')∨(∃ pre:List (Fin 0),(∃ k,k≤0∧pre.map (·.1)=List.range k)∧Jx pre W')):=by
  refine Sy.enterP (args:=[.func (.yield l) #[] #[],pT Bs 0,pT Bn 0]) Tryz.func234 U kL<|sC<|sp U<|sG<|Sy.block<|Sy.loopP 0 (λk1=>[(0,.func (.yield l) #[] #[]),(1,pT Bs 0),(2,pT Bn 0),(4,iZ (32*k1))]) (λk1 w=>J [] w∧Blk w Bs 29 #[.slice A 0 cap]∧Blk w Bn 3 #[.int .i64 32]) ac4 (λw hg=>⟨Ab hJ h0 hg,hg.blk hS,hg.blk hN⟩) (λk1 wr hk1 hz=>?_)
  clear hS hN
  obtain ⟨hj,hS,hN⟩:=hz
  refine Sy.seq<|sC<|sp U<|sS (.slice A 0 cap) (Quiet.thereOne Bs 0 29 _ _ U kR hS.lt _ (hS.cell 0) EM U)<|sP (iZ 0) ?_
  obtain ⟨b1,hb1⟩:=xE (decide (32*k1<0))
  refine sS (.bool b1) (qls U U U hb1)<|sG ?_
  cases b1
  · have lb1:=dN hb1
    refine sU<|Sy.exit<|Sy.then_exit<|Sy.then_exit ?_
    obtain rfl:k1=0:=om
    refine Sy.in_exit ?_
    exact Sy.retP U (λv w3 hg=>⟨⟨_,rfl⟩,.inl ⟨[],rfl,Ab hJ hj hg⟩⟩) (.inr U)
  · have lb1:=dY hb1
    refine sT<|Sy.skip<|Sy.then_<|Sy.seq ?_
    exact absurd lb1 om
theorem MS (n Bs Bn n₀ b off m cap N : Nat) (A : Option Addr) (hN0 : N = (m + 31) / 32) (hm : m ≤ cap) (hm2 : m ≤ 4611686018427387904) (hA : 0 < m → A = some ⟨b, off, none⟩) (w : World) (hS : Blk w Bs 29 #[.slice A m cap]) (hN : Blk w Bn 3 #[.int .i64 32]) :
    SeqStopsK Fence.wide n Tryz.prog 234 #[pT Bs 0,pT Bn 0] (Uj b off m (N:=N)) (KpL n₀ [(Bs,29,#[.slice A m cap]),(Bn,3,#[.int .i64 32])]) (λys=>ys.map (·.1)=List.range N) (λpre=>∃ k,k≤N∧pre.map (·.1)=List.range k) N w:=λl J Jx W hW hJ hJx hY h0=>by
  have hS':=hS.below hW hS.lt
  have hN':=hN.below hW hN.lt
  rcases Nat.eq_zero_or_pos m with h | h
  · subst h
    obtain rfl:N=0:=hN0
    exact Pj n l Bs Bn cap A J Jx W hJ hS' hN' h0
  · obtain rfl:=hA h
    exact Pi n l Bs Bn n₀ b off m cap N hN0 hm hm2 J Jx W hJ hJx hY hS' hN' h0
def b32 (m:AF) (k:Nat):List UInt8:=(m.drop (32*k)).take 32
def nmB (m:AF) (k:Nat):Nat:=A2 (b32 m k)
theorem Qu {m:AF} {D k:Nat} (h:m.length=32*D) (hk:k<D):(b32 m k).length=32:=by
 unfold b32
 rw [List.length_take,List.length_drop]
 omega
def Rl (m:AF) (D:Nat):Bool:=(List.range D).all λj=>decide (nmB m j<Sc.pM)
theorem V_ {m:AF} {D:Nat} (h:∀ j,j<D→nmB m j<Sc.pM):Rl m D=true:=List.all_eq_true.2 λj hj=>decide_eq_true (h j (List.mem_range.1 hj))
theorem YW {m:AF} {D j:Nat} (hj:j<D) (h:¬ nmB m j<Sc.pM):Rl m D=false:=List.all_eq_false.2 ⟨j,List.mem_range.2 hj,by rw [decide_eq_false h]; decide⟩
def al (b:Bool) (f:Nat→Nat) (D:Nat) (v:Value) (M:AC):Prop:=(b=false∧v=.tuple #[.slice none 0 0,.bool false]∧M=[])∨(b=true∧∃ y:Slc,v=.tuple #[y.v,.bool true]∧M=y.bl∧y.Is 26 4 ((List.range D).map λj=>fws (f j)))
theorem P9 {w:World} {g o D k:Nat} {m:AF} (hm:m.length=32*D) (hk:k<D) (hs:Sh.Src w (some ⟨g,o,none⟩) m):g<w.heap.size∧w.rangeAt g (o+32*k*1) ((b32 m k).map bv):=by
 have hne:m≠[]:=λe=>by rw [e] at hm; simp at hm; omega
 obtain ⟨b,o',e,h2,h3⟩:=hs hne
 cases e
 refine ⟨h2,λj v hj=>?_⟩
 rw [List.getElem?_map] at hj
 cases hx:(b32 m k)[j]? with
 | none=>rw [hx] at hj; cases hj
 | some u =>
  rw [hx] at hj
  injection hj with hj
  rw [← hj]
  have hl:=(List.getElem?_eq_some_iff.1 hx).1
  rw [Qu hm hk] at hl
  unfold b32 at hx
  rw [List.getElem?_take_of_lt hl,List.getElem?_drop] at hx
  have:=h3 _ u hx
  rw [show o+32*k*1+j=o+(32*k+j) by omega]
  exact this
theorem M' (w:World) (g o D c:Nat) (m:AF) (hm:m.length=32*D) (h1:1≤D) (hD:D≤1000000) (hc:32*D≤c) (hc2:c≤9223372036854775807) (hs:Sh.Src w (some ⟨g,o,none⟩) m):AY 203 #[.slice (some ⟨g,o,none⟩) (32*D) c] w (GetsN w (al (Rl m D) (nmB m) D)):=by
 refine Sy.enterM (args:=[.slice (some ⟨g,o,none⟩) (32*D) c]) Tryz.func203 U kL<|sC<|sM 117 #[.slice none 0 0] (λg0=>?_)
 refine sM 4 #[.bool false] (λg1=>?_)
 refine sG<|sC<|sM 117 #[.slice none 0 0] (λg2=>?_)
 refine sG<|Sy.seq<|sC<|Sy.sp U<|Sy.callN kR 200 #[.slice (some ⟨g,o,none⟩) (32*D) c,.int .i64 32] kF _ (λw _=>Ph w _ _ _) (λv M hR0=>?_)
 obtain ⟨u1,u2,rfl,rfl⟩:=hR0
 refine sG<|Sy.block ?_
 have hg:g<w.heap.size:=(P9 hm h1 hs).1
 refine Sy.rangeY (α:=Fin D) (Y:=Slc) 234 #[pT u1 0,pT u2 0] kR kR (enters_of Tryz.func234 kR U) (Uj g o (32*D)) [(u1,29,#[.slice (some ⟨g,o,none⟩) (32*D) c]),(u2,3,#[.int .i64 32])] (λys=>ys.map (·.1)=List.range D) (λpre=>∃ k,k≤D∧pre.map (·.1)=List.range k) D (λ_=>rfl) dZ
  (λpre y=>y.Is 26 4 (pre.map λx=>fws (nmB m x.val))∧pre.length≤D∧∀ x∈pre,nmB m x.val<Sc.pM)
  (λ_ y=>[(g0,117,#[.slice none 0 0]),(g1,4,#[.bool false]),(g2,117,#[y.v]),(u1,29,#[.slice (some ⟨g,o,none⟩) (32*D) c]),(u2,3,#[.int .i64 32])]++(y.bl++[]))
  (λ_ _=>[(g0,117,#[.slice none 0 0]),(g1,4,#[.bool false]),(u1,29,#[.slice (some ⟨g,o,none⟩) (32*D) c]),(u2,3,#[.int .i64 32])]++[])
  (λpre _=>∃ x∈pre, ¬ nmB m x.val<Sc.pM) nilS ⟨Slc.Is.nil _ _,Nat.zero_le _,λx hx=>by cases hx⟩ (λw hw=>hw) (λw hw=>?_) (λp hp pre y=>?_) (λx=>[(2,ptr g0),(3,ptr g1),(4,ptr g2),(5,Yy g o (32*D) x.val)]) ?_ ?_ ?_ ?_
 ·exact ⟨w,Below.refl _ _,MS 8 u1 u2 _ g o (32*D) c D _ om hc om (λ_=>rfl) w (hw.get (i:=3) rfl) (hw.get (i:=4) rfl)⟩
 ·simp only [List.mem_cons,List.not_mem_nil,or_false] at hp
  rcases hp with rfl|rfl <;> simp
 ·intro l fz pre y x
  refine Sy.regionR (by rintro ⟨_,_,h⟩; exact h) kR ⟨_,rfl⟩<|Sy.sp rfl<|Sy.nil ?_
  exact Sy.apY ac4 (λw hw=>hw)
 ·intro l fz pre y x hlen ⟨hy,hpl,hok⟩
  have hxN:=x.isLt
  have hz:szC (32*D) x.val=32:=by unfold szC; omega
  obtain ⟨bl,hbl⟩:=xE (b32 m x.val)
  have hl32:bl.length=32:=by rw [hbl]; exact Qu hm hxN
  obtain ⟨kx,hkx⟩:=xE ((Sc.readS bl).1)
  obtain ⟨b1,hb1⟩:=xE ((Sc.readS bl).2)
  refine Sy.block<|Sy.seq<|Sy.regionR (by rintro ⟨_,_,h⟩; exact h) kR ⟨_,rfl⟩<|Sy.sp rfl<|sS (.pointer (some ⟨g,o+32*x.val*1,none⟩)) (Quiet.pure (λw=>EE 22 _ _ (some ⟨g,o+32*x.val*1,none⟩) 32 (szC (32*D) x.val) (szC (32*D) x.val) rfl kR Il (by rw [hz]; decide) w))<|sS (.agg (bl.map bv).toArray) (Quiet.there g (o+32*x.val*1) 32 22 (bl.map bv) _ _ rfl kR hg (by rw [hbl]; exact (P9 hm hxN hs).2) Il rfl kR ((List.length_map ..).trans hl32) _ rfl)<|sS (.tuple #[fv kx,.bool b1]) (qf (λw=>by rw [hkx,hb1]; exact Sc.read_any w bl hl32))<|Sy.sp rfl<|Sy.sp rfl<|Sy.sp rfl<|sM 26 (fcs 0) (λg6=>?_)
  refine Sy.movT<|sw 5 rfl (fcs kx) (wA rfl)<|Sy.setT<|Sy.sp rfl<|sG<|Sy.seq<|Sy.seq<|Sy.regionR (by rintro ⟨_,_,h⟩; exact h) kR ⟨_,rfl⟩<|Sy.sp rfl ?_
  cases b1
  ·have hno:¬ nmB m x.val<Sc.pM:=λh=>by
    unfold Sc.readS at hb1
    rw [show A2 bl=nmB m x.val from by rw [hbl]; rfl,if_pos h] at hb1
    cases hb1
   refine sP (.bool true)<|sG<|sT<|Sy.seq<|Sy.regionR (by rintro ⟨_,_,h⟩; exact h) kR ⟨_,rfl⟩<|sw 0 rfl #[.slice none 0 0] (wO 0 117 (.slice none 0 0) rfl)<|Sy.setT<|sw 1 rfl #[.bool false] (wO 0 4 (.bool false) rfl)<|Sy.setT<|sG<|Sy.ret<|Sy.then_ret<|Sy.in_ret ?_
   exact Sy.bpYR nilS ⟨x,List.mem_append.2 (.inr (List.mem_singleton.2 U)),hno⟩ (λw hw=>St.pick (T:=[]) [0,1,3,4] dZ kZ (St.less hw (List.Sublist.append (List.Sublist.refl _) (List.nil_sublist _))))
  ·obtain ⟨hlt,hkv⟩:nmB m x.val<Sc.pM∧kx=nmB m x.val:=by
    unfold Sc.readS at hb1 hkx
    rw [show A2 bl=nmB m x.val from by rw [hbl]; rfl] at hb1 hkx
    by_cases h:nmB m x.val<Sc.pM
    ·rw [if_pos h] at hkx; exact ⟨h,hkx⟩
    ·rw [if_neg h] at hb1; cases hb1
   refine sP (.bool false)<|sG<|sU<|Sy.skip<|Sy.then_<|Sy.regionR (by rintro ⟨_,_,h⟩; exact h) kR ⟨_,rfl⟩<|sS y.v (qc 2 0 rfl rfl CU)<|sS (fv kx) (qk 5 0 4 rfl rfl Au)<|Sy.make kR 26 (fcs kx) (λg=>.slice (pA g) 1 1) (λ_=>kR) (λg7=>?_)
   refine Sy.movT<|Sy.appendR kR 117 26 _ _ 4 32 CU He U U U U dZ _ _ U hy kR (fws kx) rfl (Eb _) 6 g7 26 kR kR (by rw [List.length_map]; omega) (by rw [List.length_map]; simp only [maxLen]; omega) (λr hr=>?_)
   refine sW 2 g2 117 #[y.v] #[r.v] (Writes.one 0 117 r.v _ _ U kR kR kR hr.cells.1 hr.cells.2 (Nat.lt_succ_self 0) rfl)<|Sy.setT<|Sy.nil<|Sy.in_ ?_
   exact Sy.bpY r ⟨by rw [List.map_append,List.map_singleton, ← hkv]; exact hr,by rw [List.length_append,List.length_singleton]; omega,λz hz=>(List.mem_append.1 hz).elim (hok z) (λh=>by rw [List.mem_singleton.1 h]; exact hlt)⟩ (λw hw=>St.pick [0,1,2,3,4] dZ kZ hw)
 ·intro D' fz xs y hS ⟨hy,hpl,hok⟩ hD' hm'
  have hS0:xs.map (·.1)=List.range D:=hS
  refine Sy.in_<|sB<|sS y.v (qC 2 g2 0 117 117 #[y.v] rfl CU)<|sW 0 g0 117 #[.slice none 0 0] #[y.v] (Writes.one 0 117 y.v _ _ U kR kR kR hy.cells.1 hy.cells.2 (Nat.lt_succ_self 0) rfl)<|Sy.setT<|sW 1 g1 4 #[.bool false] #[.bool true] (wO 0 4 (.bool true) rfl)<|Sy.setT<|sG<|Sy.ret ?_
  have hall:Rl m D=true:=V_ λj hj=>by
   have:j∈xs.map (·.1):=by rw [hS0]; exact List.mem_range.2 hj
   obtain ⟨x,hx,rfl⟩:=List.mem_map.1 this
   exact hok x hx
  refine Sy.retMG2 y.bl U (Sy.hasC g0 0 #[y.v] CU) (Sy.hasC (v:=.bool true) g1 1 #[.bool true] uy4) (λw hw=>?_) (.inr ⟨hall,y,rfl,rfl,?_⟩) hD' hm'
  ·exact St.less hw (by rw [List.append_nil]; exact List.sublist_append_right _ _)
  ·rw [← hS0,List.map_map]; exact hy
 ·intro D' fz pre y hS ⟨x,hx,hno⟩ hD' hm'
  refine Sy.in_ret<|Sy.then_ret ?_
  exact Sy.retMG2 [] rfl (Sy.hasC g0 0 #[.slice none 0 0] CU) (Sy.hasC (v:=.bool false) g1 1 #[.bool false] uy4) (λw hw=>hw.none) (.inl ⟨YW x.isLt hno,rfl,rfl⟩) hD' hm'
theorem E' (E:Nat→Nat):∀ k,Bd E k=32*(1+Bq E k)
 | 0=>rfl
 | k+1=>by
  show Bd E k+E k*32=32*(1+(Bq E k+E k))
  rw [E' E k]
  omega
def nmD (m:AF) (E:Nat→Nat) (i j:Nat):Nat:=nmB m (1+Bq E i+j)
def SJ (m:AF) (E:Nat→Nat) (i:Nat):Bool:=(List.range (E i)).all λj=>decide (nmD m E i j<Sc.pM)
def Nz (m:AF) (E:Nat→Nat) (N:Nat):Bool:=(List.range N).all (SJ m E)
theorem LO {m:AF} {E:Nat→Nat} {N:Nat} (h:∀ i,i<N→SJ m E i=true):Nz m E N=true:=List.all_eq_true.2 λi hi=>h i (List.mem_range.1 hi)
theorem Ua {m:AF} {E:Nat→Nat} {N i:Nat} (hi:i<N) (h:SJ m E i=false):Nz m E N=false:=List.all_eq_false.2 ⟨i,List.mem_range.2 hi,by rw [h]; decide⟩
def SI (m:AF) (D:Nat→Int) (N:Nat):Bool:=szZ N D && (decide (m.length=Bd (λi=>(D i).toNat) N) && Nz m (λi=>(D i).toNat) N)
def DecR (b:Bool) (d:AF) (f:Nat→Nat→Nat) (nk:Nat→Nat) (NR:Nat) (v:Value) (M:AC):Prop :=
 (b=false∧v=.tuple #[Aq (List.replicate 32 0) none 0 0,.bool false]∧M=[])∨(b=true∧∃ u,v=.tuple #[u,.bool true]∧U_ d (λi j=>fws (f i j)) nk NR u M)
def KX (m:AF) (E:Nat→Nat) (k:Nat):List UInt8:=(m.drop (Bd E k)).take (32*E k)
theorem MD (E:Nat→Nat) {k N:Nat} (h:k<N):Bd E k+32*E k≤Bd E N:=by
 have h1:Bq E (k+1)≤Bq E N:=DT E h
 rw [E',E']
 have h2:Bq E (k+1)=Bq E k+E k:=rfl
 omega
theorem N1 {m:AF} {E:Nat→Nat} {k N:Nat} (hm:m.length=Bd E N) (hk:k<N):(KX m E k).length=32*E k:=by
 have:=MD E hk
 unfold KX
 rw [List.length_take,List.length_drop]
 omega
theorem MO {m:AF} {E:Nat→Nat} {k j:Nat} (hj:j<E k):nmB (KX m E k) j=nmD m E k j:=by
 unfold nmD nmB b32 KX
 rw [E',List.drop_take,List.take_take,List.drop_drop]
 congr 3
 ·omega
 ·omega
theorem Qn {m:AF} {E:Nat→Nat} {k:Nat}:Rl (KX m E k) (E k)=SJ m E k:=by
 unfold Rl SJ
 refine Bool.eq_iff_iff.2 ?_
 rw [List.all_eq_true,List.all_eq_true]
 exact ⟨λh x hx=>by have:=h x hx; rwa [MO (List.mem_range.1 hx)] at this,λh x hx=>by have:=h x hx; rwa [MO (List.mem_range.1 hx)]⟩
theorem VW {w:World} {g o N k:Nat} {m:AF} {E:Nat→Nat} (hm:m.length=Bd E N) (hk:k<N) (hs:Sh.Src w (some ⟨g,o,none⟩) m):Sh.Src w (some ⟨g,o+Bd E k,none⟩) (KX m E k):=λhne=>by
 have hl:=MD E hk
 obtain ⟨b,o',e,h2,h3⟩:=hs (λe=>by rw [e] at hm; have:=E' E N; simp at hm; omega)
 cases e
 refine ⟨_,_,rfl,h2,λj u hj=>?_⟩
 have hjl:=(List.getElem?_eq_some_iff.1 hj).1
 rw [N1 hm hk] at hjl
 unfold KX at hj
 rw [List.getElem?_take_of_lt hjl,List.getElem?_drop] at hj
 rw [Nat.add_assoc]
 exact h3 _ u hj
section
variable {P:Program} {w0:Base} {F:AO} {L:AC} {o:Oper}
theorem SA (t:TypeId) (x lx:Operand) (g f len cap lo s:Nat) (kl:IntKind) (ho:o.op=.slice t x (some lx) none none) (hx:evF F x=.slice (some ⟨g,f,none⟩) len cap) (hl:evF F lx=.int kl (lo:Int)) (ht:P.underlying t=some (.slice (P.elem t))) (hsz:∀ w,(sizeOf (P.elem t)).run P w=.ok s w) (h1:lo≤len) (w:World) :
  (execOp (evF F) o).run P w=.ok (.value (.slice (some ⟨g,if cap=lo then f else f+lo*s,none⟩) (len - lo) (cap - lo))) w:=by
 have e:(Instr.sliceAt t (.slice (some ⟨g,f,none⟩) len cap) (some (.int kl (lo:Int))) none none).run P w=.ok (.slice (some ⟨g,if cap=lo then f else f+lo*s,none⟩) (len - lo) (cap - lo)) w:=by
  rw [run_sliceAt_slice w t _ _ _ _ ht,run_slice_l w t (some ⟨g,f,none⟩) len cap ht kl lo om om]
  by_cases h:cap=lo <;> simp [hsz,sliced,h,Bm,Result.andThen]
 unfold execOp
 simp only [ho,hx,hl,Option.map_some,Option.map_none,e,Sem.run_bind,Sem.run_pure,Result.andThen_ok]
theorem UL (t:TypeId) (x lx hx':Operand) (g f len cap lo hi s:Nat) (kl kh:IntKind) (ho:o.op=.slice t x (some lx) (some hx') none) (hx:evF F x=.slice (some ⟨g,f,none⟩) len cap) (hl:evF F lx=.int kl (lo:Int)) (hh:evF F hx'=.int kh (hi:Int)) (ht:P.underlying t=some (.slice (P.elem t))) (hsz:∀ w,(sizeOf (P.elem t)).run P w=.ok s w)
  (h1:lo≤hi) (h2:hi≤cap) (h3:lo<cap) (w:World):(execOp (evF F) o).run P w=.ok (.value (.slice (some ⟨g,f+lo*s,none⟩) (hi - lo) (cap - lo))) w:=by
 have hne:¬ cap=lo:=om
 have e:(Instr.sliceAt t (.slice (some ⟨g,f,none⟩) len cap) (some (.int kl (lo:Int))) (some (.int kh (hi:Int))) none).run P w=.ok (.slice (some ⟨g,f+lo*s,none⟩) (hi - lo) (cap - lo)) w:=by
  rw [run_sliceAt_slice w t _ _ _ _ ht,run_slice_lh w t (some ⟨g,f,none⟩) len cap ht kl kh lo hi om om om]
  simp [hsz,sliced,hne,Bm,Result.andThen]
 unfold execOp
 simp only [ho,hx,hl,hh,Option.map_some,Option.map_none,e,Sem.run_bind,Sem.run_pure,Result.andThen_ok]
end
theorem Sx {w:World} {g o:Nat} {m:AF} {k:Nat} (h:∀ j u,m[j]? = some u→w.cell? ⟨g,o+j,none⟩=some (bv u)):w.rangeAt g o ((m.take k).map bv):=λj v hj=>by
 rw [List.getElem?_map] at hj
 cases hx:(m.take k)[j]? with
 | none=>rw [hx] at hj; cases hj
 | some u =>
  rw [hx] at hj
  injection hj with hj
  rw [← hj]
  have hl:=(List.getElem?_eq_some_iff.1 hx).1
  rw [List.length_take] at hl
  rw [List.getElem?_take_of_lt om] at hx
  exact h j u hx
theorem PT {place:Nat→Option (Nat×Nat)} {z c:List Value} {u:Value} {n:Nat} (hp:place 0=some (0,n)) (hc:c.length=n) (hz:z.length=n):Instr.fill place (z++[u]).toArray [(0,.agg c.toArray)]=some (c++[u]).toArray:=by
 unfold Instr.fill
 rw [hp]
 simp only [Value.cells,List.size_toArray,hc,Nat.zero_add,ne_eq,not_true_eq_false,decide_false,Bool.false_or]
 rw [if_neg (by simp [hz])]
 unfold Instr.fill
 have h1:c.toArray.zipIdx.foldl (λcs (x:Value×Nat)=>cs.setIfInBounds (0+x.2) x.1) (z++[u]).toArray=BI (z++[u]).toArray (0+0) c:=by
  rw [← J_ c 0 0, ← Array.foldl_toList,Array.toList_zipIdx]
 simp only [Nat.zero_add] at h1
 rw [h1]
 have h2:=DV c 0 (z++[u]).toArray (by rw [List.size_toArray,List.length_append,hz,hc]; simp)
 rw [h2]
 simp only [List.take_zero,List.nil_append,Nat.zero_add]
 rw [List.drop_left' (by rw [hz,hc])]
theorem Quiet.build1F {P:Program} {w0:Base} {F:AO} {L:AC} {o:Oper} (t:TypeId) (fs:Array Field) (it:TypeInfo) (z c:List Value) (u:Value) (x:Operand) (n:Nat) (ho:o.op=.build t #[(0,x)]) (hx:evF F x=.agg c.toArray) (hu:P.underlying t=some (.struct fs)) (hit:P.info? t=some it) (hz:it.zero=some (.agg (z++[u]).toArray))
  (hpl:fs.toList.mapM (λf=>(P.info? f.type).map λi=>(f.offset,i.size))=some [(0,n),(n,1)]) (hc:c.length=n) (hzl:z.length=n):Quiet P w0 F L o (.agg (c++[u]).toArray):=Quiet.pure λw=>by
 have hb:P.built t #[(0,.agg c.toArray)].toList=some (c++[u]).toArray:=by
  unfold Program.built
  rw [hit,hu]
  simp only [hz,hpl]
  exact PT U hc hzl
 have hr:=run_build (P:=P) w t #[(0,.agg c.toArray)] _ hb
 unfold execOp
 simp only [ho,Sem.run_bind,List.map_toArray,List.map_cons,List.map_nil,hx,hr,Result.andThen_ok,Sem.run_pure]
noncomputable def infRS:TypeInfo:=(Tryz.prog.info? 69).getD default
theorem Wb:Tryz.prog.info? 69=some infRS:=kZ
theorem U':infRS.zero=some (.agg (List.replicate 32 (Value.int .u8 0)++[Value.slice none 0 0]).toArray):=kZ
theorem Ur {w0:Base} {F:AO} {L:AC} {o:Oper} {x:Operand} (d:AF) (hd:d.length=32) (ho:o.op=.build 69 #[(0,x)]) (hx:evF F x=.agg (d.map bv).toArray):Quiet Tryz.prog w0 F L o (Aq d none 0 0) :=
 Quiet.build1F 69 _ infRS _ _ _ x 32 ho hx Cw Wb U' kZ ((List.length_map ..).trans hd) List.length_replicate
theorem UZ (w:World) (A:Option Addr) (m:AF) (n c:Nat) (hm:m.length=n) (hc:n≤c) (hc2:c≤9223372036854775807) (hs:Sh.Src w A m) (Z:Option Addr) (N zc:Nat) (D:Nat→Int) (hN:N≤4611686018427387904) (hlz:Lst w 1 Z N (λk=>[.int .i64 (D k)])) :
  AY 144 #[.slice A n c,.slice Z N zc] w (GetsN w (DecR (SI m D N) (m.take 32) (nmD m λi=>(D i).toNat) (λi=>(D i).toNat) N)):=by
 have hlz0:=hlz
 obtain ⟨E,hE⟩:∃ E:Nat→Nat,E=λi=>(D i).toNat:=⟨_,rfl⟩
 rw [show SI m D N=(szZ N D && (decide (m.length=Bd E N) && Nz m E N)) by rw [hE]; rfl, ← hE]
 refine Sy.enter (args:=[.slice A n c,.slice Z N zc]) Tryz.func144 U kL<|sC<|sM 69 (AV (List.replicate 32 0) none 0 0).toArray (λg0=>?_)
 refine Sy.sp U<|sG<|Sy.seq<|sC ?_
 obtain ⟨b1,hb1⟩:=xE (szZ N D)
 refine Sy.sp U<|sS (.bool b1) (qg (λw hw=>by rw [hb1]; exact Ma w Z N zc D hN (hlz0.below hw.below))) ?_
 cases b1
 ·rw [← hb1,Bool.false_and]
  refine sP (.bool true)<|Sy.sp U<|sN<|sN<|sN<|sN<|sN<|sP (.bool true)<|sG<|sT<|sC<|sP (Aq (List.replicate 32 (0:UInt8)) none 0 0)<|sw 0 U zS33.toArray (Writes.row 69 zS33 33 _ _ U kR kR kR (Ag List.length_replicate) (by rw [List.size_toArray,Ag List.length_replicate]) CG)<|Sy.sp U<|sG<|Sy.ret<|Sy.then_ret ?_
  exact DE [] rfl (v:=Aq (List.replicate 32 (0:UInt8)) none 0 0) (u:=.bool false) (.inl (Res.cell (ty':=69) g0 0 zS33.toArray _ kR kR Cw U (by rw [List.size_toArray,Ag List.length_replicate]; kernel_rfl) rfl)) (.inl (show _=_ by kernel_rfl)) (λ_ hw=>hw.none) (.inl ⟨rfl,rfl,rfl⟩)
 ·have hsz:=(P6 N D).1 hb1.symm
  have hDE:∀ i,i<N→D i=((E i:Nat):Int)∧1≤E i∧E i≤64:=λi hi=>by
   have:=hsz.2.2 i hi
   rw [hE]
   show D i=(((D i).toNat:Nat):Int)∧1≤(D i).toNat∧(D i).toNat≤64
   omega
  have hlzE:Lst w 1 Z N (λk=>[iZ (E k)]):=Ei hlz0 (λi hi=>by rw [(hDE i hi).1])
  obtain ⟨tl,htl⟩:=xE (Bd E N)
  obtain ⟨b2,hb2⟩:=xE (decide (n≠tl))
  refine sP (.bool false)<|Sy.sp U<|Sy.sp U<|sP (iZ n)<|Sy.sp U<|sS (iZ tl) (qg (λw hw=>by rw [htl]; exact PI w Z N zc E om (λi hi=>(hDE i hi).2.2) (hlzE.below hw.below))) <|
   sS (.bool b2) (qne U U U hb2)<|sP (.bool b2) ?_
  refine sG ?_
  cases b2
  ·have hn:n=tl:=Decidable.of_not_not (of_decide_eq_false hb2.symm)
   have hml:m.length=Bd E N:=by rw [hm,hn,htl]
   have hP:∀ k,k<N→Bd E k+32*E k≤n:=λk hk=>by rw [hn,htl]; exact MD E hk
   have hL32:∀ k,32≤Bd E k:=λk=>by rw [E']; omega
   obtain ⟨gz,oz,hZ⟩:=hlzE
   have h0N:0<N:=om
   have hne:m≠[]:=λe=>by
    have h1:=hP 0 h0N
    have h2:=hL32 0
    rw [e] at hm
    have:n=0:=hm.symm
    omega
   have hA:=hs hne
   obtain ⟨g,o,rfl,hg,hcl⟩:=hA
   obtain ⟨d,hd⟩:=xE (m.take 32)
   have hn32:32≤n:=by have:=hP 0 h0N; have:=hL32 0; omega
   have hdl:d.length=32:=by rw [hd,List.length_take]; omega
   refine sU<|Sy.skip<|Sy.then_<|sC<|Sy.sp U<|sS (.slice (some ⟨g,o,none⟩) 32 c) (Quiet.pure (Et _ _ _ g o n c 32 1 .i64 U U U EM kF om)) <|
    sS (pT g o) (Quiet.pure (λw=>EE 23 _ _ (some ⟨g,o,none⟩) 32 32 c U kR Dc dZ w)) <|
    sS (.agg (d.map bv).toArray) (Quiet.there g o 32 23 (d.map bv) _ _ U kR hg (by rw [hd]; exact Sx hcl) Dc U kR ((List.length_map ..).trans hdl) _ U) ?_
   refine sS (Aq d none 0 0) (Ur d hdl U U)<|sM 69 zS33.toArray (λg1=>?_)
   refine sw 1 U (sgx d (.slice none 0 0)).toArray (Writes.row 69 (sgx d (.slice none 0 0)) 33 _ _ U kR kR kR (QA hdl) (by rw [List.size_toArray,Ag List.length_replicate]) CG)<|sA ?_
   have hE0:=(hDE 0 h0N).2.1
   have hP0:=hP 0 h0N
   have hL0:Bd E 0=32:=rfl
   refine Sy.sp U<|sS (.slice (some ⟨g,o+Bd E 0,none⟩) (n - Bd E 0) (c - Bd E 0)) (Quiet.pure (Dg _ _ _ g o n c 32 1 .i64 U U U EM kF om om))<|Sy.sp U<|sG<|Sy.seq<|sC<|Sy.sp U<|sP (iZ N)<|Sy.sp U<|sG<|Sy.block<|Sy.loopT (Y:=(Nat→Slc)×Slc×Value) N (λk1 y1=>[(0,y1.2.2),(4,ptr g0),(6,ptr g1),(29,.slice Z N zc),(30,iZ N),(31,iZ k1)]) (λk1 y1=>[(g0,69,zS33.toArray),(g1,69,(sgx d y1.2.1.v).toArray)]++(Bb y1.1 N++(y1.2.1.bl++[])))
    (λk1 y1=>RowsAre y1.1 26 4 (λi j=>fws (nmD m E i j)) (Ce E k1 0)∧y1.2.1.Is 117 1 ((List.range k1).map λi=>[(y1.1 i).v])∧(∀ i,k1≤i→y1.1 i=nilS)∧(k1<N→y1.2.2=.slice (some ⟨g,o+Bd E k1,none⟩) (n - Bd E k1) (c - Bd E k1))∧∀ i,i<k1→SJ m E i=true)
    (λ_=>nilS,nilS,.slice (some ⟨g,o+Bd E 0,none⟩) (n - Bd E 0) (c - Bd E 0)) ⟨(RowsAre.nil _ _ _).cnt (IM E),Slc.Is.nil _ _,λ_ _=>rfl,λ_=>rfl,λi hi=>absurd hi (Nat.not_lt_zero _)⟩
    ac6 (λw hw=>by rw [H_]; exact hw) (λk1 y1 hk1 hh1=>?_)
   obtain ⟨q1,O1,v1⟩:=y1
   dsimp only at hh1 ⊢
   obtain ⟨hr1,hO1,hn1,hv1,hk1ok⟩:=hh1
   refine sC ?_
   obtain ⟨b3,hb3⟩:=xE (decide (k1<N))
   refine sS (.bool b3) (qls U U U hb3)<|sG<|Sy.seq ?_
   cases b3
   ·have lb3:=dN hb3
    obtain rfl:N=k1:=om
    obtain ⟨gO,cO,spO,hOv,hOb,hO2,hcO,hO3⟩:=hO1.open h0N
    obtain ⟨ov,ob⟩:=O1
    obtain rfl:ov=_:=hOv
    obtain rfl:ob=_:=hOb
    refine sU<|Sy.exit<|Sy.then_exit<|Sy.then_exit<|Sy.in_exit<|sB<|sS (Aq d (pA gO) N cO) (qx 1 0 33 U U Cw (Be hdl) (Cc hdl))<|sw 0 U (AV d (pA gO) N cO).toArray (Writes.row 69 (AV d (pA gO) N cO) 33 _ _ U kR kR kR (Ag hdl) (by rw [List.size_toArray,Ag List.length_replicate]) CG)<|Sy.setT<|Sy.sp U<|sG<|Sy.ret ?_
    exact DE ((gO,117,(AL (λj=>[(q1 j).v]) N++spO).toArray)::Bb q1 N) rfl (v:=Aq d (pA gO) N cO) (u:=.bool true) (.inl (Res.cell (ty':=69) g0 0 (AV d (pA gO) N cO).toArray _ kR kR Cw U (by rw [List.size_toArray,Ag hdl]; kernel_rfl) rfl)) (.inl (show _=_ by kernel_rfl))
     (λw hw=>St.parts (ls:=[[(g0,69,(AV d (pA gO) N cO).toArray)],[(g1,69,(AV d (pA gO) N cO).toArray)],Bb q1 N,[(gO,117,(AL (λj=>[(q1 j).v]) N++spO).toArray)]]) (ms:=[[(gO,117,(AL (λj=>[(q1 j).v]) N++spO).toArray)],Bb q1 N]) [[(g0,69,(AV d (pA gO) N cO).toArray)],[(g1,69,(AV d (pA gO) N cO).toArray)]] [3,2,0,1] kR (by rfl) (by rfl) (by simp) hw)
     (.inr ⟨by rw [← hb1,decide_eq_true hml,LO hk1ok]; rfl,_,rfl,gO,cO,spO,q1,by rw [← hd],hcO,rfl,hr1⟩)
   ·have lb3:=dY hb3
    obtain rfl:v1=_:=hv1 lb3
    have hEk:=hDE k1 lb3
    have hPk:=hP k1 lb3
    have hLk:=hL32 k1
    refine sT<|Sy.skip<|Sy.then_<|Sy.seq<|Sy.block<|sC<|sS (.pointer (some ⟨gz,oz+k1*1,none⟩)) (Quiet.pure (Af 139 _ _ _ Z gz oz N zc k1 1 .i64 (hZ om).1 U U U D1 kF om))<|sS (iZ (E k1)) (Quiet.thereOne gz (oz+k1*1) 3 _ _ U kR (hZ om).2.1 _ (Ar ((hZ om).2.2 k1 om) 0 U) uy3 U)<|Sy.sp U<|sA<|Sy.sp U<|Sy.sp U<|sS (iZ (32*E k1)) (qml U U U) <|
     sS (.slice (some ⟨g,o+Bd E k1,none⟩) (32*E k1) (c - Bd E k1)) (Quiet.pure (Et _ _ _ g (o+Bd E k1) (n - Bd E k1) (c - Bd E k1) (32*E k1) 1 .i64 U U U EM kF om)) ?_
    refine Sy.callN kR 203 #[.slice (some ⟨g,o+Bd E k1,none⟩) (32*E k1) (c - Bd E k1)] kF _ (λw hw=>M' w g (o+Bd E k1) (E k1) (c - Bd E k1) (KX m E k1) (N1 hml lb3) hEk.2.1 om om om ((VW hml lb3 hs).below hw.below)) (λv M hR0=>?_)
    rcases hR0 with ⟨hb,rfl,rfl⟩ | ⟨hb,r,rfl,rfl,hr⟩
    ·rw [List.append_nil]
     have hno:Nz m E N=false:=Ua lb3 (by rw [← Qn]; exact hb)
     rw [hno,Bool.and_false,Bool.and_false]
     refine Sy.sp U<|Sy.sp U<|Sy.sp U<|Sy.sp U<|Sy.sp U<|sG<|Sy.seq<|sC<|Sy.sp U<|sP (.bool true)<|sG<|sT<|sC<|sP (Aq (List.replicate 32 (0:UInt8)) none 0 0)<|sw 0 U zS33.toArray (Writes.row 69 zS33 33 _ _ U kR kR kR (Ag List.length_replicate) (by rw [List.size_toArray,Ag List.length_replicate]) CG)<|Sy.setT<|Sy.sp U<|sG<|Sy.ret ?_
     repeat' first | refine Sy.then_ret ?_ | refine Sy.in_ret ?_
     exact DE [] rfl (v:=Aq (List.replicate 32 (0:UInt8)) none 0 0) (u:=.bool false) (.inl (Res.cell (ty':=69) g0 0 zS33.toArray _ kR kR Cw U (by rw [List.size_toArray,Ag List.length_replicate]; kernel_rfl) rfl)) (.inl (show _=_ by kernel_rfl)) (λ_ hw=>hw.none) (.inl ⟨rfl,rfl,rfl⟩)
    ·obtain ⟨gk,ck,sp,hkv,hkb,hk1s,hk2s,hk3s⟩:=hr.open om
     obtain ⟨rv,rb⟩:=r
     obtain rfl:rv=_:=hkv
     obtain rfl:rb=_:=hkb
     obtain ⟨bk,hbk⟩:∃ b:Nat×TypeId×Array Value,b=(gk,26,(AL (λj=>fws (nmB (KX m E k1) j)) (E k1)++sp).toArray):=⟨_,rfl⟩
     refine Sy.sp U<|Sy.sp U<|Sy.sp U<|Sy.sp U<|Sy.sp U<|sG<|Sy.seq<|sC<|Sy.sp U<|sP (.bool false)<|sG<|sU<|Sy.skip<|sB ?_
     rw [← hbk] at hr ⊢
     refine Sy.permS (M:=[(g0,69,zS33.toArray),(g1,69,(sgx d O1.v).toArray)]++(O1.bl++([bk]++(Bb q1 N++[])))) (Sy.flat_perm (ls:=[[(g0,69,zS33.toArray),(g1,69,(sgx d O1.v).toArray)],Bb q1 N,O1.bl,[bk]]) (ms:=[[(g0,69,zS33.toArray),(g1,69,(sgx d O1.v).toArray)],O1.bl,[bk],Bb q1 N]) [0,2,3,1] kZ (by rfl) (by simp) (by simp))<|sP (pT g1 32)<|sS O1.v (qy 1 32 U U EL (X0 hdl))<|Sy.sp U<|Sy.make kR 117 #[.slice (pA gk) (E k1) ck] (λg=>.slice (pA g) 1 1) (λ_=>kR) (λg7=>?_)
     refine Sy.movT<|Sy.appendR kR 67 117 _ _ 1 24 EL J7 U U U U dZ _ _ U hO1 kR [.slice (pA gk) (E k1) ck] rfl (Js _ _ _) 2 g7 117 kR kR (by rw [List.length_map,List.length_range]; omega) (by rw [List.length_map,List.length_range]; simp only [maxLen]; omega) (λr1 hr1'=>?_)
     refine sP (pT g1 32)<|sw 1 U (sgx d r1.v).toArray (Writes.one 32 67 r1.v _ _ U kR kR kR hr1'.cells.1 hr1'.cells.2 (Xz hdl) (Vc hdl))<|Sy.setT<|sG<|Sy.region ?_
     obtain ⟨v2,hv2⟩:=xE (Value.slice (some ⟨g,if c - Bd E k1=32*E k1 then o+Bd E k1 else o+Bd E k1+32*E k1*1,none⟩) (n - Bd E k1 - 32*E k1) (c - Bd E k1 - 32*E k1))
     refine Sy.sp U<|Sy.sp U<|sS (iZ (32*E k1)) (qml U U U) <|
      sS v2 (Quiet.pure (λw=>by rw [hv2]; exact SA _ _ _ g (o+Bd E k1) (n - Bd E k1) (c - Bd E k1) (32*E k1) 1 .i64 U U U EM kF om w))<|Sy.sp U ?_
     refine Sy.nil<|Sy.in_<|Sy.then_<|Sy.region<|sS (iZ (k1+1)) (qad U U U)<|Sy.sp U<|Sy.nil ?_
     have hrD:(List.range (E k1)).map (λj=>fws (nmB (KX m E k1) j))=(List.range (E k1)).map (λj=>fws (nmD m E k1 j)):=List.map_congr_left λj hj=>by rw [MO (List.mem_range.1 hj)]
     rw [hrD] at hr
     have eL:Bd E (k1+1)=Bd E k1+E k1*32:=rfl
     exact Sy.againT (DP q1 k1 ⟨.slice (pA gk) (E k1) ck,[bk]⟩,r1,v2) om
      ⟨RowsAre.full hr1 hr,by rw [List.range_succ,List.map_append,Tw]; show Slc.Is _ _ _ (_++[[(DP q1 k1 _ k1).v]]); rw [Dv]; exact hr1',λi hi=>by show DP _ _ _ i=nilS; rw [E6 om]; exact hn1 i om,
       λhlt=>by
        have h1:=hP (k1+1) hlt
        have h2:=(hDE (k1+1) hlt).2.1
        rw [hv2,if_neg om,eL,show o+Bd E k1+32*E k1*1=o+(Bd E k1+E k1*32) by omega,show n - Bd E k1 - 32*E k1=n - (Bd E k1+E k1*32) by omega,show c - Bd E k1 - 32*E k1=c - (Bd E k1+E k1*32) by omega],
       λi hi=>(Nat.lt_succ_iff_lt_or_eq.1 hi).elim (hk1ok i) (λh=>by rw [h, ← Qn]; exact hb)⟩
      ac6
      (λw hw=>by
       have q:=St.row_in (i:=k1) (v:=.slice (pA gk) (E k1) ck) (M:=[(g0,69,zS33.toArray),(g1,69,(sgx d r1.v).toArray)]) (b:=bk) (n:=N) (r:=q1) (R:=r1.bl++[]) lb3 (hn1 k1 (Nat.le_refl _)) (St.parts (ls:=[[(g0,69,zS33.toArray)],[(g1,69,(sgx d r1.v).toArray)],[(g7,117,#[.slice (pA gk) (E k1) ck])],r1.bl,[bk],Bb q1 N]) (ms:=[[(g0,69,zS33.toArray)],[(g1,69,(sgx d r1.v).toArray)],[bk],Bb q1 N,r1.bl]) [[(g7,117,#[.slice (pA gk) (E k1) ck])]] [0,1,4,5,3,2] kR (by rfl) (by simp) (by simp) hw)
       exact q)
  ·have hn:=dY hb2
   rw [show decide (m.length=Bd E N)=false from decide_eq_false (by rw [hm, ← htl]; exact hn),Bool.false_and,Bool.and_false]
   refine sT<|sC<|sP (Aq (List.replicate 32 (0:UInt8)) none 0 0)<|sw 0 U zS33.toArray (Writes.row 69 zS33 33 _ _ U kR kR kR (Ag List.length_replicate) (by rw [List.size_toArray,Ag List.length_replicate]) CG)<|Sy.sp U<|sG<|Sy.ret<|Sy.then_ret ?_
   exact DE [] rfl (v:=Aq (List.replicate 32 (0:UInt8)) none 0 0) (u:=.bool false) (.inl (Res.cell (ty':=69) g0 0 zS33.toArray _ kR kR Cw U (by rw [List.size_toArray,Ag List.length_replicate]; kernel_rfl) rfl)) (.inl (show _=_ by kernel_rfl)) (λ_ hw=>hw.none) (.inl ⟨rfl,rfl,rfl⟩)
theorem Gd (f:Nat→Nat):∀ (T:Nat) {q:Nat},q<T→((EN f T).drop (32*q)).take 32=BA (f q%Sc.pM)
 | 0,q,h=>absurd h (Nat.not_lt_zero _)
 | T+1,q,h=>by
  show ((EN f T++BA (f T%Sc.pM)).drop (32*q)).take 32=_
  have hl:=Fl f T
  rcases Nat.lt_succ_iff_lt_or_eq.1 h with hq | hq
  ·rw [List.drop_append_of_le_length om,List.take_append_of_le_length (by rw [List.length_drop]; omega)]
   exact Gd f T hq
  ·rw [hq,List.drop_left' hl,List.take_of_length_le (by rw [BT]; exact Nat.le_refl _)]
theorem Sr (sn:Nat→Nat) {N i j:Nat} (hi:i<N) (hj:j<sn i):Bq sn i+j<Bq sn N:=by
 have h1:Bq sn (i+1)≤Bq sn N:=DT sn hi
 have h2:Bq sn (i+1)=Bq sn i+sn i:=rfl
 omega
theorem Um (s:Nat→Nat→Nat) (sn:Nat→Nat):∀ (N:Nat) {i j:Nat},i<N→j<sn i→atL (FM s sn N) (Bq sn i+j)=s i j
 | 0,i,j,hi,_=>absurd hi (Nat.not_lt_zero _)
 | k+1,i,j,hi,hj=>by
  show atL (FM s sn k++(List.range (sn k)).map (s k)) _=_
  have hl:=Ex s sn k
  rcases Nat.lt_succ_iff_lt_or_eq.1 hi with h | h
  ·rw [OK (by rw [hl]; exact Sr sn h hj)]
   exact Um s sn k h hj
  ·subst h
   rw [← hl,LT,LU hj]
theorem Gc (s:Nat→Nat→Nat) (sn:Nat→Nat) (N:Nat):(EQ s sn N).length=32*Bq sn N:=by rw [← G2,Fl]
theorem UP {d:AF} {s:Nat→Nat→Nat} {sn:Nat→Nat} {N i j:Nat} (hd:d.length=32) (hi:i<N) (hj:j<sn i):nmD (d++EQ s sn N) sn i j=s i j%Sc.pM:=by
 have hq:=Sr sn hi hj
 unfold nmD nmB b32
 rw [show 32*(1+Bq sn i+j)=32+32*(Bq sn i+j) by omega, ← List.drop_drop,List.drop_left' hd, ← G2,Gd _ _ hq,Um s sn N hi hj,IX _ (Sc.mod_lt _)]
theorem Wn {d:AF} {s:Nat→Nat→Nat} {sn:Nat→Nat} {N:Nat} (hd:d.length=32) (h1:1≤N) (h2:N≤32) (h3:∀ i,i<N→1≤sn i∧sn i≤64):SI (d++EQ s sn N) (λi=>((sn i:Nat):Int)) N=true:=by
 have hE:(λi=>(((sn i:Nat):Int)).toNat)=sn:=funext λi=>Int.toNat_natCast _
 unfold SI
 rw [hE,(P6 N _).2 ⟨h1,h2,λi hi=>by have:=h3 i hi; omega⟩,decide_eq_true (by rw [List.length_append,hd,Gc,E']; omega),LO λi hi=>List.all_eq_true.2 λj hj=>decide_eq_true (by rw [UP hd hi (List.mem_range.1 hj)]; exact Nat.mod_lt _ dZ)]
 rfl
def RwU (w0:Base) (W:Option Addr) (N:Nat) (nk:Nat→Nat) (s:Nat→Nat→Nat) (sa:Nat→Option Addr) (sc:Nat→Nat) (M:AC):Prop:=(∀ i,i<N→nk i≤sc i)∧∀ (w:World) (L:AC),St w0 w L→(∀ b∈M,b∈L)→Lst w 1 W N (λi=>[.slice (sa i) (nk i) (sc i)])∧∀ i,i<N→Lst w 4 (sa i) (nk i) (λk=>fws (s i k))
theorem RwU.zero (w0:Base) (nk:Nat→Nat) (s:Nat→Nat→Nat) (sa:Nat→Option Addr) (sc:Nat→Nat):RwU w0 none 0 nk s sa sc []:=⟨λi hi=>absurd hi (Nat.not_lt_zero _),λ_ _ _ _=>⟨⟨0,0,λh=>absurd h (Nat.lt_irrefl _)⟩,λi hi=>absurd hi (Nat.not_lt_zero _)⟩⟩
theorem RwU.rows {w0:Base} {NR g:Nat} {nk:Nat→Nat} {s:Nat→Nat→Nat} {r:Nat→Slc} {sp:List Value} {M:AC} (hr:RowsAre r 26 4 (λi j=>fws (s i j)) (Ce nk NR 0)) (hM:M=(g,117,(AL (λj=>[(r j).v]) NR++sp).toArray)::Bb r NR):∃ sa sc,RwU w0 (pA g) NR nk s sa sc M:=by
 have hv:∀ i,i<NR→(r i).v=.slice (slA (r i).v) (nk i) (slC (r i).v)∧nk i≤slC (r i).v:=λi hi=>by
  obtain ⟨A,k,h1,h2,_⟩:=hr.lst (Ew hi) hi
  rw [h1]
  exact ⟨rfl,h2⟩
 refine ⟨λi=>slA (r i).v,λi=>slC (r i).v,λi hi=>(hv i hi).2,λw L hw hb=>⟨?_,λi hi=>?_⟩⟩
 ·exact Ei (QG (f:=λj=>[(r j).v]) (λ_=>rfl) hw (hb _ (by rw [hM]; exact List.mem_cons_self ..))) (λi hi=>by rw [← (hv i hi).1])
 ·obtain ⟨A,k,h1,_,_,h2⟩:=hr.lst (Ew hi) hi
  have h3:=h2 hw (λb h=>hb b (by rw [hM]; exact List.mem_cons_of_mem _ h))
  show Lst w 4 (slA (r i).v) _ _
  rw [h1]
  exact h3
def FO (w0:Base) (d:AF) (N:Nat) (nk:Nat→Nat) (s:Nat→Nat→Nat) (u:Value) (v:Value) (M:AC):Prop:=∃ (W:Option Addr) (c:Nat) (sa:Nat→Option Addr) (sc:Nat→Nat),v=.tuple #[Aq d W N c,u]∧RwU w0 W N nk s sa sc M
theorem DecR.uniC {w0:Base} {b:Bool} {d:AF} {s:Nat→Nat→Nat} {nk:Nat→Nat} {NR:Nat} {v:Value} {M:AC} (h:DecR b d s nk NR v M):FO w0 (uD true b d) (uN true b NR) nk s (.bool b) v M:=by
 rcases h with ⟨rfl,rfl,rfl⟩ | ⟨rfl,u,rfl,g,cap,sp,r,rfl,_,rfl,hr⟩
 ·exact ⟨none,0,λ_=>none,λ_=>0,rfl,RwU.zero ..⟩
 ·obtain ⟨sa,sc,h⟩:=RwU.rows (w0:=w0) hr U
  exact ⟨_,cap,sa,sc,rfl,h⟩
theorem SgnR.uniC {w0:Base} {br bf:Bool} {d:AF} {s:Nat→Nat→Nat} {nk:Nat→Nat} {NR:Nat} {v:Value} {M:AC} (h:SgnR br bf d (λi j=>fws (s i j)) nk NR v M):FO w0 (uD br bf d) (uN br bf NR) nk s (.int .i64 (uE br bf)) v M:=by
 rcases h with ⟨rfl,rfl,rfl⟩ | ⟨rfl,rfl,rfl,rfl⟩ | ⟨rfl,rfl,u,rfl,g,r,rfl,rfl,hr⟩
 ·exact ⟨none,0,λ_=>none,λ_=>0,rfl,RwU.zero ..⟩
 ·exact ⟨none,0,λ_=>none,λ_=>0,rfl,RwU.zero ..⟩
 ·obtain ⟨sa,sc,h⟩:=RwU.rows (w0:=w0) (sp:=[]) hr (by rw [List.append_nil])
  exact ⟨_,NR,sa,sc,rfl,h⟩
theorem WA (m:AF) (k:Nat):nmB m k<K4:=by
 unfold nmB
 refine Nat.lt_of_lt_of_le (Gy _ _ U) (Nat.le_trans (Nat.pow_le_pow_right dZ (show (b32 m k).length≤32 by unfold b32; rw [List.length_take]; omega)) (show 256 ^ 32≤K4 by decide +kernel))
theorem BJ {P:Program} {w0:Base} {n:Nat} {Q:Exit→Act→World→Prop} {F:AO} {L:AC} {ops:Array Oper} {ex:Nat→Bool} {fuel:Nat} {listed:Array Bool} {T:Type} {FF:T→AO} {LL:T→AC} {H:T→Prop} {li:Array Bool} (h:∀ x,H x→wpD P w0 n ops Q ex (FF x) (LL x) fuel li) (x:T) (hx:H x) (hl:listed=li) (hF:∀ p∈FF x,F.lookup p.1=some p.2) (p:L.Perm (LL x)):wpD P w0 n ops Q ex F L fuel listed:=λa w ha hw=>by
 subst hl
 exact h x hx a w (ha.all hF) (hw.perm p)
section
variable (ax ay:Nat) (ai:Bool) (X Y:Nat→Nat) (I:Nat→Bool)
end
section
variable (sd:AF) (ax ay:Nat) (ai:Bool) (X Y:Nat→Nat) (I:Nat→Bool) (n:Nat) (z:Int) (kx:Nat)
end
theorem From.srcL {w0:Base} {L:AC} {A:Option Addr} {l:AF} (hs:∀ w,St w0 w L→Sh.Src w A l):From w0 L A (BN l).flatten:=λw hw=>by
 rw [Eg]
 by_cases h0:l=[]
 ·subst h0; exact .inl U
 ·obtain ⟨b,o,e,h2,h3⟩:=hs w hw h0
  refine .inr ⟨_,e,λj u hj=>?_⟩
  rw [Bm]
  rw [List.getElem?_map] at hj
  cases hx:l[j]? with
  | none=>rw [hx] at hj; cases hj
  | some x =>
   rw [hx] at hj
   injection hj with hj
   rw [← hj]
   exact h3 j x hx
theorem Ug (w:World) (F:AO) (o:Oper) (x:Operand) (u:UInt8) (ho:o.op=.convert 5 3 x) (hx:evF F x=bv u):(execOp (evF F) o).run Tryz.prog w=.ok (.value (iZ u.toNat)) w:=by
 have hu:=u.toNat_lt
 have e:(convert 5 3 (.int .u8 ((u.toNat:Nat):Int))).run Tryz.prog w=.ok (iZ u.toNat) w:=by
  go_simp
  exact Cy om om
 unfold execOp
 simp only [ho,hx,bv,e,Sem.run_bind,Sem.run_pure,Result.andThen_ok]
section
variable (ax ay:Nat) (ai:Bool) (X Y:Nat→Nat) (I:Nat→Bool) (n:Nat) (m:AF)
end
theorem Qa {P:Program} (t:TypeId) (k k':IntKind) (a b c:Int) (hb:¬ b<0) (h:k.wrap (a*2 ^ min b.toNat k.bits)=c) (w:World):(binOp .shl t (.int k a) (.int k' b)).run P w=.ok (.int k c) w:=by
 simp only [binOp,Op.shift,if_neg hb,Sem.run_pure,h]
theorem Uf (w:World) (F:AO) (o:Oper) (x:Operand) (k:Nat) (hk:k<18446744073709551616) (ho:o.op=.convert 3 24 x) (hx:evF F x=.int .i64 (k:Int)):(execOp (evF F) o).run Tryz.prog w=.ok (.value (.int .u64 ((k:Nat):Int))) w:=by
 have h:(convert 3 24 (.int .i64 (k:Int))).run Tryz.prog w=.ok (.int .u64 ((k:Nat):Int)) w:=by
  go_simp
  exact wrap_u64 om om
 unfold execOp
 simp only [ho,hx,Sem.run_bind,h,Result.andThen_ok,Sem.run_pure]
theorem Np (i:Nat):4 ^ i=2 ^ (2*i):=by rw [Nat.pow_mul]
theorem JF {d i:Nat} (hd:d<4) (hi:i<32):d*4 ^ i<18446744073709551616:=by
 have h1:4 ^ i≤4 ^ 31:=Nat.pow_le_pow_right dZ om
 have h2:d*4 ^ i≤3*4 ^ 31:=Nat.mul_le_mul om h1
 exact Nat.lt_of_le_of_lt h2 dZ
theorem Kd (w:World) (d i:Nat) (hd:d<4) (hi:i<32):AY 57 #[iZ d,iZ i] w (Gets w (uZ ((d*4 ^ i:Nat):Int))):=by
 have hw:=JF hd hi
 refine Sy.enter (args:=[iZ d,iZ i]) Tryz.func57 U kL<|sC<|sp U<|sA<|sp U<|sS (uZ ((d:Nat):Int)) (Quiet.pure (λw=>Uf w _ _ _ d om U U))<|sp U<|sS (iZ (2*i)) (qml U U U)<|sS (uZ ((d*4 ^ i:Nat):Int)) (Quiet.pure (AK .shl _ _ _ .u64 _ _ _ U U U (Qa _ _ _ _ _ _ om (by
  rw [Int.toNat_natCast,show min (2*i) IntKind.u64.bits=2*i from Nat.min_eq_left (show 2*i≤64 by omega),Np]
  rw [Np] at hw
  have e:((d:Nat):Int)*2 ^ (2*i)=((d*2 ^ (2*i):Nat):Int):=by rw [Int.natCast_mul,Int.natCast_pow]; rfl
  rw [e]
  exact wrap_u64 om om))))<|sp U ?_
 refine sG<|Sy.ret ?_
 exact rV (uZ ((d*4 ^ i:Nat):Int)) U
theorem IL (w:World) (px py:Nat) (pi:Bool) (hpx:px<K4) (hpy:py<K4):AY 58 #[pv px py pi] w (GetsN w (Dk (dec px py pi))):=by
 refine Sy.enter (args:=[pv px py pi]) Tryz.func58 U kL<|sC<|sM 37 (pcs px py pi) (λg0=>?_)
 refine sp U<|sA<|sS (pv px py pi) (qk 0 0 9 U U AX)<|sS (.agg ((Ay (dec px py pi)).map bv).toArray) (qf (λw=>I5 w px py pi hpx hpy))<|Sy.make kR 166 (Zl 33).toArray ptr kF (λg1=>?_)
 refine Sy.write kR 1 g1 166 (Zl 33).toArray ((Ay (dec px py pi)).map bv).toArray kR (Writes.store 0 166 ((Ay (dec px py pi)).map bv).toArray _ _ U kR kR (by rw [Cm (Ay (dec px py pi)) (Ai _)]; kernel_rfl) (by rw [Cm (Ay (dec px py pi)) (Ai _)]; exact Nat.le_of_ble_eq_true kR) (EZ _) (FB _ _ (by rw [(Ai _)]; kernel_rfl)))<|sA<|sP (.slice (pA g1) 33 33)<|sp U<|sG<|Sy.ret ?_
 exact RR 1 (g1,166,((Ay (dec px py pi)).map bv).toArray) rfl (v:=.slice (pA g1) 33 33) (.inl (show _=_ by kernel_rfl)) kR ⟨_,rfl,rfl⟩
def M9 (m:Nat):Nat:=1+33*(m - 1)
theorem M8 (w:World) (m:Nat) (hm:m≤32) (h1:1≤m):AY 142 #[iZ m] w (Gets w (iZ (M9 m))):=by
 unfold M9
 refine Sy.enter (args:=[iZ m]) Tryz.func142 U kL<|sC<|sp U<|sA<|sp U<|sS (iZ (m - 1)) (qsb U U U)<|sS (iZ (33*(m - 1))) (qml U U U)<|sS (iZ (1+33*(m - 1))) (qad U U U)<|sp U<|sG<|Sy.ret ?_
 exact rV (iZ (1+33*(m - 1))) U
theorem S_ (m:Nat) (h1:1≤m):M9 m+32+128*m=161*m:=by unfold M9; omega
theorem Tz (w:World) (m:Nat) (hm:m≤32) (h1:1≤m):AY 106 #[iZ m] w (Gets w (iZ (161*m))):=by
 have e1:=S_ m h1
 obtain ⟨q,hq⟩:=xE (M9 m)
 rw [← hq] at e1
 refine Sy.enter (args:=[iZ m]) Tryz.func106 U kL<|sC<|sp U<|sA<|sp U<|sS (iZ q) (qf (λw=>by rw [hq]; exact M8 w m hm h1))<|sS (iZ (q+32)) (qad U U U)<|sp U<|sS (iZ (128*m)) (qml U U U)<|sS (iZ (161*m)) (qad U U U)<|sp U<|sG<|Sy.ret ?_
 exact rV (iZ (161*m)) U
def dgN (m:AF):Nat:=if 1≤(m.getD 0 0).toNat∧(m.getD 0 0).toNat≤32∧m.length=161*(m.getD 0 0).toNat then (m.getD 0 0).toNat else 0
theorem UY (m:AF):dgN m≤32:=by unfold dgN; split <;> omega
theorem KE (w:World) (B:Option Addr) (m:AF) (n cp:Nat) (hm:m.length=n) (hcp:n≤cp) (hcp2:cp≤9223372036854775807) (hs:Sh.Src w B m):AY 46 #[.slice B n cp] w (Gets w (iZ (dgN m))):=by
 refine Sy.enter (args:=[.slice B n cp]) Tryz.func46 U kL<|sC<|sp U<|sG<|Sy.seq<|sC ?_
 obtain ⟨b1,hb1⟩:=xE (decide (n=0))
 refine sp U<|sP (iZ n)<|sS (.bool b1) (qeq U U U hb1)<|sG ?_
 cases b1
 case' true =>
  have l1:=dY hb1
  have e0:dgN m=0:=by
   unfold dgN
   rw [if_neg om]
  rw [e0]
  refine sT<|sC<|sp U<|sG<|Sy.ret<|Sy.then_ret ?_
  exact rV (.int .i64 0) rfl
 case' false =>
  have l1:=dN hb1
  obtain ⟨x,m',rfl⟩:∃ x m',m=x::m':=by cases m with | nil=>exact absurd hm.symm l1 | cons x m'=>exact ⟨x,m',rfl⟩
  obtain ⟨g,f,rfl,hgl,hs1⟩:=hs (by simp)
  have hx:((x::m').getD 0 0).toNat=x.toNat:=rfl
  obtain ⟨k,hk⟩:=xE x.toNat
  have hk2:k<256:=by rw [hk]; exact x.toNat_lt
  refine sU<|Sy.skip<|sB<|sp U<|sS (.pointer (some ⟨g,f+0*1,none⟩)) (Quiet.pure (Af 29 _ _ _ (some ⟨g,f,none⟩) g f n cp 0 1 .i64 U U U U EM kF om))<|sS (bv x) (Quiet.thereOne g (f+0*1) 5 _ _ U kR hgl _ (by have h:=hs1 0 _ rfl; rw [Nat.zero_mul,Nat.add_zero]; rw [Nat.add_zero] at h; exact h) uy5 U)<|sS (iZ k) (Quiet.pure (λw=>by rw [hk]; exact Ug w _ _ _ x U U))<|sp U<|sG<|Sy.seq<|sC ?_
  obtain ⟨b2,hb2⟩:=xE (decide (k<1))
  refine sp U<|sS (.bool b2) (qls U U U hb2)<|sp U ?_
  cases b2
  ·have l2:=dN hb2
   obtain ⟨b3,hb3⟩:=xE (decide (k>32))
   refine sp U<|sS (.bool b3) (qgt U U U hb3)<|sP (.bool b3)<|sp U ?_
   cases b3
   ·have l3:=dN hb3
    obtain ⟨b4,hb4⟩:=xE (decide (n≠161*k))
    refine sp U<|sP (iZ n)<|sp U<|sS (iZ (161*k)) (qf (λw=>Tz w k om om))<|sS (.bool b4) (qne U U U hb4)<|sP (.bool b4)<|sG ?_
    cases b4
    ·have l4:n=161*k:=Decidable.of_not_not (of_decide_eq_false hb4.symm)
     have e0:dgN (x::m')=k:=by unfold dgN; rw [hx, ← hk,if_pos ⟨by omega,by omega,by omega⟩]
     rw [e0]
     refine sU<|Sy.skip<|sB<|sp U<|sp U<|sG<|Sy.ret ?_
     exact rV (iZ k) rfl
    ·have l4:=dY hb4
     have e0:dgN (x::m')=0:=by unfold dgN; rw [hx, ← hk,if_neg om]
     rw [e0]
     refine sT<|sC<|sp U<|sG<|Sy.ret<|Sy.then_ret ?_
     exact rV (.int .i64 0) rfl
   ·have l3:=dY hb3
    have e0:dgN (x::m')=0:=by unfold dgN; rw [hx, ← hk,if_neg om]
    rw [e0]
    refine sN<|sN<|sN<|sN<|sN<|sP (.bool true)<|sG<|sT<|sC<|sp U<|sG<|Sy.ret<|Sy.then_ret ?_
    exact rV (.int .i64 0) rfl
  ·have l2:=dY hb2
   have e0:dgN (x::m')=0:=by unfold dgN; rw [hx, ← hk,if_neg om]
   rw [e0]
   refine sN<|sN<|sP (.bool true)<|sp U<|sN<|sN<|sN<|sN<|sN<|sP (.bool true)<|sG<|sT<|sC<|sp U<|sG<|Sy.ret<|Sy.then_ret ?_
   exact rV (.int .i64 0) rfl
theorem KI (w:World) (B:Option Addr) (m:AF) (n cp:Nat) (hm:m.length=n) (hcp:n≤cp) (hcp2:cp≤9223372036854775807) (hs:Sh.Src w B m):AY 14 #[.slice B n cp] w (Gets w (iZ (2*dgN m))):=by
 have l1:=UY m
 obtain ⟨k,hk⟩:=xE (dgN m)
 rw [← hk] at l1 ⊢
 refine Sy.enter (args:=[.slice B n cp]) Tryz.func14 U kL<|sC<|sp U<|sA<|sp U<|sS (iZ k) (qg (λw hw=>by rw [hk]; exact KE w B m n cp hm hcp hcp2 (hs.below hw.below)))<|sS (iZ (2*k)) (qml U U U)<|sp U<|sG<|Sy.ret ?_
 exact rV (iZ (2*k)) U
end Cu
end
end Go.Proofs.YtgemfpnlnipfnabGreatDoor
