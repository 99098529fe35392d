/-
  Texts of ours, put together: RingAA, OwnE, OwnE2, NRow, ScSum, ScAlive, ScInvL, RingAN, RingAB, RingAC, RingVerifiesL, RingAO, RingBackL.
-/
import Derived.Test.YtbjmjcpdonochaaGreatDoorBK7
set_option linter.unusedVariables false
set_option linter.unusedSimpArgs false
set_option maxRecDepth 100000
set_option maxHeartbeats 4000000
namespace Go.Proofs.YtbjmjcpdonochaaGreatDoor
section
namespace Cu
open Go.RowKit Sy
noncomputable def RM:TypeInfo:=(Tryz.prog.info? 44).getD default
theorem OD:Tryz.prog.info? 44=some RM:=kZ
theorem MI (bm sd:List UInt8) (i:Nat) (s:Nat→Nat) (n:Nat) (e:Nat→Nat) (X Y:Nat→Nat) (I:Nat→Bool):∃ z x,G0 bm sd i s n e X Y I=.tuple #[C5 z x,.bool (Cd bm sd i s n e X Y I)]∧(true=Cd bm sd i s n e X Y I→z=((atI bm sd i s n:Nat):Int)∧x=opX bm sd i s e (atI bm sd i s n)):=by
 cases h:Cd bm sd i s n e X Y I with
 | true=>exact ⟨_,_,JP h U,λ_=>⟨rfl,rfl⟩⟩
 | false=>exact ⟨_,_,Fn h,λh=>by cases h⟩
section
variable (bm sd:List UInt8) (nk:Nat→Nat) (s e:Nat→Nat→Nat) (X Y:Nat→Nat→Nat) (I:Nat→Nat→Bool)
noncomputable def GU (i:Nat):Bool:=Cd bm sd i (s i) (nk i) (e i) (X i) (Y i) (I i)
noncomputable def G3 (NR:Nat):Bool:=(List.range NR).all (GU bm sd nk s e X Y I)
noncomputable def Jc (i:Nat):Int:=((atI bm sd i (s i) (nk i):Nat):Int)
noncomputable def Ny (i:Nat):Nat:=opX bm sd i (s i) (e i) (atI bm sd i (s i) (nk i))
end
section
variable {bm sd:List UInt8} {nk:Nat→Nat} {s e:Nat→Nat→Nat} {X Y:Nat→Nat→Nat} {I:Nat→Nat→Bool} {NR:Nat}
theorem PW {k:Nat} (hk:k<NR) (h:GU bm sd nk s e X Y I k=false):G3 bm sd nk s e X Y I NR=false:=List.all_eq_false.2 ⟨k,List.mem_range.2 hk,by rw [h]; decide⟩
theorem Jb (h:∀ k,k<NR→GU bm sd nk s e X Y I k=true):G3 bm sd nk s e X Y I NR=true:=List.all_eq_true.2 λi hi=>h i (List.mem_range.1 hi)
end
def SecsR (b:Bool) (f:Nat→List Value) (N:Nat) (v:Value) (M:AD):Prop:=(b=false∧v=.tuple #[.slice none 0 0,.bool false]∧M=[])∨(b=true∧∃ y:Slc,v=.tuple #[y.v,.bool true]∧M=y.bl∧y.Is 44 5 ((List.range N).map f))
theorem IL (w:World) (R:Option Addr) (NR cR:Nat) (a:Nat→Option Addr) (nk ck:Nat→Nat) (X Y:Nat→Nat→Nat) (I:Nat→Nat→Bool) (hX:∀ i k,X i k<K4) (hY:∀ i k,Y i k<K4) (hNR:NR≤4611686018427387904) (hnk:∀ i,nk i≤4611686018427387904) (hlr:Lst w 1 R NR (λi=>[.slice (a i) (nk i) (ck i)])) (hlk:∀ i,i<NR→Lst w 9 (a i) (nk i) (λk=>pml (X i k) (Y i k) (I i k))) (hN32:NR≤32) (hn64:∀ i,i<NR→nk i≤64) (bm:List UInt8) (hbm:bm.length=32) (sd:List UInt8) (hsd:sd.length=32) (W:Option Addr) (cW:Nat) (sa:Nat→Option Addr) (sc:Nat→Nat) (s:Nat→Nat→Nat) (hsc:∀ i k,s i k<K4) (hlw:Lst w 1 W NR (λi=>[.slice (sa i) (nk i) (sc i)])) (hls:∀ i,i<NR→Lst w 4 (sa i) (nk i) (λk=>fws (s i k))) (V:Option Addr) (cV:Nat) (va:Nat→Option Addr) (vc:Nat→Nat) (e:Nat→Nat→Nat) (he4:∀ i k,e i k<K4) (hlv:Lst w 1 V NR (λi=>[.slice (va i) (nk i) (vc i)])) (hlv4:∀ i,i<NR→Lst w 4 (va i) (nk i) (λk=>fws (e i k))) (ht:Sh.TabAt w 1):Calls Tryz.prog 41 #[Aw R NR cR bm,.agg (sd.map bv).toArray,.slice W NR cW,.slice V NR cV] w (GetsN w (SecsR (G3 bm sd nk s e X Y I NR) (λi=>Aq (Jc bm sd nk s i) (Ny bm sd nk s e i)) NR)):=by
 have hlr0:=hlr
 obtain ⟨gR,oR,hR⟩:=hlr
 obtain ⟨gW,oW,hW⟩:=hlw
 obtain ⟨gV,oV,hV⟩:=hlv
 refine Sy.enter (args:=[Aw R NR cR bm,.agg (sd.map bv).toArray,.slice W NR cW,.slice V NR cV]) Tryz.func41 U kL<|sC<|sM 79 (Ag R NR cR bm).toArray (λg0=>?_)
 refine sM 23 (sd.map bv).toArray (λg1=>?_)
 refine sP (.slice none 0 0)<|sP (.bool false)<|sA<|sP (.slice none 0 0)<|sG<|Sy.seq<|sC<|sP (.slice W NR cW)<|sP (iZ NR)<|sP (.int .i64 0)<|sG<|Sy.block<|Sy.loopT (Y:=Slc) NR (λk1 y1=>[(2,.slice W NR cW),(3,.slice V NR cV),(4,pT g0 0),(5,pT g1 0),(10,y1.v),(15,.slice W NR cW),(16,iZ NR),(17,iZ k1)]) (λk1 y1=>[(g0,79,(Ag R NR cR bm).toArray),(g1,23,(sd.map bv).toArray)]++(y1.bl++([]))) (λk1 y1=>y1.Is 44 5 ((List.range k1).map (λi=>Aq (Jc bm sd nk s i) (Ny bm sd nk s e i)))∧∀ i,i<k1→GU bm sd nk s e X Y I i=true) nilS ⟨Slc.Is.nil _ _,λi hi=>absurd hi (Nat.not_lt_zero _)⟩ ac8 (λw hw=>hw) (λk1 y1 hk1 hh1=>?_)
 refine sC ?_
 obtain ⟨b1,hb1⟩:=xE (decide (k1<NR))
 refine sS (.bool b1) (qls U U U hb1)<|sG<|Sy.seq ?_
 cases b1
 ·have lb1:=dN hb1
  refine sU<|Sy.exit<|Sy.then_exit<|Sy.then_exit ?_
  obtain rfl:NR=k1:=om
  refine Sy.in_exit<|sB<|sP (y1.v)<|sP (y1.v)<|sP (.bool true)<|sG<|Sy.ret ?_
  exact CA y1.bl U (v:=y1.v) (u:=.bool true) (.inl (show _=_ by kernel_rfl)) (.inl (show _=_ by kernel_rfl)) (λw hw=>St.parts (ls:=[[(g0,79,(Ag R NR cR bm).toArray)],[(g1,23,(sd.map bv).toArray)],y1.bl]) (ms:=[y1.bl]) [[(g0,79,(Ag R NR cR bm).toArray)],[(g1,23,(sd.map bv).toArray)]] [2,0,1] kR (by rfl) (by rfl) (by simp) hw) (.inr ⟨Jb hh1.2,y1,rfl,rfl,hh1.1⟩)
 ·have lb1:=dY hb1
  have hnk1:=hn64 k1 lb1
  obtain ⟨gS,oS,hS⟩:=hls k1 lb1
  obtain ⟨gU,oU,hU⟩:=hlv4 k1 lb1
  refine sT<|Sy.skip<|Sy.then_<|Sy.seq<|Sy.block<|sC<|sP (iZ k1)<|sS (.pointer (some ⟨gW,oW+k1*1,none⟩)) (Quiet.pure (AJ 29 _ _ _ W gW oW NR cW k1 1 .i64 (hW om).1 U U U CK kF om))<|sS (.slice (sa k1) (nk k1) (sc k1)) (Quiet.thereOne gW (oW+k1*1) 51 _ _ U kR (hW om).2.1 _ (AV ((hW om).2.2 k1 om) 0 U) Ca U)<|sP (iZ k1)<|sP (.slice (sa k1) (nk k1) (sc k1))<|sH (λj=>j == 13) ?_
  refine sD 0 U (Aw R NR cR bm) (Quiet.load 0 g0 0 33 79 79 (Ag R NR cR bm).toArray _ _ U kR kR DF U kR _ (Az hbm) (A7 hbm))<|sD 1 U (.agg (sd.map bv).toArray) (Quiet.load 1 g1 0 32 23 23 (sd.map bv).toArray _ _ U kR kR C8 U kR _ (BK sd hsd) (Bj sd hsd))<|sZ 2 U (iZ k1)<|sZ 3 U (.slice (sa k1) (nk k1) (sc k1))<|sZ 4 U (.slice V NR cV)<|sZ 5 U (iZ k1)<|sD 6 U (.pointer (some ⟨gV,oV+k1*1,none⟩)) (Quiet.pure (AJ 29 _ _ _ V gV oV NR cV k1 1 .i64 (hV om).1 U U U CK kF om))<|sD 7 U (.slice (va k1) (nk k1) (vc k1)) (Quiet.thereOne gV (oV+k1*1) 51 _ _ U kR (hV om).2.1 _ (AV ((hV om).2.2 k1 om) 0 U) Ca U) ?_
  obtain ⟨bz,hbz⟩:=xE (GU bm sd nk s e X Y I k1)
  obtain ⟨zz,xx,hsf,hsv⟩:=MI bm sd k1 (s k1) (nk k1) (e k1) (X k1) (Y k1) (I k1)
  refine sD 8 U (.tuple #[C5 zz xx,.bool bz]) (Quiet.callS 107 #[Aw R NR cR bm,.agg (sd.map bv).toArray,iZ k1,.slice (sa k1) (nk k1) (sc k1),.slice (va k1) (nk k1) (vc k1)] kF (λw hw=>by rw [hbz]; unfold GU; rw [← hsf]; exact JO w R NR cR a nk ck X Y I hX hY hNR hnk (hlr0.below hw.below) (λi hi=>(hlk i hi).below hw.below) bm hbm sd hsd k1 om om (sa k1) (nk k1) (sc k1) (s k1) (hsc k1) ((hls k1 om).below hw.below) (va k1) (nk k1) (vc k1) (e k1) (he4 k1) ((hlv4 k1 om).below hw.below) om (Nat.le_refl _) (Nat.le_refl _) (ht.below hw.below ht.lt)))<|sZ 9 U (.tuple #[C5 zz xx,.bool bz])<|sZ 10 U (C5 zz xx)<|Sy.stepDA 11 U kR (λ_ _ _ _ h=>h) kR (.bool bz) kF<|sO 12 U 44 (Aq 0 0).toArray (λg2=>?_)
  refine Sy.movTD<|sX 13 U 2 g2 44 (Aq 0 0).toArray (Aq zz xx).toArray (Writes.row 44 (Aq zz xx) 5 _ _ U kR kR kR U U (D0 _ _))<|Sy.setTD<|Sy.anyOf [14] kR dZ (Sy.each1 ?_)
  refine Sy.oneQuiet U kR (.bool bz) qP<|sI<|Sy.seq<|sC<|sP (.bool bz) ?_
  cases bz
  ·refine sP (.bool true) ?_
   refine sG<|sT<|sC<|sP (.slice none 0 0)<|sP (.bool false)<|sG<|Sy.ret<|Sy.then_ret<|Sy.in_ret<|Sy.then_ret<|Sy.then_ret<|Sy.in_ret<|Sy.then_ret ?_
   exact CA [] rfl (v:=.slice none 0 0) (u:=.bool false) (.inl (show _=_ by kernel_rfl)) (.inl (show _=_ by kernel_rfl)) (λ_ hw=>hw.none) (.inl ⟨PW (k:=k1) (by assumption) hbz.symm,rfl,rfl⟩)
  ·have hsy:true=GU bm sd nk s e X Y I k1:=hbz
   refine sP (.bool false)<|sG<|sU<|Sy.skip<|Sy.then_<|Sy.region<|sP (y1.v)<|sS (C5 zz xx) (Quiet.load 2 g2 0 5 44 44 (Aq zz xx).toArray _ _ U kR kR I' U kR _ U (Nat.le_refl _))<|Sy.make kR 44 (Aq zz xx).toArray (λg=>.slice (pA g) 1 1) kF (λg3=>?_)
   refine Sy.movT<|Sy.appendR kR 26 44 _ _ 5 40 C4 OD U U U U dZ _ _ U hh1.1 kR (Aq zz xx) rfl (D0 _ _) 3 g3 44 kR kR (by rw [List.length_map,List.length_range]; omega) (by rw [List.length_map,List.length_range]; simp only [maxLen]; omega) (λr1 hr1=>?_)
   refine sP (r1.v)<|Sy.nil<|Sy.in_<|Sy.then_<|Sy.region<|sS (iZ (k1+1)) (qad U U U)<|sP (iZ (k1+1))<|Sy.nil ?_
   exact Sy.againT (r1) om (⟨by rw [List.range_succ,List.map_append]; obtain ⟨e1,e2⟩:=hsv hsy; rw [e1,e2] at hr1; exact hr1,λi hi=>(Nat.lt_succ_iff_lt_or_eq.1 hi).elim (hh1.2 i) (λh=>by subst h; exact hsy.symm)⟩) ac8 (λw hw=>St.parts (ls:=[[(g0,79,(Ag R NR cR bm).toArray)],[(g1,23,(sd.map bv).toArray)],[(g2,44,(Aq zz xx).toArray)],[(g3,44,(Aq zz xx).toArray)],r1.bl]) (ms:=[[(g0,79,(Ag R NR cR bm).toArray)],[(g1,23,(sd.map bv).toArray)],r1.bl]) [[(g2,44,(Aq zz xx).toArray)],[(g3,44,(Aq zz xx).toArray)]] [0,1,4,2,3] kR (by rfl) (by rfl) (by rfl) hw)
end Cu
end
section
section
open Go.RowKit
section
variable {w w':World} {e:TypeId} {size base:Nat} {v:Value} {xs:List (List Value)}
end
end
end
section
section
open Go.RowKit
end
end
section
section
open Go.RowKit
section
variable {P:Program} {ops:Array Oper}
end
end
end
section
namespace Sc
open Go.RowKit Go.Lib
end Sc
end
section
namespace Sc
open Go.RowKit Go.Lib
end Sc
end
section
namespace Sc
open Go.RowKit Go.Lib
theorem Ik (p q a:Nat) (hp:Nt.Pr p) (hq:q+1=p - 1) (h:a%p≠0):a*(a ^ q%p)%p=1:=by
 rw [Nat.mul_mod_mod, ← Nat.pow_succ',show q.succ=p - 1 from hq]
 exact Nt.flt hp a h
theorem Nq:Nt.Pr pM:=Nt.pr_n
theorem inv_one (a:Nat) (h:a%pM≠0):mulP a (pw a (115792089237316195423570985008687907852837564279074904382605163141518161494337 - 2))=1:=by
 obtain ⟨q,hq⟩:=xE (115792089237316195423570985008687907852837564279074904382605163141518161494337 - 2)
 rw [← hq]
 exact Ik pM q a Nq (by rw [pM_eq]; omega) h
end Sc
end
section
namespace Cu
open Go.RowKit Sy
theorem ME (a z:Nat):Sc.subP a (Sc.subP a z)=z%Sc.pM:=by
 unfold Sc.subP
 rw [Sc.pM_eq]
 omega
theorem GZ (a b:Nat):Sc.mulP (a%Sc.pM) b=Sc.mulP a b:=by
 unfold Sc.mulP
 rw [Nat.mod_mul_mod]
theorem OI (k e x:Nat) (he:e%Sc.pM≠0):Sc.mulP (Sc.subP k (Sc.subP k (Sc.mulP e x))) (ivS e)=x%Sc.pM:=by
 rw [ME,GZ,Sc.mul_comm_p e x,Sc.mul_assoc_p]
 unfold ivS
 rw [Sc.inv_one e he]
 unfold Sc.mulP
 rw [Nat.mul_one]
theorem Mb (x px py:Nat) (pi:Bool):Bc (x%Sc.pM) px py pi=Bc x px py pi:=by
 unfold Bc evP
 rw [Nat.mod_mod]
section
variable {bm sd d:List UInt8} {X Y:Nat→Nat→Nat} {I:Nat→Nat→Bool} {at_ nk sx:Nat→Nat} {i:Nat}
theorem RU (s:Nat→Nat→Nat) (i j:Nat):eE s bm X Y I d i j%Sc.pM=eE s bm X Y I d i j:=by
 unfold eE rgC
 exact Nat.mod_mod _ _
def chI (bm sd:List UInt8) (s e:Nat→Nat→Nat) (at_:Nat→Nat) (i:Nat):Bool:=decide (s i (at_ i)=rgF bm sd i (at_ i)) || decide (e i (at_ i)=0)
theorem Oi (s e:Nat→Nat→Nat) (hs:s=sgS bm sd X Y I at_ sx d) (he:e=eE s bm X Y I d) (ha:at_ i<nk i) (ho:Bc (sx i) (X i (at_ i)) (Y i (at_ i)) (I i (at_ i))=true) (hc:chI bm sd s e at_ i=false) :
  atI bm sd i (s i) (nk i)=at_ i∧opX bm sd i (s i) (e i) (at_ i)=sx i%Sc.pM∧GU bm sd nk s e X Y I i=true:=by
 unfold chI at hc
 obtain ⟨c1,c2⟩:=Bool.or_eq_false_iff.1 hc
 have c1:=of_decide_eq_false c1
 have c2:=of_decide_eq_false c2
 have h1:atI bm sd i (s i) (nk i)=at_ i:=LD _ _ _ _ (Nat.le_of_lt ha) (λj hj=>by rw [hs]; exact KQ om) (λ_=>c1)
 have h2:opX bm sd i (s i) (e i) (at_ i)=sx i%Sc.pM:=by
  unfold opX
  have e1:s i (at_ i)=Sc.subP (rgN bm sd i) (Sc.mulP (e i (at_ i)) (sx i)):=by rw [he,hs,Rt]; exact NM i
  rw [e1]
  exact OI _ _ _ (by rw [he] at c2 ⊢; rw [RU]; exact c2)
 refine ⟨h1,h2,?_⟩
 unfold GU
 exact Hc h1 ha c2 (by rw [h2,Mb]; exact ho)
theorem Kf {s e:Nat→Nat→Nat} {NR:Nat} (h:true=G3 bm sd nk s e X Y I NR) (i:Nat) (hi:i<NR) :
  atI bm sd i (s i) (nk i)<nk i∧Bc (opX bm sd i (s i) (e i) (atI bm sd i (s i) (nk i))) (X i (atI bm sd i (s i) (nk i))) (Y i (atI bm sd i (s i) (nk i))) (I i (atI bm sd i (s i) (nk i)))=true:=by
 unfold G3 at h
 have q:=List.all_eq_true.1 h.symm i (List.mem_range.2 hi)
 unfold GU Cd at q
 rw [Bool.and_eq_true,Bool.and_eq_true] at q
 exact ⟨of_decide_eq_true q.1,q.2.2⟩
end
end Cu
end
section
namespace Cu
open Go.RowKit Sy
theorem ChR.yes {f:Nat→Nat→List Value} {nk:Nat→Nat} {NR:Nat} {u:Value} {M:AD} (h:ChR true f nk NR (.tuple #[u,.bool true]) M):EG 51 42 4 f (Bz nk NR 0) NR u M:=by
 rcases h with ⟨h,_⟩ | ⟨_,u',h,q⟩
 ·cases h
 ·injection h with h
  injection h with h
  injection h with h
  subst h
  exact q
theorem SecsR.tup {b:Bool} {f:Nat→List Value} {N:Nat} {v:Value} {M:AD} (h:SecsR b f N v M):∃ u,v=.tuple #[u,.bool b]:=by
 rcases h with ⟨rfl,rfl,_⟩ | ⟨rfl,y,rfl,_⟩ <;> exact ⟨_,rfl⟩
theorem NY {w0:Base} {w:World} {L M:AD} {NR g:Nat} {nk:Nat→Nat} {s:Nat→Nat→Nat} {r:Nat→Slc} (hr:RowsAre r 42 4 (λi j=>fws (s i j)) (Bz nk NR 0)) (hM:M=(g,51,Ai r NR)::BJ r NR) (hw:St w0 w L) (hb:∀ b∈M,b∈L):Lst w 1 (pA g) NR (λi=>[.slice (slA (r i).v) (nk i) (slC (r i).v)])∧∀ i,i<NR→Lst w 4 (slA (r i).v) (nk i) (λk=>fws (s i k)):=by
 have hv:∀ i,i<NR→(r i).v=.slice (slA (r i).v) (nk i) (slC (r i).v):=λi hi=>by
  obtain ⟨A,k,h1,_⟩:=hr.lst (Cr hi) hi
  rw [h1]
  rfl
 refine ⟨?_,λi hi=>?_⟩
 ·exact F3 (IM (sp:=[]) (f:=λj=>[(r j).v]) (λ_=>rfl) hw (hb _ (by rw [hM,List.append_nil]; exact List.mem_cons_self ..))) (λi hi=>by rw [← hv i hi])
 ·obtain ⟨A,k,h1,_,_,h2⟩:=hr.lst (Cr hi) hi
  have h3:=h2 hw (λb h=>hb b (by rw [hM]; exact List.mem_cons_of_mem _ h))
  show Lst w 4 (slA (r i).v) _ _
  rw [h1]
  exact h3
theorem M4 {s:Nat→Nat→Nat} {bm:List UInt8} {X Y:Nat→Nat→Nat} {I:Nat→Nat→Bool} {d:List UInt8} {NW NR:Nat} {sn nk:Nat→Nat} (h:true=chB s bm X Y I d NW NR sn nk):NW=NR∧∀ i,i<NR→sn i=nk i:=by
 unfold chB at h
 obtain ⟨h1,h2⟩:=Bool.and_eq_true_iff.1 h.symm
 exact ⟨of_decide_eq_true h1,λi hi=>(rowOk_iff.1 (List.all_eq_true.1 (Bool.and_eq_true_iff.1 h2).1 i (List.mem_range.2 hi))).1⟩
theorem M7 (w:World) (sd:List UInt8) (hsd:sd.length=32) (A:Option Addr) (m:List UInt8) (n c:Nat) (hm:m.length=n) (hm9:n≤999000000) (hc:n≤c) (hc2:c≤9223372036854775807) (hs0:Sh.Src w A m) (R:Option Addr) (NR cR:Nat) (a:Nat→Option Addr) (nk ck:Nat→Nat) (X Y:Nat→Nat→Nat) (I:Nat→Nat→Bool) (hX:∀ i k,X i k<K4) (hY:∀ i k,Y i k<K4) (hNR:NR≤4611686018427387904) (hnk:∀ i,nk i≤4611686018427387904) (hlr:Lst w 1 R NR (λi=>[.slice (a i) (nk i) (ck i)])) (hlk:∀ i,i<NR→Lst w 9 (a i) (nk i) (λk=>pml (X i k) (Y i k) (I i k))) (hN9:NR≤17592186044416) (d:List UInt8) (hd:d.length=32) (W:Option Addr) (NW cW:Nat) (sa:Nat→Option Addr) (sn sc:Nat→Nat) (s:Nat→Nat→Nat) (hsc:∀ i k,s i k<K4) (hNW:NW≤4611686018427387904) (hsn9:∀ i,i<NW→sn i≤4611686018427387904) (hlw:Lst w 1 W NW (λi=>[.slice (sa i) (sn i) (sc i)])) (hls:∀ i,i<NW→Lst w 4 (sa i) (sn i) (λk=>fws (s i k))) (ht:Sh.TabAt w 1):Calls Tryz.prog 13 #[.agg (sd.map bv).toArray,.slice A n c,.slice R NR cR,A4 d W NW cW] w (GetsN w (SecsR (vfB m NR nk X Y I s d NW sn && G3 (rgM m NR nk X Y I) sd nk s (eE s (rgM m NR nk X Y I) X Y I d) X Y I NR) (λi=>Aq (Jc (rgM m NR nk X Y I) sd nk s i) (Ny (rgM m NR nk X Y I) sd nk s (eE s (rgM m NR nk X Y I) X Y I d) i)) NR)):=by
 have hlr0:=hlr
 obtain ⟨gR,oR,hR⟩:=hlr
 have hlw0:=hlw
 refine Sy.enter (args:=[.agg (sd.map bv).toArray,.slice A n c,.slice R NR cR,A4 d W NW cW]) Tryz.func13 U kL<|sC<|sM 23 (sd.map bv).toArray (λg0=>?_)
 refine sM 31 (AZ d W NW cW).toArray (λg1=>?_)
 refine sP (.slice none 0 0)<|sP (.bool false)<|sG<|Sy.seq<|sC<|sP (.slice R NR cR) ?_
 obtain ⟨b1,hb1⟩:=xE (De NR nk X Y I)
 refine sS (.bool b1) (qG 36 #[.slice R NR cR] (λw hw=>by rw [hb1]; exact EW w R NR cR a nk ck X Y I hX hY hNR hnk (hlr0.below hw.below) (λi hi=>(hlk i hi).below hw.below) hN9)) ?_
 cases b1
 ·refine sP (.bool true) ?_
  refine sG<|sT<|sC<|sP (.slice none 0 0)<|sP (.bool false)<|sG<|Sy.ret<|Sy.then_ret ?_
  exact CA [] rfl (v:=.slice none 0 0) (u:=.bool false) (.inl (show _=_ by kernel_rfl)) (.inl (show _=_ by kernel_rfl)) (λ_ hw=>hw.none) (.inl ⟨by unfold vfB; rw [← hb1]; rfl,rfl,rfl⟩)
 ·obtain ⟨hN32,hn64,hn1,hN1⟩:=D1 hb1
  refine sP (.bool false)<|sG<|sU<|Sy.skip<|sB<|sP (.slice A n c)<|sP (.slice R NR cR) ?_
  obtain ⟨bM,hbM⟩:=xE (rgM m NR nk X Y I)
  have hbl:bM.length=32:=by rw [hbM]; exact D2 _ _ _ _ _ _
  refine sS (Aw R NR cR bM) (qG 38 #[.slice A n c,.slice R NR cR] (λw hw=>by rw [hbM]; exact Gs w R NR cR a nk ck X Y I hX hY hNR hnk (hlr0.below hw.below) (λi hi=>(hlk i hi).below hw.below) hN32 hn64 A m n c hm hm9 hc hc2 (hs0.below hw.below) (ht.below hw.below ht.lt)))<|sM 79 (Ag none 0 0 (List.replicate 32 (0:UInt8))).toArray (λg2=>?_)
  refine sW 2 g2 79 (Ag none 0 0 (List.replicate 32 (0:UInt8))).toArray (Ag R NR cR bM).toArray (Writes.row 79 (Ag R NR cR bM) 33 _ _ U kR kR kR (Gq _ _ _ hbl) kR (KC _ _ _ _))<|sA<|sS (Aw R NR cR bM) (Quiet.load 2 g2 0 33 79 79 (Ag R NR cR bM).toArray _ _ U kR kR DF U kR _ (Az hbl) (A7 hbl))<|sS (A4 d W NW cW) (Quiet.load 1 g1 0 33 31 31 (AZ d W NW cW).toArray _ _ U kR kR Gz U kR _ (C_ hd) (E7 hd)) ?_
  obtain ⟨b2,hb2⟩:=xE (chB s bM X Y I d NW NR sn nk)
  refine Sy.callN kR 40 #[Aw R NR cR bM,A4 d W NW cW] kF (ChR b2 (eF s bM X Y I d) nk NR) (λw hw=>by rw [hb2]; exact Dc w R NR cR a nk ck X Y I hX hY hNR hnk (hlr0.below hw.below) (λi hi=>(hlk i hi).below hw.below) hN32 hn64 hn1 bM hbl d hd W NW cW sa sn sc s hsc hNW hsn9 (hlw0.below hw.below) (λi hi=>(hls i hi).below hw.below) (ht.below hw.below ht.lt)) (λvq Mq hR0=>?_)
  obtain ⟨u,rfl⟩:=hR0.tup
  obtain ⟨M1,rfl⟩:=xE Mq
  have hR9:=hR0
  refine Sy.permS (M:=[(g0,23,(sd.map bv).toArray),(g1,31,(AZ d W NW cW).toArray),(g2,79,(Ag R NR cR bM).toArray)]++(M1++([]))) (by rw [List.append_nil]; exact List.Perm.refl _)<|sP (.tuple #[u,.bool b2])<|sP (u)<|sP (.bool b2)<|sP (u)<|sP (.bool b2)<|sG<|Sy.seq<|sC<|sP (.bool b2) ?_
  cases b2
  ·refine sP (.bool true) ?_
   refine sG<|sT<|sC<|sP (.slice none 0 0)<|sP (.bool false)<|sG<|Sy.ret<|Sy.then_ret ?_
   exact CA [] rfl (v:=.slice none 0 0) (u:=.bool false) (.inl (show _=_ by kernel_rfl)) (.inl (show _=_ by kernel_rfl)) (λ_ hw=>hw.none) (.inl ⟨by unfold vfB; rw [← hb1, ← hbM, ← hb2]; rfl,rfl,rfl⟩)
  ·obtain ⟨hNN,hsn⟩:=M4 hb2
   obtain rfl:NR=NW:=hNN.symm
   obtain ⟨gE,rE,rfl,hMq,hrE⟩:=hR9.yes
   refine sP (.bool false)<|sG<|sU<|Sy.skip<|sB<|sS (Aw R NR cR bM) (Quiet.load 2 g2 0 33 79 79 (Ag R NR cR bM).toArray _ _ U kR kR DF U kR _ (Az hbl) (A7 hbl))<|sS (.agg (sd.map bv).toArray) (Quiet.load 0 g0 0 32 23 23 (sd.map bv).toArray _ _ U kR kR C8 U kR _ (BK sd hsd) (Bj sd hsd))<|sP (pT g1 32)<|sS (.slice W NR cW) (Quiet.cell 1 g1 32 31 29 (AZ d W NR cW).toArray _ _ U kR kR CK U _ (Db hd))<|sP ((.slice (pA gE) NR NR)) ?_
   obtain ⟨b3,hb3⟩:=xE (G3 bM sd nk s (eE s bM X Y I d) X Y I NR)
   refine Sy.callN kR 41 #[Aw R NR cR bM,.agg (sd.map bv).toArray,.slice W NR cW,(.slice (pA gE) NR NR)] kF (SecsR b3 (λi=>Aq (Jc bM sd nk s i) (Ny bM sd nk s (eE s bM X Y I d) i)) NR) (λw hw=>by have hq:=NY (s:=eE s bM X Y I d) hrE hMq hw (λb hb=>(List.mem_append.2 (.inr (List.mem_append.2 (.inl hb))))); rw [hb3]; exact IL w R NR cR a nk ck X Y I hX hY hNR hnk (hlr0.below hw.below) (λi hi=>(hlk i hi).below hw.below) hN32 hn64 bM hbl sd hsd W cW sa sc s hsc (F3 (hlw0.below hw.below) (λi hi=>by rw [hsn i hi])) (λi hi=>by rw [← hsn i hi]; exact (hls i hi).below hw.below) (pA gE) NR _ _ (eE s bM X Y I d) (λi k=>Qd i k) hq.1 hq.2 (ht.below hw.below ht.lt)) (λvq Mq hR0=>?_)
   obtain ⟨u2,rfl⟩:=hR0.tup
   obtain ⟨M2,rfl⟩:=xE Mq
   have hR2:=hR0
   refine Sy.permS Sy.end_front<|sP (u2)<|sP (.bool b3)<|sP (u2)<|sP (.bool b3)<|sG<|Sy.ret ?_
   rw [show (vfB m NR nk X Y I s d NR sn && G3 (rgM m NR nk X Y I) sd nk s (eE s (rgM m NR nk X Y I) X Y I d) X Y I NR)=b3 from by unfold vfB; rw [← hb1, ← hbM, ← hb2, ← hb3]; rfl, ← hbM]
   exact CA M2 U (v:=u2) (u:=.bool b3) (.inl (show _=_ by kernel_rfl)) (.inl (show _=_ by kernel_rfl)) (λw hw=>St.parts (ls:=[[(g0,23,(sd.map bv).toArray)],[(g1,31,(AZ d W NR cW).toArray)],[(g2,79,(Ag R NR cR bM).toArray)],M2,M1]) (ms:=[M2]) [[(g0,23,(sd.map bv).toArray)],[(g1,31,(AZ d W NR cW).toArray)],[(g2,79,(Ag R NR cR bM).toArray)],M1] [3,0,1,2,4] kR (by rfl) (by rfl) (by simp) hw) hR2
end Cu
end
section
namespace Cu
open Go.RowKit Sy
section
variable {bm sd:List UInt8} {i n k p:Nat} {s:Nat→Nat}
end
end Cu
end
section
namespace Cu
open Go.RowKit Sy
def uB (b:Bool) (N:Nat):Nat:=if b then N else 0
theorem Rm {b:Bool} {N:Nat}:uB b N≤N:=by unfold uB; split; exact Nat.le_refl _; exact Nat.zero_le _
end Cu
end
section
namespace Cu
open Go.RowKit Sy
def LstU (w0:Base) (s:Nat) (A:Option Addr) (n:Nat) (el:Nat→List Value) (M:AD):Prop:=∃ g o,(0<n→A=some ⟨g,o,none⟩)∧∀ (w:World) (L:AD),St w0 w L→(∀ b∈M,b∈L)→0<n→g<w.heap.size∧∀ j,j<n→w.rangeAt g (o+j*s) (el j)
section
variable {w0:Base} {s n:Nat} {A:Option Addr} {el:Nat→List Value} {M:AD}
theorem LstU.lst (h:LstU w0 s A n el M) {w:World} {L:AD} (hw:St w0 w L) (hb:∀ b∈M,b∈L):Lst w s A n el:=by
 obtain ⟨g,o,h1,h2⟩:=h
 exact ⟨g,o,λhn=>⟨h1 hn,h2 w L hw hb hn⟩⟩
theorem LstU.none (hn:n=0):LstU w0 s A n el M:=⟨0,0,λh=>absurd h om,λ_ _ _ _ h=>absurd h om⟩
theorem LstU.ext {e':Nat→List Value} (h:LstU w0 s A n el M) (he:∀ i,i<n→el i=e' i):LstU w0 s A n e' M:=by
 obtain ⟨g,o,h1,h2⟩:=h
 exact ⟨g,o,h1,λw L hw hb hn=>⟨(h2 w L hw hb hn).1,λj hj=>by rw [← he j hj]; exact (h2 w L hw hb hn).2 j hj⟩⟩
end
theorem NJ {w0:Base} {r:Slc} {e:TypeId} {sz:Nat} {xs:List (List Value)} {M:AD} (h:r.Is e sz xs) (hM:∀ b∈r.bl,b∈M):∃ A c,r.v=.slice A xs.length c∧xs.length≤c∧LstU w0 sz A xs.length (λi=>xs.getD i []) M:=by
 have h0:=h
 rcases h.row with ⟨rfl,rfl⟩ | ⟨g,cap,sp,rfl,h1,h2,h3⟩
 ·exact ⟨none,0,rfl,Nat.le_refl _,LstU.none U⟩
 ·refine ⟨some ⟨g,0,none⟩,cap,rfl,h2,g,0,λ_=>rfl,λw L hw hb hn=>?_⟩
  obtain ⟨A,c,e1,_,_,h4⟩:=h0.out
  obtain ⟨rfl,_⟩:some ⟨g,0,none⟩=A∧cap=c:=by
   have q:=e1
   injection q with q1 q2 q3
   exact ⟨q1,q3⟩
  obtain ⟨g',o',h5⟩:=h4 hw (λb hb2=>hb b (hM b hb2))
  obtain ⟨e2,h6⟩:=h5 hn
  injection e2 with e2
  injection e2 with e3 e4 e5
  subst e3 e4
  exact h6
def SW (w0:Base) (b:Bool) (N:Nat) (At:Nat→Int) (x:Nat→Nat) (v:Value) (M:AD):Prop:=∃ (A:Option Addr) (c:Nat),v=.tuple #[.slice A N c,.bool b]∧LstU w0 5 A N (λi=>Aq (At i) (x i)) M
theorem SecsR.uniV {w0:Base} {b:Bool} {At:Nat→Int} {x:Nat→Nat} {N:Nat} {v:Value} {M:AD} (h:SecsR b (λi=>Aq (At i) (x i)) N v M):SW w0 b (uB b N) At x v M:=by
 rcases h with ⟨rfl,rfl,rfl⟩ | ⟨rfl,y,rfl,rfl,hy⟩
 ·exact ⟨none,0,rfl,LstU.none U⟩
 ·obtain ⟨A,c,h1,_,h2⟩:=NJ (w0:=w0) hy (λb hb=>hb)
  have hl:((List.range N).map λi=>Aq (At i) (x i)).length=N:=by rw [List.length_map,List.length_range]
  rw [hl] at h1 h2
  exact ⟨A,c,by rw [h1]; rfl,h2.ext (λi hi=>by rw [List.getD_eq_getElem?_getD,List.getElem?_map,List.getElem?_range hi]; rfl)⟩
def SV (w0:Base) (d:List UInt8) (N:Nat) (nk:Nat→Nat) (s:Nat→Nat→Nat) (en:Int) (v:Value) (M:AD):Prop:=∃ (W:Option Addr) (c:Nat) (sa:Nat→Option Addr) (sc:Nat→Nat),v=.tuple #[A4 d W N c,.int .i64 en]∧(∀ i,i<N→nk i≤sc i)∧LstU w0 1 W N (λi=>[.slice (sa i) (nk i) (sc i)]) M∧∀ i,i<N→LstU w0 4 (sa i) (nk i) (λk=>fws (s i k)) M
theorem SgnR.uniV {w0:Base} {br bf:Bool} {d:List UInt8} {s:Nat→Nat→Nat} {nk:Nat→Nat} {NR:Nat} {v:Value} {M:AD} (h:SgnR br bf d (λi j=>fws (s i j)) nk NR v M):SV w0 (uD br bf d) (uN br bf NR) nk s (uE br bf) v M:=by
 rcases h with ⟨rfl,rfl,rfl⟩ | ⟨rfl,rfl,rfl,rfl⟩ | ⟨rfl,rfl,u,rfl,g,r,rfl,rfl,hr⟩
 ·exact ⟨none,0,λ_=>none,λ_=>0,rfl,λi hi=>absurd hi (Nat.not_lt_zero _),LstU.none U,λi hi=>absurd hi (Nat.not_lt_zero _)⟩
 ·exact ⟨none,0,λ_=>none,λ_=>0,rfl,λi hi=>absurd hi (Nat.not_lt_zero _),LstU.none U,λi hi=>absurd hi (Nat.not_lt_zero _)⟩
 ·have hv:∀ i,i<NR→(r i).v=.slice (slA (r i).v) (nk i) (slC (r i).v)∧nk i≤slC (r i).v∧LstU w0 4 (slA (r i).v) (nk i) (λk=>fws (s i k)) ((g,51,Ai r NR)::BJ r NR):=λi hi=>by
   obtain ⟨A,k,h1,h2,h3⟩:=NJ (w0:=w0) (hr i) (M:=(g,51,Ai r NR)::BJ r NR) (λb hb=>List.mem_cons_of_mem _ (List.mem_flatMap.2 ⟨i,List.mem_range.2 hi,hb⟩))
   rw [List.length_map,List.length_range,Cr hi] at h1 h2 h3
   rw [h1]
   exact ⟨rfl,h2,h3.ext (λj hj=>by rw [List.getD_eq_getElem?_getD,List.getElem?_map,List.getElem?_range hj]; rfl)⟩
  refine ⟨_,NR,λi=>slA (r i).v,λi=>slC (r i).v,rfl,λi hi=>(hv i hi).2.1,⟨g,0,λ_=>rfl,λw L hw hb hn=>?_⟩,λi hi=>(hv i hi).2.2⟩
  have q:=IM (sp:=[]) (f:=λj=>[(r j).v]) (m:=NR) (sz:=1) (λ_=>rfl) hw (hb (g,51,(AQ (λj=>[(r j).v]) NR++[]).toArray) (by rw [List.append_nil]; exact List.mem_cons_self ..))
  obtain ⟨g',o',h5⟩:=q
  obtain ⟨e2,h6,h7⟩:=h5 hn
  injection e2 with e2
  injection e2 with e3 e4 e5
  subst e3 e4
  exact ⟨h6,λj hj=>by
   have h8:w.rangeAt g (0+j*1) [(r j).v]:=h7 j hj
   rw [(hv j hj).1] at h8
   exact h8⟩
section
variable {P:Program} {w0:Base} {F:AM} {L:AD} {o:Oper}
theorem PB (g f k:Nat) (ty:TypeId) (cs:List Value) (d:TypeDesc) (x:Operand) (ho:o.op=.load ty x) (hx:evF F x=pT g f) (hr:∀ w,St w0 w L→w.rangeAt g f cs)
  (hu:P.underlying ty=some d) (hd:d.isRow=true) (hi:(P.info? ty).map (·.size)=some k) (hk:cs.length=k) (v:Value) (hv:Value.agg cs.toArray=v):Quiet P w0 F L o v:=λw hw=>by
 have hl:=run_loadVar_mid (P:=P) w g f ty cs d (hr w hw) hu hd (by rw [hi,hk])
 unfold Gives execOp
 simp only [ho,hx,Instr.loadAt,Instr.sureAddr,Sem.run_bind,Sem.run_pure,Result.andThen_ok,hl]
 exact ⟨hv,Gr.refl _⟩
theorem Hh (g f:Nat) (ty:TypeId) (d:TypeDesc) (x:Operand) (ho:o.op=.load ty x) (hx:evF F x=pT g f) (v:Value) (hr:∀ w,St w0 w L→w.cell? ⟨g,f,none⟩=some v)
  (hu:P.underlying ty=some d) (hd:d.isRow=false):Quiet P w0 F L o v:=λw hw=>by
 have hc:=hr w hw
 have ha:(isAgg ty).run P w=.ok false w:=by
  cases d <;> first | (cases hd; done) | simp [isAgg,underlying,hu]
 unfold Gives execOp
 simp only [ho,hx,Instr.loadAt,Instr.sureAddr,Sem.run_bind,Sem.run_pure,Result.andThen_ok,loadVar,ha,Bool.false_eq_true,if_false,run_load,hc]
 exact ⟨trivial,Gr.refl _⟩
end
end Cu
end
section
namespace Cu
open Go.RowKit Sy
def chA (f:Nat→Bool):Nat→Bool
 | 0=>false
 | k+1=>chA f k || f k
theorem Od {f:Nat→Bool}:∀ {k},chA f k=false→∀ i,i<k→f i=false
 | 0,_,i,hi=>absurd hi (Nat.not_lt_zero _)
 | k+1,h,i,hi=>by
  have q:=Bool.or_eq_false_iff.1 (show (chA f k || f k)=false from h)
  rcases Nat.lt_succ_iff_lt_or_eq.1 hi with h1 | rfl
  ·exact Od q.1 i h1
  ·exact q.2
theorem PT {pre M N:AD} {x:Nat×TypeId×Array Value}:(((pre++M)++N)++[x]).Perm ((pre++[x])++(M++N)):=by
 simp only [List.append_assoc]
 refine List.Perm.append_left pre ?_
 rw [← List.append_assoc]
 exact List.perm_append_comm
theorem Qe {bm d:List UInt8} {X Y:Nat→Nat→Nat} {I:Nat→Nat→Bool} (s:Nat→Nat→Nat) (i j:Nat):eE s bm X Y I d i j=eC (s i) bm i (X i) (Y i) (I i) d j:=rfl
theorem law_ringback (w:World) (sd:List UInt8) (hsd:sd.length=32) (A:Option Addr) (m:List UInt8) (n c:Nat) (hm:m.length=n) (hm9:n≤999000000) (hc:n≤c) (hc2:c≤9223372036854775807) (hs0:Sh.Src w A m) (R:Option Addr) (NR cR:Nat) (a:Nat→Option Addr) (nk ck:Nat→Nat) (X Y:Nat→Nat→Nat) (I:Nat→Nat→Bool) (hX:∀ i k,X i k<K4) (hY:∀ i k,Y i k<K4) (hNR:NR≤4611686018427387904) (hnk:∀ i,nk i≤4611686018427387904) (hlr:Lst w 1 R NR (λi=>[.slice (a i) (nk i) (ck i)])) (hlk:∀ i,i<NR→Lst w 9 (a i) (nk i) (λk=>pml (X i k) (Y i k) (I i k))) (hN9:NR≤17592186044416) (S:Option Addr) (NS cS:Nat) (At:Nat→Int) (sx:Nat→Nat) (hsx:∀ i,sx i<K4) (hNS:NS≤4611686018427387904) (hls:Lst w 5 S NS (λi=>Aq (At i) (sx i))) (ht:Sh.TabAt w 1) (htr:Sh.TabAt w 0) :
  Calls Tryz.prog 3 #[csv sd [.slice A n c,.slice R NR cR,.slice S NS cS]] w (Gets w (.bool true)):=by
 obtain ⟨br,hbr⟩:=xE (De NR nk X Y I)
 obtain ⟨bf,hbf⟩:=xE (DV At sx nk X Y I NS NR)
 obtain ⟨at_,hat_⟩:∃ f:Nat→Nat,f=λi=>(At i).toNat:=⟨_,rfl⟩
 obtain ⟨bM,hbM⟩:=xE (rgM m NR nk X Y I)
 have hbMl:bM.length=32:=by rw [hbM]; exact D2 _ _ _ _ _ _
 obtain ⟨dS,hdS⟩:=xE (sgD bM sd X Y I at_ nk NR)
 obtain ⟨zS,hzS⟩:=xE (sgS bM sd X Y I at_ sx dS)
 have hdSl:dS.length=32:=by rw [hdS]; exact Fm _
 have hzS4:∀ i k,zS i k<K4:=λi k=>by rw [hzS]; exact NL _ _
 have hlr0:=hlr
 refine Sy.enter (args:=[csv sd [.slice A n c,.slice R NR cR,.slice S NS cS]]) Tryz.func3 U kL ?_
 refine sC<|sM 28 (csl sd [.slice A n c,.slice R NR cR,.slice S NS cS]).toArray (λg0=>?_)
 refine sP (.bool false)<|sA<|sP (pT g0 0)<|sS (.agg (sd.map bv).toArray) (Quiet.load 0 g0 0 32 28 23 (csl sd [.slice A n c,.slice R NR cR,.slice S NS cS]).toArray _ _ U kR kR C8 U kR _ (Gk hsd) (Iv hsd))<|sP (pT g0 32)<|sS (.slice A n c) (Quiet.cell 0 g0 32 28 24 (csl sd [.slice A n c,.slice R NR cR,.slice S NS cS]).toArray _ _ U kR kR EQ U _ (CH hsd 0))<|sP (pT g0 33)<|sS (.slice R NR cR) (Quiet.cell 0 g0 33 28 25 (csl sd [.slice A n c,.slice R NR cR,.slice S NS cS]).toArray _ _ U kR kR Bl U _ (CH hsd 1))<|sP (pT g0 34)<|sS (.slice S NS cS) (Quiet.cell 0 g0 34 28 26 (csl sd [.slice A n c,.slice R NR cR,.slice S NS cS]).toArray _ _ U kR kR C4 U _ (CH hsd 2))<|Sy.callN kR 10 #[.agg (sd.map bv).toArray,.slice A n c,.slice R NR cR,.slice S NS cS] kF (SV (Base.of w) (uD br bf dS) (uN br bf NR) nk zS (uE br bf)) (λw hw=>by rw [hzS,hdS,hbM,hbr,hbf,hat_]; exact Calls.mono (H_ w sd hsd A m n c hm hm9 hc hc2 (hs0.below hw.below) R NR cR a nk ck X Y I hX hY hNR hnk (hlr0.below hw.below) (λi hi=>(hlk i hi).below hw.below) hN9 S NS cS At sx hsx hNS (hls.below hw.below) (ht.below hw.below ht.lt)) (λe w' ⟨v,M,q1,q2,q3⟩=>⟨v,M,q1,SgnR.uniV q2,q3⟩)) (λv M2 hR0=>?_)
 obtain ⟨W2,c2,sa2,sc2,rfl,hC2,hU2,hV2⟩:=hR0
 obtain ⟨dU,hdU⟩:=xE (uD br bf dS)
 obtain ⟨NU,hNU⟩:=xE (uN br bf NR)
 obtain ⟨en,hen⟩:=xE (uE br bf)
 have hdUl:dU.length=32:=by rw [hdU]; exact Qo hdSl
 rw [← hNU] at hC2 hU2 hV2
 rw [← hdU, ← hNU, ← hen]
 refine sP (.tuple #[A4 dU W2 NU c2,.int .i64 en])<|sP (A4 dU W2 NU c2)<|sP (.int .i64 en)<|sM 31 zS33.toArray (λg9=>?_)
 refine Sy.movT<|sW 1 g9 31 zS33.toArray (AZ dU W2 NU c2).toArray (Writes.row 31 (AZ dU W2 NU c2) 33 _ _ U kR kR kR (BD hdUl) (by rw [List.size_toArray,BD List.length_replicate]) EU)<|Sy.setT<|sP (.int .i64 en)<|sG<|Sy.seq<|sC ?_
 have bad:(br=false∧en=80∧NU=0)∨(br=true∧bf=false∧en=81∧NU=0)∨(br=true∧bf=true∧en=0∧NU=NR∧dU=dS):=by
  rw [hen,hNU,hdU]
  cases br <;> cases bf
  ·exact .inl ⟨rfl,rfl,rfl⟩
  ·exact .inl ⟨rfl,rfl,rfl⟩
  ·exact .inr (.inl ⟨rfl,rfl,rfl,rfl⟩)
  ·exact .inr (.inr ⟨rfl,rfl,rfl,rfl,rfl⟩)
 rcases bad with ⟨_,rfl,rfl⟩ | ⟨_,_,rfl,rfl⟩ | ⟨rfl,rfl,rfl,e1,e2⟩
 ·refine sP (.int .i64 80)<|sP (.bool true) ?_
  refine sG<|sT<|sC<|sS (.bool true) (qG 11 #[] (λw hw=>LF w (ht.below hw.below ht.lt)))<|sP (.bool true)<|sP (.int .i64 80)<|sP (.bool true)<|sP (.bool true)<|sN<|sN<|sP (.bool true)<|sP (.bool true)<|sP (.bool true)<|sP (pT g9 32)<|sS (.slice W2 0 c2) (Quiet.cell 1 g9 32 31 29 (AZ dU W2 0 c2).toArray _ _ U kR kR CK U _ (Db hdUl))<|sP (.int .i64 0)<|sP (.bool true)<|sP (.bool true)<|sP (.bool true)<|sG<|Sy.ret<|Sy.then_ret ?_
  exact rV (.bool true) rfl
 ·refine sP (.int .i64 81)<|sP (.bool true) ?_
  refine sG<|sT<|sC<|sS (.bool true) (qG 11 #[] (λw hw=>LF w (ht.below hw.below ht.lt)))<|sP (.bool true)<|sP (.int .i64 81)<|sP (.bool false)<|sP (.bool false)<|sP (.int .i64 81)<|sP (.bool true)<|sP (.bool true)<|sP (.bool true)<|sP (.bool true)<|sP (pT g9 32)<|sS (.slice W2 0 c2) (Quiet.cell 1 g9 32 31 29 (AZ dU W2 0 c2).toArray _ _ U kR kR CK U _ (Db hdUl))<|sP (.int .i64 0)<|sP (.bool true)<|sP (.bool true)<|sP (.bool true)<|sG<|Sy.ret<|Sy.then_ret ?_
  exact rV (.bool true) rfl
 ·obtain rfl:dS=dU:=e2.symm
  obtain ⟨hN32,hn64,hn1,hN1⟩:=D1 hbr
  obtain ⟨hNSe,hfit⟩:=Hx hbf
  obtain rfl:NR=NS:=hNSe.symm
  obtain rfl:NR=NU:=e1.symm
  have hat1:∀ i,i<NR→At i=((at_ i:Nat):Int)∧at_ i<nk i∧Bc (sx i) (X i (at_ i)) (Y i (at_ i)) (I i (at_ i))=true:=λi hi=>by rw [hat_]; exact hfit i hi
  have hvf:vfB m NR nk X Y I zS dS NR nk=true:=by
   unfold vfB
   rw [← hbr, ← hbM,hzS,hdS,Bool.true_and]
   exact J7 (λ_ _=>rfl) (λi hi=>(hat1 i hi).2)
  obtain ⟨eS,heS⟩:=xE (eE zS bM X Y I dS)
  obtain ⟨b0,hb0⟩:=xE (G3 bM sd nk zS eS X Y I NR)
  obtain ⟨N0,hN0⟩:=xE (uB b0 NR)
  have hN0l:N0≤NR:=by rw [hN0]; exact Rm
  obtain ⟨A0,hA0⟩:=xE (Jc bM sd nk zS)
  obtain ⟨x0,hx0⟩:=xE (Ny bM sd nk zS eS)
  have hx04:∀ i,x0 i<K4:=λi=>by rw [hx0]; exact N1 _ _ _ _ _ _
  have hopn:∀ i,i<N0→∃ q:Nat,A0 i=(q:Int)∧q<nk i∧Bc (x0 i) (X i q) (Y i q) (I i q)=true:=λi hi=>by
   cases b0 with
   | false=>rw [hN0] at hi; exact absurd hi (Nat.not_lt_zero _)
   | true =>
    have q:=Kf hb0 i om
    exact ⟨_,by rw [hA0]; rfl,q.1,by rw [hx0]; exact q.2⟩
  have hback:∀ i,i<NR→chI bM sd zS eS at_ i=false→A0 i=At i∧x0 i=sx i%Sc.pM∧GU bM sd nk zS eS X Y I i=true:=λi hi hc=>by
   obtain ⟨q1,q2,q3⟩:=Oi zS eS hzS heS (hat1 i hi).2.1 (hat1 i hi).2.2 hc
   refine ⟨?_,?_,q3⟩
   ·rw [hA0,(hat1 i hi).1]; show ((atI bM sd i (zS i) (nk i):Nat):Int)=_; rw [q1]
   ·rw [hx0]; show opX bM sd i (zS i) (eS i) (atI bM sd i (zS i) (nk i))=_; rw [q1]; exact q2
  obtain ⟨gR,oR,hR⟩:=hlr
  have hls0:=hls
  obtain ⟨gS,oS,hS⟩:=hls
  have hU20:=hU2
  obtain ⟨g2,o2,hA2,hB2⟩:=hU2
  refine sP (.int .i64 0)<|sP (.bool false)<|sG<|sU<|Sy.skip<|Sy.then_<|Sy.seq<|sC<|sS (.bool true) (qG 11 #[] (λw hw=>LF w (ht.below hw.below ht.lt)))<|sP (.bool false)<|sP (.bool false)<|sP (pT g0 32)<|sS (.slice A n c) (Quiet.cell 0 g0 32 28 24 (csl sd [.slice A n c,.slice R NR cR,.slice S NR cS]).toArray _ _ U kR kR EQ U _ (CH hsd 0))<|sP (pT g0 33)<|sS (.slice R NR cR) (Quiet.cell 0 g0 33 28 25 (csl sd [.slice A n c,.slice R NR cR,.slice S NR cS]).toArray _ _ U kR kR Bl U _ (CH hsd 1))<|sS (A4 dS W2 NR c2) (Quiet.load 1 g9 0 33 31 31 (AZ dS W2 NR c2).toArray _ _ U kR kR Gz U kR _ (C_ hdSl) (E7 hdSl))<|sS (.bool true) (qG 12 #[.slice A n c,.slice R NR cR,A4 dS W2 NR c2] (λw hw=>by have q:=Fc w A m n c hm hm9 hc hc2 (hs0.below hw.below) R NR cR a nk ck X Y I hX hY hNR hnk (hlr0.below hw.below) (λi hi=>(hlk i hi).below hw.below) hN9 dS hdSl W2 NR c2 sa2 nk sc2 zS hzS4 hNR (λi _=>hnk i) (hU20.lst hw (λb hb=>List.mem_append.2 (.inr hb))) (λi hi=>(hV2 i hi).lst hw (λb hb=>List.mem_append.2 (.inr hb))) (ht.below hw.below ht.lt); rw [hvf] at q; exact q))<|sP (.bool false)<|sP (.bool false)<|sG<|sU<|Sy.skip<|sB<|sP (pT g0 0)<|sS (.agg (sd.map bv).toArray) (Quiet.load 0 g0 0 32 28 23 (csl sd [.slice A n c,.slice R NR cR,.slice S NR cS]).toArray _ _ U kR kR C8 U kR _ (Gk hsd) (Iv hsd))<|sP (pT g0 32)<|sS (.slice A n c) (Quiet.cell 0 g0 32 28 24 (csl sd [.slice A n c,.slice R NR cR,.slice S NR cS]).toArray _ _ U kR kR EQ U _ (CH hsd 0))<|sP (pT g0 33)<|sS (.slice R NR cR) (Quiet.cell 0 g0 33 28 25 (csl sd [.slice A n c,.slice R NR cR,.slice S NR cS]).toArray _ _ U kR kR Bl U _ (CH hsd 1))<|sS (A4 dS W2 NR c2) (Quiet.load 1 g9 0 33 31 31 (AZ dS W2 NR c2).toArray _ _ U kR kR Gz U kR _ (C_ hdSl) (E7 hdSl))<|Sy.callN kR 13 #[.agg (sd.map bv).toArray,.slice A n c,.slice R NR cR,A4 dS W2 NR c2] kF (SW (Base.of w) b0 N0 A0 x0) (λw hw=>by
   have q:=M7 w sd hsd A m n c hm hm9 hc hc2 (hs0.below hw.below) R NR cR a nk ck X Y I hX hY hNR hnk (hlr0.below hw.below) (λi hi=>(hlk i hi).below hw.below) hN9 dS hdSl W2 NR c2 sa2 nk sc2 zS hzS4 hNR (λi _=>hnk i) (hU20.lst hw (λb hb=>List.mem_append.2 (.inr hb))) (λi hi=>(hV2 i hi).lst hw (λb hb=>List.mem_append.2 (.inr hb))) (ht.below hw.below ht.lt)
   rw [hvf,Bool.true_and, ← hbM, ← heS, ← hb0, ← hA0, ← hx0] at q
   rw [hN0]
   exact Calls.mono q (λe w' ⟨v,M,q1,q2,q3⟩=>⟨v,M,q1,SecsR.uniV q2,q3⟩)) (λv M1 hR0=>?_)
  obtain ⟨W1,c1,rfl,gL,oL,hA1,hB1⟩:=hR0
  refine sP (.tuple #[.slice W1 N0 c1,.bool b0])<|sP (.slice W1 N0 c1)<|sP (.bool b0)<|sP (.slice W1 N0 c1)<|sP (.bool b0)<|sA<|sP (pT g0 32)<|sS (.slice A n c) (Quiet.cell 0 g0 32 28 24 (csl sd [.slice A n c,.slice R NR cR,.slice S NR cS]).toArray _ _ U kR kR EQ U _ (CH hsd 0))<|sP (pT g0 33)<|sS (.slice R NR cR) (Quiet.cell 0 g0 33 28 25 (csl sd [.slice A n c,.slice R NR cR,.slice S NR cS]).toArray _ _ U kR kR Bl U _ (CH hsd 1))<|Sy.callN kR 14 #[.slice A n c,.slice R NR cR] kF _ (λw hw=>RH w A m n c hm hm9 hc hc2 (hs0.below hw.below) R NR cR a nk ck X Y I hX hY hNR hnk (hlr0.below hw.below) (λi hi=>(hlk i hi).below hw.below) hN32 hn64 (htr.below hw.below htr.lt)) (λv Mq hR0=>?_)
  obtain ⟨gm,spm,cpm,rfl,hcm,rfl⟩:=hR0
  rw [← hbM]
  refine Sy.permS PT<|sP (.slice (pA gm) 32 cpm)<|sG<|Sy.seq<|sC<|sP (.slice W1 N0 c1)<|sP (iZ N0)<|sP (.int .i64 0)<|sG<|Sy.block<|Sy.loopT (Y:=Unit) N0 (λk1 y1=>[(1,ptr g0),(3,ptr g9),(5,.slice W1 N0 c1),(6,.bool b0),(7,.slice (pA gm) 32 cpm),(72,iZ N0),(73,iZ k1)]) (λk1 y1=>[(g0,28,(csl sd [.slice A n c,.slice R NR cR,.slice S NR cS]).toArray),(g9,31,(AZ dS W2 NR c2).toArray),(gm,5,(bM.map bv++spm).toArray)]++(M2++M1)) (λ_ _=>True) () trivial ac7 (λw hw=>hw) (λk1 y1 hk1 _=>?_)
  refine sC ?_
  obtain ⟨b5,hb5⟩:=xE (decide (k1<N0))
  refine sS (.bool b5) (qls U U U hb5)<|sG<|Sy.seq ?_
  cases b5
  ·have lb:=dN hb5
   have ek:k1=N0:=om
   refine sU<|Sy.exit<|Sy.then_exit<|Sy.then_exit<|Sy.in_exit<|sB<|sP (.bool false)<|sG<|Sy.seq<|sC<|sP (pT g0 34)<|sS (.slice S NR cS) (Quiet.cell 0 g0 34 28 26 (csl sd [.slice A n c,.slice R NR cR,.slice S NR cS]).toArray _ _ U kR kR C4 U _ (CH hsd 2))<|sP (iZ NR)<|sP (.int .i64 0)<|sG<|Sy.block<|Sy.loopT (Y:=Bool) NR (λk1 y1=>[(1,ptr g0),(3,ptr g9),(5,.slice W1 N0 c1),(6,.bool b0),(7,.slice (pA gm) 32 cpm),(9,.bool y1),(121,iZ NR),(122,iZ k1)]) (λk1 y1=>[(g0,28,(csl sd [.slice A n c,.slice R NR cR,.slice S NR cS]).toArray),(g9,31,(AZ dS W2 NR c2).toArray),(gm,5,(bM.map bv++spm).toArray)]++(M2++M1)) (λk1 y1=>y1=chA (chI bM sd zS eS at_) k1) false U ac8 (λw hw=>hw) (λk1 y1 hk1 hy1=>?_)
   refine sC ?_
   obtain ⟨b6,hb6⟩:=xE (decide (k1<NR))
   refine sS (.bool b6) (qls U U U hb6)<|sG<|Sy.seq ?_
   cases b6
   ·have lb:=dN hb6
    have ek:k1=NR:=om
    refine sU<|Sy.exit<|Sy.then_exit<|Sy.then_exit<|Sy.in_exit ?_
    have hch:y1=false→∀ i,i<NR→chI bM sd zS eS at_ i=false:=λh=>Od (by rw [← h,hy1,ek])
    have hno:b0=false→y1=true:=λh=>by
     cases y1 with
     | true=>rfl
     | false =>
      have q:G3 bM sd nk zS eS X Y I NR=true:=Jb (λi hi=>(hback i hi (hch U i hi)).2.2)
      rw [← hb0,h] at q
      cases q
    refine Sy.then_<|Sy.seq<|sC ?_
    cases b0
    ·obtain rfl:y1=true:=hno U
     obtain rfl:N0=0:=hN0
     refine sP (.bool false)<|sP (.bool true)<|sG<|sT<|sC<|sP (.bool true)<|sP (.bool true)<|sP (.slice W1 0 c1)<|sP (.int .i64 0)<|sP (.bool true)<|sP (.bool true)<|sP (.bool true)<|sG<|Sy.ret<|Sy.then_ret ?_
     exact rV (.bool true) rfl
    ·obtain rfl:NR=N0:=hN0.symm
     refine sP (.bool true)<|sP (.bool false)<|sG<|sU<|Sy.skip<|Sy.then_<|Sy.seq<|sC<|sP (pT g0 34)<|sS (.slice S NR cS) (Quiet.cell 0 g0 34 28 26 (csl sd [.slice A n c,.slice R NR cR,.slice S NR cS]).toArray _ _ U kR kR C4 U _ (CH hsd 2))<|sP (iZ NR)<|sP (.int .i64 0)<|sG<|Sy.block<|Sy.loopT (Y:=Unit) NR (λk1 _=>[(1,ptr g0),(5,.slice W1 NR c1),(9,.bool y1),(188,iZ NR),(189,iZ k1)]) (λk1 _=>[(g0,28,(csl sd [.slice A n c,.slice R NR cR,.slice S NR cS]).toArray),(g9,31,(AZ dS W2 NR c2).toArray),(gm,5,(bM.map bv++spm).toArray)]++(M2++M1)) (λ_ _=>True) () trivial ac5 (λw hw=>hw) (λk1 _ hk1 _=>?_)
     refine sC ?_
     obtain ⟨b7,hb7⟩:=xE (decide (k1<NR))
     refine sS (.bool b7) (qls U U U hb7)<|sG<|Sy.seq ?_
     cases b7
     ·have lb:=dN hb7
      have ek:k1=NR:=om
      refine sU<|Sy.exit<|Sy.then_exit<|Sy.then_exit<|Sy.in_exit<|sB<|sP (.slice W1 NR c1)<|sP (iZ NR)<|sP (pT g0 33)<|sS (.slice R NR cR) (Quiet.cell 0 g0 33 28 25 (csl sd [.slice A n c,.slice R NR cR,.slice S NR cS]).toArray _ _ U kR kR Bl U _ (CH hsd 1))<|sP (iZ NR)<|sS (.bool true) (Quiet.pure (AO .eql _ _ _ .i64 _ _ _ U U U (Lp _ _ _ _ _ (decide_eq_true U))))<|sP (.bool true)<|sG<|Sy.ret ?_
      exact rV (.bool true) rfl
     ·have lb7:=dY hb7
      refine sT<|Sy.skip<|Sy.then_<|Sy.seq<|Sy.block<|sC<|sP (iZ k1)<|sP (iZ k1)<|sH (λj=>false) ?_
      cases y1
      ·obtain ⟨e3,e4,_⟩:=hback k1 lb7 (hch U k1 lb7)
       obtain ⟨p1,hp1_⟩:=xE (at_ k1)
       have hp1:At k1=((p1:Nat):Int):=by rw [hp1_]; exact (hat1 k1 lb7).1
       have hq1:A0 k1=((p1:Nat):Int):=e3.trans hp1
       have lx0:=hx04 k1
       have lsx:=hsx k1
       refine sZ 0 U (.bool false)<|sZ 1 U (.bool true)<|sZ 2 U (.bool true)<|sZ 3 U (.slice W1 NR c1)<|sZ 4 U (iZ k1)<|sD 5 U (.pointer (some ⟨gL,oL+k1*5,none⟩)) (Quiet.pure (AJ 26 _ _ _ W1 gL oL NR c1 k1 5 .i64 (hA1 om) rfl U U C4 kF om))<|sZ 6 U (.pointer (some ⟨gL,oL+k1*5+0,none⟩))<|sD 7 U (iZ p1) (Hh gL (oL+k1*5+0) 3 _ _ U kR _ (λw hw=>by unfold iZ; rw [← hq1]; exact AV ((hB1 w _ hw (λb hb=>List.mem_append.2 (.inr (List.mem_append.2 (.inr hb)))) om).2 k1 om) 0 U) uy3 U)<|sZ 8 U (pT g0 34)<|sD 9 U (.slice S NR cS) (Quiet.cell 0 g0 34 28 26 (csl sd [.slice A n c,.slice R NR cR,.slice S NR cS]).toArray _ _ U kR kR C4 U _ (CH hsd 2))<|sZ 10 U (iZ k1)<|sD 11 U (.pointer (some ⟨gS,oS+k1*5,none⟩)) (Quiet.pure (AJ 26 _ _ _ S gS oS NR cS k1 5 .i64 (hS om).1 U U U C4 kF om))<|sZ 12 U (.pointer (some ⟨gS,oS+k1*5+0,none⟩))<|sD 13 U (iZ p1) (Quiet.thereOne gS (oS+k1*5+0) 3 _ _ U kR (hS om).2.1 _ (by unfold iZ; rw [← hp1]; exact AV ((hS om).2.2 k1 om) 0 U) uy3 U)<|sD 14 U (.bool false) (Quiet.pure (AO .neq _ _ _ .i64 _ _ _ U U U (DQ _ _ _ _ _ (decide_eq_false (λh=>h U)))))<|sZ 15 U (.bool false)<|sZ 16 U (.slice W1 NR c1)<|sZ 17 U (iZ k1)<|sD 18 U (.pointer (some ⟨gL,oL+k1*5,none⟩)) (Quiet.pure (AJ 26 _ _ _ W1 gL oL NR c1 k1 5 .i64 (hA1 om) rfl U U C4 kF om))<|sZ 19 U (.pointer (some ⟨gL,oL+k1*5+1,none⟩))<|sD 20 U (fv (x0 k1)) (PB gL (oL+k1*5+1) 4 42 (fws (x0 k1)) _ _ U kR (λw hw=>D3 ((hB1 w _ hw (λb hb=>List.mem_append.2 (.inr (List.mem_append.2 (.inr hb)))) om).2 k1 om) 1 U) Ab U kR U _ U)<|sZ 21 U (pT g0 34)<|sD 22 U (.slice S NR cS) (Quiet.cell 0 g0 34 28 26 (csl sd [.slice A n c,.slice R NR cR,.slice S NR cS]).toArray _ _ U kR kR C4 U _ (CH hsd 2))<|sZ 23 U (iZ k1)<|sD 24 U (.pointer (some ⟨gS,oS+k1*5,none⟩)) (Quiet.pure (AJ 26 _ _ _ S gS oS NR cS k1 5 .i64 (hS om).1 U U U C4 kF om))<|sZ 25 U (.pointer (some ⟨gS,oS+k1*5+1,none⟩))<|sD 26 U (fv (sx k1)) (Quiet.there gS (oS+k1*5+1) 4 42 (fws (sx k1)) _ _ U kR (hS om).2.1 (D3 ((hS om).2.2 k1 om) 1 U) Ab U kR U _ U)<|sD 27 U (fv (sx k1%Sc.pM)) (qF 19 #[fv (sx k1)] (λw=>Lg w _ lsx))<|sD 28 U (.bool false) (Quiet.pure (λw=>(N5 w _ _ _ _ (x0 k1) (sx k1%Sc.pM) rfl U U lx0 (Sc.mod_lt _)).trans (by rw [e4,decide_eq_true U]; rfl)))<|sZ 29 U (.bool false)<|sZ 30 U (.bool false)<|sI<|sU<|Sy.skip<|Sy.in_<|Sy.then_<|Sy.region<|sS (iZ (k1+1)) (qad U U U)<|sP (iZ (k1+1))<|Sy.nil ?_
       exact Sy.againT () om trivial ac5 (λw hw=>hw)
      ·refine sZ 0 U (.bool true)<|sZ 1 U (.bool false)<|sZ 2 U (.bool false)<|sQ 3 U<|sQ 4 U<|sQ 5 U<|sQ 6 U<|sQ 7 U<|sQ 8 U<|sQ 9 U<|sQ 10 U<|sQ 11 U<|sQ 12 U<|sQ 13 U<|sQ 14 U<|sQ 15 U<|sQ 16 U<|sQ 17 U<|sQ 18 U<|sQ 19 U<|sQ 20 U<|sQ 21 U<|sQ 22 U<|sQ 23 U<|sQ 24 U<|sQ 25 U<|sQ 26 U<|sQ 27 U<|sQ 28 U<|sQ 29 U<|sZ 30 U (.bool false) ?_
       refine sI<|sU<|Sy.skip<|Sy.in_<|Sy.then_<|Sy.region<|sS (iZ (k1+1)) (qad U U U)<|sP (iZ (k1+1))<|Sy.nil ?_
       exact Sy.againT () om trivial ac5 (λw hw=>hw)
   ·have lb6:=dY hb6
    obtain ⟨p1,hp1_⟩:=xE (at_ k1)
    have hp1:At k1=((p1:Nat):Int):=by rw [hp1_]; exact (hat1 k1 lb6).1
    have hp2:p1<nk k1:=by rw [hp1_]; exact (hat1 k1 lb6).2.1
    have hn64k:=hn64 k1 lb6
    obtain ⟨gi,oi,hAi,hBi⟩:=hV2 k1 lb6
    refine sT<|Sy.skip<|Sy.then_<|Sy.seq<|Sy.block<|sC<|sP (iZ k1)<|sP (iZ k1)<|sA<|sP (pT g0 34)<|sS (.slice S NR cS) (Quiet.cell 0 g0 34 28 26 (csl sd [.slice A n c,.slice R NR cR,.slice S NR cS]).toArray _ _ U kR kR C4 U _ (CH hsd 2))<|sP (iZ k1)<|sS (.pointer (some ⟨gS,oS+k1*5,none⟩)) (Quiet.pure (AJ 26 _ _ _ S gS oS NR cS k1 5 .i64 (hS om).1 U U U C4 kF om))<|sP (.pointer (some ⟨gS,oS+k1*5+0,none⟩))<|sS (iZ p1) (Quiet.thereOne gS (oS+k1*5+0) 3 _ _ U kR (hS om).2.1 _ (by unfold iZ; rw [← hp1]; exact AV ((hS om).2.2 k1 om) 0 U) uy3 U)<|sP (iZ p1)<|sH (λj=>false) ?_
    refine sZ 0 U (.slice (pA gm) 32 cpm)<|sZ 1 U (iZ k1)<|sZ 2 U (pT g0 33)<|sD 3 U (.slice R NR cR) (Quiet.cell 0 g0 33 28 25 (csl sd [.slice A n c,.slice R NR cR,.slice S NR cS]).toArray _ _ U kR kR Bl U _ (CH hsd 1))<|sZ 4 U (iZ k1)<|sD 5 U (.pointer (some ⟨gR,oR+k1*1,none⟩)) (Quiet.pure (AJ 25 _ _ _ R gR oR NR cR k1 1 .i64 (hR om).1 U U U Bl kF om))<|sD 6 U (.slice (a k1) (nk k1) (ck k1)) (Quiet.thereOne gR (oR+k1*1) 45 _ _ U kR (hR om).2.1 _ (AV ((hR om).2.2 k1 om) 0 U) CJ U)<|sZ 7 U (pT g9 0)<|sD 8 U (.agg (dS.map bv).toArray) (Quiet.load 1 g9 0 32 31 23 (AZ dS W2 NR c2).toArray _ _ U kR kR C8 U kR _ (JM hdSl) (LV hdSl))<|sZ 9 U (pT g9 32)<|sD 10 U (.slice W2 NR c2) (Quiet.cell 1 g9 32 31 29 (AZ dS W2 NR c2).toArray _ _ U kR kR CK U _ (Db hdSl))<|sZ 11 U (iZ k1)<|sD 12 U (.pointer (some ⟨g2,o2+k1*1,none⟩)) (Quiet.pure (AJ 29 _ _ _ W2 g2 o2 NR c2 k1 1 .i64 (hA2 om) rfl U U CK kF om))<|sD 13 U (.slice (sa2 k1) (nk k1) (sc2 k1)) (Hh g2 (o2+k1*1) 51 _ _ U kR _ (λw hw=>AV ((hB2 w _ hw (λb hb=>List.mem_append.2 (.inr (List.mem_append.2 (.inl hb)))) om).2 k1 om) 0 U) Ca U)<|sZ 14 U (iZ p1)<|sD 15 U (iZ (p1+1)) (qad U U U)<|Sy.callND 16 U kR kR 17 #[.slice (pA gm) 32 cpm,iZ k1,.slice (a k1) (nk k1) (ck k1),.agg (dS.map bv).toArray,.slice (sa2 k1) (nk k1) (sc2 k1),iZ (p1+1)] kF (EsR (zS k1) bM k1 (X k1) (Y k1) (I k1) dS (p1+1)) (λw hw=>P5 w (pA gm) bM cpm hbMl hcm.1 hcm.2 (Fl (hw.get (i:=2) rfl)) k1 om (a k1) (nk k1) (ck k1) (X k1) (Y k1) (I k1) (hX k1) (hY k1) ((hlk k1 lb6).below hw.below) dS hdSl (sa2 k1) (nk k1) (sc2 k1) (zS k1) (hzS4 k1) ((hV2 k1 lb6).lst hw (λb hb=>List.mem_append.2 (.inr (List.mem_append.2 (.inl hb))))) (p1+1) om om om (htr.below hw.below htr.lt)) (λv Mq hR0=>?_)
    obtain ⟨ye,xte,xe,rfl,rfl,hye,hxe⟩:=hR0
    obtain ⟨Ae,ce,hve,hce,hUe⟩:=NJ (w0:=Base.of w) hye (M:=ye.bl++xe) (λb hb=>List.mem_append.2 (.inl hb))
    rw [List.length_map,List.length_range] at hve hUe
    obtain ⟨fE,hfE⟩:∃ f:Nat→Nat,f=eS k1:=⟨_,rfl⟩
    have hUf:LstU (Base.of w) 4 Ae (p1+1) (λi=>fws (fE i)) (ye.bl++xe):=hUe.ext (λi hi=>by rw [List.getD_eq_getElem?_getD,List.getElem?_map,List.getElem?_range hi,hfE,heS]; exact congrArg fws (Qe zS k1 i).symm)
    obtain ⟨ge,oe,hAe,hBe⟩:=hUf
    obtain ⟨yev,yeb⟩:=ye
    obtain rfl:yev=_:=hve
    refine sZ 17 U (.tuple #[.slice Ae (p1+1) ce,.slice xte.A (CT (p1+1)) xte.c])<|sZ 18 U (.slice Ae (p1+1) ce)<|sZ 19 U (.slice xte.A (CT (p1+1)) xte.c)<|sZ 20 U (.slice Ae (p1+1) ce)<|sZ 21 U (.slice xte.A (CT (p1+1)) xte.c)<|sI<|Sy.regionD (λj=>false) kR ?_
    cases y1
    ·refine sZ 0 U (.bool false)<|sZ 1 U (.bool false)<|sZ 2 U (pT g9 32)<|sD 3 U (.slice W2 NR c2) (Quiet.cell 1 g9 32 31 29 (AZ dS W2 NR c2).toArray _ _ U kR kR CK U _ (Db hdSl))<|sZ 4 U (iZ k1)<|sD 5 U (.pointer (some ⟨g2,o2+k1*1,none⟩)) (Quiet.pure (AJ 29 _ _ _ W2 g2 o2 NR c2 k1 1 .i64 (hA2 om) rfl U U CK kF om))<|sD 6 U (.slice (sa2 k1) (nk k1) (sc2 k1)) (Hh g2 (o2+k1*1) 51 _ _ U kR _ (λw hw=>AV ((hB2 w _ hw (λb hb=>List.mem_append.2 (.inl (List.mem_append.2 (.inr (List.mem_append.2 (.inl hb)))))) om).2 k1 om) 0 U) Ca U)<|sZ 7 U (iZ p1)<|sD 8 U (.pointer (some ⟨gi,oi+p1*4,none⟩)) (Quiet.pure (AJ 51 _ _ _ (sa2 k1) gi oi (nk k1) (sc2 k1) p1 4 .i64 (hAi om) rfl U U Ca kF hp2))<|sD 9 U (fv (zS k1 p1)) (PB gi (oi+p1*4) 4 42 (fws (zS k1 p1)) _ _ U kR (λw hw=>(hBi w _ hw (λb hb=>List.mem_append.2 (.inl (List.mem_append.2 (.inr (List.mem_append.2 (.inl hb)))))) om).2 p1 hp2) Ab U kR U _ U)<|sZ 10 U (pT g0 0)<|sD 11 U (.agg (sd.map bv).toArray) (Quiet.load 0 g0 0 32 28 23 (csl sd [.slice A n c,.slice R NR cR,.slice S NR cS]).toArray _ _ U kR kR C8 U kR _ (Gk hsd) (Iv hsd))<|sZ 12 U (.slice (pA gm) 32 cpm)<|sZ 13 U (iZ k1)<|sZ 14 U (iZ p1) ?_
     obtain ⟨f1,hf1⟩:=xE (rgF bM sd k1 p1)
     have lf1:f1<K4:=by rw [hf1]; exact C6 _ _ _ _
     have lz1:=hzS4 k1 p1
     refine sD 15 U (fv f1) (qG 18 #[.agg (sd.map bv).toArray,.slice (pA gm) 32 cpm,iZ k1,iZ p1] (λw hw=>by rw [hf1]; exact Ms w sd hsd (pA gm) bM cpm hbMl hcm.1 hcm.2 (Fl (hw.get (i:=2) rfl)) k1 p1 om om (htr.below hw.below htr.lt))) ?_
     obtain ⟨b8,hb8⟩:=xE (decide (zS k1 p1=f1))
     refine sD 16 U (.bool b8) (Quiet.pure (λw=>by rw [hb8]; exact Iu w _ _ _ _ (zS k1 p1) f1 U U U lz1 lf1))<|sZ 17 U (.bool b8)<|sZ 18 U (.bool b8) ?_
     cases b8
     ·obtain ⟨e1,he1⟩:=xE (eS k1 p1)
      have le1:e1<K4:=by rw [he1,heS,Qe]; exact Qf _ _ _ _ _ _ _ _
      obtain ⟨b9,hb9⟩:=xE (decide (e1=0))
      refine sZ 19 U (.slice Ae (p1+1) ce)<|sZ 20 U (iZ p1)<|sD 21 U (.pointer (some ⟨ge,oe+p1*4,none⟩)) (Quiet.pure (AJ 51 _ _ _ Ae ge oe (p1+1) ce p1 4 .i64 (hAe om) rfl U U Ca kF om))<|sD 22 U (fv e1) (PB ge (oe+p1*4) 4 42 (fws e1) _ _ U kR (λw hw=>by rw [he1, ← hfE]; exact (hBe w _ hw (λb hb=>List.mem_append.2 (.inr hb)) om).2 p1 om) Ab U kR U _ U)<|sZ 23 U (fv 0)<|sD 24 U (.bool b9) (Quiet.pure (λw=>by rw [hb9]; exact Iu w _ _ _ _ e1 0 U U U le1 dZ))<|sZ 25 U (.bool b9)<|sZ 26 U (.bool b9)<|sE<|Sy.in_<|Sy.then_<|Sy.region<|sS (iZ (k1+1)) (qad U U U)<|sP (iZ (k1+1))<|Sy.nil ?_
      exact Sy.againT b9 om (by show b9=(chA _ k1 || chI bM sd zS eS at_ k1); rw [← hy1]; unfold chI; rw [← hp1_, ← hf1, ← hb8, ← he1, ← hb9]; rfl) ac8 (λw hw=>hw.less (List.sublist_append_left _ _))
     ·refine sQ 19 U<|sQ 20 U<|sQ 21 U<|sQ 22 U<|sQ 23 U<|sQ 24 U<|sZ 25 U (.bool true)<|sZ 26 U (.bool true) ?_
      refine sE<|Sy.in_<|Sy.then_<|Sy.region<|sS (iZ (k1+1)) (qad U U U)<|sP (iZ (k1+1))<|Sy.nil ?_
      exact Sy.againT true om (by show true=(chA _ k1 || chI bM sd zS eS at_ k1); rw [← hy1]; unfold chI; rw [← hp1_, ← hf1, ← hb8]; rfl) ac8 (λw hw=>hw.less (List.sublist_append_left _ _))
    ·refine sZ 0 U (.bool true)<|sZ 1 U (.bool true)<|sQ 2 U<|sQ 3 U<|sQ 4 U<|sQ 5 U<|sQ 6 U<|sQ 7 U<|sQ 8 U<|sQ 9 U<|sQ 10 U<|sQ 11 U<|sQ 12 U<|sQ 13 U<|sQ 14 U<|sQ 15 U<|sQ 16 U<|sZ 17 U (.bool true)<|sZ 18 U (.bool true)<|sQ 19 U<|sQ 20 U<|sQ 21 U<|sQ 22 U<|sQ 23 U<|sQ 24 U<|sZ 25 U (.bool true)<|sZ 26 U (.bool true) ?_
     refine sE<|Sy.in_<|Sy.then_<|Sy.region<|sS (iZ (k1+1)) (qad U U U)<|sP (iZ (k1+1))<|Sy.nil ?_
     exact Sy.againT true om (by show true=(chA _ k1 || chI bM sd zS eS at_ k1); rw [← hy1]; rfl) ac8 (λw hw=>hw.less (List.sublist_append_left _ _))
  ·have lb5:=dY hb5
   obtain ⟨q1,hq1,hq2,hq3⟩:=hopn k1 lb5
   have lx0:=hx04 k1
   obtain ⟨R2,hR2⟩:∃ P:Pt,P=Ec.nm Ac (x0 k1%Sc.pM) bP:=⟨_,rfl⟩
   have hsm:CW (pX R2) (pY R2) (pI R2) (X k1 q1) (Y k1 q1) (I k1 q1)=true:=by rw [hR2]; exact hq3
   obtain ⟨gK,oK,hT⟩:=hlk k1 om
   refine sT<|Sy.skip<|Sy.then_<|Sy.seq<|Sy.block<|sC<|sP (iZ k1)<|sP (iZ k1)<|sH (λj=>false) ?_
   refine sZ 0 U (.slice W1 N0 c1)<|sZ 1 U (iZ k1)<|sD 2 U (.pointer (some ⟨gL,oL+k1*5,none⟩)) (Quiet.pure (AJ 26 _ _ _ W1 gL oL N0 c1 k1 5 .i64 (hA1 om) rfl U U C4 kF om))<|sZ 3 U (.pointer (some ⟨gL,oL+k1*5+0,none⟩))<|sD 4 U (iZ q1) (Hh gL (oL+k1*5+0) 3 _ _ U kR _ (λw hw=>by unfold iZ; rw [← hq1]; exact AV ((hB1 w _ hw (λb hb=>List.mem_append.2 (.inr (List.mem_append.2 (.inr hb)))) om).2 k1 om) 0 U) uy3 U)<|sD 5 U (.bool false) (Quiet.pure (AO .lss _ _ _ .i64 _ _ _ U U U (Il _ _ _ _ _ (decide_eq_false om))))<|sZ 6 U (.bool false)<|sZ 7 U (.slice W1 N0 c1)<|sZ 8 U (iZ k1)<|sD 9 U (.pointer (some ⟨gL,oL+k1*5,none⟩)) (Quiet.pure (AJ 26 _ _ _ W1 gL oL N0 c1 k1 5 .i64 (hA1 om) rfl U U C4 kF om))<|sZ 10 U (.pointer (some ⟨gL,oL+k1*5+0,none⟩))<|sD 11 U (iZ q1) (Hh gL (oL+k1*5+0) 3 _ _ U kR _ (λw hw=>by unfold iZ; rw [← hq1]; exact AV ((hB1 w _ hw (λb hb=>List.mem_append.2 (.inr (List.mem_append.2 (.inr hb)))) om).2 k1 om) 0 U) uy3 U)<|sZ 12 U (pT g0 33)<|sD 13 U (.slice R NR cR) (Quiet.cell 0 g0 33 28 25 (csl sd [.slice A n c,.slice R NR cR,.slice S NR cS]).toArray _ _ U kR kR Bl U _ (CH hsd 1))<|sZ 14 U (iZ k1)<|sD 15 U (.pointer (some ⟨gR,oR+k1*1,none⟩)) (Quiet.pure (AJ 25 _ _ _ R gR oR NR cR k1 1 .i64 (hR om).1 U U U Bl kF om))<|sD 16 U (.slice (a k1) (nk k1) (ck k1)) (Quiet.thereOne gR (oR+k1*1) 45 _ _ U kR (hR om).2.1 _ (AV ((hR om).2.2 k1 om) 0 U) CJ U)<|sZ 17 U (iZ (nk k1))<|sD 18 U (.bool false) (Quiet.pure (AO .geq _ _ _ .i64 _ _ _ U U U (D9 _ _ _ _ _ (decide_eq_false om))))<|sZ 19 U (.bool false)<|sZ 20 U (.bool false)<|sZ 21 U (.slice W1 N0 c1)<|sZ 22 U (iZ k1)<|sD 23 U (.pointer (some ⟨gL,oL+k1*5,none⟩)) (Quiet.pure (AJ 26 _ _ _ W1 gL oL N0 c1 k1 5 .i64 (hA1 om) rfl U U C4 kF om))<|sZ 24 U (.pointer (some ⟨gL,oL+k1*5+1,none⟩))<|sD 25 U (fv (x0 k1)) (PB gL (oL+k1*5+1) 4 42 (fws (x0 k1)) _ _ U kR (λw hw=>D3 ((hB1 w _ hw (λb hb=>List.mem_append.2 (.inr (List.mem_append.2 (.inr hb)))) om).2 k1 om) 1 U) Ab U kR U _ U)<|sD 26 U (pv (pX bP) (pY bP) (pI bP)) (qF 16 #[] (λw=>by rw [← B9]; exact Iz w))<|sD 27 U (pv (pX R2) (pY R2) (pI R2)) (qF 15 #[fv (x0 k1),pv (pX bP) (pY bP) (pI bP)] (Ih lP lP lP (B_ bP_on) hR2.symm))<|sZ 28 U (pT g0 33)<|sD 29 U (.slice R NR cR) (Quiet.cell 0 g0 33 28 25 (csl sd [.slice A n c,.slice R NR cR,.slice S NR cS]).toArray _ _ U kR kR Bl U _ (CH hsd 1))<|sZ 30 U (iZ k1)<|sD 31 U (.pointer (some ⟨gR,oR+k1*1,none⟩)) (Quiet.pure (AJ 25 _ _ _ R gR oR NR cR k1 1 .i64 (hR om).1 U U U Bl kF om))<|sD 32 U (.slice (a k1) (nk k1) (ck k1)) (Quiet.thereOne gR (oR+k1*1) 45 _ _ U kR (hR om).2.1 _ (AV ((hR om).2.2 k1 om) 0 U) CJ U)<|sZ 33 U (.slice W1 N0 c1)<|sZ 34 U (iZ k1)<|sD 35 U (.pointer (some ⟨gL,oL+k1*5,none⟩)) (Quiet.pure (AJ 26 _ _ _ W1 gL oL N0 c1 k1 5 .i64 (hA1 om) rfl U U C4 kF om))<|sZ 36 U (.pointer (some ⟨gL,oL+k1*5+0,none⟩))<|sD 37 U (iZ q1) (Hh gL (oL+k1*5+0) 3 _ _ U kR _ (λw hw=>by unfold iZ; rw [← hq1]; exact AV ((hB1 w _ hw (λb hb=>List.mem_append.2 (.inr (List.mem_append.2 (.inr hb)))) om).2 k1 om) 0 U) uy3 U)<|sD 38 U (.pointer (some ⟨gK,oK+q1*9,none⟩)) (Quiet.pure (AJ 45 _ _ _ (a k1) gK oK (nk k1) (ck k1) q1 9 .i64 (hT om).1 U U U CJ kF hq2))<|sD 39 U (pv (X k1 q1) (Y k1 q1) (I k1 q1)) (Quiet.there gK (oK+q1*9) 9 48 (pml (X k1 q1) (Y k1 q1) (I k1 q1)) _ _ U kR (hT om).2.1 ((hT om).2.2 q1 hq2) An U kR U _ U)<|sD 40 U (.bool false) (Quiet.pure (λw=>(RB w _ _ _ _ _ _ _ _ _ _ U U U (Hq _) (Hp _) (hX _ _) (hY _ _)).trans (by rw [hsm]; rfl)))<|sZ 41 U (.bool false)<|sI<|sU<|Sy.skip<|Sy.in_<|Sy.then_<|Sy.region<|sS (iZ (k1+1)) (qad U U U)<|sP (iZ (k1+1))<|Sy.nil ?_
   exact Sy.againT () om trivial ac7 (λw hw=>hw)
end Cu
end
end Go.Proofs.YtbjmjcpdonochaaGreatDoor
