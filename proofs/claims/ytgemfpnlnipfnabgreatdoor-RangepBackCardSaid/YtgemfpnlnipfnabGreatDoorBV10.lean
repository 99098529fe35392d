/-
  Texts of ours.
-/
import Derived.Test.YtgemfpnlnipfnabGreatDoorBV9
set_option linter.unusedVariables false
set_option linter.unusedSimpArgs false
set_option maxRecDepth 100000
set_option maxHeartbeats 40000000
namespace Go.Proofs.YtgemfpnlnipfnabGreatDoor
section
namespace Cu
open Go.RowKit Sy
def Iq (C:Nat→Pt):Nat→List UInt8
 | 0=>[]
 | k+1=>Iq C k++Ay (C k)
theorem IP (C:Nat→Pt) (k:Nat):Iq C (k+1)=Iq C k++Ay (C k):=rfl
theorem EF (C:Nat→Pt):∀ k,(Iq C k).length=33*k
 | 0=>rfl
 | k+1=>by rw [IP,List.length_append,EF C k,Ai]; omega
theorem H5 (N:Nat):Bq (λ_=>4) N=4*N:=by
 induction N with
 | zero=>rfl
 | succ k ih=>show Bq (λ_=>4) k+4=_; rw [ih]; omega
def dgC (P:Pt) (d x:Nat→Nat) (k:Nat):Pt:=Co (d k*4 ^ k) P (x k)
section
variable (P Q:Pt) (C:Nat→Pt) (N:Nat) (sd:AF) (d x:Nat→Nat)
def rcX (i k:Nat):Nat:=pX (kP P (C i) i k)
def rcY (i k:Nat):Nat:=pY (kP P (C i) i k)
def rcI (i k:Nat):Bool:=pI (kP P (C i) i k)
def rcM:List UInt8:=rgM (tx9 P Q) N (λ_=>4) (rcX P C) (rcY P C) (rcI P C)
def rcR:Bool:=Fm N (λ_=>4) (rcX P C) (rcY P C) (rcI P C)
def rcF:Bool:=Fa (λi=>((d i:Nat):Int)) x (λ_=>4) (rcX P C) (rcY P C) (rcI P C) N N
def rcD:List UInt8:=sgD (rcM P Q C N) sd (rcX P C) (rcY P C) (rcI P C) (λi=>(((d i:Nat):Int)).toNat) (λ_=>4) N
def rcS:Nat→Nat→Nat:=sgS (rcM P Q C N) sd (rcX P C) (rcY P C) (rcI P C) (λi=>(((d i:Nat):Int)).toNat) x (rcD P Q C N sd d)
def pf9:List UInt8:=(UInt8.ofNat N::Iq C (N - 1))++(uD (rcR P C N) (rcF P C N d x) (rcD P Q C N sd d)++EQ (rcS P Q C N sd d x) (λ_=>4) (uN (rcR P C N) (rcF P C N d x) N))
end
def ByR (l:AF) (v:Value) (M:AC):Prop:=∃ y:Slc,v=y.v∧M=y.bl∧y.Is 5 1 (BN l)
theorem Oq (w:World) (ax ay:Nat) (ai:Bool) (mx my:Nat) (mi:Bool) (hax:ax<K4) (hay:ay<K4) (hmx:mx<K4) (hmy:my<K4) (sd:AF) (hsd:sd.length=32) (S:Option Addr) (N cS:Nat) (d x:Nat→Nat) (hd:∀ i,i<N→d i<4) (hx:∀ i,x i<K4) (hN1:1≤N) (hN2:N≤32) (hls:Lst w 5 S N (λi=>Bp ((d i:Nat):Int) (x i))) (ht:Sh.TabAt w 1):AY 22 #[clv ax ay ai mx my mi,.agg (sd.map bv).toArray,.slice S N cS] w (GetsN w (ByR (pf9 (dec ax ay ai) (dec mx my mi) (dgC (dec ax ay ai) d x) N sd d x))):=by
 obtain ⟨P,hP⟩:=xE (dec ax ay ai)
 obtain ⟨Q,hQ⟩:=xE (dec mx my mi)
 rw [← hP, ← hQ]
 obtain ⟨C,hC⟩:=xE (dgC P d x)
 rw [← hC]
 have oP:Ec.On P:=by rw [hP]; exact C8 _ _ _
 have hCk:∀ k,Co (d k*4 ^ k) P (x k)=C k:=λk=>by rw [hC]; rfl
 have oC:∀ k,Ec.On (C k):=λk=>by rw [← hCk]; exact Gx oP _ _
 have hls0:=hls
 obtain ⟨gS,oS,hS⟩:=hls
 refine Sy.enter (args:=[clv ax ay ai mx my mi,.agg (sd.map bv).toArray,.slice S N cS]) Tryz.func22 U kL<|sC<|sM 49 (clC ax ay ai mx my mi).toArray (λg0=>?_)
 refine sM 23 (sd.map bv).toArray (λg1=>?_)
 refine sp U<|sA<|sp U<|sP (iZ N)<|sS (bv (UInt8.ofNat N)) (Quiet.pure (λw=>DZ w _ _ _ N om U U))<|Sy.make kR 5 #[bv (UInt8.ofNat N)] (λg=>.slice (pA g) 1 1) kF (λg7=>?_)
 refine sp U<|sA<|sp U<|sG<|Sy.seq<|sC<|sp U<|sP (iZ N)<|sp U<|sG<|Sy.block<|Sy.loopT (Y:=Slc×Slc) N (λk1 y1=>[(2,.slice S N cS),(3,ptr g0),(4,ptr g1),(7,y1.1.v),(8,y1.2.v),(18,.slice S N cS),(19,iZ N),(20,iZ k1)]) (λk1 y1=>[(g0,49,(clC ax ay ai mx my mi).toArray),(g1,23,(sd.map bv).toArray)]++(y1.1.bl++(y1.2.bl++([])))) (λk1 y1=>y1.1.Is 5 1 (BN (UInt8.ofNat N::Iq C (min k1 (N - 1))))∧y1.2.Is 37 9 ((List.range k1).map (ptL C))) (⟨.slice (pA g7) 1 1,[(g7,5,#[bv (UInt8.ofNat N)])]⟩,nilS) ⟨by rw [Nat.zero_min]; exact Slc.Is.mk' (cs:=[bv (UInt8.ofNat N)]) (EI [UInt8.ofNat N]) (Di [UInt8.ofNat N]) U U U (Nat.le_refl _) dZ,Slc.Is.nil _ _⟩ ac8 (λw hw=>hw) (λk1 y1 hk1 hh1=>?_)
 refine sC ?_
 obtain ⟨b1,hb1⟩:=xE (decide (k1<N))
 refine sS (.bool b1) (qls U U U hb1)<|sG<|Sy.seq ?_
 cases b1
 ·have lb1:=dN hb1
  obtain rfl:N=k1:=om
  refine sU<|Sy.exit<|Sy.then_exit<|Sy.then_exit<|Sy.in_exit ?_
  rw [show min N (N - 1)=N - 1 by omega] at hh1
  obtain ⟨br,hbr⟩:=xE (rcR P C N)
  obtain ⟨bf,hbf⟩:=xE (rcF P C N d x)
  obtain ⟨dS,hdS⟩:=xE (rcD P Q C N sd d)
  obtain ⟨zS,hzS⟩:=xE (rcS P Q C N sd d x)
  have hdSl:dS.length=32:=by rw [hdS]; exact Iw _
  have hzS4:∀ i k,zS i k<K4:=λi k=>by rw [hzS]; exact X4 _ _
  obtain ⟨dU,hdU⟩:=xE (uD br bf dS)
  obtain ⟨NU,hNU⟩:=xE (uN br bf N)
  obtain ⟨en,hen⟩:=xE (uE br bf)
  have hdUl:dU.length=32:=by rw [hdU]; exact Si hdSl
  have hNU2:NU≤32:=by rw [hNU]; unfold uN; split <;> omega
  have e1:pf9 P Q C N sd d x=(UInt8.ofNat N::Iq C (N - 1))++(dU++EQ zS (λ_=>4) NU):=by
   unfold pf9
   rw [hdU,hNU,hdS,hzS,hbr,hbf]
  have hrng:∀ w' {L:AC},St (Base.of w) w' L→(∀ b∈y1.2.bl,b∈L)→AY 60 #[clv ax ay ai mx my mi,y1.2.v] w' (GetsN w' (CZ P C N)):=λw' L hw hb=>by
   obtain ⟨A1,c1,e1,_,_,e4⟩:=hh1.2.out
   rw [List.length_map,List.length_range] at e1 e4
   rw [e1]
   exact Je w' ax ay ai mx my mi hax hay P hP A1 N c1 C oC hN2 (Ei (e4 hw hb) (λi hi=>by rw [List.getD_eq_getElem?_getD,List.getElem?_map,List.getElem?_range hi]; rfl))
  have hsign:∀ w' {L:AC},St (Base.of w) w' L→∀ (gt ct:Nat) (R:Option Addr) (cR ga:Nat),(tx9 P Q).length≤ct→ct≤9223372036854775807→Sh.Src w' (pA gt) (tx9 P Q)→(Lst w' 1 R N (λi=>[.slice (some ⟨ga,0+4*i*9,none⟩) 4 4])∧∀ i,i<N→Lst w' 9 (some ⟨ga,0+4*i*9,none⟩) 4 (λk=>pml (pX (kP P (C i) i k)) (pY (kP P (C i) i k)) (pI (kP P (C i) i k)))) →
    AY 59 #[.agg (sd.map bv).toArray,.slice (pA gt) (tx9 P Q).length ct,.slice R N cR,.slice S N cS] w' (GetsN w' (FO (Base.of w) dU NU (λ_=>4) zS (.int .i64 en))):=λw' L hw gt ct R cR ga h1 h2 h3 h4=>by
   have q:=SR w' sd hsd (pA gt) (tx9 P Q) _ ct U (by unfold tx9; rw [List.length_append,Ai,Ai]; decide) h1 h2 h3 R N cR (λi=>some ⟨ga,0+4*i*9,none⟩) (λ_=>4) (λ_=>4) (rcX P C) (rcY P C) (rcI P C) (λ_ _=>B_ _) (λ_ _=>B9 _) om (λ_=>dZ) h4.1 h4.2 om S N cS (λi=>((d i:Nat):Int)) x hx om (hls0.below hw.below) (ht.below hw.below ht.lt)
   rw [hdU,hNU,hen,hzS,hdS,hbr,hbf]
   exact Calls.mono q (λe w' ⟨v,M,q1,q2,q3⟩=>⟨v,M,q1,SgnR.uniC q2,q3⟩)
  refine sR (λj=>j == 12) ?_
  refine sD 0 U (.agg (sd.map bv).toArray) (qx 1 0 32 U U Dc (BO sd hsd) (Bf sd hsd))<|sD 1 U (clv ax ay ai mx my mi) (qk 0 0 18 U U FV)<|sD 3 U (clv ax ay ai mx my mi) (qk 0 0 18 U U FV)<|sz 4 U U<|sz 6 U U<|Sy.joinG (T:=Nat×Option Addr×Nat×AC×AC) (λ⟨g12,W1,c1,M1,Mo⟩=>[(7,y1.1.v),(12,ptr g12),(57,Aq dU W1 NU c1),(58,.int .i64 en)]) (λ⟨g12,W1,c1,M1,Mo⟩=>[(g0,49,(clC ax ay ai mx my mi).toArray),(g1,23,(sd.map bv).toArray),(g12,69,zS33.toArray)]++(M1++(y1.1.bl++Mo))) (λ⟨g12,W1,c1,M1,Mo⟩=>∃ sa sc,RwU (Base.of w) W1 NU (λ_=>4) zS sa sc M1) 2 #[true,true,true,true,true,true,true,true,true,true,true,true,false,false] (λX hX=>?_) (λfin=>?_)
  rotate_left
  refine Sy.anyOf [2,11] kZ dZ (Sy.each2 ?_ ?_)
  ·refine Sy.oneCallN U kZ 39 #[clv ax ay ai mx my mi] kF (TxR (tx9 P Q)) (λw _=>by rw [hP,hQ]; exact H3 w ax ay ai mx my mi hax hay hmx hmy) (λv Mt hRt=>?_)
   obtain ⟨gt,ct,rfl,ht1,ht2,hts⟩:=hRt.src
   refine Sy.anyOf [5,11] kZ dZ (Sy.each2 ?_ ?_)
   ·refine Sy.oneCallN U kZ 60 #[clv ax ay ai mx my mi,y1.2.v] kF (CZ P C N) (λw' hw=>hrng w' hw (λb hb=>by simp only [List.mem_append,hb,true_or,or_true])) (λv Mr hRg=>?_)
    obtain ⟨R,cR,ga,rfl,hrl⟩:=G4 hRg
    refine Sy.anyOf [7,11] kZ dZ (Sy.each2 ?_ ?_)
    ·refine Sy.oneCallN U kZ 59 #[.agg (sd.map bv).toArray,.slice (pA gt) (tx9 P Q).length ct,.slice R N cR,.slice S N cS] kF (FO (Base.of w) dU NU (λ_=>4) zS (.int .i64 en)) (λw' hw=>hsign w' hw gt ct R cR ga ht1 ht2 (hts hw (λb hb=>by simp only [List.mem_append,hb,true_or,or_true])) (hrl hw (λb hb=>by simp only [List.mem_append,hb,true_or,or_true]))) (λv M1 hR0=>?_)
     obtain ⟨W1,c1,sa1,sc1,rfl,hU1⟩:=hR0
     refine sz 8 U U<|sz 9 U U<|Sy.stepDA 10 U kR (λ_ _ _ _ h=>h) kR (.int .i64 en) kF<|Sy.makeD 11 U kR kR 69 zS33.toArray ptr kF (λg12=>?_)
     exact BJ fin (g12,W1,c1,M1,y1.2.bl++(Mt++Mr)) ⟨sa1,sc1,hU1⟩ kR ac4 (Sy.flat_perm (ls:=[[(g0,49,(clC ax ay ai mx my mi).toArray),(g1,23,(sd.map bv).toArray)],y1.1.bl,y1.2.bl,Mt,Mr,M1,[(g12,69,zS33.toArray)]]) (ms:=[[(g0,49,(clC ax ay ai mx my mi).toArray),(g1,23,(sd.map bv).toArray)],[(g12,69,zS33.toArray)],M1,y1.1.bl,y1.2.bl,Mt,Mr]) [0,6,5,1,2,3,4] kZ (by rfl) (by simp) (by simp))
    ·refine Sy.oneMake U kZ 69 zS33.toArray ptr kF (λg12=>?_)
     refine Sy.callND 7 U kR kR 59 #[.agg (sd.map bv).toArray,.slice (pA gt) (tx9 P Q).length ct,.slice R N cR,.slice S N cS] kF (FO (Base.of w) dU NU (λ_=>4) zS (.int .i64 en)) (λw' hw=>hsign w' hw gt ct R cR ga ht1 ht2 (hts hw (λb hb=>by simp only [List.mem_append,hb,true_or,or_true])) (hrl hw (λb hb=>by simp only [List.mem_append,hb,true_or,or_true]))) (λv M1 hR0=>?_)
     obtain ⟨W1,c1,sa1,sc1,rfl,hU1⟩:=hR0
     refine sz 8 U U<|sz 9 U U<|Sy.stepDA 10 U kR (λ_ _ _ _ h=>h) kR (.int .i64 en) kF ?_
     exact BJ fin (g12,W1,c1,M1,y1.2.bl++(Mt++Mr)) ⟨sa1,sc1,hU1⟩ kR ac4 (Sy.flat_perm (ls:=[[(g0,49,(clC ax ay ai mx my mi).toArray),(g1,23,(sd.map bv).toArray)],y1.1.bl,y1.2.bl,Mt,Mr,[(g12,69,zS33.toArray)],M1]) (ms:=[[(g0,49,(clC ax ay ai mx my mi).toArray),(g1,23,(sd.map bv).toArray)],[(g12,69,zS33.toArray)],M1,y1.1.bl,y1.2.bl,Mt,Mr]) [0,5,6,1,2,3,4] kZ (by rfl) (by simp) (by simp))
   ·refine Sy.oneMake U kZ 69 zS33.toArray ptr kF (λg12=>?_)
    refine Sy.callND 5 U kR kR 60 #[clv ax ay ai mx my mi,y1.2.v] kF (CZ P C N) (λw' hw=>hrng w' hw (λb hb=>by simp only [List.mem_append,hb,true_or,or_true])) (λv Mr hRg=>?_)
    obtain ⟨R,cR,ga,rfl,hrl⟩:=G4 hRg
    refine Sy.callND 7 U kR kR 59 #[.agg (sd.map bv).toArray,.slice (pA gt) (tx9 P Q).length ct,.slice R N cR,.slice S N cS] kF (FO (Base.of w) dU NU (λ_=>4) zS (.int .i64 en)) (λw' hw=>hsign w' hw gt ct R cR ga ht1 ht2 (hts hw (λb hb=>by simp only [List.mem_append,hb,true_or,or_true])) (hrl hw (λb hb=>by simp only [List.mem_append,hb,true_or,or_true]))) (λv M1 hR0=>?_)
    obtain ⟨W1,c1,sa1,sc1,rfl,hU1⟩:=hR0
    refine sz 8 U U<|sz 9 U U<|Sy.stepDA 10 U kR (λ_ _ _ _ h=>h) kR (.int .i64 en) kF ?_
    exact BJ fin (g12,W1,c1,M1,y1.2.bl++(Mt++Mr)) ⟨sa1,sc1,hU1⟩ kR ac4 (Sy.flat_perm (ls:=[[(g0,49,(clC ax ay ai mx my mi).toArray),(g1,23,(sd.map bv).toArray)],y1.1.bl,y1.2.bl,Mt,[(g12,69,zS33.toArray)],Mr,M1]) (ms:=[[(g0,49,(clC ax ay ai mx my mi).toArray),(g1,23,(sd.map bv).toArray)],[(g12,69,zS33.toArray)],M1,y1.1.bl,y1.2.bl,Mt,Mr]) [0,4,6,1,2,3,5] kZ (by rfl) (by simp) (by simp))
  ·refine Sy.oneMake U kZ 69 zS33.toArray ptr kF (λg12=>?_)
   refine Sy.callND 2 U kR kR 39 #[clv ax ay ai mx my mi] kF (TxR (tx9 P Q)) (λw _=>by rw [hP,hQ]; exact H3 w ax ay ai mx my mi hax hay hmx hmy) (λv Mt hRt=>?_)
   obtain ⟨gt,ct,rfl,ht1,ht2,hts⟩:=hRt.src
   refine Sy.callND 5 U kR kR 60 #[clv ax ay ai mx my mi,y1.2.v] kF (CZ P C N) (λw' hw=>hrng w' hw (λb hb=>by simp only [List.mem_append,hb,true_or,or_true])) (λv Mr hRg=>?_)
   obtain ⟨R,cR,ga,rfl,hrl⟩:=G4 hRg
   refine Sy.callND 7 U kR kR 59 #[.agg (sd.map bv).toArray,.slice (pA gt) (tx9 P Q).length ct,.slice R N cR,.slice S N cS] kF (FO (Base.of w) dU NU (λ_=>4) zS (.int .i64 en)) (λw' hw=>hsign w' hw gt ct R cR ga ht1 ht2 (hts hw (λb hb=>by simp only [List.mem_append,hb,true_or,or_true])) (hrl hw (λb hb=>by simp only [List.mem_append,hb,true_or,or_true]))) (λv M1 hR0=>?_)
   obtain ⟨W1,c1,sa1,sc1,rfl,hU1⟩:=hR0
   refine sz 8 U U<|sz 9 U U<|Sy.stepDA 10 U kR (λ_ _ _ _ h=>h) kR (.int .i64 en) kF ?_
   exact BJ fin (g12,W1,c1,M1,y1.2.bl++(Mt++Mr)) ⟨sa1,sc1,hU1⟩ kR ac4 (Sy.flat_perm (ls:=[[(g0,49,(clC ax ay ai mx my mi).toArray),(g1,23,(sd.map bv).toArray)],y1.1.bl,y1.2.bl,[(g12,69,zS33.toArray)],Mt,Mr,M1]) (ms:=[[(g0,49,(clC ax ay ai mx my mi).toArray),(g1,23,(sd.map bv).toArray)],[(g12,69,zS33.toArray)],M1,y1.1.bl,y1.2.bl,Mt,Mr]) [0,3,6,1,2,4,5] kZ (by rfl) (by simp) (by simp))
  obtain ⟨g12,W1,c1,M1,Mo⟩:=X
  obtain ⟨sa1,sc1,hU1⟩:=hX
  dsimp only
  refine sx 12 U 2 U (AV dU W1 NU c1).toArray (Writes.row 69 (AV dU W1 NU c1) 33 _ _ U kR kR kR (Ag hdUl) (by rw [List.size_toArray,Ag List.length_replicate]) CG)<|Sy.setTD<|Sy.anyOf [13] kZ dZ (Sy.each1 (Sy.oneQuiet U kR (.int .i64 en) (Quiet.pure kF) ?_))
  refine sE<|sB<|sp U<|sS (Aq dU W1 NU c1) (qx 2 0 33 U U Cw (Be hdUl) (Cc hdUl)) ?_
  obtain ⟨l0,hl0⟩:=xE (dU++EQ zS (λ_=>4) NU)
  have hll:l0.length≤4200:=by
   rw [hl0,List.length_append,hdUl,Gc,H5]
   omega
  have hcl:=EF C (N - 1)
  refine Sy.callN kR 61 #[Aq dU W1 NU c1] kF _ (λw hw=>by have u:=hU1.2 w _ hw (λb hb=>by simp only [List.mem_append,hb,true_or,or_true]); have q:=UQ w dU hdUl W1 NU c1 sa1 (λ_=>4) sc1 zS hzS4 om (λ_ _=>dZ) u.1 u.2 om (by rw [H5]; omega) hU1.1; rw [← hl0] at q; exact q) (λv M3 hR0=>?_)
  obtain ⟨y3,rfl,rfl,hy3⟩:=hR0
  obtain ⟨A3,c3,hv3,hl3,hc3,hs3⟩:=Oh hy3
  refine Sy.permS (M:=[(g0,49,(clC ax ay ai mx my mi).toArray),(g1,23,(sd.map bv).toArray),(g12,69,(AV dU W1 NU c1).toArray)]++(y1.1.bl++(M1++(Mo++(y3.bl++[]))))) (Sy.flat_perm (ls:=[[(g0,49,(clC ax ay ai mx my mi).toArray),(g1,23,(sd.map bv).toArray),(g12,69,(AV dU W1 NU c1).toArray)],M1,y1.1.bl,Mo,y3.bl]) (ms:=[[(g0,49,(clC ax ay ai mx my mi).toArray),(g1,23,(sd.map bv).toArray),(g12,69,(AV dU W1 NU c1).toArray)],y1.1.bl,M1,Mo,y3.bl]) [0,2,1,3,4] kZ (by rfl) (by simp) (by simp))<|Sy.appendM kR 29 5 _ _ 1 1 EM I3 U U U U dZ _ _ U (ys:=BN l0) hh1.1 kR (EI _) (Di _) A3 l0.length c3 (B1 _) hl3 (by rw [← hv3]; kernel_rfl) (λr=>From.srcL (λw hw=>hs3 hw (λb hb=>by simp only [List.mem_append,hb,true_or,or_true]))) (by rw [B1,List.length_cons,hcl]; omega) (by rw [B1,List.length_cons,hcl]; simp only [maxLen]; omega) (λr hr=>?_)
  refine sp U<|sG<|Sy.ret ?_
  rw [e1, ← hl0]
  exact Sy.retGM r.bl U (v:=r.v) (.inl (show _=_ by kernel_rfl)) (λw hw=>St.less hw ((List.sublist_append_left _ _).trans (List.sublist_append_right _ _))) ⟨r,rfl,rfl,by rw [Gq]; exact hr⟩
 ·have lb1:=dY hb1
  have ld:=hd k1 lb1
  have lx:=hx k1
  have lw:=JF ld (show k1<32 by omega)
  obtain ⟨q,hq⟩:=xE (d k1*4 ^ k1)
  rw [← hq] at lw
  have hV:Co q P (x k1)=C k1:=by rw [hq]; exact hCk k1
  refine sT<|Sy.skip<|Sy.then_<|Sy.seq<|Sy.block<|sC<|sp U<|sS (.pointer (some ⟨gS,oS+k1*5,none⟩)) (Quiet.pure (Af 52 _ _ _ S gS oS N cS k1 5 .i64 (hS om).1 U U U Ob kF om))<|sS (X9 ((d k1:Nat):Int) (x k1)) (Quiet.there gS (oS+k1*5) 5 65 (Bp ((d k1:Nat):Int) (x k1)) _ _ U kR (hS om).2.1 ((hS om).2.2 k1 lb1) Xr U kR U _ U)<|sM 65 (Bp 0 0).toArray (λg10=>?_)
  refine Sy.movT<|sp U<|sW 2 g10 65 (Bp 0 0).toArray (Bp ((d k1:Nat):Int) (x k1)).toArray (wS 0 65 (Bp ((d k1:Nat):Int) (x k1)).toArray U)<|Sy.setT<|sH (λj=>j == 10) ?_
  refine sZ 0 U (pT g10 0)<|sD 1 U (iZ (d k1)) (qC 2 g10 0 65 3 (Bp ((d k1:Nat):Int) (x k1)).toArray U uy3)<|sz 2 U U<|sD 3 U (uZ ((q:Nat):Int)) (qf (λw=>by rw [hq]; exact Kd w _ _ ld om))<|sZ 4 U (pT g0 0)<|sD 5 U (pv ax ay ai) (qL 0 g0 0 9 49 37 (clC ax ay ai mx my mi).toArray U AX)<|sZ 6 U (pT g10 1)<|sD 7 U (fv (x k1)) (qL 2 g10 1 4 65 26 (Bp ((d k1:Nat):Int) (x k1)).toArray U Au)<|sD 8 U (pv (pX (C k1)) (pY (C k1)) (pI (C k1))) (qf (Oa lw hax hay lx hP.symm hV))<|Sy.makeD 9 U kR kR 37 (pcs 0 0 false) ptr kF (λg11=>?_)
  refine Sy.movTD<|sX 10 U 3 g11 37 (pcs 0 0 false) (pcs (pX (C k1)) (pY (C k1)) (pI (C k1))) (wS 0 37 (pcs (pX (C k1)) (pY (C k1)) (pI (C k1))) U)<|Sy.setTD<|sE<|sB<|sp U<|sS (pv (pX (C k1)) (pY (C k1)) (pI (C k1))) (qL 3 g11 0 9 37 37 (pcs (pX (C k1)) (pY (C k1)) (pI (C k1))) U AX)<|Sy.make kR 37 (pcs (pX (C k1)) (pY (C k1)) (pI (C k1))) (λg=>.slice (pA g) 1 1) kF (λgq=>?_)
  refine Sy.movT<|Sy.permS (M:=[(g0,49,(clC ax ay ai mx my mi).toArray),(g1,23,(sd.map bv).toArray),(g10,65,(Bp ((d k1:Nat):Int) (x k1)).toArray),(g11,37,pcs (pX (C k1)) (pY (C k1)) (pI (C k1))),(gq,37,pcs (pX (C k1)) (pY (C k1)) (pI (C k1)))]++(y1.2.bl++(y1.1.bl++([])))) (Sy.flat_perm (ls:=[[(g0,49,(clC ax ay ai mx my mi).toArray),(g1,23,(sd.map bv).toArray),(g10,65,(Bp ((d k1:Nat):Int) (x k1)).toArray),(g11,37,pcs (pX (C k1)) (pY (C k1)) (pI (C k1))),(gq,37,pcs (pX (C k1)) (pY (C k1)) (pI (C k1)))],y1.1.bl,y1.2.bl]) (ms:=[[(g0,49,(clC ax ay ai mx my mi).toArray),(g1,23,(sd.map bv).toArray),(g10,65,(Bp ((d k1:Nat):Int) (x k1)).toArray),(g11,37,pcs (pX (C k1)) (pY (C k1)) (pI (C k1))),(gq,37,pcs (pX (C k1)) (pY (C k1)) (pI (C k1)))],y1.2.bl,y1.1.bl]) [0,2,1] kZ (by rfl) (by simp) (by simp))<|Sy.appendR kR 54 37 _ _ 9 72 CE Ci U U U U dZ _ _ U hh1.2 kR (pml (pX (C k1)) (pY (C k1)) (pI (C k1))) U (Bx _ _ _) 4 gq 37 kR kR (by rw [List.length_map,List.length_range]; omega) (by rw [List.length_map,List.length_range]; simp only [maxLen]; omega) (λr1 hr1=>?_)
  refine sp U<|sA ?_
  obtain ⟨b2,hb2⟩:=xE (decide (k1<N - 1))
  refine sp U<|sp U<|sP (iZ N)<|sS (iZ (N - 1)) (qsb U U U)<|sS (.bool b2) (qls U U U hb2)<|sG ?_
  cases b2
  ·have lb2:=dN hb2
   refine sU<|Sy.skip<|Sy.in_<|Sy.then_<|Sy.region<|sS (iZ (k1+1)) (qad U U U)<|sp U<|Sy.nil ?_
   exact Sy.againT (y1.1,r1) om ⟨by rw [show min (k1+1) (N - 1)=min k1 (N - 1) by omega]; exact hh1.1,by rw [List.range_succ,List.map_append]; exact hr1⟩ ac8 (λw hw=>St.parts (ls:=[[(g0,49,(clC ax ay ai mx my mi).toArray),(g1,23,(sd.map bv).toArray)],[(g10,65,(Bp ((d k1:Nat):Int) (x k1)).toArray)],[(g11,37,pcs (pX (C k1)) (pY (C k1)) (pI (C k1)))],[(gq,37,pcs (pX (C k1)) (pY (C k1)) (pI (C k1)))],r1.bl,y1.1.bl]) (ms:=[[(g0,49,(clC ax ay ai mx my mi).toArray),(g1,23,(sd.map bv).toArray)],y1.1.bl,r1.bl]) [[(g10,65,(Bp ((d k1:Nat):Int) (x k1)).toArray)],[(g11,37,pcs (pX (C k1)) (pY (C k1)) (pI (C k1)))],[(gq,37,pcs (pX (C k1)) (pY (C k1)) (pI (C k1)))]] [0,5,4,1,2,3] kR (by rfl) (by simp) (by simp) hw)
  ·have lb2:=dY hb2
   have hcl:=EF C (min k1 (N - 1))
   refine sT<|Sy.region<|sp U<|sS (pv (pX (C k1)) (pY (C k1)) (pI (C k1))) (qL 3 g11 0 9 37 37 (pcs (pX (C k1)) (pY (C k1)) (pI (C k1))) U AX)<|Sy.callN kR 58 #[pv (pX (C k1)) (pY (C k1)) (pI (C k1))] kF (Dk (C k1)) (λw _=>by have q0:=IL w (pX (C k1)) (pY (C k1)) (pI (C k1)) (B_ _) (B9 _); rw [Ap (oC k1)] at q0; exact q0) (λv Mc hRc=>?_)
   obtain ⟨gc,rfl,rfl⟩:=hRc
   refine Sy.movT<|Sy.permS (M:=[(g0,49,(clC ax ay ai mx my mi).toArray),(g1,23,(sd.map bv).toArray),(g10,65,(Bp ((d k1:Nat):Int) (x k1)).toArray),(g11,37,pcs (pX (C k1)) (pY (C k1)) (pI (C k1))),(gq,37,pcs (pX (C k1)) (pY (C k1)) (pI (C k1))),(gc,166,((Ay (C k1)).map bv).toArray)]++(y1.1.bl++(r1.bl++([])))) (Sy.flat_perm (ls:=[[(g0,49,(clC ax ay ai mx my mi).toArray),(g1,23,(sd.map bv).toArray),(g10,65,(Bp ((d k1:Nat):Int) (x k1)).toArray),(g11,37,pcs (pX (C k1)) (pY (C k1)) (pI (C k1))),(gq,37,pcs (pX (C k1)) (pY (C k1)) (pI (C k1))),(gc,166,((Ay (C k1)).map bv).toArray)],r1.bl,y1.1.bl]) (ms:=[[(g0,49,(clC ax ay ai mx my mi).toArray),(g1,23,(sd.map bv).toArray),(g10,65,(Bp ((d k1:Nat):Int) (x k1)).toArray),(g11,37,pcs (pX (C k1)) (pY (C k1)) (pI (C k1))),(gq,37,pcs (pX (C k1)) (pY (C k1)) (pI (C k1))),(gc,166,((Ay (C k1)).map bv).toArray)],y1.1.bl,r1.bl]) [0,2,1] kZ (by rfl) (by simp) (by simp))<|Sy.appendM kR 29 5 _ _ 1 1 EM I3 U U U U dZ _ _ U (ys:=BN (Ay (C k1))) hh1.1 kR (EI _) (Di _) (pA gc) 33 33 (by rw [B1]; exact Ai _) (Nat.le_refl _) kR (λ_=>From.arr (i:=5) (t:=166) (l:=Ay (C k1)) kR) (by rw [B1,List.length_cons,hcl]; omega) (by rw [B1,List.length_cons,hcl]; simp only [maxLen]; omega) (λr2 hr2=>?_)
   refine sp U<|Sy.nil<|Sy.in_<|Sy.then_<|Sy.region<|sS (iZ (k1+1)) (qad U U U)<|sp U<|Sy.nil ?_
   exact Sy.againT (r2,r1) om ⟨by rw [show min (k1+1) (N - 1)=k1+1 by omega]; rw [show min k1 (N - 1)=k1 by omega] at hr2; rw [IP, ← List.cons_append,Gq]; exact hr2,by rw [List.range_succ,List.map_append]; exact hr1⟩ ac8 (λw hw=>St.parts (ls:=[[(g0,49,(clC ax ay ai mx my mi).toArray),(g1,23,(sd.map bv).toArray)],[(g10,65,(Bp ((d k1:Nat):Int) (x k1)).toArray)],[(g11,37,pcs (pX (C k1)) (pY (C k1)) (pI (C k1)))],[(gq,37,pcs (pX (C k1)) (pY (C k1)) (pI (C k1)))],[(gc,166,((Ay (C k1)).map bv).toArray)],r2.bl,r1.bl]) (ms:=[[(g0,49,(clC ax ay ai mx my mi).toArray),(g1,23,(sd.map bv).toArray)],r2.bl,r1.bl]) [[(g10,65,(Bp ((d k1:Nat):Int) (x k1)).toArray)],[(g11,37,pcs (pX (C k1)) (pY (C k1)) (pI (C k1)))],[(gq,37,pcs (pX (C k1)) (pY (C k1)) (pI (C k1)))],[(gc,166,((Ay (C k1)).map bv).toArray)]] [0,5,6,1,2,3,4] kR (by rfl) (by simp) (by simp) hw)
def opA (id:AF) (k:Nat):Pt:=KY id k
def opQ (id:AF) (v k l:Nat):Pt:=Co v (KY id k) l
theorem E9 (id:AF) (k:Nat):Ec.On (opA id k):=Qw id k
theorem O7 (id:AF) (v k l:Nat):Ec.On (opQ id v k l):=Gx (Qw id k) v l
def Fu (id:AF) (v k l:Nat) (z:Int):Int:=ft9 (okB (pX (opA id k)) (pY (opA id k)) (pI (opA id k)) (pX (opQ id v k l)) (pY (opQ id v k l)) (pI (opQ id v k l))) v z
def NN (sd id:AF) (v k l N:Nat):List UInt8:=pf9 (opA id k) (opQ id v k l) (dgC (opA id k) (λi=>v / 4 ^ i%4) (s9x sd l N)) N sd (λi=>v / 4 ^ i%4) (s9x sd l N)
def ZM (sd id:AF) (v k l:Nat) (z:Int) (u:Value) (M:AC):Prop:=(Fu id v k l z≠0∧u=.tuple #[.slice none 0 0,.int .i64 (Fu id v k l z)]∧M=[])∨(Fu id v k l z=0∧Gs z=true∧∃ y:Slc,u=.tuple #[y.v,.int .i64 0]∧M=y.bl∧y.Is 5 1 (BN (NN sd id v k l (z.toNat / 2))))
theorem J8 {ok:Bool} {v:Nat} {z:Int} (h:ft9 ok v z=0):Gs z=true:=by
 cases hb:Gs z with
 | true=>rfl
 | false=>rw [Hf hb] at h; cases h
theorem OG {z:Int} (h:Gs z=true):∃ N:Nat,z=((2*N:Nat):Int)∧1≤N∧N≤32:=by
 unfold Gs at h
 simp only [Bool.and_eq_true,decide_eq_true_eq] at h
 obtain ⟨h1,h2,h3⟩:=h
 obtain ⟨n,rfl⟩:=Int.eq_ofNat_of_zero_le (show 0≤z by omega)
 rw [Int.tmod_eq_emod_of_nonneg om] at h3
 exact ⟨n / 2,by omega,by omega,by omega⟩
theorem Vq (N:Nat) (h:N≤32):(IntKind.i64).wrap ((((2*N:Nat):Int)).tdiv 2)=((N:Nat):Int):=by
 rw [Int.tdiv_eq_ediv_of_nonneg om]
 exact (Cy om om).trans om
theorem KQ (w:World) (sd:AF) (hsd:sd.length=32) (g:Nat→UInt8) (v k l:Nat) (hv:v<18446744073709551616) (hk:k<K4) (hl:l<K4) (z:Int) (ht:Sh.TabAt w 1):AY 7 #[.agg (sd.map bv).toArray,opv (l32 g) v k l,.int .i64 z] w (GetsN w (ZM sd (l32 g) v k l z)):=by
 obtain ⟨R1,hR1⟩:=xE (opA (l32 g) k)
 obtain ⟨R2,hR2⟩:=xE (opQ (l32 g) v k l)
 have oR1:Ec.On R1:=by rw [hR1]; exact E9 _ _
 have oR2:Ec.On R2:=by rw [hR2]; exact O7 _ _ _ _
 have hR2v:Co v R1 l=R2:=by rw [hR2,hR1]; rfl
 obtain ⟨fz,hfz⟩:=xE (Fu (l32 g) v k l z)
 have hfz2:fz=ft9 (okB (pX R1) (pY R1) (pI R1) (pX R2) (pY R2) (pI R2)) v z:=by rw [hfz,hR1,hR2]; rfl
 refine Sy.enter (args:=[.agg (sd.map bv).toArray,opv (l32 g) v k l,.int .i64 z]) Tryz.func7 U kL ?_
 refine sC<|sM 23 (sd.map bv).toArray (λgs=>?_)
 refine sM 28 (Io (l32 g) v k l) (λgo=>?_)
 refine sp U<|sp U<|sA<|sP (pT go 0)<|sS (.agg ((l32 g).map bv).toArray) (qk 1 0 32 U U Dc)<|sP (pT go 33)<|sS (fv k) (qk 1 33 4 U U Au)<|sS (pv (pX R1) (pY R1) (pI R1)) (qg (λw hw=>ZA (EY g) hk (ht.below hw.below ht.lt) hR1.symm))<|sM 37 (pcs 0 0 false) (λg8=>?_)
 refine sw 2 U (pcs (pX R1) (pY R1) (pI R1)) (wA U)<|sH (λj=>j == 9) ?_
 refine sD 0 U (pv (pX R1) (pY R1) (pI R1)) (qk 2 0 9 U U AX)<|sZ 1 U (pT go 32)<|sD 2 U (uZ ((v:Nat):Int)) (qc 1 32 U U B2)<|sD 3 U (pv (pX R1) (pY R1) (pI R1)) (qk 2 0 9 U U AX)<|sZ 4 U (pT go 37)<|sD 5 U (fv l) (qk 1 37 4 U U Au)<|sD 6 U (pv (pX R2) (pY R2) (pI R2)) (qf (Oa hv (B_ _) (B9 _) hl (Ap oR1) hR2v))<|sZ 7 U (clv (pX R1) (pY R1) (pI R1) (pX R2) (pY R2) (pI R2))<|Sy.makeD 8 U kR kR 49 (clC 0 0 false 0 0 false).toArray ptr kF (λg9=>?_)
 refine sx 9 U 3 U (clC (pX R1) (pY R1) (pI R1) (pX R2) (pY R2) (pI R2)).toArray (wA U)<|sI<|Sy.seq<|sC<|sS (clv (pX R1) (pY R1) (pI R1) (pX R2) (pY R2) (pI R2)) (qk 3 0 18 U U FV)<|sP (pT go 32)<|sS (uZ ((v:Nat):Int)) (qc 1 32 U U B2)<|sp U<|sS (.int .i64 fz) (qf (λw=>by rw [hfz2]; exact PU w (pX R1) (pY R1) (pI R1) (pX R2) (pY R2) (pI R2) (B_ _) (B9 _) (B_ _) (B9 _) v hv z))<|sp U<|sA ?_
 obtain ⟨b1,hb1⟩:=xE (decide (fz≠0))
 refine sp U<|sS (.bool b1) (Quiet.pure (AK .neq _ _ _ .i64 _ _ _ U U U (Dt _ _ _ _ _ hb1.symm)))<|sG ?_
 cases b1
 case' true =>
  have l1:=dY hb1
  refine sT<|sC<|sp U<|sp U<|sp U<|sG<|Sy.ret<|Sy.then_ret ?_
  exact DE [] rfl (v:=.slice none 0 0) (u:=.int .i64 fz) (.inl (show _=_ by kernel_rfl)) (.inl (show _=_ by kernel_rfl)) (λ_ hw=>hw.none) (.inl ⟨by rw [← hfz]; exact l1,by rw [← hfz],rfl⟩)
 have l1:fz=0:=Decidable.of_not_not (of_decide_eq_false hb1.symm)
 have hbit:Gs z=true:=J8 (hfz2.symm.trans l1)
 obtain ⟨N,rfl,hN1,hN2⟩:=OG hbit
 have hzN:(((2*N:Nat):Int)).toNat / 2=N:=om
 refine sU<|Sy.skip<|sR (λj=>false) ?_
 refine sD 0 U (clv (pX R1) (pY R1) (pI R1) (pX R2) (pY R2) (pI R2)) (qk 3 0 18 U U FV)<|sD 1 U (.agg (sd.map bv).toArray) (qx 0 0 32 U U Dc (BO sd hsd) (Bf sd hsd))<|sD 2 U (.agg (sd.map bv).toArray) (qx 0 0 32 U U Dc (BO sd hsd) (Bf sd hsd))<|sD 3 U (opv (l32 g) v k l) (qk 1 0 41 U U VG)<|sz 4 U U<|sD 5 U (iZ N) (Quiet.pure (AK .quo _ _ _ .i64 _ _ _ U U U (DJ _ _ _ _ _ dZ (Vq N om)))) ?_
 obtain ⟨d,hd⟩:∃ f:Nat→Nat,f=λi=>v / 4 ^ i%4:=⟨_,rfl⟩
 obtain ⟨x,hx⟩:=xE (s9x sd l N)
 have hd4:∀ i,d i<4:=λi=>by rw [hd]; exact Nat.mod_lt _ dZ
 have hx4:∀ i,x i<K4:=λi=>by rw [hx]; exact X_ hl i
 have hsL:s9L sd v l N=λi=>Bp ((d i:Nat):Int) (x i):=by rw [hd,hx]; rfl
 refine Sy.callND 6 U kR kR 23 #[.agg (sd.map bv).toArray,opv (l32 g) v k l,iZ N] kF (aO (s9L sd v l N) N) (λw hw=>Lr w sd hsd g v k l N hv hk hl hN2 (ht.below hw.below ht.lt)) (λu Ms hRs=>?_)
 obtain ⟨yS,rfl,rfl,hyS⟩:=hRs
 obtain ⟨S,cS,e1,_,_,e4⟩:=hyS.out
 rw [List.length_map,List.length_range] at e1 e4
 obtain ⟨pf,hpf⟩:=xE (NN sd (l32 g) v k l N)
 refine Sy.callND 7 U kR kR 22 #[clv (pX R1) (pY R1) (pI R1) (pX R2) (pY R2) (pI R2),.agg (sd.map bv).toArray,yS.v] kF (ByR pf) (λw' hw=>by
  have q:=Oq w' (pX R1) (pY R1) (pI R1) (pX R2) (pY R2) (pI R2) (B_ _) (B9 _) (B_ _) (B9 _) sd hsd S N cS d x (λi _=>hd4 i) hx4 hN1 hN2 (Ei (e4 hw (λb hb=>by simp only [List.mem_append,hb,true_or,or_true])) (λi hi=>by rw [List.getD_eq_getElem?_getD,List.getElem?_map,List.getElem?_range hi,hsL]; rfl)) (ht.below hw.below ht.lt)
  rw [Ap oR1,Ap oR2] at q
  rw [e1,hpf,show NN sd (l32 g) v k l N=pf9 R1 R2 (dgC R1 d x) N sd d x from by rw [hR1,hR2,hd,hx]; rfl]
  exact q) (λu Mp hRp=>?_)
 obtain ⟨yP,rfl,rfl,hyP⟩:=hRp
 refine sz 8 U U<|sz 9 U U<|sI<|Sy.ret ?_
 exact DE yP.bl U (v:=yP.v) (u:=.int .i64 0) (.inl (show _=_ by kernel_rfl)) (.inl (show _=_ by kernel_rfl)) (λw hw=>St.less hw (List.sublist_append_right _ _)) (.inr ⟨hfz.symm.trans l1,hbit,yP,rfl,rfl,by rw [hzN, ← hpf]; exact hyP⟩)
theorem Qy {s s':Nat→Nat} {bm:AF} {i K:Nat} {X Y:Nat→Nat} {I:Nat→Bool} {x:AF} (h:∀ j,j<K→s j=s' j):∀ k,k≤K→alX s bm i 0 X Y I x k=alX s' bm i 0 X Y I x k
 | 0,_=>rfl
 | k+1,hk=>by rw [Ez,Ez,Qy h k om,h k om]
section
variable {s s':Nat→Nat→Nat} {bm:AF} {X Y:Nat→Nat→Nat} {I:Nat→Nat→Bool} {d:AF} {N:Nat} {nk:Nat→Nat}
theorem Ig (h:∀ i,i<N→∀ j,j<nk i→s i j=s' i j):∀ k,k≤N→DQ s bm X Y I d nk k=DQ s' bm X Y I d nk k
 | 0,_=>rfl
 | k+1,hk=>by
  show DQ s bm X Y I d nk k++_=DQ s' bm X Y I d nk k++_
  rw [Ig h k om,Qy (h k om) _ (Nat.le_refl _)]
theorem SO (h:∀ i,i<N→∀ j,j<nk i→s i j=s' i j) (hc:chB s bm X Y I d N N nk nk=true):chB s' bm X Y I d N N nk nk=true:=by
 unfold chB at hc
 rw [Bool.and_eq_true,Bool.and_eq_true] at hc
 refine MT U (λi hi=>?_) (by rw [← Ig h N (Nat.le_refl _)]; exact of_decide_eq_true hc.2.2)
 have q:=List.all_eq_true.1 hc.2.1 i (List.mem_range.2 hi)
 unfold FK at q ⊢
 rw [Bool.and_eq_true] at q ⊢
 refine ⟨q.1,List.all_eq_true.2 λj hj=>?_⟩
 have:=List.all_eq_true.1 q.2 j hj
 rwa [← h i hi j (List.mem_range.1 hj)]
end
section
variable {sd:AF} {ax ay:Nat} {ai:Bool} {X Y:Nat→Nat} {I:Nat→Bool} {n:Nat} {z:Int} {kx:Nat}
end
theorem MU (C:Nat→Pt):∀ n k,k<n→b33 (Iq C n) k=Ay (C k)
 | n+1,k,h=>by
  have hn:=EF C n
  have he:=Ai (C n)
  unfold b33
  rw [IP]
  by_cases hk:k<n
  ·rw [List.drop_append_of_le_length om,List.take_append_of_le_length (by rw [List.length_drop]; omega)]
   exact MU C n k hk
  ·obtain rfl:k=n:=om
   rw [List.drop_left' hn,List.take_of_length_le om]
theorem GU {nk:Nat→Nat} {X Y X' Y':Nat→Nat→Nat} {I I':Nat→Nat→Bool} {N:Nat} (hX:∀ i,i<N→X i=X' i) (hY:∀ i,i<N→Y i=Y' i) (hI:∀ i,i<N→I i=I' i):∀ k,k≤N→D3 nk X Y I k=D3 nk X' Y' I' k
 | 0,_=>rfl
 | k+1,hk=>by
  show D3 nk X Y I k++_=D3 nk X' Y' I' k++_
  rw [GU hX hY hI k om,hX k om,hY k om,hI k om]
theorem Hn {s:Nat→Nat→Nat} {bm d:AF} {nk:Nat→Nat} {X Y X' Y':Nat→Nat→Nat} {I I':Nat→Nat→Bool} {N:Nat} (hX:∀ i,i<N→X i=X' i) (hY:∀ i,i<N→Y i=Y' i) (hI:∀ i,i<N→I i=I' i):∀ k,k≤N→DQ s bm X Y I d nk k=DQ s bm X' Y' I' d nk k
 | 0,_=>rfl
 | k+1,hk=>by
  show DQ s bm X Y I d nk k++_=DQ s bm X' Y' I' d nk k++_
  rw [Hn hX hY hI k om,hX k om,hY k om,hI k om]
theorem Oj {m:AF} {nk:Nat→Nat} {X Y X' Y':Nat→Nat→Nat} {I I':Nat→Nat→Bool} {N:Nat} (hX:∀ i,i<N→X i=X' i) (hY:∀ i,i<N→Y i=Y' i) (hI:∀ i,i<N→I i=I' i):rgM m N nk X Y I=rgM m N nk X' Y' I':=by
 unfold rgM
 rw [GU hX hY hI N (Nat.le_refl _)]
theorem Pk {s:Nat→Nat→Nat} {bm d:AF} {nk:Nat→Nat} {X Y X' Y':Nat→Nat→Nat} {I I':Nat→Nat→Bool} {N:Nat} (hX:∀ i,i<N→X i=X' i) (hY:∀ i,i<N→Y i=Y' i) (hI:∀ i,i<N→I i=I' i):chB s bm X Y I d N N nk nk=chB s bm X' Y' I' d N N nk nk:=by
 unfold chB
 rw [Hn hX hY hI N (Nat.le_refl _)]
section
variable {P Q:Pt} {N:Nat} {sd:AF} {d x:Nat→Nat} (hP:Ec.On P) (hN1:1≤N) (hN2:N≤32) (hd:∀ i,d i<4)
theorem IK (hP:Ec.On P) (i:Nat):Ec.On (dgC P d x i):=Gx hP _ _
include hP hN1 hN2 in
theorem TN:rcR P (dgC P d x) N=true :=
 QH om om (λk _=>⟨⟨by decide,by decide⟩,λj _=>Ds (T5 hP (IK hP k) k j)⟩)
include hP hd in
theorem QJ (i:Nat):D7 (x i) (rcX P (dgC P d x) i (d i)) (rcY P (dgC P d x) i (d i)) (rcI P (dgC P d x) i (d i))=true:=by
 have _:=hd
 unfold D7 rcX rcY rcI
 rw [show kP P (dgC P d x i) i (d i)=evP (x i) from Yl hP (d i) i (x i)]
 exact Oe _ _ _
include hP hd in
theorem YF:rcF P (dgC P d x) N d x=true:=by
 unfold rcF Fa
 rw [decide_eq_true U,Bool.true_and]
 refine List.all_eq_true.2 λi _=>?_
 unfold II
 have h:=hd i
 rw [decide_eq_true (show (0:Int)≤((d i:Nat):Int) by omega),decide_eq_true (show ((d i:Nat):Int)<((4:Nat):Int) by omega),Bool.true_and,Bool.true_and]
 exact QJ hP hd i
include hP hN1 hN2 hd in
theorem TZ:pf9 P Q (dgC P d x) N sd d x=UInt8.ofNat N::(Iq (dgC P d x) (N - 1)++(rcD P Q (dgC P d x) N sd d++EQ (rcS P Q (dgC P d x) N sd d x) (λ_=>4) N)):=by
 unfold pf9
 rw [TN hP hN1 hN2,YF hP hd]
 rfl
theorem Ly (C:Nat→Pt):(rcD P Q C N sd d).length=32:=Iw _
include hP hN1 hN2 hd in
theorem Gk:dgN (pf9 P Q (dgC P d x) N sd d x)=N:=by
 rw [TZ hP hN1 hN2 hd]
 have h0:((UInt8.ofNat N::(Iq (dgC P d x) (N - 1)++(rcD P Q (dgC P d x) N sd d++EQ (rcS P Q (dgC P d x) N sd d x) (λ_=>4) N))).getD 0 0).toNat=N:=by
  show (UInt8.ofNat N).toNat=N
  rw [UInt8.toNat_ofNat']
  omega
 unfold dgN
 rw [h0,if_pos ⟨hN1,hN2,by rw [List.length_cons,List.length_append,List.length_append,EF,Ly,Gc,H5]; omega⟩]
include hP hN1 hN2 hd in
theorem XW:m1B (pf9 P Q (dgC P d x) N sd d x)=Iq (dgC P d x) (N - 1):=by
 unfold m1B
 rw [Gk hP hN1 hN2 hd,TZ hP hN1 hN2 hd,List.drop_succ_cons,List.drop_zero]
 exact List.take_left' (EF _ _)
include hP hN1 hN2 hd in
theorem XV:msB (pf9 P Q (dgC P d x) N sd d x)=rcD P Q (dgC P d x) N sd d++EQ (rcS P Q (dgC P d x) N sd d x) (λ_=>4) N:=by
 unfold msB M9
 rw [Gk hP hN1 hN2 hd,TZ hP hN1 hN2 hd,Nat.add_comm,List.drop_succ_cons]
 exact List.drop_left' (EF _ _)
include hP hN1 hN2 hd in
theorem Zs:rdB (pf9 P Q (dgC P d x) N sd d x)=true:=by
 unfold rdB
 rw [Gk hP hN1 hN2 hd,XW hP hN1 hN2 hd,XV hP hN1 hN2 hd,decide_eq_true om,Bool.true_and]
 have h1:Oo (Iq (dgC P d x) (N - 1)) (N - 1)=true:=QL λj hj=>by
  unfold pkB
  rw [MU _ _ j hj]
  exact (Qj (IK hP j)).1
 have h2:=Wn (s:=rcS P Q (dgC P d x) N sd d x) (sn:=λ_=>4) (Ly (P:=P) (Q:=Q) (N:=N) (sd:=sd) (d:=d) (dgC P d x)) hN1 hN2 (λ_ _=>⟨by decide,by decide⟩)
 rw [h1,Bool.true_and]
 exact h2
theorem My (C:Nat→Pt):∀ k,Ec.sumL AR C (List.range k)=dgP C k
 | 0=>rfl
 | k+1=>by rw [List.range_succ,Ko,My C k]; rfl
include hP hN1 hN2 hd in
theorem O3 (hQ:Q=dgP (dgC P d x) N) {k:Nat} (hk:k<N):prC (pf9 P Q (dgC P d x) N sd d x) Q k=dgC P d x k:=by
 have hpt:∀ j,j<N - 1→ptB (m1B (pf9 P Q (dgC P d x) N sd d x)) j=dgC P d x j:=λj hj=>by
  rw [XW hP hN1 hN2 hd]
  unfold ptB
  rw [MU _ _ j hj]
  exact (Qj (IK hP j)).2
 unfold prC
 rw [Gk hP hN1 hN2 hd]
 by_cases h:k<N - 1
 ·rw [if_pos h,hpt k h]
 ·rw [if_neg h]
  obtain rfl:k=N - 1:=om
  unfold WP
  rw [Gk hP hN1 hN2 hd,Ec.sumL_congr fld (g:=dgC P d x) _ (λj _=>Jp _ _) (λj hj=>hpt j (List.mem_range.1 hj)),My,hQ]
  have e:dgP (dgC P d x) N=Ec.add AR (dgP (dgC P d x) (N - 1)) (dgC P d x (N - 1)):=by
   obtain ⟨n,rfl⟩:∃ n,N=n+1:=⟨N - 1,by omega⟩
   rfl
  have o1:=UX (λi=>IK (d:=d) (x:=x) hP i) (N - 1)
  have o2:=IK (d:=d) (x:=x) hP (N - 1)
  rw [e,Ec.comm fld o1 o2]
  exact Ec.back fld o2 o1
include hP hN1 hN2 hd in
theorem Zr (hQ:Q=dgP (dgC P d x) N):vfB (Ay P++Ay Q) (dgN (pf9 P Q (dgC P d x) N sd d x)) (λ_=>4) (rgX P Q (pf9 P Q (dgC P d x) N sd d x)) (rgY P Q (pf9 P Q (dgC P d x) N sd d x)) (rgI P Q (pf9 P Q (dgC P d x) N sd d x)) (nmD (msB (pf9 P Q (dgC P d x) N sd d x)) λ_=>4) ((msB (pf9 P Q (dgC P d x) N sd d x)).take 32) (dgN (pf9 P Q (dgC P d x) N sd d x)) (λ_=>4)=true:=by
 have hX:∀ i,i<N→rgX P Q (pf9 P Q (dgC P d x) N sd d x) i=rcX P (dgC P d x) i:=λi hi=>by
  funext k
  unfold rgX rcX
  rw [O3 hP hN1 hN2 hd hQ hi]
 have hY:∀ i,i<N→rgY P Q (pf9 P Q (dgC P d x) N sd d x) i=rcY P (dgC P d x) i:=λi hi=>by
  funext k
  unfold rgY rcY
  rw [O3 hP hN1 hN2 hd hQ hi]
 have hI:∀ i,i<N→rgI P Q (pf9 P Q (dgC P d x) N sd d x) i=rcI P (dgC P d x) i:=λi hi=>by
  funext k
  unfold rgI rcI
  rw [O3 hP hN1 hN2 hd hQ hi]
 have hl:=Ly (P:=P) (Q:=Q) (N:=N) (sd:=sd) (d:=d) (dgC P d x)
 have hch:chB (rcS P Q (dgC P d x) N sd d x) (rcM P Q (dgC P d x) N) (rcX P (dgC P d x)) (rcY P (dgC P d x)) (rcI P (dgC P d x)) (rcD P Q (dgC P d x) N sd d) N N (λ_=>4) (λ_=>4)=true :=
  Uk (at_:=λi=>(((d i:Nat):Int)).toNat) (sx:=x) (λ_ _=>rfl) (λi _=>⟨hd i,QJ hP hd i⟩)
 have hch2:=SO (s':=nmD (rcD P Q (dgC P d x) N sd d++EQ (rcS P Q (dgC P d x) N sd d x) (λ_=>4) N) λ_=>4) (λi hi j hj=>by rw [UP hl hi hj]; exact (QC _ _).symm) hch
 rw [Gk hP hN1 hN2 hd,XV hP hN1 hN2 hd]
 unfold vfB
 rw [List.take_left' hl,Pk hX hY hI,Oj hX hY hI]
 have hr:Fm N (λ_=>4) (rgX P Q (pf9 P Q (dgC P d x) N sd d x)) (rgY P Q (pf9 P Q (dgC P d x) N sd d x)) (rgI P Q (pf9 P Q (dgC P d x) N sd d x))=true :=
  QH om om (λk hk=>⟨⟨by decide,by decide⟩,λj _=>by
   rw [hX k hk,hY k hk,hI k hk]
   exact Ds (T5 hP (IK hP k) k j)⟩)
 rw [hr,Bool.true_and]
 exact hch2
end
theorem Su (B R x p:Nat) (hp:0<p):((B+x)%p+(R+(p - x%p))%p)%p=(B+R)%p:=by
 rw [← Nat.add_mod]
 have h1:=Nat.div_add_mod x p
 have h2:=Nat.mod_lt x hp
 have e:B+x+(R+(p - x%p))=B+R+p*(x / p+1):=by
  rw [Nat.mul_add,Nat.mul_one]
  omega
 rw [e,Nat.add_mul_mod_self_left]
theorem S' (sd:AF) (l N:Nat):∀ i,(dgB (s9x sd l N) i+s9R sd l N i)%Sc.pM=l%Sc.pM
 | 0=>by show (0+l)%Sc.pM=_; rw [Nat.zero_add]
 | i+1=>by
  rw [JX]
  show ((dgB (s9x sd l N) i+s9x sd l N i)%Sc.pM+(s9R sd l N i+(Sc.pM - s9x sd l N i%Sc.pM))%Sc.pM)%Sc.pM=_
  rw [Su _ _ _ _ dZ]
  exact S' sd l N i
theorem YA (sd:AF) (l:Nat) {N:Nat} (hN:1≤N):dgB (s9x sd l N) N=l%Sc.pM:=by
 obtain ⟨n,rfl⟩:∃ n,N=n+1:=⟨N - 1,by omega⟩
 show (dgB (s9x sd l (n+1)) n+s9x sd l (n+1) n)%Sc.pM=_
 have e:s9x sd l (n+1) n=s9R sd l (n+1) n:=by unfold s9x; rw [if_neg om]
 rw [e]
 exact S' sd l (n+1) n
theorem Sb (v:Nat) (P:Pt) (b:Nat):Co v P (b%Sc.pM)=Co v P b:=by
 unfold Co
 rw [Nat.mod_mod]
theorem V6 (sd id:AF) (v k l:Nat) {N:Nat} (hN:1≤N) (hv:v<4 ^ N):opQ id v k l=dgP (dgC (opA id k) (λi=>v / 4 ^ i%4) (s9x sd l N)) N:=by
 rw [Qh (E9 id k) (dgC (opA id k) (λi=>v / 4 ^ i%4) (s9x sd l N)) (λi=>v / 4 ^ i%4) (s9x sd l N) N (λi _=>rfl),UW,YA sd l hN,Sb,Nat.mod_eq_of_lt hv]
 rfl
theorem NM {sd id:AF} {v k l N:Nat} (hN1:1≤N) (hN2:N≤32) (h:Fu id v k l ((2*N:Nat):Int)=0):dgN (NN sd id v k l N)=N∧VC (pX (opA id k)) (pY (opA id k)) (pI (opA id k)) (pX (opQ id v k l)) (pY (opQ id v k l)) (pI (opQ id v k l)) (NN sd id v k l N)=true:=by
 have hb:=J8 h
 have hd:∀ i,v / 4 ^ i%4<4:=λi=>Nat.mod_lt _ dZ
 have hvz:v / 2 ^ (2*N)=0:=by
  by_cases e:v / 2 ^ (((2*N:Nat):Int)).toNat=0
  ·exact e
  ·unfold Fu at h
   rw [MI hb e] at h
   cases h
 have hok:okB (pX (opA id k)) (pY (opA id k)) (pI (opA id k)) (pX (opQ id v k l)) (pY (opQ id v k l)) (pI (opQ id v k l))=true:=by
  unfold Fu at h
  rw [UE hb hvz] at h
  revert h
  cases okB (pX (opA id k)) (pY (opA id k)) (pI (opA id k)) (pX (opQ id v k l)) (pY (opQ id v k l)) (pI (opQ id v k l)) with
  | true=>intro _; rfl
  | false=>intro h; cases h
 have hv:v<4 ^ N:=by
  have e:(4:Nat) ^ N=2 ^ (2*N):=by rw [Nat.pow_mul]
  rw [e]
  exact (Nat.div_eq_zero_iff.1 hvz).resolve_left (Nat.ne_of_gt (Nat.pow_pos dZ))
 refine ⟨Gk (E9 id k) hN1 hN2 hd,?_⟩
 unfold VC RJ
 rw [Ap (E9 id k),Ap (O7 id v k l),hok,Bool.and_true]
 unfold NN
 rw [Zs (E9 id k) hN1 hN2 hd,Bool.true_and]
 exact Zr (E9 id k) hN1 hN2 hd (V6 sd id v k l hN1 hv)
def p2x:Fp:=⟨89565891926547004231252920425935692360644145829622209833684329913297188986597,by decide⟩
def p2y:Fp:=⟨12158399299693830322967808612713398636155367887041628176798871954788371653930,by decide⟩
def p3x:Fp:=⟨112711660439710606056748659173929673102114977341539408544630613555209775888121,by decide⟩
def p3y:Fp:=⟨25583027980570883691656905877401976406448868254816295069919888960541586679410,by decide⟩
def p4x:Fp:=⟨103388573995635080359749164254216598308788835304023601477803095234286494993683,by decide⟩
def p4y:Fp:=⟨37057141145242123013015316630864329550140216928701153669873286428255828810018,by decide⟩
def p5x:Fp:=⟨21505829891763648114329055987619236494102133314575206970830385799158076338148,by decide⟩
def p5y:Fp:=⟨98003708678762621233683240503080860129026887322874138805529884920309963580118,by decide⟩
def p6x:Fp:=⟨115780575977492633039504758427830329241728645270042306223540962614150928364886,by decide⟩
def p6y:Fp:=⟨78735063515800386211891312544505775871260717697865196436804966483607426560663,by decide⟩
def p7x:Fp:=⟨41948375291644419605210209193538855353224492619856392092318293986323063962044,by decide⟩
def p7y:Fp:=⟨48361766907851246668144012348516735800090617714386977531302791340517493990618,by decide⟩
theorem nm2:Ec.add AR bP bP=some (p2x,p2y):=by decide +kernel
theorem nm3:Ec.add AR (some (p2x,p2y)) bP=some (p3x,p3y):=by decide +kernel
theorem nm4:Ec.add AR (some (p3x,p3y)) bP=some (p4x,p4y):=by decide +kernel
theorem nm5:Ec.add AR (some (p4x,p4y)) bP=some (p5x,p5y):=by decide +kernel
theorem nm6:Ec.add AR (some (p5x,p5y)) bP=some (p6x,p6y):=by decide +kernel
theorem nm7:Ec.add AR (some (p6x,p6y)) bP=some (p7x,p7y):=by decide +kernel
theorem nmS (k:Nat):Ec.nm AR (k+1) bP=Ec.add AR (Ec.nm AR k bP) bP:=rfl
theorem Tj:Ec.nm AR 7 bP=some (p7x,p7y):=by
 have e0:Ec.nm AR 0 bP=none:=rfl
 rw [nmS 6,nmS 5,nmS 4,nmS 3,nmS 2,nmS 1,nmS 0,e0,Ec.zero_add,nm2,nm3,nm4,nm5,nm6,nm7]
theorem Nn (nm:AF):∃ u y:Fp,Cd nm=some (u,y)∧y.val%2=0:=by
 unfold Cd G9
 cases h:(List.range 256).find? (λi=>A7 (Av nm i)) with
 | none =>
  rw [Option.elim_none]
  exact ⟨gx,gy,rfl,by decide⟩
 | some k =>
  rw [Option.elim_some]
  have hk:=List.find?_some h
  obtain ⟨u,y,_,_,e,_,hy⟩:=Fx hk
  exact ⟨u,y,e,hy⟩
theorem NL (id:AF):opA id 0=Cd id:=by
 show Co 1 (Cd id) 0=_
 rw [JH]
 show Ec.add AR (Cd id) none=_
 exact Ec.add_zero _
theorem Rj (id:AF):opQ id 1 0 7=Ec.add AR (Cd id) (some (p7x,p7y)):=by
 show Co 1 (opA id 0) 7=_
 rw [NL,JH]
 show Ec.add AR (Cd id) (Ec.nm AR 7 bP)=_
 rw [Tj]
theorem XH (id:AF):pI (opA id 0)=false:=by
 rw [NL]
 obtain ⟨u,y,e,_⟩:=Nn id
 rw [e]
 rfl
theorem XF (id:AF):pI (opQ id 1 0 7)=false:=by
 rw [Rj]
 cases h:Ec.add AR (Cd id) (some (p7x,p7y)) with
 | some q=>rfl
 | none =>
  exfalso
  have o7:Ec.On (some (p7x,p7y):Pt):=by rw [← Tj]; exact bP_on.nm fld 7
  have hb:=Ec.back fld (I4 id) o7
  rw [h,Ec.zero_add] at hb
  obtain ⟨u,y,e,hy⟩:=Nn id
  rw [e] at hb
  have h2 : -p7y=y:=by injection hb with hb; injection hb
  rw [← h2] at hy
  revert hy
  decide +kernel
theorem XG (id:AF):Fu id 1 0 7 ((2*1:Nat):Int)=0:=by
 have hA:okB (pX (opA id 0)) (pY (opA id 0)) (pI (opA id 0)) (pX (opQ id 1 0 7)) (pY (opQ id 1 0 7)) (pI (opQ id 1 0 7))=true:=by
  unfold okB
  rw [Qe,Qe,Ds (E9 id 0),Ds (O7 id 1 0 7),XH,XF]
  rfl
 unfold Fu
 rw [hA]
 decide
theorem U4 (w:World) (ht:Sh.TabAt w 1) (htr:Sh.TabAt w 0):AY 9 #[] w (Gets w (.bool true)):=by
 obtain ⟨R1,hR1⟩:=xE (opA (l32 (λ_=>(0:UInt8))) 0)
 obtain ⟨R2,hR2⟩:=xE (opQ (l32 (λ_=>(0:UInt8))) 1 0 7)
 have oR1:Ec.On R1:=by rw [hR1]; exact E9 _ _
 have hR2v:Co 1 R1 7=R2:=by rw [hR2,hR1]; rfl
 have hF:=XG (l32 (λ_=>(0:UInt8)))
 have hB:=NM (sd:=(l32 (λ_=>(0:UInt8)))) (id:=(l32 (λ_=>(0:UInt8)))) (v:=1) (k:=0) (l:=7) (N:=1) dZ dZ hF
 rw [← hR1, ← hR2] at hB
 refine Sy.enter (args:=[]) Tryz.func9 U kL ?_
 refine sC<|sp U<|sA<|sP (fv 7)<|sP (opv (l32 (λ_=>(0:UInt8))) 1 0 7)<|sM 28 (Io (l32 (λ_=>(0:UInt8))) 0 0 0) (λg1=>?_)
 refine sw 0 U (Io (l32 (λ_=>(0:UInt8))) 1 0 7) (wA U)<|sA<|sP (.agg ((l32 (λ_=>(0:UInt8))).map bv).toArray)<|sS (opv (l32 (λ_=>(0:UInt8))) 1 0 7) (qk 0 0 41 U U VG)<|Sy.callN kR 7 #[.agg ((l32 (λ_=>(0:UInt8))).map bv).toArray,opv (l32 (λ_=>(0:UInt8))) 1 0 7,iZ (2*1)] kF (ZM (l32 (λ_=>(0:UInt8))) (l32 (λ_=>(0:UInt8))) 1 0 7 ((2*1:Nat):Int)) (λw' hw=>KQ w' (l32 (λ_=>(0:UInt8))) (EY _) (λ_=>0) 1 0 7 dZ dZ dZ _ (ht.below hw.below ht.lt)) (λv M hR0=>?_)
 rcases hR0 with ⟨h,_⟩ | ⟨_,_,yP,rfl,rfl,hyP⟩
 ·exact absurd hF h
 rw [show (((2*1:Nat):Int)).toNat / 2=1 from rfl] at hyP
 obtain ⟨pf,hpf⟩:=xE (NN (l32 (λ_=>(0:UInt8))) (l32 (λ_=>(0:UInt8))) 1 0 7 1)
 rw [← hpf] at hyP hB
 obtain ⟨d1,d2,d3⟩:=MM (m:=pf) (by rw [hB.1]; decide)
 rw [hB.1] at d3
 have hlen:pf.length=161:=d3
 obtain ⟨A,c,hv,hl,hc,hs⟩:=Oh hyP
 rw [hlen] at hv hl
 rw [hv]
 refine sp U<|sp U<|sp U<|sp U<|sp U<|sA<|sP (pT g1 0)<|sS (.agg ((l32 (λ_=>(0:UInt8))).map bv).toArray) (qk 0 0 32 U U Dc)<|sP (pT g1 33)<|sS (fv 0) (qk 0 33 4 U U Au)<|sS (pv (pX R1) (pY R1) (pI R1)) (qg (λw hw=>Qv (EY _) dZ (htr.below hw.below htr.lt) hR1.symm))<|sM 37 (pcs 0 0 false) (λg4=>?_)
 refine Sy.movT<|sw 1 U (pcs (pX R1) (pY R1) (pI R1)) (wA U)<|Sy.setT<|sH (λj=>false) ?_
 refine sz 0 U U<|sZ 1 U (.bool true)<|sz 2 U U<|sz 3 U U<|sZ 4 U (.int .i64 161)<|sZ 5 U (.bool true)<|sZ 6 U (.bool true)<|sz 7 U U<|sD 8 U (pv (pX R1) (pY R1) (pI R1)) (qk 1 0 9 U U AX)<|sZ 9 U (pT g1 37)<|sD 10 U (fv 7) (qk 0 37 4 U U Au)<|sD 11 U (pv (pX R2) (pY R2) (pI R2)) (qf (P2 dZ (B_ _) (B9 _) dZ (Ap oR1) hR2v))<|sD 12 U (pv (pX R1) (pY R1) (pI R1)) (qk 1 0 9 U U AX)<|sz 13 U U<|sD 14 U (.bool true) (qg (λw' hw=>by
  have q:=Fe w' (pX R1) (pY R1) (pI R1) (pX R2) (pY R2) (pI R2) (B_ _) (B9 _) (B_ _) (B9 _) A pf 161 c hlen hl (Nat.le_trans hc dZ) (hs hw (λb hb=>by simp only [List.mem_append,hb,true_or,or_true])) (ht.below hw.below ht.lt)
  rw [hB.2] at q
  exact q)) ?_
 refine sZ 15 U (.bool true)<|sz 16 U U<|sz 17 U U<|sD 18 U (iZ (2*1)) (qg (λw' hw=>by
  have q:=KI w' A pf 161 c hlen hl (Nat.le_trans hc dZ) (hs hw (λb hb=>by simp only [List.mem_append,hb,true_or,or_true]))
  rw [hB.1] at q
  exact q)) ?_
 refine sZ 19 U (.bool true)<|sZ 20 U (.bool true)<|sz 21 U U<|sI<|Sy.ret ?_
 exact rV (.bool true) rfl
theorem O8 (id:AF) (v k l:Nat) (z:Int):Fu id v k l z=0∨Fu id v k l z=90∨Fu id v k l z=91∨Fu id v k l z=1:=by
 unfold Fu ft9
 split
 ·split
  ·split
   ·exact .inl U
   ·exact .inr (.inr (.inr U))
  ·exact .inr (.inr (.inl U))
 ·exact .inr (.inl U)
theorem Rk {id:AF} {v k l N:Nat} (h:Fu id v k l ((2*N:Nat):Int)=0):v<2 ^ (2*N):=by
 have hb:=J8 h
 have hvz:v / 2 ^ (2*N)=0:=by
  by_cases e:v / 2 ^ (((2*N:Nat):Int)).toNat=0
  ·exact e
  ·unfold Fu at h
   rw [MI hb e] at h
   cases h
 exact (Nat.div_eq_zero_iff.1 hvz).resolve_left (Nat.ne_of_gt (Nat.pow_pos dZ))
theorem Vb {n:Nat} (h:n<64):(IntKind.u64).wrap (1*2 ^ min (((n:Nat):Int)).toNat (IntKind.u64).bits)=((2 ^ n:Nat):Int):=by
 have e:min (((n:Nat):Int)).toNat (IntKind.u64).bits=n:=by show min n 64=n; omega
 rw [e,Int.one_mul]
 have h2:(2:Nat) ^ n≤2 ^ 63:=Nat.pow_le_pow_right dZ om
 have h3:((2 ^ n:Nat):Int)=(2:Int) ^ n:=by norm_cast
 rw [← h3]
 have h4:(2:Nat) ^ n<18446744073709551616:=Nat.lt_of_le_of_lt h2 dZ
 clear h2 h3 e
 generalize 2 ^ n=q at h4 ⊢
 exact wrap_u64 om om
theorem rangepback_any (w:World) (sd:AF) (hsd:sd.length=32) (g:Nat→UInt8) (v k l:Nat) (hv:v<18446744073709551616) (hk:k<K4) (hlK:l<K4) (z:Int) (ht:Sh.TabAt w 1) (htr:Sh.TabAt w 0):AY 5 #[.agg (sd.map bv).toArray,opv (l32 g) v k l,.int .i64 z] w (Gets w (.bool true)):=by
 obtain ⟨R1,hR1⟩:=xE (opA (l32 g) k)
 obtain ⟨R2,hR2⟩:=xE (opQ (l32 g) v k l)
 have oR1:Ec.On R1:=by rw [hR1]; exact E9 _ _
 have hR2v:Co v R1 l=R2:=by rw [hR2,hR1]; rfl
 obtain ⟨fz,hfz⟩:=xE (Fu (l32 g) v k l z)
 refine Sy.enter (args:=[.agg (sd.map bv).toArray,opv (l32 g) v k l,.int .i64 z]) Tryz.func5 U kL ?_
 refine sC<|sM 23 (sd.map bv).toArray (λg0=>?_)
 refine sM 28 (Io (l32 g) v k l) (λg1=>?_)
 refine sp U<|sA<|sS (.agg (sd.map bv).toArray) (qx 0 0 32 U U Dc (BO sd hsd) (Bf sd hsd))<|sS (opv (l32 g) v k l) (qk 1 0 41 U U VG)<|sp U<|Sy.callN kR 7 #[.agg (sd.map bv).toArray,opv (l32 g) v k l,.int .i64 z] kF (ZM sd (l32 g) v k l z) (λw' hw=>KQ w' sd hsd g v k l hv hk hlK z (ht.below hw.below ht.lt)) (λu M hR0=>?_)
 rcases hR0 with ⟨h0,rfl,rfl⟩ | ⟨h0,hbit,yP,rfl,rfl,hyP⟩
 ·rw [← hfz] at h0 ⊢
  refine sp U<|sp U<|sp U<|sp U<|sp U<|sG<|Sy.seq<|sC<|sS (.bool true) (qg (λw hw=>U4 w (ht.below hw.below ht.lt) (htr.below hw.below htr.lt)))<|sP (.bool false)<|sG<|sU<|Sy.skip<|Sy.then_<|Sy.seq<|sC<|sp U<|sS (.bool true) (Quiet.pure (AK .neq _ _ _ .i64 _ _ _ U U U (Dt _ _ _ _ _ (decide_eq_true h0))))<|sG ?_
  have hcs:=O8 (l32 g) v k l z
  rw [← hfz] at hcs
  clear hfz
  rcases hcs with e | e | e | e
  ·exact absurd e h0
  ·rw [e] at *
   refine sT<|sC<|sp U<|sP (.int .i64 0)<|sP (.bool true)<|sp U<|sp U<|sP (.bool true)<|sp U<|sN<|sN<|sP (.bool true)<|sp U<|sN<|sN<|sP (.bool true)<|sP (.bool true)<|sp U<|sG<|Sy.ret<|Sy.then_ret ?_
   exact rV (.bool true) rfl
  ·rw [e] at *
   refine sT<|sC<|sp U<|sP (.int .i64 0)<|sP (.bool true)<|sp U<|sp U<|sP (.bool false)<|sp U<|sp U<|sP (.bool true)<|sP (.bool true)<|sp U<|sN<|sN<|sP (.bool true)<|sP (.bool true)<|sp U<|sG<|Sy.ret<|Sy.then_ret ?_
   exact rV (.bool true) rfl
  ·rw [e] at *
   refine sT<|sC<|sp U<|sP (.int .i64 0)<|sP (.bool true)<|sp U<|sp U<|sP (.bool false)<|sp U<|sp U<|sP (.bool false)<|sP (.bool false)<|sp U<|sp U<|sP (.bool true)<|sP (.bool true)<|sP (.bool true)<|sp U<|sG<|Sy.ret<|Sy.then_ret ?_
   exact rV (.bool true) rfl
 ·obtain ⟨N,rfl,hN1,hN2⟩:=OG hbit
  have hB:=NM (sd:=sd) hN1 hN2 h0
  have hvf:=Rk h0
  rw [← hR1, ← hR2] at hB
  rw [show (((2*N:Nat):Int)).toNat / 2=N by omega] at hyP
  obtain ⟨pf,hpf⟩:=xE (NN sd (l32 g) v k l N)
  rw [← hpf] at hyP hB
  obtain ⟨A,c,hv0,hl,hc,hs⟩:=Oh hyP
  rw [hv0]
  refine sp U<|sp U<|sp U<|sp U<|sp U<|sG<|Sy.seq<|sC<|sS (.bool true) (qg (λw hw=>U4 w (ht.below hw.below ht.lt) (htr.below hw.below htr.lt)))<|sP (.bool false)<|sG<|sU<|Sy.skip<|Sy.then_<|Sy.seq<|sC<|sp U<|sP (.bool false)<|sG<|sU<|Sy.skip<|sB<|sP (pT g1 0)<|sS (.agg ((l32 g).map bv).toArray) (qk 1 0 32 U U Dc)<|sP (pT g1 33)<|sS (fv k) (qk 1 33 4 U U Au)<|sS (pv (pX R1) (pY R1) (pI R1)) (qg (λw hw=>Qv (EY _) hk (htr.below hw.below htr.lt) hR1.symm))<|sM 37 (pcs 0 0 false) (λg9=>?_)
  refine Sy.movT<|sw 2 U (pcs (pX R1) (pY R1) (pI R1)) (wA U)<|Sy.setT<|sA<|sP (pT g1 32)<|sS (uZ ((v:Nat):Int)) (qc 1 32 U U B2)<|sS (pv (pX R1) (pY R1) (pI R1)) (qk 2 0 9 U U AX)<|sP (pT g1 37)<|sS (fv l) (qk 1 37 4 U U Au)<|sS (pv (pX R2) (pY R2) (pI R2)) (qf (P2 hv (B_ _) (B9 _) hlK (Ap oR1) hR2v))<|sM 37 (pcs 0 0 false) (λg10=>?_)
  refine Sy.movT<|sw 3 U (pcs (pX R2) (pY R2) (pI R2)) (wA U)<|Sy.setT<|sH (λj=>false) ?_
  obtain ⟨b3,hb3⟩:=xE (decide (N=32))
  refine sz 0 U U<|sD 1 U (.bool b3) (qeq U U U hb3)<|sz 2 U U ?_
  cases b3
  ·have l3:=dN hb3
   refine sZ 3 U (pT g1 32)<|sD 4 U (uZ ((v:Nat):Int)) (qc 1 32 U U B2)<|sz 5 U U<|sD 6 U (uZ ((2 ^ (2*N):Nat):Int)) (Quiet.pure (AK .shl _ _ _ .u64 _ _ _ U U U (Qa _ _ _ _ _ _ om (Vb om))))<|sD 7 U (.bool true) (Quiet.pure (AK .lss _ _ _ .u64 _ _ _ U U U (Hb _ _ _ _ _ (decide_eq_true (Int.ofNat_lt.2 hvf)))))<|sZ 8 U (.bool true)<|sz 9 U U<|sE<|sB<|sp U<|sp U<|sS (pv (pX R2) (pY R2) (pI R2)) (qk 3 0 9 U U AX)<|sS (pv (pX R1) (pY R1) (pI R1)) (qk 2 0 9 U U AX)<|sp U<|sS (.bool true) (qg (λw' hw=>by
    have q:=Fe w' (pX R1) (pY R1) (pI R1) (pX R2) (pY R2) (pI R2) (B_ _) (B9 _) (B_ _) (B9 _) A pf pf.length c U hl (Nat.le_trans hc dZ) (hs hw (λb hb=>by simp only [List.mem_append,hb,true_or,or_true])) (ht.below hw.below ht.lt)
    rw [hB.2] at q
    exact q))<|sP (.bool true)<|sp U<|sp U ?_
   refine sS (iZ (2*N)) (qg (λw' hw=>by
    have q:=KI w' A pf pf.length c U hl (Nat.le_trans hc dZ) (hs hw (λb hb=>by simp only [List.mem_append,hb,true_or,or_true]))
    rw [hB.1] at q
    exact q))<|sp U<|sS (.bool true) (Quiet.pure (AK .eql _ _ _ .i64 _ _ _ U U U (Hc _ _ _ _ _ (decide_eq_true U))))<|sP (.bool true)<|sp U ?_
   refine sG<|Sy.ret ?_
   exact rV (.bool true) rfl
  ·refine sQ 3 U<|sQ 4 U<|sQ 5 U<|sQ 6 U<|sQ 7 U<|sZ 8 U (.bool true)<|sz 9 U U ?_
   refine sE<|sB<|sp U<|sp U<|sS (pv (pX R2) (pY R2) (pI R2)) (qk 3 0 9 U U AX)<|sS (pv (pX R1) (pY R1) (pI R1)) (qk 2 0 9 U U AX)<|sp U<|sS (.bool true) (qg (λw' hw=>by
    have q:=Fe w' (pX R1) (pY R1) (pI R1) (pX R2) (pY R2) (pI R2) (B_ _) (B9 _) (B_ _) (B9 _) A pf pf.length c U hl (Nat.le_trans hc dZ) (hs hw (λb hb=>by simp only [List.mem_append,hb,true_or,or_true])) (ht.below hw.below ht.lt)
    rw [hB.2] at q
    exact q))<|sP (.bool true)<|sp U<|sp U ?_
   refine sS (iZ (2*N)) (qg (λw' hw=>by
    have q:=KI w' A pf pf.length c U hl (Nat.le_trans hc dZ) (hs hw (λb hb=>by simp only [List.mem_append,hb,true_or,or_true]))
    rw [hB.1] at q
    exact q))<|sp U<|sS (.bool true) (Quiet.pure (AK .eql _ _ _ .i64 _ _ _ U U U (Hc _ _ _ _ _ (decide_eq_true U))))<|sP (.bool true)<|sp U ?_
   refine sG<|Sy.ret ?_
   exact rV (.bool true) rfl
end Cu
end
end Go.Proofs.YtgemfpnlnipfnabGreatDoor
