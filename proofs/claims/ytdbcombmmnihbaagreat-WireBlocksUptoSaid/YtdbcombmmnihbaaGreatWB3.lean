/-
  Texts of ours, put together: FoldZ, RefFold, RefAdd, MulZ, RefMul, PowZ, RefPow, NumB, FeOwn, RefBytes, CrvC, CurveAlive, FeB32, FeRead, RefSqrt, RootNum, CrvD.
-/
import Derived.Test.YtdbcombmmnihbaaGreatWB2
set_option linter.unusedVariables false
set_option linter.unusedSimpArgs false
set_option maxRecDepth 100000
set_option maxHeartbeats 80000000
namespace Go.Proofs.YtdbcombmmnihbaaGreat
section
namespace Fz
open Go.RowKit Go.Lib Sy
theorem SE {y:Nat→Nat} (h:¬ (((y 4 ||| y 5) ||| y 6) ||| y 7>0)):y 4=0∧y 5=0∧y 6=0∧y 7=0:=by
 have h0:((y 4 ||| y 5) ||| y 6) ||| y 7=0:=om
 rw [Nat.or_eq_zero_iff,Nat.or_eq_zero_iff,Nat.or_eq_zero_iff] at h0
 exact ⟨h0.1.1.1,h0.1.1.2,h0.1.2,h0.2⟩
theorem TS (y:Nat→Nat):vR (λt=>y (4+t)) 4=0+y 4*1+y 5*18446744073709551616+y 6*340282366920938463463374607431768211456+y 7*6277101735386680763835789423207666416102355444464034512896:=rfl
theorem Rn {y:Nat→Nat} (n k:Nat) (hn:n=k+k) (e:vR (λt=>y (k+t)) k=0):vR y n=vR y k:=by
 subst hn
 have s:=Fy y k k
 rw [e,Nat.zero_mul,Nat.add_zero] at s
 exact s
theorem T6 {y:Nat→Nat} (h:y 4=0∧y 5=0∧y 6=0∧y 7=0):vR y 8=vR y 4:=Rn 8 4 J (by
 rw [TS]
 obtain ⟨h1,h2,h3,h4⟩:=h
 omega)
theorem UM {M:Nat} {lw y z:Nat→Nat} (_:∀ t,lw t<18446744073709551616) (hM0:0<M) (hM:M+vR lw 3=18446744073709551616 ^ 4) (_:∀ t,y t<18446744073709551616) (h:vR z 8=vR y 4+vR (λt=>y (4+t)) 4*vR lw 3) (ho:((y 4 ||| y 5) ||| y 6) ||| y 7>0):vR z 8%M=vR y 8%M∧vR z 8<vR y 8:=by
 have e:vR y 8=vR z 8+vR (λt=>y (4+t)) 4*M:=by
  rw [show (8:Nat)=4+4 from rfl,Fy y, ← hM,show (4+4:Nat)=8 from rfl,h,Nat.mul_add]
  omega
 have hp:0<vR (λt=>y (4+t)) 4:=by
  rw [TS]
  rcases Nat.eq_zero_or_pos (y 4) with h4 | h4
  ·rcases Nat.eq_zero_or_pos (y 5) with h5 | h5
   ·rcases Nat.eq_zero_or_pos (y 6) with h6 | h6
    ·rcases Nat.eq_zero_or_pos (y 7) with h7 | h7
     ·rw [h4,h5,h6,h7] at ho
      exact absurd ho dZ
     ·omega
    ·omega
   ·omega
  ·omega
 have hpos:0<vR (λt=>y (4+t)) 4*M:=Nat.mul_pos hp hM0
 refine ⟨?_,by omega⟩
 rw [e,Nat.add_mul_mod_self_right]
theorem Vv {lw y y3 z:Nat→Nat} {c i n:Nat} (hlw:∀ t,lw t<18446744073709551616) (hy:∀ t,y t<18446744073709551616) (h3:vR y3 8=vR y 4+vR (λt=>y (4+t)) i*vR lw 3) (hz:∀ t,z t<18446744073709551616) (h:vR z 8+c*18446744073709551616 ^ n=vR y3 8+y (4+i)*vR lw 3*18446744073709551616 ^ i) (hi:i<4) (hc:c=0∨n=8) :
  vR z 8=vR y 4+vR (λt=>y (4+t)) (i+1)*vR lw 3:=by
 have e:vR y3 8+y (4+i)*vR lw 3*18446744073709551616 ^ i=vR y 4+vR (λt=>y (4+t)) (i+1)*vR lw 3:=by
  show _=_+(vR (λt=>y (4+t)) i+y (4+i)*_)*_
  rw [h3]
  grind
 rw [e] at h
 rcases hc with rfl|rfl
 ·rw [Nat.zero_mul,Nat.add_zero] at h
  exact h
 ·have h1:=KP hy 4
  have h2:=KP (R:=λt=>y (4+t)) (λt=>hy _) (i+1)
  have h4:=KP hlw 3
  have h5:18446744073709551616 ^ (i+1)≤18446744073709551616 ^ 4:=Nat.pow_le_pow_right dZ om
  have h6:vR (λt=>y (4+t)) (i+1)*vR lw 3≤18446744073709551616 ^ 4*18446744073709551616 ^ 3:=Nat.mul_le_mul om om
  have h7:(18446744073709551616 ^ 4+18446744073709551616 ^ 4*18446744073709551616 ^ 3:Nat)<18446744073709551616 ^ 8:=dZ
  rcases Nat.eq_zero_or_pos c with rfl | hp
  ·rw [Nat.zero_mul,Nat.add_zero] at h
   exact h
  ·have h8:1*18446744073709551616 ^ 8≤c*18446744073709551616 ^ 8:=Nat.mul_le_mul_right _ hp
   omega
theorem foldZ (w:World) (M:Nat) (lw:Nat→Nat) (hlw:∀ t,lw t<18446744073709551616) (hM0:0<M) (hM:M+vR lw 3=18446744073709551616 ^ 4) (hnorm:∀ w x,x<(2^256)→AL 240 #[.agg (modc M lw),fv x] w (Ai w (fv (x%M)))) (R:Nat→Nat) (hR:∀ t,R t<18446744073709551616):AL 282 #[.agg (modc M lw),.agg (rw8 R)] w (Ai w (fv (vR R 8%M))):=by
 obtain ⟨V,hV⟩:=xE (vR R 8%M)
 obtain ⟨V0,hV0⟩:=xE (vR R 8)
 rw [← hV]
 refine Sy.enter (args:=[.agg (modc M lw),.agg (rw8 R)]) Tryz.func282 J kL<|sC<|sM 366 (modc M lw) (λg0=>?_)
 refine Sy.make kR 429 (rw8 R) ptr kF (λg1=>?_)
 refine sM 359 (fcs 0) (λg2=>?_)
 refine sG<|Sy.seq<|Sy.block<|Sy.loopX (T:=Nat→Nat) V0 (λk1 y1=>[(2,pT g0 0),(3,pT g1 0),(4,pT g2 0)]) (λk1 y1=>[(g0,366,(modc M lw)),(g1,429,(rw8 y1)),(g2,359,(fcs 0))]) (λk1 y1=>(∀ t,y1 t<18446744073709551616)∧vR y1 8%M=V∧vR y1 8+k1≤V0) R [true,true,true] (⟨hR,hV.symm,by show vR R 8+0≤V0; omega⟩) ac3 kR (λk1 y1 hk1 hh1=>?_)
 refine Sy.seq<|sC<|sP (pT g1 4)<|sS (uZ ((y1 4:Nat):Int)) (qy 1 4 J J CD kR)<|sP (pT g1 5)<|sS (uZ ((y1 5:Nat):Int)) (qy 1 5 J J CD kR)<|sS (uZ (((y1 4) ||| (y1 5):Nat):Int)) (Quiet.pure (AE .or _ _ _ .u64 _ _ _ J J J (MV _ _ _ _ _ (Lu _ _ (hh1.1 _) (hh1.1 _)))))<|sP (pT g1 6)<|sS (uZ ((y1 6:Nat):Int)) (qy 1 6 J J CD kR)<|sS (uZ ((((y1 4) ||| (y1 5)) ||| (y1 6):Nat):Int)) (Quiet.pure (AE .or _ _ _ .u64 _ _ _ J J J (MV _ _ _ _ _ (Lu _ _ (Nat.or_lt_two_pow (n:=64) (hh1.1 _) (hh1.1 _)) (hh1.1 _)))))<|sP (pT g1 7)<|sS (uZ ((y1 7:Nat):Int)) (qy 1 7 J J CD kR)<|sS (uZ (((((y1 4) ||| (y1 5)) ||| (y1 6)) ||| (y1 7):Nat):Int)) (Quiet.pure (AE .or _ _ _ .u64 _ _ _ J J J (MV _ _ _ _ _ (Lu _ _ (Nat.or_lt_two_pow (n:=64) (Nat.or_lt_two_pow (n:=64) (hh1.1 _) (hh1.1 _)) (hh1.1 _)) (hh1.1 _))))) ?_
 obtain ⟨b1,hb1⟩:=xE (decide ((((y1 4) ||| (y1 5)) ||| (y1 6)) ||| (y1 7)>0))
 refine sS (.bool b1) (Quiet.pure (AE .gtr _ _ _ .u64 _ _ _ J J J (Dx _ _ _ _ _ (by rw [hb1]; exact decide_eq_decide.2 om))))<|sG ?_
 cases b1
 ·have lb1:=dN hb1
  refine sU<|Sy.exit<|Sy.then_exit<|Sy.then_exit ?_
  have hz:=SE lb1
  have hlow:=T6 hz
  refine Sy.in_exit<|sB<|sS (.agg (modc M lw)) (qk 0 0 7 J J De)<|sP (pT g1 0)<|sS (uZ ((y1 0:Nat):Int)) (qy 1 0 J J CD kR)<|sP (pT g1 1)<|sS (uZ ((y1 1:Nat):Int)) (qy 1 1 J J CD kR)<|sP (pT g1 2)<|sS (uZ ((y1 2:Nat):Int)) (qy 1 2 J J CD kR)<|sP (pT g1 3)<|sS (uZ ((y1 3:Nat):Int)) (qy 1 3 J J CD kR)<|sS (fv (vR y1 4)) (Quiet.pure (λw=>by rw [← T' hh1.1]; kernel_rfl))<|sS (fv ((vR y1 4)%M)) (qf (λw=>hnorm w _ (KP hh1.1 4)))<|sw 2 J (fcs ((vR y1 4)%M)) (wA J)<|sG<|Sy.ret ?_
  rw [show (fv V:Value)=fv ((vR y1 4)%M) from by rw [← hh1.2.1,hlow]]
  exact rc (v:=fv ((vR y1 4)%M)) 2 J J AU
 ·have lb1:=dY hb1
  refine sT<|Sy.skip<|Sy.then_<|Sy.block<|sC<|Sy.make kR 429 (rw8 (λ_=>0)) ptr kF (λg3=>?_)
  refine sG<|Sy.seq<|sC<|sP (.int .i64 0)<|sG<|Sy.block<|Sy.loopK 4 (λk2=>[(2,pT g0 0),(3,pT g1 0),(4,pT g2 0),(5,pT g3 0),(6,iZ k2)]) (λk2=>[(g0,366,(modc M lw)),(g1,429,(rw8 y1)),(g2,359,(fcs 0)),(g3,429,(rw8 (cpy y1 k2)))]) [true,true,true,true] (M:=[(g0,366,(modc M lw)),(g1,429,(rw8 y1)),(g2,359,(fcs 0)),(g3,429,(rw8 (λ_=>0)))]) ac5 kR (E6 J (E6 J (E6 J (E6 (beq kR) rfl)))) (λk2 hk2=>?_)
  refine Sy.seq<|sC<|sP (iZ k2) ?_
  obtain ⟨b2,hb2⟩:=xE (decide (k2<4))
  refine sS (.bool b2) (qls J J J hb2)<|sG ?_
  cases b2
  ·have lb2:=dN hb2
   refine sU<|Sy.exit<|Sy.then_exit<|Sy.then_exit ?_
   obtain rfl:k2=4:=om
   refine Sy.in_exit<|Sy.then_<|Sy.seq<|sC<|sP (.int .i64 0)<|sG<|Sy.block<|Sy.loopX (T:=Nat→Nat) 4 (λk3 y3=>[(2,pT g0 0),(3,pT g1 0),(4,pT g2 0),(5,pT g3 0),(7,iZ k3)]) (λk3 y3=>[(g0,366,(modc M lw)),(g1,429,(rw8 y1)),(g2,359,(fcs 0)),(g3,429,(rw8 y3))]) (λk3 y3=>(∀ t,y3 t<18446744073709551616)∧vR y3 8=vR y1 4+vR (λt=>y1 (4+t)) k3*vR lw 3) (cpy y1 4) [true,true,true,true] (⟨Uq hh1.1 4,(T7 y1).trans (by show _=_+0*_; rw [Nat.zero_mul,Nat.add_zero])⟩) ac5 kR (λk3 y3 hk3 hh3=>?_)
   refine Sy.seq<|sC<|sP (iZ k3) ?_
   obtain ⟨b3,hb3⟩:=xE (decide (k3<4))
   refine sS (.bool b3) (qls J J J hb3)<|sG ?_
   cases b3
   ·have lb3:=dN hb3
    refine sU<|Sy.exit<|Sy.then_exit<|Sy.then_exit ?_
    obtain rfl:k3=4:=om
    refine Sy.in_exit<|Sy.then_<|Sy.region<|sS (.agg (rw8 y3)) (qx 3 0 8 J J EA kR kL)<|Sy.write kR 1 g1 429 (rw8 y1) (rw8 y3) kR (Writes.store 0 429 (rw8 y3) _ _ J kR kR kR kL kR kR)<|Sy.nil<|Sy.in_ ?_
    have hf:=UM hlw hM0 hM hh1.1 hh3.2 lb1
    obtain ⟨hf1,hf2⟩:=hf
    exact Sy.againX y3 [true,true,true,false] (by have:=hh1.2.2; omega) (⟨hh3.1,hf1.trans hh1.2.1,by have:=hh1.2.2; omega⟩) ac3 kR
   ·have lb3:=dY hb3
    refine sT<|Sy.skip<|Sy.then_<|Sy.seq<|Sy.block<|sC<|sP (uZ 0)<|sG<|Sy.seq<|sC<|sP (.int .i64 0)<|sG<|Sy.block<|Sy.loopX (T:=(Nat→Nat)×Nat) 3 (λk4 y4=>[(2,pT g0 0),(3,pT g1 0),(4,pT g2 0),(5,pT g3 0),(7,iZ k3),(8,uZ ((y4.2:Nat):Int)),(9,iZ k4)]) (λk4 y4=>[(g0,366,(modc M lw)),(g1,429,(rw8 y1)),(g2,359,(fcs 0)),(g3,429,(rw8 y4.1))]) (λk4 y4=>(∀ t,y4.1 t<18446744073709551616)∧y4.2<18446744073709551616∧vR y4.1 8+y4.2*18446744073709551616 ^ (k3+k4)=vR y3 8+y1 (4+k3)*vR lw k4*18446744073709551616 ^ k3) (y3,0) [true,true,true,true] (⟨hh3.1,by show (0:Nat)<18446744073709551616; decide,by show vR y3 8+0*_=_+_*0*_; omega⟩) ac7 kR (λk4 y4 hk4 hh4=>?_)
    refine Sy.seq<|sC<|sP (iZ k4) ?_
    obtain ⟨b4,hb4⟩:=xE (decide (k4<3))
    refine sS (.bool b4) (qls J J J hb4)<|sG ?_
    cases b4
    ·have lb4:=dN hb4
     refine sU<|Sy.exit<|Sy.then_exit<|Sy.then_exit ?_
     obtain rfl:k4=3:=om
     refine Sy.in_exit<|sB<|sP (iZ k3)<|sS (iZ (k3+3)) (qad J J J)<|sP (iZ (k3+3))<|sG<|Sy.block<|Sy.loopX (T:=(Nat→Nat)×Nat) (5 - k3) (λk5 y5=>[(2,pT g0 0),(3,pT g1 0),(4,pT g2 0),(5,pT g3 0),(7,iZ k3),(8,uZ ((y5.2:Nat):Int)),(16,iZ (k3+3+k5))]) (λk5 y5=>[(g0,366,(modc M lw)),(g1,429,(rw8 y1)),(g2,359,(fcs 0)),(g3,429,(rw8 y5.1))]) (λk5 y5=>(∀ t,y5.1 t<18446744073709551616)∧y5.2<18446744073709551616∧vR y5.1 8+y5.2*18446744073709551616 ^ (k3+3+k5)=vR y3 8+y1 (4+k3)*vR lw 3*18446744073709551616 ^ k3) y4 [true,true,true,true] (⟨hh4.1,hh4.2.1,hh4.2.2⟩) ac7 kR (λk5 y5 hk5 hh5=>?_)
     refine Sy.seq<|sC<|sP (iZ (k3+3+k5)) ?_
     obtain ⟨b5,hb5⟩:=xE (decide (k3+3+k5<8))
     refine sS (.bool b5) (qls J J J hb5)<|sP (.bool b5) ?_
     cases b5
     ·have lb5:=dN hb5
      refine sN<|sN<|sP (.bool false)<|sG<|sU<|Sy.exit<|Sy.then_exit<|Sy.then_exit ?_
      have hfin:=Vv hlw hh1.1 hh3.2 hh5.1 hh5.2.2 om (by first | (left; omega) | (right; omega))
      refine Sy.in_exit<|Sy.in_<|Sy.then_<|Sy.region<|sP (iZ k3)<|sS (iZ (k3+1)) (qad J J J)<|sP (iZ (k3+1))<|Sy.nil ?_
      have hq:=hfin
      exact Sy.againX y5.1 [true,true,true,true] om (⟨hh5.1,hq⟩) ac5 kR
     ·have lb5:=dY hb5
      refine sP (uZ ((y5.2:Nat):Int)) ?_
      obtain ⟨b6,hb6⟩:=xE (decide (y5.2>0))
      refine sS (.bool b6) (Quiet.pure (AE .gtr _ _ _ .u64 _ _ _ J J J (Dx _ _ _ _ _ (by rw [hb6]; exact decide_eq_decide.2 om))))<|sP (.bool b6)<|sG ?_
      cases b6
      ·have lb6:=dN hb6
       refine sU<|Sy.exit<|Sy.then_exit<|Sy.then_exit ?_
       have hfin:=Vv hlw hh1.1 hh3.2 hh5.1 hh5.2.2 om (by first | (left; omega) | (right; omega))
       refine Sy.in_exit<|Sy.in_<|Sy.then_<|Sy.region<|sP (iZ k3)<|sS (iZ (k3+1)) (qad J J J)<|sP (iZ (k3+1))<|Sy.nil ?_
       have hq:=hfin
       exact Sy.againX y5.1 [true,true,true,true] om (⟨hh5.1,hq⟩) ac5 kR
      ·have lb6:=dY hb6
       refine sT<|Sy.skip<|Sy.then_<|Sy.seq<|Sy.block<|sC<|sP (iZ (k3+3+k5))<|sS (.pointer (some ⟨g3,0+(k3+3+k5)*1,none⟩)) (Quiet.pure (BA 429 _ _ _ g3 0 _ (k3+3+k5) 1 .i64 J J J EA kF om))<|sS (uZ ((y5.1 (k3+3+k5):Nat):Int)) (qy 3 (0+(k3+3+k5)*1) rfl J CD (H7 y5.1 (k:=k3+3+k5) om om))<|sP (uZ ((y5.2:Nat):Int)) ?_
       obtain ⟨x1,c1,lx1,lc1,ex1,rx1⟩:=D6 (y5.1 (k3+3+k5)) (y5.2) (by first | assumption | exact hR _ | exact hlw _ | exact Cj _ _ | exact hh1.1 _ | exact hh3.1 _ | exact hh4.1 _ | exact hh5.1 _ | exact hh5.2.1 | exact hh4.2.1 | decide) (by first | assumption | exact hR _ | exact hlw _ | exact Cj _ _ | exact hh1.1 _ | exact hh3.1 _ | exact hh4.1 _ | exact hh5.1 _ | exact hh5.2.1 | exact hh4.2.1 | decide)
       refine sS (.tuple #[uZ ((x1:Nat):Int),uZ ((c1:Nat):Int)]) (Quiet.pure (λw=>Eq.trans kR (rx1 w)))<|sP (.tuple #[uZ ((x1:Nat):Int),uZ ((c1:Nat):Int)])<|sP (uZ ((x1:Nat):Int))<|sP (uZ ((c1:Nat):Int))<|sP (uZ ((x1:Nat):Int))<|sP (uZ ((c1:Nat):Int))<|sA<|sP (iZ (k3+3+k5))<|sP (uZ ((x1:Nat):Int))<|sS (.pointer (some ⟨g3,0+(k3+3+k5)*1,none⟩)) (Quiet.pure (BA 429 _ _ _ g3 0 _ (k3+3+k5) 1 .i64 J J J EA kF om))<|Sy.write kR 3 g3 429 (rw8 y5.1) (rw8 (upd y5.1 (k3+3+k5) x1)) kR (Writes.one (0+(k3+3+k5)*1) 22 (uZ ((x1:Nat):Int)) _ _ J kR kR kR J J (F5 _ (k:=k3+3+k5) om om) (F4 _ _ om om))<|sG<|Sy.region<|sP (uZ ((c1:Nat):Int))<|sP (uZ ((c1:Nat):Int))<|Sy.nil<|Sy.in_<|Sy.then_<|Sy.region<|sP (iZ (k3+3+k5))<|sS (iZ ((k3+3+k5)+1)) (qad J J J)<|sP (iZ ((k3+3+k5)+1))<|Sy.nil ?_
       have hin:=Ut (Hx y5.1 (k3+3+k5) x1 8 om) hh5.2.2 ex1
       exact Sy.againX ((upd y5.1 (k3+3+k5) x1,c1)) [true,true,true,true] om (⟨Ja hh5.1 lx1,by omega,by rw [← Nat.add_assoc,Nat.pow_succ]; exact hin⟩) ac7 kR
    ·have lb4:=dY hb4
     refine sT<|Sy.skip<|Sy.then_<|Sy.seq<|Sy.block<|Sy.seq<|Sy.regionD (λj=>false) kR<|sZ 0 J (iZ k3)<|sD 1 J (iZ (4+k3)) (qad J J J)<|sD 2 J (.pointer (some ⟨g1,0+(4+k3)*1,none⟩)) (Quiet.pure (BA 429 _ _ _ g1 0 _ (4+k3) 1 .i64 J J J EA kF om))<|sD 3 J (uZ ((y1 (4+k3):Nat):Int)) (qy 1 (0+(4+k3)*1) rfl J CD (H7 y1 (k:=4+k3) om om))<|sZ 4 J (iZ k4)<|sZ 5 J (pT g0 4)<|sD 6 J (.pointer (some ⟨g0,4+k4*1,none⟩)) (Quiet.pure (BA 364 _ _ _ g0 4 _ k4 1 .i64 J J J U0 kF om))<|sD 7 J (uZ ((lw k4:Nat):Int)) (qy 0 (4+k4*1) rfl J CD (Sg M lw (j:=k4) om om)) ?_
     obtain ⟨hi1,lo1,llo1,elo1⟩:=I7 (y1 (4+k3)) (lw k4)
     refine sD 8 J (.tuple #[uZ ((hi1:Nat):Int),uZ ((lo1:Nat):Int)]) (qf (λw=>Kw w (y1 (4+k3)) (lw k4) hi1 lo1 (by first | assumption | exact hR _ | exact hlw _ | exact Cj _ _ | exact hh1.1 _ | exact hh3.1 _ | exact hh4.1 _ | exact hh5.1 _ | exact hh5.2.1 | exact hh4.2.1 | decide) (by first | assumption | exact hR _ | exact hlw _ | exact Cj _ _ | exact hh1.1 _ | exact hh3.1 _ | exact hh4.1 _ | exact hh5.1 _ | exact hh5.2.1 | exact hh4.2.1 | decide) llo1 elo1))<|sZ 9 J (.tuple #[uZ ((hi1:Nat):Int),uZ ((lo1:Nat):Int)])<|sZ 10 J (uZ ((hi1:Nat):Int))<|sZ 11 J (uZ ((lo1:Nat):Int))<|sZ 12 J (uZ ((hi1:Nat):Int))<|sZ 13 J (uZ ((lo1:Nat):Int))<|sE<|sB<|sP (uZ ((lo1:Nat):Int))<|sP (iZ k3)<|sP (iZ k4)<|sS (iZ (k3+k4)) (qad J J J)<|sS (.pointer (some ⟨g3,0+(k3+k4)*1,none⟩)) (Quiet.pure (BA 429 _ _ _ g3 0 _ (k3+k4) 1 .i64 J J J EA kF om))<|sS (uZ ((y4.1 (k3+k4):Nat):Int)) (qy 3 (0+(k3+k4)*1) rfl J CD (H7 y4.1 (k:=k3+k4) om om)) ?_
     obtain ⟨x2,c2,lx2,lc2,ex2,rx2⟩:=D6 (lo1) (y4.1 (k3+k4)) (by first | assumption | exact hR _ | exact hlw _ | exact Cj _ _ | exact hh1.1 _ | exact hh3.1 _ | exact hh4.1 _ | exact hh5.1 _ | exact hh5.2.1 | exact hh4.2.1 | decide) (by first | assumption | exact hR _ | exact hlw _ | exact Cj _ _ | exact hh1.1 _ | exact hh3.1 _ | exact hh4.1 _ | exact hh5.1 _ | exact hh5.2.1 | exact hh4.2.1 | decide)
     refine sS (.tuple #[uZ ((x2:Nat):Int),uZ ((c2:Nat):Int)]) (Quiet.pure (λw=>Eq.trans kR (rx2 w)))<|sP (.tuple #[uZ ((x2:Nat):Int),uZ ((c2:Nat):Int)])<|sP (uZ ((x2:Nat):Int))<|sP (uZ ((c2:Nat):Int))<|sP (uZ ((x2:Nat):Int))<|sP (uZ ((c2:Nat):Int))<|sA<|sP (uZ ((x2:Nat):Int))<|sP (uZ ((y4.2:Nat):Int)) ?_
     obtain ⟨x3,c3,lx3,lc3,ex3,rx3⟩:=D6 (x2) (y4.2) (by first | assumption | exact hR _ | exact hlw _ | exact Cj _ _ | exact hh1.1 _ | exact hh3.1 _ | exact hh4.1 _ | exact hh5.1 _ | exact hh5.2.1 | exact hh4.2.1 | decide) (by first | assumption | exact hR _ | exact hlw _ | exact Cj _ _ | exact hh1.1 _ | exact hh3.1 _ | exact hh4.1 _ | exact hh5.1 _ | exact hh5.2.1 | exact hh4.2.1 | decide)
     refine sS (.tuple #[uZ ((x3:Nat):Int),uZ ((c3:Nat):Int)]) (Quiet.pure (λw=>Eq.trans kR (rx3 w)))<|sP (.tuple #[uZ ((x3:Nat):Int),uZ ((c3:Nat):Int)])<|sP (uZ ((x3:Nat):Int))<|sP (uZ ((c3:Nat):Int))<|sP (uZ ((x3:Nat):Int))<|sP (uZ ((c3:Nat):Int))<|sA<|sP (iZ k3)<|sP (iZ k4)<|sS (iZ (k3+k4)) (qad J J J)<|sP (uZ ((x3:Nat):Int))<|sS (.pointer (some ⟨g3,0+(k3+k4)*1,none⟩)) (Quiet.pure (BA 429 _ _ _ g3 0 _ (k3+k4) 1 .i64 J J J EA kF om))<|Sy.write kR 3 g3 429 (rw8 y4.1) (rw8 (upd y4.1 (k3+k4) x3)) kR (Writes.one (0+(k3+k4)*1) 22 (uZ ((x3:Nat):Int)) _ _ J kR kR kR J J (F5 _ (k:=k3+k4) om om) (F4 _ _ om om))<|sG<|Sy.region<|sP (uZ ((hi1:Nat):Int))<|sP (uZ ((c2:Nat):Int)) ?_
     have hst:=TW elo1 ex2 ex3
     have hcar:=RX hst (by first | assumption | exact hR _ | exact hlw _ | exact Cj _ _ | exact hh1.1 _ | exact hh3.1 _ | exact hh4.1 _ | exact hh5.1 _ | exact hh5.2.1 | exact hh4.2.1 | decide) (by first | assumption | exact hR _ | exact hlw _ | exact Cj _ _ | exact hh1.1 _ | exact hh3.1 _ | exact hh4.1 _ | exact hh5.1 _ | exact hh5.2.1 | exact hh4.2.1 | decide) (by first | assumption | exact hR _ | exact hlw _ | exact Cj _ _ | exact hh1.1 _ | exact hh3.1 _ | exact hh4.1 _ | exact hh5.1 _ | exact hh5.2.1 | exact hh4.2.1 | decide) hh4.2.1
     refine sS (uZ ((hi1+c2:Nat):Int)) (Quiet.pure (AE .add _ _ _ .u64 _ _ _ J J J (FD _ _ _ _ _ ((wrap_u64 om om).trans om))))<|sP (uZ ((c3:Nat):Int))<|sS (uZ (((hi1+c2)+c3:Nat):Int)) (Quiet.pure (AE .add _ _ _ .u64 _ _ _ J J J (FD _ _ _ _ _ ((wrap_u64 om om).trans om))))<|sP (uZ (((hi1+c2)+c3:Nat):Int))<|Sy.nil<|Sy.in_<|Sy.then_<|Sy.region<|sP (iZ k4)<|sS (iZ (k4+1)) (qad J J J)<|sP (iZ (k4+1))<|Sy.nil ?_
     have hin:=Qy (Hx y4.1 (k3+k4) x3 8 om) hh4.2.2 hst (P0:=18446744073709551616 ^ k4) (by rw [Nat.add_comm,Nat.pow_add])
     exact Sy.againX ((upd y4.1 (k3+k4) x3,hi1+c2+c3)) [true,true,true,true] om (⟨Ja hh4.1 lx3,hcar,by rw [← Nat.add_assoc,Nat.pow_succ]; exact hin⟩) ac7 kR
  ·have lb2:=dY hb2
   refine sT<|Sy.skip<|Sy.then_<|Sy.seq<|Sy.block<|Sy.region<|sP (iZ k2)<|sP (iZ k2)<|sS (.pointer (some ⟨g1,0+k2*1,none⟩)) (Quiet.pure (BA 429 _ _ _ g1 0 _ k2 1 .i64 J J J EA kF om))<|sS (uZ ((y1 k2:Nat):Int)) (qy 1 (0+k2*1) rfl J CD (H7 y1 (k:=k2) om om))<|sS (.pointer (some ⟨g3,0+k2*1,none⟩)) (Quiet.pure (BA 429 _ _ _ g3 0 _ k2 1 .i64 J J J EA kF om))<|Sy.write kR 3 g3 429 (rw8 (cpy y1 k2)) (rw8 (upd (cpy y1 k2) k2 (y1 k2))) kR (Writes.one (0+k2*1) 22 (uZ ((y1 k2:Nat):Int)) _ _ J kR kR kR J J (F5 _ (k:=k2) om om) (F4 _ _ om om))<|Sy.nil<|Sy.in_<|Sy.then_<|Sy.region<|sP (iZ k2)<|sS (iZ (k2+1)) (qad J J J)<|sP (iZ (k2+1))<|Sy.nil ?_
   exact Sy.againK [true,true,true,true] (M:=[(g0,366,(modc M lw)),(g1,429,(rw8 y1)),(g2,359,(fcs 0)),(g3,429,(rw8 (upd (cpy y1 k2) k2 (y1 k2))))]) om ac5 kR (E6 J (E6 J (E6 J (E6 (beq (congrArg rw8 (RW _ _))) J))))
end Fz
end
section
section
open Go.RowKit Go.Lib
def N_ (a b c d e f g h:Nat):Nat:=a+18446744073709551616*b+340282366920938463463374607431768211456*c+6277101735386680763835789423207666416102355444464034512896*d+(2^256)*e+2135987035920910082395021706169552114602704522356652769947041607822219725780640550022962086936576*f+39402006196394479212279040100143613805079739270465446667948293404245721771497210611414266254884915640806627990306816*g+726838724295606890549323807888004534353641360687318060281490199180639288113397923326191050713763565560762521606266177933534601628614656*h
def r8 (a b c d e f g h:Nat):Nat→Nat
 | 0=>a
 | 1=>b
 | 2=>c
 | 3=>d
 | 4=>e
 | 5=>f
 | 6=>g
 | 7=>h
 | _=>0
theorem UF (a b c d e f g h:Nat):Fz.vR (r8 a b c d e f g h) 8=N_ a b c d e f g h:=by
 show 0+a*1+b*18446744073709551616+c*340282366920938463463374607431768211456+d*6277101735386680763835789423207666416102355444464034512896+e*(2^256)+f*2135987035920910082395021706169552114602704522356652769947041607822219725780640550022962086936576+g*39402006196394479212279040100143613805079739270465446667948293404245721771497210611414266254884915640806627990306816+h*726838724295606890549323807888004534353641360687318060281490199180639288113397923326191050713763565560762521606266177933534601628614656=N_ a b c d e f g h
 unfold N_
 omega
def JI:Nat→Nat
 | 0=>4294968273
 | 1=>0
 | 2=>0
 | _=>0
theorem Ia:∀ t,JI t<18446744073709551616
 | 0=>by decide
 | 1=>by decide
 | 2=>by decide
 | _+3=>by show 0<_; decide
theorem E':Fz.modc pM JI=mP7:=kZ
theorem IZ:pM+Fz.vR JI 3=18446744073709551616 ^ 4:=by decide +kernel
theorem Jx:0<pM:=by decide +kernel
theorem Q7 (w:World) (d0 d1 d2 d3 d4 d5 d6 d7:Nat) (hd:d0<18446744073709551616∧d1<18446744073709551616∧d2<18446744073709551616∧d3<18446744073709551616∧d4<18446744073709551616∧d5<18446744073709551616∧d6<18446744073709551616∧d7<18446744073709551616):Calls Tryz.prog 282 #[.agg mP7,.agg #[.int .u64 (d0:Int),.int .u64 (d1:Int),.int .u64 (d2:Int),.int .u64 (d3:Int),.int .u64 (d4:Int),.int .u64 (d5:Int),.int .u64 (d6:Int),.int .u64 (d7:Int)]] w λe w'=>e=.returned (fv (N_ d0 d1 d2 d3 d4 d5 d6 d7%pM))∧Below w.heap.size w w':=by
 have h:=Fz.foldZ w pM JI Ia Jx IZ (λw x hx=>by rw [E']; exact normR_any w x hx) (r8 d0 d1 d2 d3 d4 d5 d6 d7) (λt=>by
  obtain ⟨h0,h1,h2,h3,h4,h5,h6,h7⟩:=hd
  rcases t with _ | _ | _ | _ | _ | _ | _ | _ | t <;> first | assumption | exact Nat.zero_lt_succ _)
 rw [UF,E'] at h
 exact h
end
end
section
section
open Go.RowKit Go.Lib
theorem KE (w:World) (a b c d:Obj):Below w.heap.size w ((((w.alloc a).alloc b).alloc c).alloc d):=(AY w a b c).alloc (by simp <;> omega) _
theorem KD (w:World) (a b c d e:Obj):Below w.heap.size w (((((w.alloc a).alloc b).alloc c).alloc d).alloc e):=(KE w a b c d).alloc (by simp <;> omega) _
theorem Rb (w:World) (a b c d:Obj) (t:TypeId) (cs:Array Value):Blk (((((w.alloc a).alloc b).alloc c).alloc d).alloc (.cells cs t)) (w.heap.size+4) t cs:=by
 have h:=Blk.new ((((w.alloc a).alloc b).alloc c).alloc d) t cs
 have e:((((w.alloc a).alloc b).alloc c).alloc d).heap.size=w.heap.size+4:=by simp
 rwa [e] at h
section
variable {P:Program} {ops:Array Oper}
theorem YieldsG.loadP {o:Oper} {a:Act} {w:World} {d:TypeDesc} (hw:Region.wanted o (yielded ops a.tmps)=true) (ty:TypeId) (x:Operand) (ho:o.op=.load ty x)
  (g:Nat) (hx:a.eval x=pT g 0) (n:Nat) (cs:List Value) (hl:g<w.heap.size) (hr:w.rangeAt g 0 cs) (hf:fv n=.agg cs.toArray)
  (hu:P.underlying ty=some d) (hd:d.isRow=true) (hi:(P.info? ty).map (·.size)=some cs.length):YieldsG P ops o (fv n) a w:=by
 rw [hf]
 exact YieldsG.load hw ty x ho g 0 hx cs d hl hr hu hd hi
end
theorem LZ (w:World) (x y:Nat) (hx:x<(2^256)) (hy:y<(2^256)):Calls Tryz.prog 283 #[.agg mP7,fv x,fv y] w λe w'=>e=.returned (fv (KH x y))∧Below w.heap.size w w':=by
 obtain ⟨x0,x1,x2,x3,a0,a1,a2,a3,ex,fx⟩:=Ah x hx
 obtain ⟨y0,y1,y2,y3,b0,b1,b2,b3,ey,fy⟩:=Ah y hy
 obtain ⟨s0,c0,d0,k0,e0,r0⟩:=D6 x0 y0 a0 b0
 obtain ⟨s1,c1,d1,k1,e1,r1⟩:=DY x1 y1 c0 a1 b1 k0
 obtain ⟨s2,c2,d2,k2,e2,r2⟩:=DY x2 y2 c1 a2 b2 k1
 obtain ⟨s3,c3,d3,k3,e3,r3⟩:=DY x3 y3 c2 a3 b3 k2
 have fin:N_ s0 s1 s2 s3 c3 0 0 0=x+y:=by simp only [N_]; omega
 obtain ⟨z,hz⟩:=xE (KH x y)
 have cF:∀ w,Calls Tryz.prog 282 #[.agg mP7,.agg #[.int .u64 (s0:Int),.int .u64 (s1:Int),.int .u64 (s2:Int),.int .u64 (s3:Int),.int .u64 (c3:Int),.int .u64 0,.int .u64 0,.int .u64 0]] w λe w'=>e=.returned (fv z)∧Below w.heap.size w w':=by
  intro w
  have h:=Q7 w s0 s1 s2 s3 c3 0 0 0 ⟨d0,d1,d2,d3,by omega,by omega,by omega,by omega⟩
  rw [fin] at h
  rw [hz]
  exact h
 rw [fx,fy, ← hz]
 clear fx fy ex ey hx hy hz a0 a1 a2 a3 b0 b1 b2 b3 d0 d1 d2 d3 k0 k1 k2 k3 e0 e1 e2 e3 fin
 go_enter Tryz.func283,Tryz.ntmps283
 go_wp2_with fail
 go_loopw [8,9] (λbo i wr=>Below w.heap.size w wr∧Blk wr w.heap.size 366 mP7∧Blk wr (w.heap.size+1) 359 #[.int .u64 (x0:Int),.int .u64 (x1:Int),.int .u64 (x2:Int),.int .u64 (x3:Int)]∧Blk wr (w.heap.size+2) 359 #[.int .u64 (y0:Int),.int .u64 (y1:Int),.int .u64 (y2:Int),.int .u64 (y3:Int)]∧Blk wr (w.heap.size+3) 359 #[.int .u64 0,.int .u64 0,.int .u64 0,.int .u64 0]∧Hid ((i=.int .i64 0∧bo=.int .u64 0∧Blk wr (w.heap.size+4) 429 #[.int .u64 0,.int .u64 0,.int .u64 0,.int .u64 0,.int .u64 0,.int .u64 0,.int .u64 0,.int .u64 0])∨(i=.int .i64 1∧bo=.int .u64 (c0:Int)∧Blk wr (w.heap.size+4) 429 #[.int .u64 (s0:Int),.int .u64 0,.int .u64 0,.int .u64 0,.int .u64 0,.int .u64 0,.int .u64 0,.int .u64 0])∨(i=.int .i64 2∧bo=.int .u64 (c1:Int)∧Blk wr (w.heap.size+4) 429 #[.int .u64 (s0:Int),.int .u64 (s1:Int),.int .u64 0,.int .u64 0,.int .u64 0,.int .u64 0,.int .u64 0,.int .u64 0])∨(i=.int .i64 3∧bo=.int .u64 (c2:Int)∧Blk wr (w.heap.size+4) 429 #[.int .u64 (s0:Int),.int .u64 (s1:Int),.int .u64 (s2:Int),.int .u64 0,.int .u64 0,.int .u64 0,.int .u64 0,.int .u64 0])∨(i=.int .i64 4∧bo=.int .u64 (c3:Int)∧Blk wr (w.heap.size+4) 429 #[.int .u64 (s0:Int),.int .u64 (s1:Int),.int .u64 (s2:Int),.int .u64 (s3:Int),.int .u64 0,.int .u64 0,.int .u64 0,.int .u64 0]))) (λ_ i _=>4 - (intOf i).toNat)
 case atStart=>exact ⟨KD w _ _ _ _ _,(((((Blk.new w _ _).alloc _).alloc _).alloc _).alloc _),((((Ab w _ _ _).alloc _).alloc _).alloc _),(((Ay w _ _ _ _).alloc _).alloc _),((Iq w _ _ _ _ _).alloc _),Lib.hid (.inl ⟨rfl,rfl,Rb w _ _ _ _ _ _⟩)⟩
 case round =>
  obtain ⟨hb,BM,BX,BY,BR,HI⟩:=hrel
  have lX:=BX.lt
  have lY:=BY.lt
  have lR:=BR.lt
  rcases HI.out with ⟨rfl,rfl,BW⟩ | ⟨rfl,rfl,BW⟩ | ⟨rfl,rfl,BW⟩ | ⟨rfl,rfl,BW⟩ | ⟨rfl,rfl,BW⟩
  ·clear HI
   have px:wr.cell? ⟨w.heap.size+1,0,none⟩=some (.int .u64 (x0:Int)):=BX.cell 0
   have py:wr.cell? ⟨w.heap.size+2,0,none⟩=some (.int .u64 (y0:Int)):=BY.cell 0
   go_wp2
   refine AP (λ_=>false) kZ ?_
   try simp only [Act.put]
   refine tk 0 J ?_
   try simp only [aPS]
   refine tk 1 J ?_
   try simp only [aPS]
   refine tkw 2 J (YieldsG.pure (v:=.int .u64 (x0:Int)) (by rfl) (λw9 h9=>by have hz:=(Below.cell (p:=⟨w.heap.size+1,0,none⟩) h9 lX).trans px; go_simp; first | done | simp [hz])) ?_
   try simp only [aPS]
   refine tk 3 J ?_
   try simp only [aPS]
   refine tk 4 J ?_
   try simp only [aPS]
   refine tkw 5 J (YieldsG.pure (v:=.int .u64 (y0:Int)) (by rfl) (λw9 h9=>by have hz:=(Below.cell (p:=⟨w.heap.size+2,0,none⟩) h9 lY).trans py; go_simp; first | done | simp [hz])) ?_
   try simp only [aPS]
   refine tk 6 J ?_
   try simp only [aPS]
   refine tkw 7 J (YieldsG.pure (v:=.tuple #[.int .u64 (s0:Int),.int .u64 (c0:Int)]) (by rfl) (λw9 h9=>by go_simp)) ?_
   try simp only [aPS]
   refine tk 8 J ?_
   try simp only [aPS]
   refine tk 9 J ?_
   try simp only [aPS]
   refine tk 10 J ?_
   try simp only [aPS]
   refine tk 11 J ?_
   try simp only [aPS]
   refine tk 12 J ?_
   try simp only [aPS]
   refine AO kZ (λu hu=>?_)
   have BM:=Gr.blk hu BM
   have BX:=Gr.blk hu BX
   have BY:=Gr.blk hu BY
   have BR:=Gr.blk hu BR
   have BW:=Gr.blk hu BW
   have hb:=Below.gr hb hu
   have pc:u.cell? ⟨w.heap.size+4,0,none⟩=some (.int .u64 0):=BW.cell 0
   have pf:=BW.frozen 0
   clear hu px py
   go_wp2
   refine ⟨⟨hb.setCell (by show w.heap.size≤w.heap.size+4; omega) _,BM.far (by show w.heap.size≠w.heap.size+4; omega) _,BX.far (by show w.heap.size+1≠w.heap.size+4; omega) _,BY.far (by show w.heap.size+2≠w.heap.size+4; omega) _,BR.far (by show w.heap.size+3≠w.heap.size+4; omega) _,Lib.hid (.inr (.inl (⟨rfl,rfl,BW.set_ 0 _⟩)))⟩,by decide⟩
  ·clear HI
   have px:wr.cell? ⟨w.heap.size+1,1,none⟩=some (.int .u64 (x1:Int)):=BX.cell 1
   have py:wr.cell? ⟨w.heap.size+2,1,none⟩=some (.int .u64 (y1:Int)):=BY.cell 1
   go_wp2
   refine AP (λ_=>false) kZ ?_
   try simp only [Act.put]
   refine tk 0 J ?_
   try simp only [aPS]
   refine tk 1 J ?_
   try simp only [aPS]
   refine tkw 2 J (YieldsG.pure (v:=.int .u64 (x1:Int)) (by rfl) (λw9 h9=>by have hz:=(Below.cell (p:=⟨w.heap.size+1,1,none⟩) h9 lX).trans px; go_simp; first | done | simp [hz])) ?_
   try simp only [aPS]
   refine tk 3 J ?_
   try simp only [aPS]
   refine tk 4 J ?_
   try simp only [aPS]
   refine tkw 5 J (YieldsG.pure (v:=.int .u64 (y1:Int)) (by rfl) (λw9 h9=>by have hz:=(Below.cell (p:=⟨w.heap.size+2,1,none⟩) h9 lY).trans py; go_simp; first | done | simp [hz])) ?_
   try simp only [aPS]
   refine tk 6 J ?_
   try simp only [aPS]
   refine tkw 7 J (YieldsG.pure (v:=.tuple #[.int .u64 (s1:Int),.int .u64 (c1:Int)]) (by rfl) (λw9 h9=>by go_simp)) ?_
   try simp only [aPS]
   refine tk 8 J ?_
   try simp only [aPS]
   refine tk 9 J ?_
   try simp only [aPS]
   refine tk 10 J ?_
   try simp only [aPS]
   refine tk 11 J ?_
   try simp only [aPS]
   refine tk 12 J ?_
   try simp only [aPS]
   refine AO kZ (λu hu=>?_)
   have BM:=Gr.blk hu BM
   have BX:=Gr.blk hu BX
   have BY:=Gr.blk hu BY
   have BR:=Gr.blk hu BR
   have BW:=Gr.blk hu BW
   have hb:=Below.gr hb hu
   have pc:u.cell? ⟨w.heap.size+4,1,none⟩=some (.int .u64 0):=BW.cell 1
   have pf:=BW.frozen 1
   clear hu px py
   go_wp2
   refine ⟨⟨hb.setCell (by show w.heap.size≤w.heap.size+4; omega) _,BM.far (by show w.heap.size≠w.heap.size+4; omega) _,BX.far (by show w.heap.size+1≠w.heap.size+4; omega) _,BY.far (by show w.heap.size+2≠w.heap.size+4; omega) _,BR.far (by show w.heap.size+3≠w.heap.size+4; omega) _,Lib.hid (.inr (.inr (.inl (⟨rfl,rfl,BW.set_ 1 _⟩))))⟩,by decide⟩
  ·clear HI
   have px:wr.cell? ⟨w.heap.size+1,2,none⟩=some (.int .u64 (x2:Int)):=BX.cell 2
   have py:wr.cell? ⟨w.heap.size+2,2,none⟩=some (.int .u64 (y2:Int)):=BY.cell 2
   go_wp2
   refine AP (λ_=>false) kZ ?_
   try simp only [Act.put]
   refine tk 0 J ?_
   try simp only [aPS]
   refine tk 1 J ?_
   try simp only [aPS]
   refine tkw 2 J (YieldsG.pure (v:=.int .u64 (x2:Int)) (by rfl) (λw9 h9=>by have hz:=(Below.cell (p:=⟨w.heap.size+1,2,none⟩) h9 lX).trans px; go_simp; first | done | simp [hz])) ?_
   try simp only [aPS]
   refine tk 3 J ?_
   try simp only [aPS]
   refine tk 4 J ?_
   try simp only [aPS]
   refine tkw 5 J (YieldsG.pure (v:=.int .u64 (y2:Int)) (by rfl) (λw9 h9=>by have hz:=(Below.cell (p:=⟨w.heap.size+2,2,none⟩) h9 lY).trans py; go_simp; first | done | simp [hz])) ?_
   try simp only [aPS]
   refine tk 6 J ?_
   try simp only [aPS]
   refine tkw 7 J (YieldsG.pure (v:=.tuple #[.int .u64 (s2:Int),.int .u64 (c2:Int)]) (by rfl) (λw9 h9=>by go_simp)) ?_
   try simp only [aPS]
   refine tk 8 J ?_
   try simp only [aPS]
   refine tk 9 J ?_
   try simp only [aPS]
   refine tk 10 J ?_
   try simp only [aPS]
   refine tk 11 J ?_
   try simp only [aPS]
   refine tk 12 J ?_
   try simp only [aPS]
   refine AO kZ (λu hu=>?_)
   have BM:=Gr.blk hu BM
   have BX:=Gr.blk hu BX
   have BY:=Gr.blk hu BY
   have BR:=Gr.blk hu BR
   have BW:=Gr.blk hu BW
   have hb:=Below.gr hb hu
   have pc:u.cell? ⟨w.heap.size+4,2,none⟩=some (.int .u64 0):=BW.cell 2
   have pf:=BW.frozen 2
   clear hu px py
   go_wp2
   refine ⟨⟨hb.setCell (by show w.heap.size≤w.heap.size+4; omega) _,BM.far (by show w.heap.size≠w.heap.size+4; omega) _,BX.far (by show w.heap.size+1≠w.heap.size+4; omega) _,BY.far (by show w.heap.size+2≠w.heap.size+4; omega) _,BR.far (by show w.heap.size+3≠w.heap.size+4; omega) _,Lib.hid (.inr (.inr (.inr (.inl (⟨rfl,rfl,BW.set_ 2 _⟩)))))⟩,by decide⟩
  ·clear HI
   have px:wr.cell? ⟨w.heap.size+1,3,none⟩=some (.int .u64 (x3:Int)):=BX.cell 3
   have py:wr.cell? ⟨w.heap.size+2,3,none⟩=some (.int .u64 (y3:Int)):=BY.cell 3
   go_wp2
   refine AP (λ_=>false) kZ ?_
   try simp only [Act.put]
   refine tk 0 J ?_
   try simp only [aPS]
   refine tk 1 J ?_
   try simp only [aPS]
   refine tkw 2 J (YieldsG.pure (v:=.int .u64 (x3:Int)) (by rfl) (λw9 h9=>by have hz:=(Below.cell (p:=⟨w.heap.size+1,3,none⟩) h9 lX).trans px; go_simp; first | done | simp [hz])) ?_
   try simp only [aPS]
   refine tk 3 J ?_
   try simp only [aPS]
   refine tk 4 J ?_
   try simp only [aPS]
   refine tkw 5 J (YieldsG.pure (v:=.int .u64 (y3:Int)) (by rfl) (λw9 h9=>by have hz:=(Below.cell (p:=⟨w.heap.size+2,3,none⟩) h9 lY).trans py; go_simp; first | done | simp [hz])) ?_
   try simp only [aPS]
   refine tk 6 J ?_
   try simp only [aPS]
   refine tkw 7 J (YieldsG.pure (v:=.tuple #[.int .u64 (s3:Int),.int .u64 (c3:Int)]) (by rfl) (λw9 h9=>by go_simp)) ?_
   try simp only [aPS]
   refine tk 8 J ?_
   try simp only [aPS]
   refine tk 9 J ?_
   try simp only [aPS]
   refine tk 10 J ?_
   try simp only [aPS]
   refine tk 11 J ?_
   try simp only [aPS]
   refine tk 12 J ?_
   try simp only [aPS]
   refine AO kZ (λu hu=>?_)
   have BM:=Gr.blk hu BM
   have BX:=Gr.blk hu BX
   have BY:=Gr.blk hu BY
   have BR:=Gr.blk hu BR
   have BW:=Gr.blk hu BW
   have hb:=Below.gr hb hu
   have pc:u.cell? ⟨w.heap.size+4,3,none⟩=some (.int .u64 0):=BW.cell 3
   have pf:=BW.frozen 3
   clear hu px py
   go_wp2
   refine ⟨⟨hb.setCell (by show w.heap.size≤w.heap.size+4; omega) _,BM.far (by show w.heap.size≠w.heap.size+4; omega) _,BX.far (by show w.heap.size+1≠w.heap.size+4; omega) _,BY.far (by show w.heap.size+2≠w.heap.size+4; omega) _,BR.far (by show w.heap.size+3≠w.heap.size+4; omega) _,Lib.hid (.inr (.inr (.inr (.inr (⟨rfl,rfl,BW.set_ 3 _⟩)))))⟩,by decide⟩
  ·clear HI
   have pc:wr.cell? ⟨w.heap.size+4,4,none⟩=some (.int .u64 0):=BW.cell 4
   have pf:=BW.frozen 4
   have BM4:Blk (wr.setCell ⟨w.heap.size+4,4,none⟩ (.int .u64 (c3:Int))) w.heap.size 366 mP7:=BM.far (by show w.heap.size≠w.heap.size+4; omega) _
   have BW4:Blk (wr.setCell ⟨w.heap.size+4,4,none⟩ (.int .u64 (c3:Int))) (w.heap.size+4) 429 #[.int .u64 (s0:Int),.int .u64 (s1:Int),.int .u64 (s2:Int),.int .u64 (s3:Int),.int .u64 (c3:Int),.int .u64 0,.int .u64 0,.int .u64 0]:=BW.set_ 4 _
   have BR4:Blk (wr.setCell ⟨w.heap.size+4,4,none⟩ (.int .u64 (c3:Int))) (w.heap.size+3) 359 #[.int .u64 0,.int .u64 0,.int .u64 0,.int .u64 0]:=BR.far (by show w.heap.size+3≠w.heap.size+4; omega) _
   have hb4:Below w.heap.size w (wr.setCell ⟨w.heap.size+4,4,none⟩ (.int .u64 (c3:Int))):=hb.setCell (by show w.heap.size≤w.heap.size+4; omega) _
   have H4:=Lib.hid (And.intro BM4 (And.intro BW4 (And.intro BR4 hb4)))
   clear BM BX BY BR BW hb BM4 BW4 BR4 hb4
   go_wp2_with (first | ((with_reducible refine AF (d:=some 33) ?_); refine Al J _ _ J w.heap.size J _ _ _ H4.out.1 De J kZ ?_) | ((with_reducible refine AF (d:=some 34) ?_); refine Al J _ _ J (w.heap.size+4) rfl _ _ _ H4.out.2.1 EA J kZ ?_))
   refine (cF _).mono ?_
   rintro e u ⟨rfl,hu⟩
   have BRu:=Gr.blk hu H4.out.2.2.1
   have hbu:=Below.gr H4.out.2.2.2 hu
   clear hu H4 cF
   go_wp2_with ((with_reducible refine AG ?_); refine AB J _ _ _ J (w.heap.size+3) (fcs z) J J _ _ BRu kZ (by rfl) (AM _) ?_; intro w9 hL9 hB9 hK9)
   exact bodyPost_ret (results_cell_row J _ _ (w.heap.size+3) _ _ (0,0) _ J hL9 AU J kZ) rfl ⟨rfl,hbu.trans (hB9 _ om)⟩
theorem Ku (w:World) (x:Nat) (hx:x<(2^256)):Calls Tryz.prog 273 #[.agg mP7,fv x] w λe w'=>e=.returned (fv (C2 x))∧Below w.heap.size w w':=by
 obtain ⟨n,hn⟩:=xE (x%pM)
 have np:n<115792089237316195423570985008687907853269984665640564039457584007908834671663:=by rw [hn]; exact Bw x
 obtain ⟨p,hp⟩:∃ p,p=115792089237316195423570985008687907853269984665640564039457584007908834671663:=⟨_,rfl⟩
 obtain ⟨q,hq⟩:=xE (p - n)
 obtain ⟨g,hg⟩:=xE (C2 x)
 have hgq:q%pM=g:=by rw [hg,C2, ← hn,hq,hp]; rfl
 have cN:∀ w,Calls Tryz.prog 240 #[.agg mP7,fv x] w λe w'=>e=.returned (fv n)∧Below w.heap.size w w':=by
  intro w; rw [hn]; exact normR_any w x hx
 have cM:∀ w,Calls Tryz.prog 267 #[fv p,fv n] w λe w'=>e=.returned (fv q)∧Below w.heap.size w w':=λw=>Gv w p n q 0 J J om om om om
 have cG:∀ w,Calls Tryz.prog 240 #[.agg mP7,fv q] w λe w'=>e=.returned (fv g)∧Below w.heap.size w w':=by
  intro w; rw [← hgq]; exact normR_any w q om
 have FP:Hid (fv p=.agg #[.int .u64 18446744069414583343,.int .u64 18446744073709551615,.int .u64 18446744073709551615,.int .u64 18446744073709551615]):=Lib.hid (by rw [hp]; exact MX)
 obtain ⟨x0,x1,x2,x3,fx⟩:=Ae x hx
 have FX:=Lib.hid fx
 rw [fx, ← hg]
 clear fx hx hn np hp hq hg hgq
 go_enter Tryz.func273,Tryz.ntmps273
 go_wp2
 refine AP (λj=>j == 8) kZ ?_
 try simp only [Act.put]
 refine tkw 0 J (YieldsG.load (by rfl) _ _ J w.heap.size 0 J ([.int .u64 18446744069414583343,.int .u64 18446744073709551615,.int .u64 18446744073709551615,.int .u64 18446744073709551615,.int .u64 4294968273,.int .u64 0,.int .u64 0]) _ (Blk.lt (((Blk.new w _ _).alloc _).alloc _)) (Blk.range (((Blk.new w _ _).alloc _).alloc _)) De J kZ) ?_
 try simp only [aPS]
 refine tk 1 J ?_
 try simp only [aPS]
 refine tkw 2 J (YieldsG.loadP (by rfl) _ _ J w.heap.size J p _ (Blk.lt (((Blk.new w _ _).alloc _).alloc _)) (Cq (((Blk.new w _ _).alloc _).alloc _)) FP.out AU J kZ) ?_
 try simp only [aPS]
 refine tkw 3 J (YieldsG.load (by rfl) _ _ J w.heap.size 0 J ([.int .u64 18446744069414583343,.int .u64 18446744073709551615,.int .u64 18446744073709551615,.int .u64 18446744073709551615,.int .u64 4294968273,.int .u64 0,.int .u64 0]) _ (Blk.lt (((Blk.new w _ _).alloc _).alloc _)) (Blk.range (((Blk.new w _ _).alloc _).alloc _)) De J kZ) ?_
 try simp only [aPS]
 refine tkw 4 J (YieldsG.loadF (by rfl) _ _ J (w.heap.size+1) rfl x _ _ ((Ab w _ _ _).alloc _) FX.out AU J kZ) ?_
 try simp only [aPS]
 refine tkw 5 J (YieldsG.call (v:=fv n) (by rfl) 240 _ (λw9=>by go_simp; try rfl) (λw9 h9=>cN w9)) ?_
 try simp only [aPS]
 refine tkw 6 J (YieldsG.call (v:=fv q) (by rfl) 267 _ (λw9=>by go_simp; try rfl) (λw9 h9=>cM w9)) ?_
 try simp only [aPS]
 refine tkw 7 J (YieldsG.call (v:=fv g) (by rfl) 240 _ (λw9=>by go_simp; try rfl) (λw9 h9=>cG w9)) ?_
 try simp only [aPS]
 refine CE 8 J kZ (by rfl) _ _ _ J (w.heap.size+2) (fcs g) J J _ _ (Ay w _ _ _ _) kZ (by rfl) (AM _) rfl (λw6 h6 w7 hB7 hL7=>?_)
 try simp only [Act.put]
 refine AO kZ (λw8 h8=>?_)
 have hfin:=Gr.blk h8 hL7
 have hb9:=(Below.gr (AY w _ _ _) h6).trans ((hB7 _ om).trans (Below.mono h8 (by have:=hL7.lt; omega)))
 go_wp2
 exact bodyPost_ret (results_cell_row J _ _ (w.heap.size+2) _ _ (0,0) _ J hfin AU J kZ) rfl ⟨rfl,hb9⟩
end
end
section
namespace Fz
open Go.RowKit Go.Lib Sy
theorem mulZ (w:World) (M:Nat) (lw:Nat→Nat) (hlw:∀ t,lw t<18446744073709551616) (hM0:0<M) (hM:M+vR lw 3=18446744073709551616 ^ 4) (hnorm:∀ w x,x<(2^256)→AL 240 #[.agg (modc M lw),fv x] w (Ai w (fv (x%M)))) (x y:Nat) (hx:x<(2^256)) (hy:y<(2^256)):AL 268 #[.agg (modc M lw),fv x,fv y] w (Ai w (fv (x*y%M))):=by
 refine Sy.enter (args:=[.agg (modc M lw),fv x,fv y]) Tryz.func268 J kL<|sC<|sM 366 (modc M lw) (λg0=>?_)
 refine sM 359 (fcs x) (λg1=>?_)
 refine sM 359 (fcs y) (λg2=>?_)
 refine sM 359 (fcs 0) (λg3=>?_)
 refine sA<|Sy.make kR 429 (rw8 (λ_=>0)) ptr kF (λg4=>?_)
 refine sG<|Sy.seq<|sC<|sP (.int .i64 0)<|sG<|Sy.block<|Sy.loopX (T:=Nat→Nat) 4 (λk1 y1=>[(3,pT g0 0),(4,pT g1 0),(5,pT g2 0),(6,pT g3 0),(7,pT g4 0),(8,iZ k1)]) (λk1 y1=>[(g0,366,(modc M lw)),(g1,359,(fcs x)),(g2,359,(fcs y)),(g3,359,(fcs 0)),(g4,429,(rw8 y1))]) (λk1 y1=>(∀ t,y1 t<18446744073709551616)∧vR y1 8=vR (wd x) k1*vR (wd y) 4∧∀ t,k1+4≤t→y1 t=0) (λ_=>0) [true,true,true,true,true] (⟨λ_=>by show (0:Nat)<18446744073709551616; decide,by rw [JY]; exact (Nat.zero_mul _).symm,λ_ _=>rfl⟩) ac6 kR (λk1 y1 hk1 hh1=>?_)
 refine Sy.seq<|sC<|sP (iZ k1) ?_
 obtain ⟨b1,hb1⟩:=xE (decide (k1<4))
 refine sS (.bool b1) (qls J J J hb1)<|sG ?_
 cases b1
 ·have lb1:=dN hb1
  refine sU<|Sy.exit<|Sy.then_exit<|Sy.then_exit ?_
  obtain rfl:k1=4:=om
  refine Sy.in_exit<|sB<|sS (.agg (modc M lw)) (qk 0 0 7 J J De)<|sS (.agg (rw8 y1)) (qx 4 0 8 J J EA kR kL)<|sS (fv (vR y1 8%M)) (qf (λw=>foldZ w M lw hlw hM0 hM hnorm y1 hh1.1))<|sw 3 J (fcs (vR y1 8%M)) (wA J)<|sG<|Sy.ret ?_
  rw [show (fv (x*y%M):Value)=fv (vR y1 8%M) from by rw [hh1.2.1,wd4 hx,wd4 hy]]
  exact rc (v:=fv (vR y1 8%M)) 3 J J AU
 ·have lb1:=dY hb1
  refine sT<|Sy.skip<|Sy.then_<|Sy.seq<|Sy.block<|sC<|sP (uZ 0)<|sG<|Sy.seq<|sC<|sP (.int .i64 0)<|sG<|Sy.block<|Sy.loopX (T:=(Nat→Nat)×Nat) 4 (λk2 y2=>[(3,pT g0 0),(4,pT g1 0),(5,pT g2 0),(6,pT g3 0),(7,pT g4 0),(8,iZ k1),(9,uZ ((y2.2:Nat):Int)),(10,iZ k2)]) (λk2 y2=>[(g0,366,(modc M lw)),(g1,359,(fcs x)),(g2,359,(fcs y)),(g3,359,(fcs 0)),(g4,429,(rw8 y2.1))]) (λk2 y2=>(∀ t,y2.1 t<18446744073709551616)∧y2.2<18446744073709551616∧vR y2.1 8+y2.2*18446744073709551616 ^ (k1+k2)=vR y1 8+wd x k1*vR (wd y) k2*18446744073709551616 ^ k1∧∀ t,k1+4≤t→y2.1 t=0) (y1,0) [true,true,true,true,true] (⟨hh1.1,by show (0:Nat)<18446744073709551616; decide,by show vR y1 8+0*_=_+_*0*_; omega,hh1.2.2⟩) ac8 kR (λk2 y2 hk2 hh2=>?_)
  refine Sy.seq<|sC<|sP (iZ k2) ?_
  obtain ⟨b2,hb2⟩:=xE (decide (k2<4))
  refine sS (.bool b2) (qls J J J hb2)<|sG ?_
  cases b2
  ·have lb2:=dN hb2
   refine sU<|Sy.exit<|Sy.then_exit<|Sy.then_exit ?_
   obtain rfl:k2=4:=om
   refine Sy.in_exit<|Sy.then_<|Sy.region<|sP (iZ k1)<|sS (iZ (k1+4)) (qad J J J)<|sP (uZ ((y2.2:Nat):Int))<|sS (.pointer (some ⟨g4,0+(k1+4)*1,none⟩)) (Quiet.pure (BA 429 _ _ _ g4 0 _ (k1+4) 1 .i64 J J J EA kF om))<|Sy.write kR 4 g4 429 (rw8 y2.1) (rw8 (upd y2.1 (k1+4) y2.2)) kR (Writes.one (0+(k1+4)*1) 22 (uZ ((y2.2:Nat):Int)) _ _ J kR kR kR J J (F5 _ (k:=k1+4) om om) (F4 _ _ om om))<|Sy.nil<|Sy.in_<|Sy.then_<|Sy.region<|sP (iZ k1)<|sS (iZ (k1+1)) (qad J J J)<|sP (iZ (k1+1))<|Sy.nil ?_
   have hq:=UN hh1.2.1 hh2.2.2.1 (hh2.2.2.2 _ (Nat.le_refl _)) om
   exact Sy.againX (upd y2.1 (k1+4) y2.2) [true,true,true,true,true] om (⟨Ja hh2.1 hh2.2.1,hq,λt ht=>(PK om).trans (hh2.2.2.2 t om)⟩) ac6 kR
  ·have lb2:=dY hb2
   refine sT<|Sy.skip<|Sy.then_<|Sy.seq<|Sy.block<|Sy.seq<|Sy.regionD (λj=>false) kR<|sZ 0 J (iZ k1)<|sD 1 J (.pointer (some ⟨g1,0+k1*1,none⟩)) (Quiet.pure (BA 359 _ _ _ g1 0 _ k1 1 .i64 J J J AU kF om))<|sD 2 J (uZ ((wd x k1:Nat):Int)) (qy 1 (0+k1*1) rfl J CD (Mc x (k:=k1) om om))<|sZ 3 J (iZ k2)<|sD 4 J (.pointer (some ⟨g2,0+k2*1,none⟩)) (Quiet.pure (BA 359 _ _ _ g2 0 _ k2 1 .i64 J J J AU kF om))<|sD 5 J (uZ ((wd y k2:Nat):Int)) (qy 2 (0+k2*1) rfl J CD (Mc y (k:=k2) om om)) ?_
   obtain ⟨hi1,lo1,llo1,elo1⟩:=I7 (wd x k1) (wd y k2)
   refine sD 6 J (.tuple #[uZ ((hi1:Nat):Int),uZ ((lo1:Nat):Int)]) (qf (λw=>Kw w (wd x k1) (wd y k2) hi1 lo1 (by first | assumption | exact Cj _ _ | exact hh1.1 _ | exact hh2.1 _ | exact hh2.2.1 | decide) (by first | assumption | exact Cj _ _ | exact hh1.1 _ | exact hh2.1 _ | exact hh2.2.1 | decide) llo1 elo1))<|sZ 7 J (.tuple #[uZ ((hi1:Nat):Int),uZ ((lo1:Nat):Int)])<|sZ 8 J (uZ ((hi1:Nat):Int))<|sZ 9 J (uZ ((lo1:Nat):Int))<|sZ 10 J (uZ ((hi1:Nat):Int))<|sZ 11 J (uZ ((lo1:Nat):Int))<|sE<|sB<|sP (uZ ((lo1:Nat):Int))<|sP (iZ k1)<|sP (iZ k2)<|sS (iZ (k1+k2)) (qad J J J)<|sS (.pointer (some ⟨g4,0+(k1+k2)*1,none⟩)) (Quiet.pure (BA 429 _ _ _ g4 0 _ (k1+k2) 1 .i64 J J J EA kF om))<|sS (uZ ((y2.1 (k1+k2):Nat):Int)) (qy 4 (0+(k1+k2)*1) rfl J CD (H7 y2.1 (k:=k1+k2) om om)) ?_
   obtain ⟨x1,c1,lx1,lc1,ex1,rx1⟩:=D6 (lo1) (y2.1 (k1+k2)) (by first | assumption | exact Cj _ _ | exact hh1.1 _ | exact hh2.1 _ | exact hh2.2.1 | decide) (by first | assumption | exact Cj _ _ | exact hh1.1 _ | exact hh2.1 _ | exact hh2.2.1 | decide)
   refine sS (.tuple #[uZ ((x1:Nat):Int),uZ ((c1:Nat):Int)]) (Quiet.pure (λw=>Eq.trans kR (rx1 w)))<|sP (.tuple #[uZ ((x1:Nat):Int),uZ ((c1:Nat):Int)])<|sP (uZ ((x1:Nat):Int))<|sP (uZ ((c1:Nat):Int))<|sP (uZ ((x1:Nat):Int))<|sP (uZ ((c1:Nat):Int))<|sA<|sP (uZ ((x1:Nat):Int))<|sP (uZ ((y2.2:Nat):Int)) ?_
   obtain ⟨x2,c2,lx2,lc2,ex2,rx2⟩:=D6 (x1) (y2.2) (by first | assumption | exact Cj _ _ | exact hh1.1 _ | exact hh2.1 _ | exact hh2.2.1 | decide) (by first | assumption | exact Cj _ _ | exact hh1.1 _ | exact hh2.1 _ | exact hh2.2.1 | decide)
   refine sS (.tuple #[uZ ((x2:Nat):Int),uZ ((c2:Nat):Int)]) (Quiet.pure (λw=>Eq.trans kR (rx2 w)))<|sP (.tuple #[uZ ((x2:Nat):Int),uZ ((c2:Nat):Int)])<|sP (uZ ((x2:Nat):Int))<|sP (uZ ((c2:Nat):Int))<|sP (uZ ((x2:Nat):Int))<|sP (uZ ((c2:Nat):Int))<|sA<|sP (iZ k1)<|sP (iZ k2)<|sS (iZ (k1+k2)) (qad J J J)<|sP (uZ ((x2:Nat):Int))<|sS (.pointer (some ⟨g4,0+(k1+k2)*1,none⟩)) (Quiet.pure (BA 429 _ _ _ g4 0 _ (k1+k2) 1 .i64 J J J EA kF om))<|Sy.write kR 4 g4 429 (rw8 y2.1) (rw8 (upd y2.1 (k1+k2) x2)) kR (Writes.one (0+(k1+k2)*1) 22 (uZ ((x2:Nat):Int)) _ _ J kR kR kR J J (F5 _ (k:=k1+k2) om om) (F4 _ _ om om))<|sG<|Sy.region<|sP (uZ ((hi1:Nat):Int))<|sP (uZ ((c1:Nat):Int)) ?_
   have hst:=TW elo1 ex1 ex2
   have hcar:=RX hst (by first | assumption | exact Cj _ _ | exact hh1.1 _ | exact hh2.1 _ | exact hh2.2.1 | decide) (by first | assumption | exact Cj _ _ | exact hh1.1 _ | exact hh2.1 _ | exact hh2.2.1 | decide) (by first | assumption | exact Cj _ _ | exact hh1.1 _ | exact hh2.1 _ | exact hh2.2.1 | decide) hh2.2.1
   refine sS (uZ ((hi1+c1:Nat):Int)) (Quiet.pure (AE .add _ _ _ .u64 _ _ _ J J J (FD _ _ _ _ _ ((wrap_u64 om om).trans om))))<|sP (uZ ((c2:Nat):Int))<|sS (uZ (((hi1+c1)+c2:Nat):Int)) (Quiet.pure (AE .add _ _ _ .u64 _ _ _ J J J (FD _ _ _ _ _ ((wrap_u64 om om).trans om))))<|sP (uZ (((hi1+c1)+c2:Nat):Int))<|Sy.nil<|Sy.in_<|Sy.then_<|Sy.region<|sP (iZ k2)<|sS (iZ (k2+1)) (qad J J J)<|sP (iZ (k2+1))<|Sy.nil ?_
   have hin:=Qy (Hx y2.1 (k1+k2) x2 8 om) hh2.2.2.1 hst (P0:=18446744073709551616 ^ k2) (by rw [Nat.add_comm,Nat.pow_add])
   exact Sy.againX ((upd y2.1 (k1+k2) x2,hi1+c1+c2)) [true,true,true,true,true] om (⟨Ja hh2.1 lx2,hcar,by rw [← Nat.add_assoc,Nat.pow_succ]; exact hin,λt ht=>(PK om).trans (hh2.2.2.2 t ht)⟩) ac8 kR
end Fz
end
section
section
open Go.RowKit Go.Lib
theorem IU (w:World) (x y:Nat) (hx:x<(2^256)) (hy:y<(2^256)):Calls Tryz.prog 268 #[.agg mP7,fv x,fv y] w λe w'=>e=.returned (fv (Bm x y))∧Below w.heap.size w w':=by
 have h:=Fz.mulZ w pM JI Ia Jx IZ (λw x hx=>by rw [E']; exact normR_any w x hx) x y hx hy
 rw [E'] at h
 exact h
end
end
section
namespace Fz
open Go.RowKit Go.Lib Sy
def msk (j:Nat):Nat:=9223372036854775808 / 2 ^ j
theorem Kx (j:Nat):msk j / 2=msk (j+1):=by unfold msk; rw [Nat.div_div_eq_div_mul, ← Nat.pow_succ]
theorem MD {j:Nat} (h:j≤63):msk j=2 ^ (63 - j):=by
 unfold msk
 have e:(9223372036854775808:Nat)=2 ^ (63 - j)*2 ^ j:=by rw [← Nat.pow_add,show 63 - j+j=63 by omega]
 rw [e]
 exact Nat.mul_div_cancel _ (Nat.two_pow_pos j)
theorem Se {j:Nat} (h:j<64):0<msk j:=by rw [MD om]; exact Nat.two_pow_pos _
theorem Sf:msk 64=0:=dZ
theorem MC (j:Nat):msk j<18446744073709551616:=Nat.lt_of_le_of_lt (Nat.div_le_self _ _) dZ
theorem O4 (a r s:Nat) (hs:s≤63):(a+18446744073709551616*r) / 2 ^ s%2=a / 2 ^ s%2:=by
 obtain ⟨u,hu⟩:∃ u,2 ^ s*(2*u)=18446744073709551616:=by
  refine ⟨2 ^ (63 - s),?_⟩
  have:2 ^ s*2 ^ (63 - s)=2 ^ 63:=by rw [← Nat.pow_add]; congr 1; omega
  rw [show (2:Nat)*2 ^ (63 - s)=2 ^ (63 - s)*2 from Nat.mul_comm _ _, ← Nat.mul_assoc,this]
 rw [← hu,Nat.mul_assoc,Nat.add_mul_div_left _ _ (Nat.two_pow_pos s),Nat.mul_assoc,Nat.add_mul_mod_self_left]
theorem L9 (e i s w r:Nat) (hz:e / 2 ^ (64*i)=w+18446744073709551616*r) (hs:s≤63):e / 2 ^ (64*i+s)=2*(e / 2 ^ (64*i+(s+1)))+w / 2 ^ s%2:=by
 have h1:e / 2 ^ (64*i+s)%2=w / 2 ^ s%2:=by
  rw [Nat.pow_add, ← Nat.div_div_eq_div_mul,hz,O4 w r s hs]
 have h2:e / 2 ^ (64*i+(s+1))=e / 2 ^ (64*i+s) / 2:=by
  rw [← Nat.add_assoc,Nat.pow_succ,Nat.div_div_eq_div_mul]
 rw [h2, ← h1]
 omega
theorem KM (e i s:Nat) (hs:s≤63):e / 2 ^ (64*i+s)=2*(e / 2 ^ (64*i+(s+1)))+wd e i / 2 ^ s%2 :=
 L9 e i s (wd e i) (e / 18446744073709551616 ^ i / 18446744073709551616) (by
  unfold wd
  rw [Nat.mod_add_div,Nat.pow_mul]) hs
theorem LV (a s:Nat):a &&& 2 ^ s=0↔a / 2 ^ s%2=0:=by
 have hb:a.testBit s=decide (a / 2 ^ s%2=1):=Nat.testBit_eq_decide_div_mod_eq
 constructor
 ·intro h
  have h2:(a &&& 2 ^ s).testBit s=false:=by rw [h]; simp
  rw [Nat.testBit_and,Nat.testBit_two_pow_self,Bool.and_true,hb] at h2
  have h3:¬ a / 2 ^ s%2=1:=by simpa using h2
  omega
 ·intro h
  have h2:a.testBit s=false:=by rw [hb]; simp; omega
  refine Nat.eq_of_testBit_eq λj=>?_
  rw [Nat.testBit_and,Nat.zero_testBit,Nat.testBit_two_pow]
  by_cases hj:s=j
  ·subst hj; simp [h2]
  ·simp [hj]
theorem TN (a b:Nat) (ha:a<18446744073709551616) (hb:b<18446744073709551616):IntKind.u64.wrap ((BitVec.ofInt IntKind.u64.bits (a:Int) &&& BitVec.ofInt IntKind.u64.bits (b:Int)).toNat:Int)=((a &&& b:Nat):Int):=by
 have hl:a &&& b<18446744073709551616:=Nat.lt_of_le_of_lt Nat.and_le_left ha
 have hw2:(BitVec.ofInt 64 (a:Int) &&& BitVec.ofInt 64 (b:Int)).toNat=a &&& b:=by
  rw [BitVec.toNat_and]
  simp only [BitVec.ofInt_natCast,BitVec.toNat_ofNat]
  rw [Nat.mod_eq_of_lt om,Nat.mod_eq_of_lt om]
 show IntKind.u64.wrap ((BitVec.ofInt 64 (a:Int) &&& BitVec.ofInt 64 (b:Int)).toNat:Int)=_
 rw [hw2,wrap_u64 om om]
theorem Vq (a:Nat) (ha:a<18446744073709551616):IntKind.u64.wrap ((a:Int).tdiv 2)=((a / 2:Nat):Int):=by
 have e:(a:Int).tdiv 2=((a / 2:Nat):Int):=rfl
 rw [e,wrap_u64 om om]
def pz (M x e i s:Nat):Nat:=x ^ (e / 2 ^ (64*i+s))%M
theorem SA {M x e i j:Nat} (hj:j<64) (h:wd e i / 2 ^ (63 - j)%2=0):pz M x e i (64 - j)*pz M x e i (64 - j)%M=pz M x e i (64 - (j+1)):=by
 have q:=KM e i (63 - j) om
 rw [h,Nat.add_zero,show 63 - j+1=64 - j by omega] at q
 unfold pz
 rw [show 64 - (j+1)=63 - j by omega,q, ← Nat.mul_mod, ← Nat.pow_add,Nat.two_mul]
theorem UG {M x e i j:Nat} (hj:j<64) (h:¬ wd e i / 2 ^ (63 - j)%2=0):pz M x e i (64 - j)*pz M x e i (64 - j)%M*x%M=pz M x e i (64 - (j+1)):=by
 have q:=KM e i (63 - j) om
 rw [show wd e i / 2 ^ (63 - j)%2=1 by omega,show 63 - j+1=64 - j by omega] at q
 unfold pz
 rw [show 64 - (j+1)=63 - j by omega,q, ← Nat.mul_mod, ← Nat.pow_add,Nat.mod_mul_mod, ← Nat.pow_succ,Nat.two_mul]
theorem R_ {M x e i:Nat}:pz M x e (i+1) 0=pz M x e i 64:=by unfold pz; rw [Nat.add_zero,Nat.mul_add,Nat.mul_one]
theorem P3 {M x e:Nat} (he:e<(2^256)) (hM:1<M):pz M x e 4 0=1:=by
 unfold pz
 rw [Nat.div_eq_of_lt (by rw [show 64*4+0=256 from rfl]; omega),Nat.pow_zero,Nat.mod_eq_of_lt hM]
theorem R' {M x e:Nat}:pz M x e 0 0=x ^ e%M:=by
 unfold pz
 rw [show 64*0+0=0 from rfl,Nat.pow_zero,Nat.div_one]
theorem powZ (w:World) (M:Nat) (lw:Nat→Nat) (hlw:∀ t,lw t<18446744073709551616) (hM0:0<M) (hM1:1<M) (hM:M+vR lw 3=18446744073709551616 ^ 4) (hM4:M≤(2^256)) (hnorm:∀ w x,x<(2^256)→AL 240 #[.agg (modc M lw),fv x] w (Ai w (fv (x%M)))) (hsmall:∀ w,AL 270 #[uZ 1] w (Ai w (fv 1))) (x e:Nat) (hx:x<(2^256)) (he:e<(2^256)):AL 285 #[.agg (modc M lw),fv x,fv e] w (Ai w (fv (x ^ e%M))):=by
 refine Sy.enter (args:=[.agg (modc M lw),fv x,fv e]) Tryz.func285 J kL<|sC<|sM 366 (modc M lw) (λg0=>?_)
 refine sM 359 (fcs x) (λg1=>?_)
 refine sM 359 (fcs e) (λg2=>?_)
 refine sM 359 (fcs 0) (λg3=>?_)
 refine sA<|sS (fv 1) (qf (λw=>hsmall w))<|sM 359 (fcs 0) (λg4=>?_)
 refine sw 4 J (fcs 1) (wA J)<|sG<|Sy.seq<|sC<|sP (.int .i64 3)<|sG<|Sy.block<|Sy.loopX (T:=Int×Nat) 4 (λk1 y1=>[(3,pT g0 0),(4,pT g1 0),(5,pT g2 0),(6,pT g3 0),(7,pT g4 0),(8,.int .i64 y1.1)]) (λk1 y1=>[(g0,366,(modc M lw)),(g1,359,(fcs x)),(g2,359,(fcs e)),(g3,359,(fcs 0)),(g4,359,(fcs y1.2))]) (λk1 y1=>y1.1=3 - ((k1:Nat):Int)∧y1.2=pz M x e (4 - k1) 0) ((3:Int),1) [true,true,true,true,true] (⟨rfl,(P3 he hM1).symm⟩) ac6 kR (λk1 y1 hk1 hh1=>?_)
 refine Sy.seq<|sC<|sP (.int .i64 y1.1) ?_
 obtain ⟨b1,hb1⟩:=xE (decide (y1.1 ≥ 0))
 refine sS (.bool b1) (Quiet.pure (AE .geq _ _ _ .i64 _ _ _ J J J (Dy _ _ _ _ _ hb1.symm)))<|sG ?_
 cases b1
 ·have lb1:=dN hb1
  refine sU<|Sy.exit<|Sy.then_exit<|Sy.then_exit ?_
  obtain rfl:k1=4:=om
  refine Sy.in_exit<|sB<|sS (fv y1.2) (qk 4 0 4 J J AU)<|sw 3 J (fcs y1.2) (wA J)<|sG<|Sy.ret ?_
  rw [show (fv (x ^ e%M):Value)=fv y1.2 from by rw [hh1.2,show 4 - 4=0 from rfl,R']]
  exact rc (v:=fv y1.2) 3 J J AU
 ·have lb1:=dY hb1
  have hq0:=hh1.1
  obtain ⟨q1,hq1⟩:∃ q:Nat,y1.1=(q:Int):=⟨y1.1.toNat,by omega⟩
  have hqk:q1+k1=3:=om
  refine sT<|Sy.skip<|Sy.then_<|Sy.seq<|Sy.block<|sC<|sP (uZ 9223372036854775808)<|sG<|Sy.block<|Sy.loopX (T:=Nat×Nat) 64 (λk2 y2=>[(3,pT g0 0),(4,pT g1 0),(5,pT g2 0),(6,pT g3 0),(7,pT g4 0),(8,.int .i64 y1.1),(9,uZ ((y2.1:Nat):Int))]) (λk2 y2=>[(g0,366,(modc M lw)),(g1,359,(fcs x)),(g2,359,(fcs e)),(g3,359,(fcs 0)),(g4,359,(fcs y2.2))]) (λk2 y2=>y2.1=msk k2∧y2.2=pz M x e q1 (64 - k2)) (9223372036854775808,y1.2) [true,true,true,true,true] (⟨rfl,by show y1.2=_; rw [hh1.2,show 4 - k1=q1+1 by omega]; exact R_⟩) ac7 kR (λk2 y2 hk2 hh2=>?_)
  refine Sy.seq<|sC<|sP (uZ ((y2.1:Nat):Int)) ?_
  obtain ⟨b2,hb2⟩:=xE (decide (y2.1>0))
  refine sS (.bool b2) (Quiet.pure (AE .gtr _ _ _ .u64 _ _ _ J J J (Dx _ _ _ _ _ (by rw [hb2]; exact decide_eq_decide.2 om))))<|sG ?_
  cases b2
  ·have lb2:=dN hb2
   have hk64:¬ k2<64:=λh=>by have:=Se h; have:=hh2.1; omega
   refine sU<|Sy.exit<|Sy.then_exit<|Sy.then_exit ?_
   obtain rfl:k2=64:=om
   refine Sy.in_exit<|Sy.in_<|Sy.then_<|Sy.region<|sP (.int .i64 y1.1)<|sS (.int .i64 (y1.1 - 1)) (Quiet.pure (AE .sub _ _ _ .i64 _ _ _ J J J (Cf _ _ _ _ _ (BI om om))))<|sP (.int .i64 (y1.1 - 1))<|Sy.nil ?_
   have hq:=hh1.1
   exact Sy.againX ((y1.1 - 1,y2.2)) [true,true,true,true,true] (by have:=hh1.1; omega) (⟨by show y1.1 - 1=_; omega,by show y2.2=_; rw [hh2.2,show 4 - (k1+1)=q1 by omega,show 64 - 64=0 from rfl]⟩) ac6 kR
  ·have lb2:=dY hb2
   have hk64:k2<64:=by
    rcases Nat.lt_or_ge k2 64 with h | h
    ·exact h
    ·have e:k2=64:=om
     have:=hh2.1
     rw [e,Sf] at this
     omega
   refine sT<|Sy.skip<|Sy.then_<|Sy.seq<|Sy.block<|sC<|sS (.agg (modc M lw)) (qk 0 0 7 J J De)<|sS (fv y2.2) (qk 4 0 4 J J AU)<|sS (fv y2.2) (qk 4 0 4 J J AU)<|sS (fv (y2.2*y2.2%M)) (qf (λw=>mulZ w M lw hlw hM0 hM hnorm y2.2 y2.2 (by first | assumption | exact Nat.lt_of_lt_of_le (Nat.mod_lt _ hM0) hM4 | (rw [hh2.2]; exact Nat.lt_of_lt_of_le (Nat.mod_lt _ hM0) hM4)) (by first | assumption | exact Nat.lt_of_lt_of_le (Nat.mod_lt _ hM0) hM4 | (rw [hh2.2]; exact Nat.lt_of_lt_of_le (Nat.mod_lt _ hM0) hM4))))<|sw 4 J (fcs (y2.2*y2.2%M)) (wA J)<|sA<|sP (.int .i64 y1.1)<|sS (.pointer (some ⟨g2,0+q1*1,none⟩)) (Quiet.pure (BA 359 _ _ _ g2 0 _ q1 1 .i64 J J (show Value.int .i64 y1.1=iZ q1 from by rw [hq1]) AU kF om))<|sS (uZ ((wd e q1:Nat):Int)) (qy 2 (0+q1*1) rfl J CD (Mc e (k:=q1) om om))<|sP (uZ ((y2.1:Nat):Int))<|sS (uZ (((wd e q1) &&& y2.1:Nat):Int)) (Quiet.pure (AE .and _ _ _ .u64 _ _ _ J J J (Sv _ _ _ _ _ (TN _ _ (Cj _ _) (by rw [hh2.1]; exact MC _))))) ?_
   obtain ⟨b3,hb3⟩:=xE (decide ((wd e q1) &&& y2.1≠0))
   refine sS (.bool b3) (Quiet.pure (AE .neq _ _ _ .u64 _ _ _ J J J (Dw _ _ _ _ _ (by rw [hb3]; exact decide_eq_decide.2 om))))<|sG ?_
   cases b3
   ·have lb3:=dN hb3
    have hbit:y2.1=2 ^ (63 - k2):=hh2.1.trans (MD om)
    have hpw:y2.2*y2.2%M=pz M x e q1 (64 - (k2+1)):=by rw [hh2.2]; exact SA hk64 ((LV _ _).1 (by have:=lb3; rw [hbit] at this; omega))
    refine sU<|Sy.skip<|Sy.in_<|Sy.then_<|Sy.region<|sP (uZ ((y2.1:Nat):Int))<|sS (uZ ((y2.1 / 2:Nat):Int)) (Quiet.pure (AE .quo _ _ _ .u64 _ _ _ J J J (J9 _ _ _ _ _ dZ (Vq _ (by rw [hh2.1]; exact MC _)))))<|sP (uZ ((y2.1 / 2:Nat):Int))<|Sy.nil ?_
    have hpz:=hpw
    exact Sy.againX ((y2.1 / 2,(y2.2*y2.2%M))) [true,true,true,true,true] hk64 (⟨by show y2.1 / 2=_; rw [hh2.1]; exact Kx _,by show _=_; exact hpz⟩) ac7 kR
   ·have lb3:=dY hb3
    have hbit:y2.1=2 ^ (63 - k2):=hh2.1.trans (MD om)
    have hpw:y2.2*y2.2%M*x%M=pz M x e q1 (64 - (k2+1)):=by rw [hh2.2]; exact UG hk64 (λh=>lb3 (by rw [hbit]; exact (LV _ _).2 h))
    refine sT<|Sy.region<|sS (.agg (modc M lw)) (qk 0 0 7 J J De)<|sS (fv (y2.2*y2.2%M)) (qk 4 0 4 J J AU)<|sS (fv x) (qk 1 0 4 J J AU)<|sS (fv ((y2.2*y2.2%M)*x%M)) (qf (λw=>mulZ w M lw hlw hM0 hM hnorm ((y2.2*y2.2%M)) x (by first | assumption | exact Nat.lt_of_lt_of_le (Nat.mod_lt _ hM0) hM4 | (rw [hh2.2]; exact Nat.lt_of_lt_of_le (Nat.mod_lt _ hM0) hM4)) (by first | assumption | exact Nat.lt_of_lt_of_le (Nat.mod_lt _ hM0) hM4 | (rw [hh2.2]; exact Nat.lt_of_lt_of_le (Nat.mod_lt _ hM0) hM4))))<|sw 4 J (fcs ((y2.2*y2.2%M)*x%M)) (wA J)<|Sy.nil<|Sy.in_<|Sy.then_<|Sy.region<|sP (uZ ((y2.1:Nat):Int))<|sS (uZ ((y2.1 / 2:Nat):Int)) (Quiet.pure (AE .quo _ _ _ .u64 _ _ _ J J J (J9 _ _ _ _ _ dZ (Vq _ (by rw [hh2.1]; exact MC _)))))<|sP (uZ ((y2.1 / 2:Nat):Int))<|Sy.nil ?_
    have hpz:=hpw
    exact Sy.againX ((y2.1 / 2,((y2.2*y2.2%M)*x%M))) [true,true,true,true,true] hk64 (⟨by show y2.1 / 2=_; rw [hh2.1]; exact Kx _,by show _=_; exact hpz⟩) ac7 kR
end Fz
end
section
section
open Go.RowKit Go.Lib
def pw (x e:Nat):Nat:=x ^ e%pM
theorem VO (x e:Nat):pw x e<(2^256):=mod_lt _
theorem KV (w:World) (n:Nat) (di:Int) (hdi:di=(n:Int)) (hn:n<18446744073709551616):Calls Tryz.prog 270 #[.int .u64 di] w λe w'=>e=.returned (fv n)∧Below w.heap.size w w':=by
 subst hdi
 rw [Ie n hn]
 go_enter Tryz.func270,Tryz.ntmps270
 go_wp2
 exact bodyPost_ret (results_cell_row J _ _ w.heap.size _ _ (0,0) _ J (heap_alloc_new w _) AU J kZ) rfl ⟨rfl,(Below.refl _ _).alloc (Nat.le_refl _) _⟩
theorem OZ (w:World) (x e:Nat) (hx:x<(2^256)) (he:e<(2^256)):Calls Tryz.prog 285 #[.agg mP7,fv x,fv e] w λee w'=>ee=.returned (fv (pw x e))∧Below w.heap.size w w':=by
 have h:=Fz.powZ w pM JI Ia Jx (by decide +kernel) IZ (by decide +kernel) (λw x hx=>by rw [E']; exact normR_any w x hx) (λw=>KV w 1 1 J dZ) x e hx he
 rw [E'] at h
 exact h
end
end
section
section
open Go.RowKit Go.Lib
def Ck (z j:Nat):UInt8:=UInt8.ofNat (z / 2 ^ (8*j)%256)
def Fl (z:Nat):Nat→List UInt8
 | 0=>[]
 | k+1=>Ck z k::Fl z k
theorem Dv (z:Nat):∀ k,(Fl z k).length=k
 | 0=>rfl
 | k+1=>by rw [Fl,List.length_cons,Dv z k]
def AW (z:Nat):List UInt8:=Fl z 32
def Dl (z k:Nat):List UInt8:=List.replicate (32 - k) 0++Fl z k
theorem GC (z k:Nat) (h:k≤32):(Dl z k).length=32:=by simp [Dl,Dv]; omega
theorem IL (z:Nat):Dl z 32=AW z:=by simp [Dl,AW]
theorem JG (z k:Nat) (h:k<32):((Dl z k).map bv).toArray.setIfInBounds (31 - k) (bv (Ck z k))=((Dl z (k+1)).map bv).toArray:=by
 rw [List.setIfInBounds_toArray]
 congr 1
 rw [← List.map_set]
 congr 1
 unfold Dl
 rw [List.set_append_left _ _ (by simp; omega)]
 obtain ⟨m,hm⟩:∃ m,32 - k=m+1:=⟨31 - k,by omega⟩
 have h2:32 - (k+1)=m:=om
 have h3:31 - k=m:=om
 rw [hm,h2,h3,List.replicate_succ',List.set_append_right _ _ (by simp)]
 simp [Fl]
theorem AN (z:Nat):(AW z).length=32:=Dv z 32
theorem LP (z j:Nat):bv (Ck z j)=.int .u8 ((z / 2 ^ (8*j)%256:Nat):Int):=by
 unfold bv Ck
 congr 2
 rw [UInt8.toNat_ofNat']
 omega
theorem Blk.val {w:World} {a:Addr} {v v':Value} {g:Nat} {t:TypeId} {cs:Array Value} (h:Blk (w.setCell a v) g t cs) (e:v=v'):Blk (w.setCell a v') g t cs:=e ▸ h
theorem C1 {l:Ak} (h:l.length=32):(Tryz.prog.info? 36).map (·.size)=some (l.map bv).toArray.size:=by
 simp only [List.size_toArray,List.length_map,h]
 kernel_rfl
theorem Np (l:Ak):(l.map bv).toArray.all (·.oneCell')=true:=by simp [bv,Value.oneCell']
def Ag (l:Ak):Nat:=l.foldl (λa b=>a*256+b.toNat) 0
theorem DZ (l:Ak) (c:UInt8):Ag (l++[c])=Ag l*256+c.toNat:=by simp [Ag,List.foldl_append]
theorem Fx:∀ (n:Nat) (l:Ak),l.length=n→Ag l<256 ^ n
 | 0,l,h=>by
  obtain rfl:l=[]:=List.length_eq_zero_iff.1 h
  simp [Ag]
 | n+1,l,h=>by
  have hne:l≠[]:=by intro e; rw [e] at h; cases h
  have e:=List.dropLast_concat_getLast hne
  have ih:=Fx n l.dropLast (by rw [List.length_dropLast]; omega)
  rw [← e,DZ,Nat.pow_succ]
  have:=(l.getLast hne).toNat_lt
  omega
theorem DI (l:Ak):∀ (n:Nat) (m:Ak),m.length=n→Ag (l++m)=Ag l*256 ^ n+Ag m
 | 0,m,h=>by
  obtain rfl:m=[]:=List.length_eq_zero_iff.1 h
  simp [Ag]
 | n+1,m,h=>by
  have hne:m≠[]:=by intro e; rw [e] at h; cases h
  have e:=List.dropLast_concat_getLast hne
  have ih:=DI l n m.dropLast (by rw [List.length_dropLast]; omega)
  rw [← e, ← List.append_assoc,DZ,DZ,ih,Nat.pow_succ,Nat.add_mul,Nat.mul_assoc]
  omega
def wdB (l:Ak) (k p:Nat):Nat:=Ag ((l.drop (8*p)).take (min 8 (k - 8*p)))
theorem Bb (l:Ak) (p:Nat):wdB l 0 p=0:=by simp [wdB,Ag]
theorem Bc (l:Ak) (k p:Nat) (c:UInt8) (h:l[k]? = some c) (hp:k / 8=p):wdB l (k+1) p=wdB l k p*256+c.toNat:=by
 unfold wdB
 rw [show min 8 (k+1 - 8*p)=(k - 8*p)+1 by omega,show min 8 (k - 8*p)=k - 8*p by omega,List.take_add_one,List.getElem?_drop,show 8*p+(k - 8*p)=k by omega,h]
 exact DZ _ _
theorem AR (l:Ak) (k p:Nat) (hp:k / 8≠p):wdB l (k+1) p=wdB l k p:=by
 unfold wdB
 rw [show min 8 (k+1 - 8*p)=min 8 (k - 8*p) by omega]
theorem Ci (l:Ak) (k p:Nat) (hp:k / 8=p):wdB l k p<72057594037927936:=by
 unfold wdB
 have h:=Fx _ ((l.drop (8*p)).take (min 8 (k - 8*p))) J
 refine Nat.lt_of_lt_of_le h ?_
 have:((l.drop (8*p)).take (min 8 (k - 8*p))).length≤7:=by rw [List.length_take]; omega
 exact Nat.pow_le_pow_right om this
theorem Hg (l:Ak) (h:l.length=32):Ag l=wdB l 32 3+18446744073709551616*wdB l 32 2+340282366920938463463374607431768211456*wdB l 32 1+6277101735386680763835789423207666416102355444464034512896*wdB l 32 0:=by
 have e:l=(l.take 8++(l.drop 8).take 8)++((l.drop 16).take 8++(l.drop 24).take 8):=by
  conv=>lhs; rw [← List.take_append_drop 16 l, ← List.take_append_drop 8 (l.take 16), ← List.take_append_drop 8 (l.drop 16)]
  congr 2
  ·rw [List.take_take]; rfl
  ·rw [List.drop_take]
  ·rw [List.drop_drop,List.take_of_length_le (by simp; omega)]
 have w0:wdB l 32 0=Ag (l.take 8):=rfl
 have w1:wdB l 32 1=Ag ((l.drop 8).take 8):=rfl
 have w2:wdB l 32 2=Ag ((l.drop 16).take 8):=rfl
 have w3:wdB l 32 3=Ag ((l.drop 24).take 8):=rfl
 conv=>lhs; rw [e]
 rw [DI _ 16 _ (by simp; omega),DI _ 8 _ (by simp; omega),DI _ 8 _ (by simp; omega),w0,w1,w2,w3]
 have p8:(256:Nat) ^ 8=18446744073709551616:=dZ
 have p16:(256:Nat) ^ 16=340282366920938463463374607431768211456:=dZ
 rw [p8,p16,Nat.add_mul,Nat.mul_assoc]
 omega
theorem B9 (l:Ak) (k p:Nat):wdB l k p<18446744073709551616:=by
 unfold wdB
 have h:=Fx _ ((l.drop (8*p)).take (min 8 (k - 8*p))) J
 refine Nat.lt_of_lt_of_le h ?_
 have:((l.drop (8*p)).take (min 8 (k - 8*p))).length≤8:=by rw [List.length_take]; omega
 exact Nat.pow_le_pow_right om this
theorem Er (w c:Nat) (hw:w<72057594037927936) (hc:c<256):bits .or .u64 ((w:Int)*256) (c:Int)=((w*256+c:Nat):Int):=by
 have e:((w:Int)*256)=((w*256:Nat):Int):=om
 rw [e]
 have h:w*256 ||| c=w*256+c:=by
  have:=Nat.two_pow_add_eq_or_of_lt (i:=8) (b:=c) om w
  rw [Nat.mul_comm w 256]
  exact this.symm
 have hw2:(BitVec.ofInt 64 ((w*256:Nat):Int) ||| BitVec.ofInt 64 (c:Int)).toNat=w*256+c:=by
  rw [BitVec.toNat_or]
  simp only [BitVec.ofInt_natCast,BitVec.toNat_ofNat]
  rw [Nat.mod_eq_of_lt om,Nat.mod_eq_of_lt om,h]
 show IntKind.u64.wrap ((BitVec.ofInt 64 ((w*256:Nat):Int) ||| BitVec.ofInt 64 (c:Int)).toNat:Int)=_
 rw [hw2,IntKind.wrap_u64]
 omega
theorem Fc (W:World) (l:Ak) (k:Nat) (c:UInt8) (h:l[k]? = some c) (hk:k<32) :
  (Instr.index 36 (.agg (l.map bv).toArray) (.int .i64 (k:Int))).run Tryz.prog W=.ok (bv c) W:=by
 unfold Instr.index
 have hs:∀ W,(sizeOf 5).run Tryz.prog W=.ok 1 W:=λW=>by kernel_rfl
 have pc:(part 5 (l.map bv).toArray ((k:Int).toNat*1)).run Tryz.prog W=.ok (bv c) W:=by
  simp [part,isAgg,run_underlying uy5,h]
 simp only [asIntOf,Sem.run_bind,Sem.run_pure,Result.andThen_ok,run_underlying JZ]
 rw [if_pos ⟨by omega,by omega⟩]
 simp only [Sem.run_bind,hs,Result.andThen_ok,pc]
theorem WQ (k:Nat):(2:Nat) ^ (8*k)=256 ^ k:=by rw [Nat.pow_mul]
theorem I6 (z:Nat):∀ k,Ag (Fl z k)=z%256 ^ k
 | 0=>by simp [Fl,Ag,Nat.mod_one]
 | k+1=>by
  have h:=DI [Ck z k] k (Fl z k) (Dv z k)
  rw [Fl]
  rw [List.singleton_append] at h
  rw [h,I6 z k,Nat.mod_pow_succ]
  have e:Ag [Ck z k]=z / 256 ^ k%256:=by
   have:Ag [Ck z k]=(Ck z k).toNat:=by simp [Ag]
   rw [this,Ck,UInt8.toNat_ofNat',WQ]
   omega
  rw [e,Nat.mul_comm]
  omega
theorem El (z:Nat) (hz:z<(2^256)):Ag (AW z)=z:=by
 rw [AW,I6]
 have:(256:Nat) ^ 32=(2^256):=dZ
 rw [this,Nat.mod_eq_of_lt hz]
theorem KO:∀ (n:Nat) (l m:Ak),l.length=n→m.length=n→Ag l=Ag m→l=m
 | 0,l,m,hl,hm,_=>by rw [List.length_eq_zero_iff.1 hl,List.length_eq_zero_iff.1 hm]
 | n+1,l,m,hl,hm,h=>by
  have nl:l≠[]:=by intro e; rw [e] at hl; cases hl
  have nm:m≠[]:=by intro e; rw [e] at hm; cases hm
  have el:=List.dropLast_concat_getLast nl
  have em:=List.dropLast_concat_getLast nm
  rw [← el, ← em,DZ,DZ] at h
  have c1:=(l.getLast nl).toNat_lt
  have c2:=(m.getLast nm).toNat_lt
  have hi:=KO n l.dropLast m.dropLast (by rw [List.length_dropLast]; omega) (by rw [List.length_dropLast]; omega) om
  have hc:l.getLast nl=m.getLast nm:=UInt8.toNat_inj.1 om
  rw [← el, ← em,hi,hc]
theorem LO (l:Ak) (h:l.length=32):AW (Ag l)=l :=
 KO 32 _ _ (AN _) h (El _ (by have:=Fx 32 l h; rw [show (256:Nat) ^ 32=(2^256) from by decide] at this; exact this))
theorem Bl (l:Ak) (h:l.length=32):Ag l<(2^256):=by
 have:=Fx 32 l h
 have e:(256:Nat) ^ 32=(2^256):=dZ
 omega
end
end
section
section
open Go.RowKit Sp
def Src (w:World) (A:Option Addr) (m:Ak):Prop :=
 m≠[]→∃ b o,A=some ⟨b,o,none⟩∧b<w.heap.size∧∀ j u,m[j]? = some u→w.cell? ⟨b,o+j,none⟩=some (bv u)
theorem Src.keep {w w':World} {A:Option Addr} {m:Ak} (h:Src w A m) (hs:w.heap.size≤w'.heap.size) (hk:m≠[]→∀ a,A=some a→a.block<w.heap.size→w'.heap[a.block]? = w.heap[a.block]?):Src w' A m:=λhm=>by
 obtain ⟨b,o,rfl,hb,hc⟩:=h hm
 exact ⟨b,o,rfl,by omega,λj u hu=>(World.cell?_of_block (w:=w) (a:=⟨b,o+j,none⟩) (show w'.heap[b]? = w.heap[b]? from hk hm ⟨b,o,none⟩ rfl hb)).trans (hc j u hu)⟩
theorem Src.below {w w':World} {A:Option Addr} {m:Ak} (h:Src w A m) (hb:Below w.heap.size w w'):Src w' A m :=
 h.keep hb.size λ_ _ _ hl=>hb.block _ hl
theorem Src.of_blk {w:World} {g:Nat} {t:TypeId} {m:Ak} (h:Blk w g t (m.map bv).toArray):Src w (pA g) m:=λ_ =>
 ⟨g,0,rfl,h.lt,λj u hu=>by rw [Nat.zero_add]; exact (h.cell j).trans (by simp [hu])⟩
theorem Ri (g o n:Nat):(⟨g,o,none⟩:Addr).add n=⟨g,o+n,none⟩:=by
 unfold Addr.add; split <;> simp_all
theorem Lw (l:Ak):∀ v∈l.map bv,v.oneCell'=true:=λv hv=>by
 obtain ⟨x,_,rfl⟩:=List.mem_map.1 hv
 rfl
def OwnB (w:World) (base:Nat) (v:Value) (l:Ak):Prop:=w.ownsRow base 5 1 v l.length (l.map bv)
theorem Qz:(Tryz.prog.info? 5).map (λi=>(i.zero,i.size,i.bytes))=some (some (.int .u8 0),1,1):=kZ
theorem OwnB.form {w:World} {base:Nat} {v:Value} {l:Ak} (h:OwnB w base v l) (hl:0<l.length) :
  ∃ g cap,v=.slice (pA g) l.length cap∧base≤g∧g<w.heap.size:=World.ownsRow.form h hl
theorem OwnB.form' {w:World} {base:Nat} {v:Value} {l:Ak} (h:OwnB w base v l) (hl:0<l.length) :
  ∃ g n cap,v=.slice (pA g) n cap∧Hid (n=l.length)∧base≤g∧g<w.heap.size:=by
 obtain ⟨g,cap,h1,h2,h3⟩:=h.form hl
 exact ⟨g,l.length,cap,h1,Lib.hid J,h2,h3⟩
theorem OwnB.alloc {w:World} {base:Nat} {v:Value} {l:Ak} (h:OwnB w base v l) (o:Obj):OwnB (w.alloc o) base v l:=World.ownsRow.alloc h o
theorem OwnB.nil (w:World) (base:Nat):OwnB w base (.slice none 0 0) []:=World.ownsRow_nil w base _ _
theorem FM {B base:Nat} {w0 w w':World} {v:Value} {l:Ak} (h:Below B w0 w) (hown:OwnB w base v l) (hg:w.grownBy w' v.ownBlock) (hB:B≤base) (hw:B≤w.heap.size):Below B w0 w' :=
 h.grown hg hw (λk hk=>Nat.le_trans hB (World.ownsRow.lt hown k hk).1)
theorem F6 {P:Program} (w:World) (base:Nat) (t ty e:TypeId) (i:TypeInfo) (size:Nat) (ht:P.underlying t=some (.slice e)) (hi:P.info? e=some i)
  (v:Value) (n:Nat) (xs:List Value) (hown:w.ownsRow base e size v n xs) (c:Nat):(Builtin.append_ #[t,t] ty #[v,.slice none 0 c]).run P w=.ok v w:=by
 rcases hown.2 with ⟨rfl,rfl⟩ | ⟨g,cap,cur,rfl,_,_,hnc,_⟩
 ·simp [Builtin.append_,run_underlying ht,sizeOf,typeInfo,hi,Builtin.lenOf,Builtin.firstCells]
 ·simp [Builtin.append_,run_underlying ht,sizeOf,typeInfo,hi,Builtin.lenOf,Builtin.firstCells,hnc,storeCells]
theorem Gl (w:World) (base:Nat) (v:Value) (l m:Ak) (hown:OwnB w base v l) (A:Option Addr) (c:Nat) (hsrc:Src w A m) (hlen:l.length+m.length≤140737488355328) (hbase:base≤w.heap.size) (ty:TypeId) :
  ∃ v' w',(Builtin.append_ #[27,27] ty #[v,.slice A m.length c]).run Tryz.prog w=.ok v' w'∧OwnB w' base v' (l++m)∧w.grownBy w' v.ownBlock:=by
 obtain ⟨i,hi,hz0,hz1,hz2⟩:=info_parts Qz
 by_cases hm:m=[]
 ·subst hm
  cases A with
  | none=>exact ⟨v,w,F6 w base _ _ _ i 1 Aw hi v _ _ hown c,by simpa using hown,World.grownBy.refl w _⟩
  | some ad =>
   obtain ⟨v',w',h1,h2,h3,_⟩:=run_append_own (P:=Tryz.prog) w base 27 ty 5 i (.int .u8 0) 1 1 Aw hi hz0 hz1 hz2 J dZ v l.length (l.map bv) hown ad 0 c [] rfl (by simp) (by simp)
    (by simp [maxLen]; simp at hlen; omega) (by simp at hlen; omega) hbase
   exact ⟨v',w',h1,by simpa [OwnB] using h2,h3⟩
 ·obtain ⟨b,o,rfl,_,hc⟩:=hsrc hm
  obtain ⟨v',w',h1,h2,h3,_⟩:=run_append_own (P:=Tryz.prog) w base 27 ty 5 i (.int .u8 0) 1 1 Aw hi hz0 hz1 hz2 J dZ v l.length (l.map bv) hown ⟨b,o,none⟩ m.length c (m.map bv) (by simp)
   (λj u hu=>by
    rw [Ri]
    rw [List.getElem?_map] at hu
    obtain ⟨x,hx,rfl⟩:=Option.map_eq_some_iff.1 hu
    exact hc j x hx) (Lw m) (by simp [maxLen]; omega) om hbase
  exact ⟨v',w',h1,by simpa [OwnB] using h2,h3⟩
theorem B8 {w:World} {ops:Array Oper} {rest:List Oper} {o:Oper} {a:Act} {Q:Exit→Act→World→Prop} (hgd:o.guard=none) (s x:Operand)
  (ho:o.op=.call { callee:=.builtin .append,args:=#[s,x],argTypes:=#[27,27] }) (base:Nat) (v:Value) (l:Ak) (hs:a.eval s=v) (hown:OwnB w base v l)
  (A:Option Addr) (m:Ak) (c:Nat) (hx:a.eval x=.slice A m.length c) (hsrc:Src w A m) (hlen:l.length+m.length≤140737488355328) (hbase:base≤w.heap.size)
  (h:∀ v' w',OwnB w' base v' (l++m)→w.grownBy w' v.ownBlock→wpList Tryz.prog ops Q rest (a.put o.dst v') w'):wpList Tryz.prog ops Q (o::rest) a w:=by
 refine wpList_plain hgd λK hK=>?_
 obtain ⟨v',w',hrun,h2,h3⟩:=Gl w base v l m hown A c hsrc hlen hbase o.type
 unfold Oper.wp execOp
 simp only [ho,resolve,invoke,builtin,Sem.run_bind,Sem.run_pure,Result.andThen_ok,List.map_toArray,List.map_cons,List.map_nil,hs,hx,hrun]
 exact hK _ _ (h v' w' h2 h3)
end
end
section
section
open Go.RowKit Go.Lib
theorem rightR_any (w : World) (x : Nat) (hx : x < (2^256)) : Calls Tryz.prog 219 #[IW, fv x] w fun e w' => e = .returned (.bool (decide (x < pM))) ∧ Below w.heap.size w w' := by
  obtain ⟨p,hp⟩:∃ p,p=115792089237316195423570985008687907853269984665640564039457584007908834671663:=⟨_,rfl⟩
  obtain ⟨b,hb⟩:=xE (decide (x<pM))
  have cb:∀ w,Calls Tryz.prog 247 #[fv x,fv p] w λe w'=>e=.returned (.bool b)∧Below w.heap.size w w':=by
    intro w; rw [hb,EG, ← hp]; exact Gb w x p J J hx om
  have hpc:fv p=.agg #[.int .u64 18446744069414583343,.int .u64 18446744073709551615,.int .u64 18446744073709551615,.int .u64 18446744073709551615]:=by rw [hp]; exact MX
  obtain ⟨x0,x1,x2,x3,fx⟩:=Ae x hx
  have FX:=Lib.hid fx
  have FP:=Lib.hid hpc
  rw [fx, ← hb]
  unfold IW
  clear fx hpc hx hp hb
  go_enter Tryz.func219,Tryz.ntmps219
  go_wp2_with (first | ((with_reducible refine AF (d:=some 5) ?_); refine AC J _ _ J (w.heap.size+1) rfl x _ _ _ (Ab w _ _ _) FX.out AU J kZ ?_) | ((with_reducible refine AF (d:=some 7) ?_); refine Bk J _ _ J w.heap.size J p [.int .u64 18446744069414583343,.int .u64 18446744073709551615,.int .u64 18446744073709551615,.int .u64 18446744073709551615] _ (Cq ((Blk.new w _ _).alloc _)) FP.out AU J kZ ?_))
  refine (cb _).mono ?_
  rintro e w1 ⟨rfl,k1⟩
  go_wp2
  go_ret
  exact ⟨rfl,Below.gr (AZ w _ _) k1⟩
theorem RR (a r s : Nat) (hs : s ≤ 56) : (a + 18446744073709551616 * r) / 2 ^ s % 256 = a / 2 ^ s % 256 := by
  obtain ⟨u,hu⟩:∃ u,2 ^ s*(256*u)=18446744073709551616:=by
    refine ⟨2 ^ (56 - s),?_⟩
    have:2 ^ s*2 ^ (56 - s)=2 ^ 56:=by rw [← Nat.pow_add]; congr 1; omega
    rw [show (256:Nat)*2 ^ (56 - s)=2 ^ (56 - s)*256 from Nat.mul_comm _ _, ← Nat.mul_assoc,this]
  rw [← hu,Nat.mul_assoc,Nat.add_mul_div_left _ _ (Nat.two_pow_pos s),Nat.mul_assoc,Nat.add_mul_mod_self_left]
theorem EU (z i s w r:Nat) (hz:z / 2 ^ (64*i)=w+18446744073709551616*r) (hs:s≤56):z / 2 ^ (64*i+s)%256=w / 2 ^ s%256:=by
  rw [Nat.pow_add, ← Nat.div_div_eq_div_mul,hz,RR w r s hs]
theorem Kz (z : Nat) : ∀ (k j : Nat), j < k → (Fl z k)[j]? = some (Ck z (k - 1 - j))
  | 0,j,h=>by omega
  | k+1,0,_=>by simp [Fl]
  | k+1,j+1,h=>by
    rw [Fl,List.getElem?_cons_succ,Kz z k j om]
    congr 2
    omega
theorem ES (z n:Nat) (h:n<32):(AW z).take n++[Ck z (31 - n)]=(AW z).take (n+1):=by
  rw [List.take_add_one,AW,Kz z 32 n h]
  rfl
theorem Im (w : World) (z : Nat) (hz : z < (2^256)) : Calls Tryz.prog 214 #[fv z] w fun e w' => ∃ g cap, e = .returned (.slice (some ⟨g, 0, none⟩) 32 cap) ∧ OwnB w' (w.heap.size + 1) (.slice (some ⟨g, 0, none⟩) 32 cap) (AW z) ∧ g < w'.heap.size ∧ Below w.heap.size w w' := by
  obtain ⟨z0,z1,z2,z3,a0,a1,a2,a3,ez,fz⟩:=Ah z hz
  have s0:=λs hs=>EU z 0 s z0 (z1+18446744073709551616*z2+340282366920938463463374607431768211456*z3) om hs
  have s1:=λs hs=>EU z 1 s z1 (z2+18446744073709551616*z3) om hs
  have s2:=λs hs=>EU z 2 s z2 z3 om hs
  have s3:=λs hs=>EU z 3 s z3 0 om hs
  have HS:=Lib.hid (And.intro s0 (And.intro s1 (And.intro s2 s3)))
  rw [fz]
  clear ez fz hz a0 a1 a2 a3 s0 s1 s2 s3
  go_enter Tryz.func214,Tryz.ntmps214
  go_wp2_with fail
  go_loopw [3,4] (λv i wr=>Below w.heap.size w wr∧Blk wr w.heap.size 359 #[.int .u64 (z0:Int),.int .u64 (z1:Int),.int .u64 (z2:Int),.int .u64 (z3:Int)]∧Hid ((i=.int .i64 3∧OwnB wr (w.heap.size+1) v ((AW z).take 0))∨(i=.int .i64 2∧OwnB wr (w.heap.size+1) v ((AW z).take 8))∨(i=.int .i64 1∧OwnB wr (w.heap.size+1) v ((AW z).take 16))∨(i=.int .i64 0∧OwnB wr (w.heap.size+1) v ((AW z).take 24))∨(i=.int .i64 (-1)∧OwnB wr (w.heap.size+1) v ((AW z).take 32)))) (λ_ i _=>(intOf i+1).toNat)
  case atStart=>exact ⟨(Below.refl _ _).alloc (Nat.le_refl _) _,Blk.new w _ _,Lib.hid (.inl ⟨rfl,OwnB.nil _ _⟩)⟩
  case round =>
    obtain ⟨hb,BZ,HI⟩:=hrel
    rcases HI.out with ⟨rfl,hown⟩ | ⟨rfl,hown⟩ | ⟨rfl,hown⟩ | ⟨rfl,hown⟩ | ⟨rfl,hown⟩
    · clear HI
      go_wp2_with fail
      go_loopw [3,5] (λv s wr=>∃ t:Nat,t≤8∧s=.int .i64 (56 - 8*(t:Int))∧Below w.heap.size w wr∧Blk wr w.heap.size 359 #[.int .u64 (z0:Int),.int .u64 (z1:Int),.int .u64 (z2:Int),.int .u64 (z3:Int)]∧OwnB wr (w.heap.size+1) v ((AW z).take (0+t))) (λ_ s _=>(intOf s+8).toNat)
      case atStart=>exact ⟨0,by omega,rfl,hb,BZ,hown⟩
      case round =>
        clear hb BZ hown
        obtain ⟨t,ht,rfl,hb,BZ,hown⟩:=hrel
        by_cases hlt:t<8
        · obtain ⟨s, hs⟩ : ∃ s, s = 56 - 8 * t := ⟨_, rfl⟩
          have hs1:(56 - 8*(t:Int))=(s:Int):=om
          obtain ⟨x,hx⟩:=xE (Ck z (31 - (0+t)))
          have hxe:(z3:Int) / 2 ^ s%256=(x.toNat:Int):=by
            have h:=HS.out.2.2.2 s om
            have e:8*(31 - (0+t))=64*3+s:=om
            rw [hx,Ck,UInt8.toNat_ofNat',e,h]
            have:((z3:Int) / 2 ^ s%256)=((z3 / 2 ^ s%256:Nat):Int):=by push_cast; rfl
            rw [this]
            omega
          have hlen:((AW z).take (0+t)).length≤32:=by rw [List.length_take,AN]; omega
          have HX:=Lib.hid (And.intro hx (And.intro hxe hlen))
          have pc:wr.cell? ⟨w.heap.size,3,none⟩=some (.int .u64 (z3:Int)):=BZ.cell 3
          have hsl:s≤56:=om
          have HT:=Lib.hid hs
          have lz:=BZ.lt
          rw [hs1]
          clear hx hxe hlen hs
          go_wp2_with (at_builtin
                       refine B8 J (.tmp 14) (.tmp 21) rfl (w.heap.size+1) _ ((AW z).take (0+t)) J (hown.alloc _) (some ⟨wr.heap.size,0,none⟩) [x] 1 J (Src.of_blk (Blk.eq_ (Blk.new wr 5 _) (by rw [HX.out.2.1]; rfl))) (by have:=HX.out.2.2; simp only [List.length_singleton]; omega) (by simp <;> omega) ?_
                       intro v3 w3 hv3 hg3
                       have hb3:=FM (hb.alloc om _) (hown.alloc _) hg3 (Nat.le_succ _) (by simp <;> omega)
                       have BZ3:=Blk.grown (BZ.alloc _) hg3 (λe=>by have:=(World.ownsRow.lt hown _ e.symm).1; omega)
                       rw [HX.out.1,ES z (0+t) om] at hv3)
          go_roundw
          case rel=>exact ⟨t+1,by omega,by congr 1; omega,hb3,BZ3,hv3⟩
          case measure=>simp [intOf]; omega
        · obtain rfl:t=8:=om
          go_wp2
          refine ⟨⟨hb,BZ,Lib.hid (.inr (.inl (⟨rfl,hown⟩)))⟩,by decide⟩
    · clear HI
      go_wp2_with fail
      go_loopw [3,5] (λv s wr=>∃ t:Nat,t≤8∧s=.int .i64 (56 - 8*(t:Int))∧Below w.heap.size w wr∧Blk wr w.heap.size 359 #[.int .u64 (z0:Int),.int .u64 (z1:Int),.int .u64 (z2:Int),.int .u64 (z3:Int)]∧OwnB wr (w.heap.size+1) v ((AW z).take (8+t))) (λ_ s _=>(intOf s+8).toNat)
      case atStart=>exact ⟨0,by omega,rfl,hb,BZ,hown⟩
      case round =>
        clear hb BZ hown
        obtain ⟨t,ht,rfl,hb,BZ,hown⟩:=hrel
        by_cases hlt:t<8
        · obtain ⟨s, hs⟩ : ∃ s, s = 56 - 8 * t := ⟨_, rfl⟩
          have hs1:(56 - 8*(t:Int))=(s:Int):=om
          obtain ⟨x,hx⟩:=xE (Ck z (31 - (8+t)))
          have hxe:(z2:Int) / 2 ^ s%256=(x.toNat:Int):=by
            have h:=HS.out.2.2.1 s om
            have e:8*(31 - (8+t))=64*2+s:=om
            rw [hx,Ck,UInt8.toNat_ofNat',e,h]
            have:((z2:Int) / 2 ^ s%256)=((z2 / 2 ^ s%256:Nat):Int):=by push_cast; rfl
            rw [this]
            omega
          have hlen:((AW z).take (8+t)).length≤32:=by rw [List.length_take,AN]; omega
          have HX:=Lib.hid (And.intro hx (And.intro hxe hlen))
          have pc:wr.cell? ⟨w.heap.size,2,none⟩=some (.int .u64 (z2:Int)):=BZ.cell 2
          have hsl:s≤56:=om
          have HT:=Lib.hid hs
          have lz:=BZ.lt
          rw [hs1]
          clear hx hxe hlen hs
          go_wp2_with (at_builtin
                       refine B8 J (.tmp 14) (.tmp 21) rfl (w.heap.size+1) _ ((AW z).take (8+t)) J (hown.alloc _) (some ⟨wr.heap.size,0,none⟩) [x] 1 J (Src.of_blk (Blk.eq_ (Blk.new wr 5 _) (by rw [HX.out.2.1]; rfl))) (by have:=HX.out.2.2; simp only [List.length_singleton]; omega) (by simp <;> omega) ?_
                       intro v3 w3 hv3 hg3
                       have hb3:=FM (hb.alloc om _) (hown.alloc _) hg3 (Nat.le_succ _) (by simp <;> omega)
                       have BZ3:=Blk.grown (BZ.alloc _) hg3 (λe=>by have:=(World.ownsRow.lt hown _ e.symm).1; omega)
                       rw [HX.out.1,ES z (8+t) om] at hv3)
          go_roundw
          case rel=>exact ⟨t+1,by omega,by congr 1; omega,hb3,BZ3,hv3⟩
          case measure=>simp [intOf]; omega
        · obtain rfl:t=8:=om
          go_wp2
          refine ⟨⟨hb,BZ,Lib.hid (.inr (.inr (.inl (⟨rfl,hown⟩))))⟩,by decide⟩
    · clear HI
      go_wp2_with fail
      go_loopw [3,5] (λv s wr=>∃ t:Nat,t≤8∧s=.int .i64 (56 - 8*(t:Int))∧Below w.heap.size w wr∧Blk wr w.heap.size 359 #[.int .u64 (z0:Int),.int .u64 (z1:Int),.int .u64 (z2:Int),.int .u64 (z3:Int)]∧OwnB wr (w.heap.size+1) v ((AW z).take (16+t))) (λ_ s _=>(intOf s+8).toNat)
      case atStart=>exact ⟨0,by omega,rfl,hb,BZ,hown⟩
      case round =>
        clear hb BZ hown
        obtain ⟨t,ht,rfl,hb,BZ,hown⟩:=hrel
        by_cases hlt:t<8
        · obtain ⟨s, hs⟩ : ∃ s, s = 56 - 8 * t := ⟨_, rfl⟩
          have hs1:(56 - 8*(t:Int))=(s:Int):=om
          obtain ⟨x,hx⟩:=xE (Ck z (31 - (16+t)))
          have hxe:(z1:Int) / 2 ^ s%256=(x.toNat:Int):=by
            have h:=HS.out.2.1 s om
            have e:8*(31 - (16+t))=64*1+s:=om
            rw [hx,Ck,UInt8.toNat_ofNat',e,h]
            have:((z1:Int) / 2 ^ s%256)=((z1 / 2 ^ s%256:Nat):Int):=by push_cast; rfl
            rw [this]
            omega
          have hlen:((AW z).take (16+t)).length≤32:=by rw [List.length_take,AN]; omega
          have HX:=Lib.hid (And.intro hx (And.intro hxe hlen))
          have pc:wr.cell? ⟨w.heap.size,1,none⟩=some (.int .u64 (z1:Int)):=BZ.cell 1
          have hsl:s≤56:=om
          have HT:=Lib.hid hs
          have lz:=BZ.lt
          rw [hs1]
          clear hx hxe hlen hs
          go_wp2_with (at_builtin
                       refine B8 J (.tmp 14) (.tmp 21) rfl (w.heap.size+1) _ ((AW z).take (16+t)) J (hown.alloc _) (some ⟨wr.heap.size,0,none⟩) [x] 1 J (Src.of_blk (Blk.eq_ (Blk.new wr 5 _) (by rw [HX.out.2.1]; rfl))) (by have:=HX.out.2.2; simp only [List.length_singleton]; omega) (by simp <;> omega) ?_
                       intro v3 w3 hv3 hg3
                       have hb3:=FM (hb.alloc om _) (hown.alloc _) hg3 (Nat.le_succ _) (by simp <;> omega)
                       have BZ3:=Blk.grown (BZ.alloc _) hg3 (λe=>by have:=(World.ownsRow.lt hown _ e.symm).1; omega)
                       rw [HX.out.1,ES z (16+t) om] at hv3)
          go_roundw
          case rel=>exact ⟨t+1,by omega,by congr 1; omega,hb3,BZ3,hv3⟩
          case measure=>simp [intOf]; omega
        · obtain rfl:t=8:=om
          go_wp2
          refine ⟨⟨hb,BZ,Lib.hid (.inr (.inr (.inr (.inl (⟨rfl,hown⟩)))))⟩,by decide⟩
    · clear HI
      go_wp2_with fail
      go_loopw [3,5] (λv s wr=>∃ t:Nat,t≤8∧s=.int .i64 (56 - 8*(t:Int))∧Below w.heap.size w wr∧Blk wr w.heap.size 359 #[.int .u64 (z0:Int),.int .u64 (z1:Int),.int .u64 (z2:Int),.int .u64 (z3:Int)]∧OwnB wr (w.heap.size+1) v ((AW z).take (24+t))) (λ_ s _=>(intOf s+8).toNat)
      case atStart=>exact ⟨0,by omega,rfl,hb,BZ,hown⟩
      case round =>
        clear hb BZ hown
        obtain ⟨t,ht,rfl,hb,BZ,hown⟩:=hrel
        by_cases hlt:t<8
        · obtain ⟨s, hs⟩ : ∃ s, s = 56 - 8 * t := ⟨_, rfl⟩
          have hs1:(56 - 8*(t:Int))=(s:Int):=om
          obtain ⟨x,hx⟩:=xE (Ck z (31 - (24+t)))
          have hxe:(z0:Int) / 2 ^ s%256=(x.toNat:Int):=by
            have h:=HS.out.1 s om
            have e:8*(31 - (24+t))=64*0+s:=om
            rw [hx,Ck,UInt8.toNat_ofNat',e,h]
            have:((z0:Int) / 2 ^ s%256)=((z0 / 2 ^ s%256:Nat):Int):=by push_cast; rfl
            rw [this]
            omega
          have hlen:((AW z).take (24+t)).length≤32:=by rw [List.length_take,AN]; omega
          have HX:=Lib.hid (And.intro hx (And.intro hxe hlen))
          have pc:wr.cell? ⟨w.heap.size,0,none⟩=some (.int .u64 (z0:Int)):=BZ.cell 0
          have hsl:s≤56:=om
          have HT:=Lib.hid hs
          have lz:=BZ.lt
          rw [hs1]
          clear hx hxe hlen hs
          go_wp2_with (at_builtin
                       refine B8 J (.tmp 14) (.tmp 21) rfl (w.heap.size+1) _ ((AW z).take (24+t)) J (hown.alloc _) (some ⟨wr.heap.size,0,none⟩) [x] 1 J (Src.of_blk (Blk.eq_ (Blk.new wr 5 _) (by rw [HX.out.2.1]; rfl))) (by have:=HX.out.2.2; simp only [List.length_singleton]; omega) (by simp <;> omega) ?_
                       intro v3 w3 hv3 hg3
                       have hb3:=FM (hb.alloc om _) (hown.alloc _) hg3 (Nat.le_succ _) (by simp <;> omega)
                       have BZ3:=Blk.grown (BZ.alloc _) hg3 (λe=>by have:=(World.ownsRow.lt hown _ e.symm).1; omega)
                       rw [HX.out.1,ES z (24+t) om] at hv3)
          go_roundw
          case rel=>exact ⟨t+1,by omega,by congr 1; omega,hb3,BZ3,hv3⟩
          case measure=>simp [intOf]; omega
        · obtain rfl:t=8:=om
          go_wp2
          refine ⟨⟨hb,BZ,Lib.hid (.inr (.inr (.inr (.inr (⟨rfl,hown⟩)))))⟩,by decide⟩
    · clear HI
      rw [List.take_of_length_le (by rw [AN]; exact Nat.le_refl _)] at hown
      obtain ⟨g,n,cap,rfl,hn,_,hl⟩:=hown.form' (by rw [AN]; omega)
      have hn32:n=32:=by rw [hn.out,AN]
      subst hn32
      go_wp2
      go_ret
      exact ⟨g,cap,rfl,hown,hl,hb⟩
end
end
section
namespace Cu
open Go.RowKit Sy
def EI:Array Value:=mP7
def WT:Array Value:=#[.int .u64 0,.int .u64 0,.int .u64 0,.int .u64 0,.int .u64 0,.int .u64 0,.int .u64 0]
theorem Po (w:World) (a b:Fp):Calls Tryz.prog 268 #[.agg EI,fv a.val,fv b.val] w (Ai w (fv (a*b).val)):=IU w a.val b.val (lt4 a) (lt4 b)
theorem Pp (w:World) (a b:Fp):Calls Tryz.prog 283 #[.agg EI,fv a.val,fv b.val] w (Ai w (fv (a+b).val)):=LZ w a.val b.val (lt4 a) (lt4 b)
theorem Pn (w:World) (a:Fp):Calls Tryz.prog 273 #[.agg EI,fv a.val] w (Ai w (fv (-a).val)):=by rw [← JX]; exact Ku w a.val (lt4 a)
theorem S7 (w:World) (F:AJ) (o:Oper) (x y:Operand) (n m:Nat) {yt:TypeId} (ho:o.op=.binOp .eql 359 x y yt) (hx:evF F x=fv n) (hy:evF F y=fv m) (hn:n<K4) (hm:m<K4):(execOp (evF F) o).run Tryz.prog w=.ok (.value (.bool (decide (n=m)))) w:=by
 have h1:=Nm.run_eqGuard_fv .eql x y n m w
 have h2:=Nm.run_eql_fv w n m hn hm
 unfold execOp
 simp only [ho,hx,hy,Sem.run_bind,h1,h2,Result.andThen_ok,Sem.run_pure]
theorem Mt (w:World) (k:Nat) (hk:k<18446744073709551616):AL 270 #[uZ (k:Int)] w (Ai w (fv k)):=by
 rw [Ie k hk]
 refine Sy.enter (args:=[uZ (k:Int)]) Tryz.func270 J kL<|sC<|sM 359 (fcs 0) (λg0=>?_)
 refine sA<|sP (uZ (k:Int))<|sP (.agg #[uZ (k:Int),uZ 0,uZ 0,uZ 0])<|sw 0 J #[uZ (k:Int),uZ 0,uZ 0,uZ 0] (wA J)<|sG<|Sy.ret ?_
 exact Sy.ret1 J (.inl (Res.cell (ty':=359) g0 0 #[uZ (k:Int),uZ 0,uZ 0,uZ 0] _ kR kR AU J kR kR))
theorem MB (w:World) (a b:Fp):AL 244 #[fv a.val,fv b.val] w (Ai w (fv (a*b).val)):=by
 refine Sy.enter (args:=[fv a.val,fv b.val]) Tryz.func244 J kL<|sC<|sM 359 (fcs a.val) (λg0=>?_)
 refine sM 359 (fcs b.val) (λg1=>?_)
 refine sM 359 (fcs 0) (λg2=>?_)
 refine sH (λj=>j == 4) ?_
 refine sD 0 J (.agg EI) (qf DK)<|sD 1 J (fv a.val) (qk 0 0 4 J J AU)<|sD 2 J (fv b.val) (qk 1 0 4 J J AU) ?_
 obtain ⟨z1,hz1⟩:∃ z:Fp,z=a*b:=⟨_,rfl⟩
 refine sD 3 J (fv z1.val) (qf (λw=>by rw [hz1]; exact Po w a b))<|sx 4 J 2 J (fcs z1.val) (wA J)<|sI<|Sy.ret ?_
 rw [show (fv (a*b).val:Value)=fv z1.val from by rw [hz1]]
 exact rc (v:=fv z1.val) 2 J J AU
theorem Uv (w:World) (a b:Fp):AL 269 #[fv a.val,fv b.val] w (Ai w (fv (a+b).val)):=by
 refine Sy.enter (args:=[fv a.val,fv b.val]) Tryz.func269 J kL<|sC<|sM 359 (fcs a.val) (λg0=>?_)
 refine sM 359 (fcs b.val) (λg1=>?_)
 refine sM 359 (fcs 0) (λg2=>?_)
 refine sH (λj=>j == 4) ?_
 refine sD 0 J (.agg EI) (qf DK)<|sD 1 J (fv a.val) (qk 0 0 4 J J AU)<|sD 2 J (fv b.val) (qk 1 0 4 J J AU) ?_
 obtain ⟨z1,hz1⟩:∃ z:Fp,z=a+b:=⟨_,rfl⟩
 refine sD 3 J (fv z1.val) (qf (λw=>by rw [hz1]; exact Pp w a b))<|sx 4 J 2 J (fcs z1.val) (wA J)<|sI<|Sy.ret ?_
 rw [show (fv (a+b).val:Value)=fv z1.val from by rw [hz1]]
 exact rc (v:=fv z1.val) 2 J J AU
theorem EO (w:World)  : AL 242 #[] w (Ai w (pv 0 0 true)):=by
 refine Sy.enter (args:=[]) Tryz.func242 J kL<|sC<|sM 57 (pcs 0 0 false) (λg0=>?_)
 refine sA<|sP (pv 0 0 true)<|sw 0 J (pcs 0 0 true) (wA J)<|sG<|Sy.ret ?_
 exact rc (v:=pv 0 0 true) 0 J J Am
theorem TC (w:World) (x:Fp):AL 245 #[fv x.val] w (Ai w (fv (x*x*x+7).val)):=by
 refine Sy.enter (args:=[fv x.val]) Tryz.func245 J kL<|sC<|sM 359 (fcs x.val) (λg0=>?_)
 refine sM 359 (fcs 0) (λg1=>?_)
 refine sH (λj=>j == 7) ?_
 refine sD 0 J (fv x.val) (qk 0 0 4 J J AU)<|sD 1 J (fv x.val) (qk 0 0 4 J J AU)<|sD 2 J (fv x.val) (qk 0 0 4 J J AU) ?_
 obtain ⟨z1,hz1⟩:∃ z:Fp,z=x*x:=⟨_,rfl⟩
 refine sD 3 J (fv z1.val) (qf (λw=>by rw [hz1]; exact MB w x x)) ?_
 obtain ⟨z2,hz2⟩:∃ z:Fp,z=x*z1:=⟨_,rfl⟩
 refine sD 4 J (fv z2.val) (qf (λw=>by rw [hz2]; exact MB w x z1)) ?_
 obtain ⟨z3,hz3⟩:∃ z:Fp,z=(7:Fp):=⟨_,rfl⟩
 refine sD 5 J (fv z3.val) (qf (λw=>by rw [hz3]; exact Mt w 7 dZ)) ?_
 obtain ⟨z4,hz4⟩:∃ z:Fp,z=z2+z3:=⟨_,rfl⟩
 refine sD 6 J (fv z4.val) (qf (λw=>by rw [hz4]; exact Uv w z2 z3))<|sx 7 J 1 J (fcs z4.val) (wA J)<|sI<|Sy.ret ?_
 rw [show (fv (x*x*x+7).val:Value)=fv z4.val from by
  refine congrArg (λt:Fp=>fv t.val) ?_
  grobner]
 exact rc (v:=fv z4.val) 1 J J AU
theorem Kl (w:World) (x y:Nat) (hx:x<K4) (hy:y<K4):AL 272 #[fv x,fv y] w (Ai w (pv x y false)):=by
 refine Sy.enter (args:=[fv x,fv y]) Tryz.func272 J kL<|sC<|sM 359 (fcs x) (λg0=>?_)
 refine sM 359 (fcs y) (λg1=>?_)
 refine sM 57 (pcs 0 0 false) (λg2=>?_)
 refine sH (λj=>j == 5) ?_
 refine sD 0 J (fv x) (qk 0 0 4 J J AU)<|sD 1 J (fv x) (qf (λw=>JC w x lK))<|sD 2 J (fv y) (qk 1 0 4 J J AU)<|sD 3 J (fv y) (qf (λw=>JC w y lK))<|sZ 4 J (pv x y false)<|sx 5 J 2 J (pcs x y false) (wA J)<|sI<|Sy.ret ?_
 exact rc (v:=pv x y false) 2 J J Am
theorem rightR_b (w:World) (x y:Nat) (i:Bool) (hx:x<K4) (hy:y<K4):AL 216 #[pv x y i] w (Ai w (.bool (rightB x y i))):=by
 refine Sy.enter (args:=[pv x y i]) Tryz.func216 J kL<|sC<|sM 57 (pcs x y i) (λg0=>?_)
 refine sP (.bool false)<|sG<|Sy.seq<|sC<|sP (pT g0 8)<|sS (.bool i) (qc 0 8 J J uy4)<|sG ?_
 cases i
 ·refine sU<|Sy.skip<|sB ?_
  refine sP (pT g0 0)<|sS (fv x) (qk 0 0 4 J J Af)<|sS (fv x) (qf (λw=>refOf_any w x lK))<|sM 359 (fcs 0) (λg1=>?_)
  refine sw 1 J (fcs x) (wA J)<|sA<|sP (pT g0 4)<|sS (fv y) (qk 0 4 4 J J Af)<|sS (fv y) (qf (λw=>refOf_any w y lK))<|sM 359 (fcs 0) (λg2=>?_)
  refine sw 2 J (fcs y) (wA J)<|sA<|sS (.agg EI) (qf DK)<|sM 366 WT (λg3=>?_)
  refine sw 3 J EI (wA J)<|sA<|sS (.agg EI) (qk 3 0 7 J J De)<|sS (fv x) (qk 1 0 4 J J AU) ?_
  obtain ⟨b1,hb1⟩:=xE (decide (x<pM))
  refine sS (.bool b1) (qf (λw=>by rw [hb1]; exact rightR_any w x lK))<|sP (.bool b1)<|sA<|sS (.agg EI) (qk 3 0 7 J J De)<|sS (fv y) (qk 2 0 4 J J AU) ?_
  obtain ⟨b2,hb2⟩:=xE (decide (y<pM))
  refine sS (.bool b2) (qf (λw=>by rw [hb2]; exact rightR_any w y lK))<|sP (.bool b2)<|sH (λj=>false) ?_
  refine sZ 0 J (.bool b1)<|sZ 1 J (.bool b1) ?_
  cases b1
  ·refine sQ 2 J<|sZ 3 J (.bool false)<|sZ 4 J (.bool false)<|sQ 5 J<|sQ 6 J<|sQ 7 J<|sQ 8 J<|sQ 9 J ?_
   refine sQ 10 J<|sZ 11 J (.bool false)<|sZ 12 J (.bool false)<|sI<|Sy.ret ?_
   rw [show (.bool (rightB x y false):Value)=.bool false from by rw [VN (of_decide_eq_false hb1.symm)]]
   exact rV (.bool false) rfl
  ·obtain ⟨ux,rfl⟩:∃ u:Fp,x=u.val:=⟨⟨x,of_decide_eq_true hb1.symm⟩,rfl⟩
   refine sZ 2 J (.bool b2)<|sZ 3 J (.bool b2)<|sZ 4 J (.bool b2) ?_
   cases b2
   ·refine sQ 5 J<|sQ 6 J<|sQ 7 J<|sQ 8 J<|sQ 9 J<|sQ 10 J<|sZ 11 J (.bool false)<|sZ 12 J (.bool false) ?_
    refine sI<|Sy.ret ?_
    rw [show (.bool (rightB ux.val y false):Value)=.bool false from by rw [VM (of_decide_eq_false hb2.symm)]]
    exact rV (.bool false) rfl
   ·obtain ⟨uy,rfl⟩:∃ u:Fp,y=u.val:=⟨⟨y,of_decide_eq_true hb2.symm⟩,rfl⟩
    refine sD 5 J (fv uy.val) (qk 2 0 4 J J AU)<|sD 6 J (fv uy.val) (qk 2 0 4 J J AU) ?_
    obtain ⟨z1,hz1⟩:∃ z:Fp,z=uy*uy:=⟨_,rfl⟩
    refine sD 7 J (fv z1.val) (qf (λw=>by rw [hz1]; exact MB w uy uy))<|sD 8 J (fv ux.val) (qk 1 0 4 J J AU) ?_
    obtain ⟨z2,hz2⟩:∃ z:Fp,z=ux*ux*ux+7:=⟨_,rfl⟩
    refine sD 9 J (fv z2.val) (qf (λw=>by rw [hz2]; exact TC w ux)) ?_
    obtain ⟨b3,hb3⟩:=xE (decide (z1.val=z2.val))
    refine sD 10 J (.bool b3) (Quiet.pure (λw=>by rw [hb3]; exact S7 w _ _ _ _ _ _ J J J lK lK))<|sZ 11 J (.bool b3)<|sZ 12 J (.bool b3)<|sI<|Sy.ret ?_
    rw [show (.bool (rightB ux.val uy.val false):Value)=.bool b3 from by rw [hb3,Ta]; simp only [hz2,hz1]]
    exact rV (.bool b3) rfl
 ·refine sT<|Sy.seq ?_
  refine Sy.regionD (λj=>false) kR<|sD 0 J (pv x y true) (qk 0 0 9 J J Am)<|sD 1 J (pv 0 0 true) (qf EO) ?_
  obtain ⟨b4,hb4⟩:=xE (sameB x y true 0 0 true)
  refine sD 2 J (.bool b4) (Quiet.pure (λw=>by rw [hb4]; exact eql_pt w _ _ _ _ _ _ _ _ _ _ J J J lK lK lK lK))<|sZ 3 J (.bool b4)<|sI<|Sy.ret<|Sy.then_ret ?_
  rw [show (.bool (rightB x y true):Value)=.bool b4 from by rw [hb4,H']]
  exact rV (.bool b4) rfl
theorem F1 (w:World) (x y:Nat) (i:Bool) (hx:x<K4) (hy:y<K4):AL 246 #[pv x y i] w (Ai w (ptv (dec x y i))):=by
 refine Sy.enter (args:=[pv x y i]) Tryz.func246 J kL<|sC<|sM 57 (pcs x y i) (λg0=>?_)
 refine sM 57 (pcs 0 0 false) (λg1=>?_)
 refine sA<|sS (pv x y i) (qk 0 0 9 J J Am) ?_
 obtain ⟨b1,hb1⟩:=xE (rightB x y i)
 refine sS (.bool b1) (qf (by rw [hb1]; exact λw=>rightR_b w x y i lK lK))<|sP (.bool b1)<|sG<|Sy.seq<|sC<|sP (.bool b1) ?_
 cases b1
 ·refine sP (.bool true) ?_
  refine sG<|sT<|sC<|sS (pv 0 0 true) (qf EO)<|sw 1 J (pcs 0 0 true) (wA J)<|sG<|Sy.ret<|Sy.then_ret ?_
  rw [show (ptv (dec x y i):Value)=pv 0 0 true from JD x y i hb1.symm]
  exact rc (v:=pv 0 0 true) 1 J J Am
 ·refine sP (.bool false) ?_
  refine sG<|sU<|Sy.skip<|sB<|sS (pv x y i) (qk 0 0 9 J J Am)<|sw 1 J (pcs x y i) (wA J)<|sG<|Sy.ret ?_
  rw [show (ptv (dec x y i):Value)=pv x y i from JE x y i hb1.symm]
  exact rc (v:=pv x y i) 1 J J Am
theorem MA (w:World) (x y:Nat) (i:Bool) (hx:x<K4) (hy:y<K4) (h:dec x y i=none):AL 249 #[pv x y i] w (Ai w (ptv (Ec.neg none))):=by
 refine Sy.enter (args:=[pv x y i]) Tryz.func249 J kL<|sC<|sM 57 (pcs x y i) (λg0=>?_)
 refine sM 57 (pcs 0 0 false) (λg1=>?_)
 refine sA<|sS (pv x y i) (qk 0 0 9 J J Am)<|sS (pv 0 0 true) (qf (λw=>by have hrr:=F1 w x y i lK lK; rw [h] at hrr; exact hrr))<|sw 0 J (pcs 0 0 true) (wA J)<|sG<|Sy.seq<|sC<|sP (pT g0 8)<|sS (.bool true) (qc 0 8 J J uy4)<|sG<|sT<|sC<|sS (pv 0 0 true) (qk 0 0 9 J J Am)<|sw 1 J (pcs 0 0 true) (wA J)<|sG<|Sy.ret<|Sy.then_ret ?_
 rw [show (ptv (Ec.neg none):Value)=pv 0 0 true from rfl]
 exact rc (v:=pv 0 0 true) 1 J J Am
theorem L_ (w:World) (x y:Nat) (i:Bool) (hx:x<K4) (hy:y<K4) (u v:Fp) (h:dec x y i=some (u,v)):AL 249 #[pv x y i] w (Ai w (ptv (Ec.neg (some (u,v))))):=by
 refine Sy.enter (args:=[pv x y i]) Tryz.func249 J kL<|sC<|sM 57 (pcs x y i) (λg0=>?_)
 refine sM 57 (pcs 0 0 false) (λg1=>?_)
 refine sA<|sS (pv x y i) (qk 0 0 9 J J Am)<|sS (pv u.val v.val false) (qf (λw=>by have hrr:=F1 w x y i lK lK; rw [h] at hrr; exact hrr))<|sw 0 J (pcs u.val v.val false) (wA J)<|sG<|Sy.seq<|sC<|sP (pT g0 8)<|sS (.bool false) (qc 0 8 J J uy4)<|sG<|sU<|Sy.skip<|sR (λj=>j == 9) ?_
 refine sZ 0 J (pT g0 0)<|sD 1 J (fv u.val) (qk 0 0 4 J J Af)<|sD 2 J (fv u.val) (qf (λw=>refOf_any w u.val lK))<|sD 3 J (.agg EI) (qf DK)<|sZ 4 J (pT g0 4)<|sD 5 J (fv v.val) (qk 0 4 4 J J Af)<|sD 6 J (fv v.val) (qf (λw=>refOf_any w v.val lK)) ?_
 obtain ⟨z1,hz1⟩:∃ z:Fp,z = -v:=⟨_,rfl⟩
 refine sD 7 J (fv z1.val) (qf (λw=>by rw [hz1]; exact Pn w v))<|sD 8 J (pv u.val z1.val false) (qf (λw=>Kl w u.val z1.val lK lK))<|sx 9 J 1 J (pcs u.val z1.val false) (wA J)<|sI<|Sy.ret ?_
 rw [show (ptv (Ec.neg (some (u,v))):Value)=pv u.val z1.val false from by rw [hz1]; rfl]
 exact rc (v:=pv u.val z1.val false) 1 J J Am
theorem Oh (w:World) (x y:Nat) (i:Bool) (hx:x<K4) (hy:y<K4):Calls Tryz.prog 249 #[pv x y i] w (Ai w (ptv (Ec.neg (dec x y i)))):=by
 rcases h:dec x y i with _ | ⟨u,v⟩
 ·exact MA w x y i hx hy h
 ·exact L_ w x y i hx hy u v h
end Cu
end
section
section
open Go.RowKit Go.Lib
theorem bytes_any (w:World) (x:Nat) (hx:x<(2^256)):Calls Tryz.prog 229 #[fv x] w λe w'=>e=.returned (.agg ((AW (x%pM)).map bv).toArray)∧Below w.heap.size w w':=by
 obtain ⟨z,hz⟩:=xE (x%pM)
 have hzl:z<(2^256):=by rw [hz]; exact mod_lt x
 have cn:∀ w,Calls Tryz.prog 232 #[fv x] w λe w'=>e=.returned (fv z)∧Below w.heap.size w w':=by
  intro w; rw [hz]; exact norm_any w x hx
 rw [← hz]
 obtain ⟨z0,z1,z2,z3,a0,a1,a2,a3,ez,fz⟩:=Ah z hzl
 have HZ:=Lib.hid (And.intro a0 (And.intro a1 (And.intro a2 (And.intro a3 ez))))
 have FZ:=Lib.hid fz
 obtain ⟨x0,x1,x2,x3,fx⟩:=Ae x hx
 rw [fx] at cn ⊢
 clear fx fz hz hzl a0 a1 a2 a3 ez hx
 have hZB:Hid ((List.replicate 32 (Value.int .u8 0)).toArray=((Dl z 0).map bv).toArray):=Lib.hid (by simp [Dl,Fl,bv])
 go_enter Tryz.func229,Tryz.ntmps229
 go_wp2_with fail
 refine (cn _).mono ?_
 rintro e w1 ⟨rfl,hb⟩
 have BR:Blk w1 (w.heap.size+1) 36 _:=Gr.blk hb (Blk.alloc (Ab w _ _ _) _)
 have BB:Blk w1 (w.heap.size+2) 36 ((Dl z 0).map bv).toArray:=Blk.eq_ (Gr.blk hb (Ay w _ _ _ _)) hZB.out
 have hB:=Below.gr (AY w _ _ _) hb
 have sz:=BB.lt
 clear hb cn
 go_wp2_with ((with_reducible refine AG ?_); refine AB J _ _ _ J w1.heap.size (fcs z) J J _ _ (Blk.new w1 _ _) kZ (by rfl) (AM _) ?_; intro w2 hL2 hB2 hK2; have CR:=hK2 _ om _ _ (BR.alloc _); have CB:=hK2 _ om _ _ (BB.alloc _); have hC:=(hB.alloc om _).trans (hB2 _ om))
 go_loopw [8] (λi wr=>∃ k:Nat,k≤32∧i=.int .i64 (k:Int)∧Below w.heap.size w wr∧Blk wr (w.heap.size+2) 36 ((Dl z k).map bv).toArray∧Blk wr w1.heap.size 55 #[.int .u64 (z0:Int),.int .u64 (z1:Int),.int .u64 (z2:Int),.int .u64 (z3:Int)]∧Blk wr (w.heap.size+1) 36 (List.replicate 32 (Value.int .u8 0)).toArray) (λi _=>32 - (intOf i).toNat)
 case atStart=>exact ⟨0,by omega,rfl,hC,CB,hL2.eq_ (BV FZ.out),CR⟩
 case round =>
  obtain ⟨k,hk,rfl,hb,hP,hN,hR⟩:=hrel
  by_cases hlt:k<32
  ·have ce:∀ j,j<32→∃ v,wr.cell? ⟨w.heap.size+1+1,j,none⟩=some v:=λj hj=>⟨_,(hP.cell j).trans (Array.getElem?_eq_getElem (by simp [GC z k hk]; exact hj))⟩
   obtain ⟨v,hv⟩:=ce (31 - k) om
   have ff:=hP.frozen (31 - k)
   have q0:wr.cell? ⟨w1.heap.size,0,none⟩=some (.int .u64 (z0:Int)):=hN.cell 0
   have q1:wr.cell? ⟨w1.heap.size,1,none⟩=some (.int .u64 (z1:Int)):=hN.cell 1
   have q2:wr.cell? ⟨w1.heap.size,2,none⟩=some (.int .u64 (z2:Int)):=hN.cell 2
   have q3:wr.cell? ⟨w1.heap.size,3,none⟩=some (.int .u64 (z3:Int)):=hN.cell 3
   have hPn:=hP.set_ (31 - k) (bv (Ck z k))
   rw [JG z k hlt] at hPn
   have HP:=Lib.hid hPn
   clear hPn ce
   have HR:=Lib.hid (And.intro hb (And.intro hN hR))
   clear hb hP hN hR hk
   have hsz:w.heap.size+2<w1.heap.size:=sz
   rcases (DB k) with rfl|rfl|rfl|rfl|rfl|rfl|rfl|rfl|rfl|rfl|rfl|rfl|rfl|rfl|rfl|rfl|rfl|rfl|rfl|rfl|rfl|rfl|rfl|rfl|rfl|rfl|rfl|rfl|rfl|rfl|rfl|rfl
   all_goals
    go_wp2
    obtain ⟨a0,a1,a2,a3,ez⟩:=HZ.out
    refine ⟨⟨_,by decide,rfl,HR.out.1.setCell (by show w.heap.size≤w.heap.size+1+1; omega) _,HP.out.val (by rw [LP]; congr 1; omega),HR.out.2.1.far (by show w1.heap.size≠w.heap.size+1+1; omega) _,HR.out.2.2.far (by show w.heap.size+1≠w.heap.size+1+1; omega) _⟩,by simp [intOf]⟩
  ·have p1:¬ (k:Int)<32:=om
   obtain rfl:k=32:=om
   rw [IL] at hP
   have HI:=Lib.hid (AN z)
   have HL:=Lib.hid hP
   have HR:=Lib.hid hR
   clear hN hP hR
   go_wp2_with (first | ((with_reducible refine AF (d:=some 24) ?_); refine Al J _ _ J (w.heap.size+2) rfl _ _ _ HL.out JZ J (C1 HI.out) ?_) | ((with_reducible refine AG ?_); refine AB J _ _ _ J (w.heap.size+1) ((AW z).map bv).toArray J J _ _ HR.out (C1 HI.out) (by simp [HI.out]) (Np _) ?_; intro w9 hL9 hB9 hK9))
   exact bodyPost_ret (results_cell_row J _ _ (w.heap.size+1) _ _ (0,0) _ J hL9 JZ J (C1 HI.out)) J ⟨rfl,hb.trans (hB9 _ om)⟩
end
end
section
section
open Go.RowKit Go.Lib
def readS (l:Ak):Nat×Bool:=if Ag l<pM then (Ag l,true) else (0,false)
theorem read_any (w:World) (l:Ak) (hl:l.length=32):Calls Tryz.prog 252 #[.agg (l.map bv).toArray] w λe w'=>e=.returned (.tuple #[fv (readS l).1,.bool (readS l).2])∧Below w.heap.size w w':=by
 have HL:=Lib.hid hl
 clear hl
 go_enter Tryz.func252,Tryz.ntmps252
 go_wp2_with ((with_reducible refine AF (d:=some 7) ?_); refine Al J _ _ J w.heap.size J _ _ _ (((Blk.new w _ _).alloc _).alloc _) JZ J (C1 HL.out) ?_)
 go_loopw [8] (λi wr=>∃ k y0 y1 y2 y3:Nat,k≤32∧i=.int .i64 (k:Int)∧Hid (y0=wdB l k 0∧y1=wdB l k 1∧y2=wdB l k 2∧y3=wdB l k 3)∧Below w.heap.size w wr∧Blk wr (w.heap.size+2) 55 #[.int .u64 (y3:Int),.int .u64 (y2:Int),.int .u64 (y1:Int),.int .u64 (y0:Int)]∧Blk wr (w.heap.size+1) 55 #[.int .u64 0,.int .u64 0,.int .u64 0,.int .u64 0]) (λi _=>32 - (intOf i).toNat)
 case atStart=>exact ⟨0,0,0,0,0,by omega,rfl,Lib.hid ⟨(Bb l 0).symm,(Bb l 1).symm,(Bb l 2).symm,(Bb l 3).symm⟩,AY w _ _ _,Ay w _ _ _ _,(Ab w _ _ _).alloc _⟩
 case round =>
  obtain ⟨k,y0,y1,y2,y3,hk,rfl,HY,hb,hP,hR⟩:=hrel
  have q3:wr.cell? ⟨w.heap.size+1+1,0,none⟩=some (.int .u64 (y3:Int)):=hP.cell 0
  have q2:wr.cell? ⟨w.heap.size+1+1,1,none⟩=some (.int .u64 (y2:Int)):=hP.cell 1
  have q1:wr.cell? ⟨w.heap.size+1+1,2,none⟩=some (.int .u64 (y1:Int)):=hP.cell 2
  have q0:wr.cell? ⟨w.heap.size+1+1,3,none⟩=some (.int .u64 (y0:Int)):=hP.cell 3
  have ff:∀ j,wr.frozen? ⟨w.heap.size+1+1,j,none⟩=false:=λj=>hP.frozen j
  by_cases hlt:k<32
  ·obtain ⟨c,hc⟩:∃ c,l[k]? = some c:=⟨l[k]'(by rw [HL.out]; exact hlt),List.getElem?_eq_getElem _⟩
   have HC:=Lib.hid hc
   obtain ⟨m,hm⟩:=xE c.toNat
   have hm8:m<256:=by rw [hm]; exact c.toNat_lt
   have hI:∀ W,(Instr.index 36 (.agg (l.map bv).toArray) (.int .i64 (k:Int))).run Tryz.prog W=.ok (.int .u8 (m:Int)) W:=λW=>by
    rw [Fc W l k c hc hlt,hm]; rfl
   have HM:=Lib.hid hm
   have HR:=Lib.hid (And.intro hb (And.intro hP hR))
   clear hb hP hR hc hk hm
   rcases (DB k) with rfl|rfl|rfl|rfl|rfl|rfl|rfl|rfl|rfl|rfl|rfl|rfl|rfl|rfl|rfl|rfl|rfl|rfl|rfl|rfl|rfl|rfl|rfl|rfl|rfl|rfl|rfl|rfl|rfl|rfl|rfl|rfl
   all_goals
    simp only [Int.cast_ofNat_Int] at hI
   all_goals
    first
    | ((have hy:y0<72057594037927936:=by rw [HY.out.1]; exact Ci l _ 0 dZ); (have ho:=Er y0 m hy hm8); go_wp2; (refine ⟨⟨_,y0*256+m,y1,y2,y3,by decide,rfl,Lib.hid ⟨by rw [HY.out.1,HM.out]; exact (Bc l _ 0 c HC.out dZ).symm,by rw [HY.out.2.1]; exact (AR l _ 1 dZ).symm,by rw [HY.out.2.2.1]; exact (AR l _ 2 dZ).symm,by rw [HY.out.2.2.2]; exact (AR l _ 3 dZ).symm⟩,HR.out.1.setCell (by show w.heap.size≤w.heap.size+1+1; omega) _,Blk.eq_ (HR.out.2.1.set_ 3 _) (by rw [show ((y0*256+m:Nat):Int)=(y0:Int)*256+(m:Int) by omega]; rfl),HR.out.2.2.far (by show w.heap.size+1≠w.heap.size+1+1; omega) _⟩,by simp [intOf]⟩))
    | ((have hy:y1<72057594037927936:=by rw [HY.out.2.1]; exact Ci l _ 1 dZ); (have ho:=Er y1 m hy hm8); go_wp2; (refine ⟨⟨_,y0,y1*256+m,y2,y3,by decide,rfl,Lib.hid ⟨by rw [HY.out.1]; exact (AR l _ 0 dZ).symm,by rw [HY.out.2.1,HM.out]; exact (Bc l _ 1 c HC.out dZ).symm,by rw [HY.out.2.2.1]; exact (AR l _ 2 dZ).symm,by rw [HY.out.2.2.2]; exact (AR l _ 3 dZ).symm⟩,HR.out.1.setCell (by show w.heap.size≤w.heap.size+1+1; omega) _,Blk.eq_ (HR.out.2.1.set_ 2 _) (by rw [show ((y1*256+m:Nat):Int)=(y1:Int)*256+(m:Int) by omega]; rfl),HR.out.2.2.far (by show w.heap.size+1≠w.heap.size+1+1; omega) _⟩,by simp [intOf]⟩))
    | ((have hy:y2<72057594037927936:=by rw [HY.out.2.2.1]; exact Ci l _ 2 dZ); (have ho:=Er y2 m hy hm8); go_wp2; (refine ⟨⟨_,y0,y1,y2*256+m,y3,by decide,rfl,Lib.hid ⟨by rw [HY.out.1]; exact (AR l _ 0 dZ).symm,by rw [HY.out.2.1]; exact (AR l _ 1 dZ).symm,by rw [HY.out.2.2.1,HM.out]; exact (Bc l _ 2 c HC.out dZ).symm,by rw [HY.out.2.2.2]; exact (AR l _ 3 dZ).symm⟩,HR.out.1.setCell (by show w.heap.size≤w.heap.size+1+1; omega) _,Blk.eq_ (HR.out.2.1.set_ 1 _) (by rw [show ((y2*256+m:Nat):Int)=(y2:Int)*256+(m:Int) by omega]; rfl),HR.out.2.2.far (by show w.heap.size+1≠w.heap.size+1+1; omega) _⟩,by simp [intOf]⟩))
    | ((have hy:y3<72057594037927936:=by rw [HY.out.2.2.2]; exact Ci l _ 3 dZ); (have ho:=Er y3 m hy hm8); go_wp2; (refine ⟨⟨_,y0,y1,y2,y3*256+m,by decide,rfl,Lib.hid ⟨by rw [HY.out.1]; exact (AR l _ 0 dZ).symm,by rw [HY.out.2.1]; exact (AR l _ 1 dZ).symm,by rw [HY.out.2.2.1]; exact (AR l _ 2 dZ).symm,by rw [HY.out.2.2.2,HM.out]; exact (Bc l _ 3 c HC.out dZ).symm⟩,HR.out.1.setCell (by show w.heap.size≤w.heap.size+1+1; omega) _,Blk.eq_ (HR.out.2.1.set_ 0 _) (by rw [show ((y3*256+m:Nat):Int)=(y3:Int)*256+(m:Int) by omega]; rfl),HR.out.2.2.far (by show w.heap.size+1≠w.heap.size+1+1; omega) _⟩,by simp [intOf]⟩))
  ·have p1:¬ (k:Int)<32:=om
   obtain rfl:k=32:=om
   have b0:y0<18446744073709551616:=by rw [HY.out.1]; exact B9 l _ _
   have b1:y1<18446744073709551616:=by rw [HY.out.2.1]; exact B9 l _ _
   have b2:y2<18446744073709551616:=by rw [HY.out.2.2.1]; exact B9 l _ _
   have b3:y3<18446744073709551616:=by rw [HY.out.2.2.2]; exact B9 l _ _
   obtain ⟨z,hz⟩:=xE (y3+18446744073709551616*y2+340282366920938463463374607431768211456*y1+6277101735386680763835789423207666416102355444464034512896*y0)
   have fz:=Cw y3 y2 y1 y0 b3 b2 b1 b0
   rw [← hz] at fz
   have hzl:z<(2^256):=by rw [hz]; exact K7 y3 y2 y1 y0 b3 b2 b1 b0
   have hzv:z=Ag l:=by rw [Hg l HL.out,hz,HY.out.1,HY.out.2.1,HY.out.2.2.1,HY.out.2.2.2]
   obtain ⟨n,hn⟩:=xE (z%pM)
   have hnl:n<(2^256):=by rw [hn]; exact mod_lt z
   obtain ⟨b,hbd⟩:=xE (decide (n≠z))
   have eb:∀ W,(binOp .neq 55 (fv n) (fv z)).run Tryz.prog W=.ok (.bool b) W:=λW=>by rw [hbd]; exact run_neq_fv W n z hnl hzl
   have cn:∀ w,Calls Tryz.prog 232 #[fv z] w λe w'=>e=.returned (fv n)∧Below w.heap.size w w':=by
    intro w; rw [hn]; exact norm_any w z hzl
   have hS:readS l=if b=true then (0,false) else (z,true):=by
    unfold readS
    rw [← hzv,hbd,hn]
    by_cases h:z<pM
    ·rw [if_pos h,Nat.mod_eq_of_lt h]; simp
    ·have h2:z%pM≠z:=λe=>h (by rw [← e]; exact Bw z)
     rw [if_neg h]; simp [h2]
   have HS:=Lib.hid hS
   have FZ:=Lib.hid fz.symm
   have HP:=Lib.hid hP
   clear HY b0 b1 b2 b3 hz fz hzl hzv hn hnl hbd hS q0 q1 q2 q3 ff hP
   go_wp2
   refine AP (λ_=>false) kZ ?_
   try simp only [Act.put]
   refine tkw 0 J (YieldsG.loadF (by rfl) _ _ J (w.heap.size+2) rfl z _ _ HP.out FZ.out Af J kZ) ?_
   try simp only [aPS]
   refine tkw 1 J (YieldsG.call (v:=fv n) (by rfl) 232 _ (λw9=>by go_simp; try rfl) (λw9 h9=>cn w9)) ?_
   try simp only [aPS]
   refine tkw 2 J (YieldsG.loadF (by rfl) _ _ J (w.heap.size+2) rfl z _ _ HP.out FZ.out Af J kZ) ?_
   try simp only [aPS]
   refine tkw 3 J (YieldsG.pure (v:=.bool b) (by rfl) (λw9 h9=>by go_simp; rw [run_eqGuard_fv]; simp only [Result.andThen_ok,eb])) ?_
   try simp only [aPS]
   refine AO kZ (λu hu=>?_)
   have hbu:=Below.gr hb hu
   have BR:=Gr.blk hu hR
   have BP:=Gr.blk hu HP.out
   clear hu hb hR HP eb cn
   cases b
   ·have HT:Hid (readS l=(z,true)):=Lib.hid (by rw [HS.out]; rfl)
    clear HS
    go_wp2_with (first | ((with_reducible refine AF (d:=some 31) ?_); refine AC J _ _ J (w.heap.size+2) rfl z _ _ _ BP FZ.out Af J kZ ?_) | ((with_reducible refine AG ?_); refine AB J _ _ _ J (w.heap.size+1) (fcs z) J J _ _ BR kZ (by rfl) (AM _) ?_; intro vz hLz hqz hKz))
    exact bodyPost_ret (Av J _ _ (w.heap.size+1) _ _ _ _ J hLz J Af J kZ) rfl ⟨by rw [HT.out]; rfl,hbu.trans (hqz _ om)⟩
   ·have HT:Hid (readS l=(0,false)):=Lib.hid (by rw [HS.out]; rfl)
    clear HS
    go_wp2_with ((with_reducible refine AG ?_); refine AB J _ _ _ J (w.heap.size+1) _ J J _ _ BR kZ (by rfl) (by simp [Value.oneCell']) ?_; intro vz hLz hqz hKz)
    exact bodyPost_ret (Av J _ _ (w.heap.size+1) _ _ _ _ J hLz J Af J kZ) rfl ⟨by rw [HT.out]; rfl,hbu.trans (hqz _ om)⟩
end
end
section
section
open Go.RowKit Go.Lib
theorem TR {v1 v2:Value} (w:World) (x y s k:Nat) (h1:fv x=v1) (h2:fv y=v2) (hx:x<(2^256)) (hy:y<(2^256)) (hs:s<(2^256)) (he:s+(2^256)*k=x+y):Calls Tryz.prog 284 #[v1,v2] w λe w'=>e=.returned (fv s)∧Below w.heap.size w w':=by
 subst h1 h2
 obtain ⟨x0,x1,x2,x3,a0,a1,a2,a3,ex,fx⟩:=Ah x hx
 obtain ⟨y0,y1,y2,y3,b0,b1,b2,b3,ey,fy⟩:=Ah y hy
 obtain ⟨s0,c0,d0,k0,e0,r0⟩:=D6 x0 y0 a0 b0
 obtain ⟨s1,c1,d1,k1,e1,r1⟩:=DY x1 y1 c0 a1 b1 k0
 obtain ⟨s2,c2,d2,k2,e2,r2⟩:=DY x2 y2 c1 a2 b2 k1
 obtain ⟨s3,c3,d3,k3,e3,r3⟩:=DY x3 y3 c2 a3 b3 k2
 have fin:s0+18446744073709551616*s1+340282366920938463463374607431768211456*s2+6277101735386680763835789423207666416102355444464034512896*s3=s:=om
 have hfs:=Cw s0 s1 s2 s3 d0 d1 d2 d3
 rw [fin] at hfs
 have Fd:=Lib.hid hfs
 rw [fx,fy]
 clear fx fy ex ey hx hy hs he a0 a1 a2 a3 b0 b1 b2 b3 d0 d1 d2 d3 k0 k1 k2 k3 e0 e1 e2 e3 fin hfs
 go_enter Tryz.func284,Tryz.ntmps284
 go_wp2_with fail
 go_loopw [5,6] (λbo i wr=>Below w.heap.size w wr∧Blk wr (w.heap.size+1) 359 #[.int .u64 (y0:Int),.int .u64 (y1:Int),.int .u64 (y2:Int),.int .u64 (y3:Int)]∧Blk wr (w.heap.size+2) 359 #[.int .u64 0,.int .u64 0,.int .u64 0,.int .u64 0]∧Hid ((i=.int .i64 0∧bo=.int .u64 0∧Blk wr w.heap.size 359 #[.int .u64 (x0:Int),.int .u64 (x1:Int),.int .u64 (x2:Int),.int .u64 (x3:Int)])∨(i=.int .i64 1∧bo=.int .u64 (c0:Int)∧Blk wr w.heap.size 359 #[.int .u64 (s0:Int),.int .u64 (x1:Int),.int .u64 (x2:Int),.int .u64 (x3:Int)])∨(i=.int .i64 2∧bo=.int .u64 (c1:Int)∧Blk wr w.heap.size 359 #[.int .u64 (s0:Int),.int .u64 (s1:Int),.int .u64 (x2:Int),.int .u64 (x3:Int)])∨(i=.int .i64 3∧bo=.int .u64 (c2:Int)∧Blk wr w.heap.size 359 #[.int .u64 (s0:Int),.int .u64 (s1:Int),.int .u64 (s2:Int),.int .u64 (x3:Int)])∨(i=.int .i64 4∧bo=.int .u64 (c3:Int)∧Blk wr w.heap.size 359 #[.int .u64 (s0:Int),.int .u64 (s1:Int),.int .u64 (s2:Int),.int .u64 (s3:Int)]))) (λ_ i _=>4 - (intOf i).toNat)
 case atStart=>exact ⟨AY w _ _ _,(Ab w _ _ _).alloc _,Ay w _ _ _ _,Lib.hid (.inl ⟨rfl,rfl,((Blk.new w _ _).alloc _).alloc _⟩)⟩
 case round =>
  obtain ⟨hb,BY,BR,HI⟩:=hrel
  have lY:=BY.lt
  have lX:w.heap.size<wr.heap.size:=om
  have hsz:w.heap.size+2<wr.heap.size:=BR.lt
  rcases HI.out with ⟨rfl,rfl,BX⟩ | ⟨rfl,rfl,BX⟩ | ⟨rfl,rfl,BX⟩ | ⟨rfl,rfl,BX⟩ | ⟨rfl,rfl,BX⟩
  ·clear HI
   have px:wr.cell? ⟨w.heap.size,0,none⟩=some (.int .u64 (x0:Int)):=BX.cell 0
   have py:wr.cell? ⟨w.heap.size+1,0,none⟩=some (.int .u64 (y0:Int)):=BY.cell 0
   go_wp2
   refine AP (λ_=>false) kZ ?_
   try simp only [Act.put]
   refine tk 0 J ?_
   try simp only [aPS]
   refine tk 1 J ?_
   try simp only [aPS]
   refine tkw 2 J (YieldsG.pure (v:=.int .u64 (x0:Int)) (by rfl) (λw9 h9=>by have hz:=(Below.cell (p:=⟨w.heap.size,0,none⟩) h9 lX).trans px; go_simp; first | done | simp [hz])) ?_
   try simp only [aPS]
   refine tk 3 J ?_
   try simp only [aPS]
   refine tk 4 J ?_
   try simp only [aPS]
   refine tkw 5 J (YieldsG.pure (v:=.int .u64 (y0:Int)) (by rfl) (λw9 h9=>by have hz:=(Below.cell (p:=⟨w.heap.size+1,0,none⟩) h9 lY).trans py; go_simp; first | done | simp [hz])) ?_
   try simp only [aPS]
   refine tk 6 J ?_
   try simp only [aPS]
   refine tkw 7 J (YieldsG.pure (v:=.tuple #[.int .u64 (s0:Int),.int .u64 (c0:Int)]) (by rfl) (λw9 h9=>by go_simp)) ?_
   try simp only [aPS]
   refine tk 8 J ?_
   try simp only [aPS]
   refine tk 9 J ?_
   try simp only [aPS]
   refine tk 10 J ?_
   try simp only [aPS]
   refine tk 11 J ?_
   try simp only [aPS]
   refine tk 12 J ?_
   try simp only [aPS]
   refine AO kZ (λu hu=>?_)
   have BXu:=Gr.blk hu BX
   have BYu:=Gr.blk hu BY
   have BRu:=Gr.blk hu BR
   have hbu:=Below.gr hb hu
   have pc:u.cell? ⟨w.heap.size,0,none⟩=some (.int .u64 (x0:Int)):=BXu.cell 0
   have pf:=BXu.frozen 0
   go_wp2
   refine ⟨⟨hbu.setCell (Nat.le_refl _) _,BYu.far (by show w.heap.size+1≠w.heap.size; omega) _,BRu.far (by show w.heap.size+2≠w.heap.size; omega) _,Lib.hid (.inr (.inl (⟨rfl,rfl,BXu.set_ 0 _⟩)))⟩,by decide⟩
  ·clear HI
   have px:wr.cell? ⟨w.heap.size,1,none⟩=some (.int .u64 (x1:Int)):=BX.cell 1
   have py:wr.cell? ⟨w.heap.size+1,1,none⟩=some (.int .u64 (y1:Int)):=BY.cell 1
   go_wp2
   refine AP (λ_=>false) kZ ?_
   try simp only [Act.put]
   refine tk 0 J ?_
   try simp only [aPS]
   refine tk 1 J ?_
   try simp only [aPS]
   refine tkw 2 J (YieldsG.pure (v:=.int .u64 (x1:Int)) (by rfl) (λw9 h9=>by have hz:=(Below.cell (p:=⟨w.heap.size,1,none⟩) h9 lX).trans px; go_simp; first | done | simp [hz])) ?_
   try simp only [aPS]
   refine tk 3 J ?_
   try simp only [aPS]
   refine tk 4 J ?_
   try simp only [aPS]
   refine tkw 5 J (YieldsG.pure (v:=.int .u64 (y1:Int)) (by rfl) (λw9 h9=>by have hz:=(Below.cell (p:=⟨w.heap.size+1,1,none⟩) h9 lY).trans py; go_simp; first | done | simp [hz])) ?_
   try simp only [aPS]
   refine tk 6 J ?_
   try simp only [aPS]
   refine tkw 7 J (YieldsG.pure (v:=.tuple #[.int .u64 (s1:Int),.int .u64 (c1:Int)]) (by rfl) (λw9 h9=>by go_simp)) ?_
   try simp only [aPS]
   refine tk 8 J ?_
   try simp only [aPS]
   refine tk 9 J ?_
   try simp only [aPS]
   refine tk 10 J ?_
   try simp only [aPS]
   refine tk 11 J ?_
   try simp only [aPS]
   refine tk 12 J ?_
   try simp only [aPS]
   refine AO kZ (λu hu=>?_)
   have BXu:=Gr.blk hu BX
   have BYu:=Gr.blk hu BY
   have BRu:=Gr.blk hu BR
   have hbu:=Below.gr hb hu
   have pc:u.cell? ⟨w.heap.size,1,none⟩=some (.int .u64 (x1:Int)):=BXu.cell 1
   have pf:=BXu.frozen 1
   go_wp2
   refine ⟨⟨hbu.setCell (Nat.le_refl _) _,BYu.far (by show w.heap.size+1≠w.heap.size; omega) _,BRu.far (by show w.heap.size+2≠w.heap.size; omega) _,Lib.hid (.inr (.inr (.inl (⟨rfl,rfl,BXu.set_ 1 _⟩))))⟩,by decide⟩
  ·clear HI
   have px:wr.cell? ⟨w.heap.size,2,none⟩=some (.int .u64 (x2:Int)):=BX.cell 2
   have py:wr.cell? ⟨w.heap.size+1,2,none⟩=some (.int .u64 (y2:Int)):=BY.cell 2
   go_wp2
   refine AP (λ_=>false) kZ ?_
   try simp only [Act.put]
   refine tk 0 J ?_
   try simp only [aPS]
   refine tk 1 J ?_
   try simp only [aPS]
   refine tkw 2 J (YieldsG.pure (v:=.int .u64 (x2:Int)) (by rfl) (λw9 h9=>by have hz:=(Below.cell (p:=⟨w.heap.size,2,none⟩) h9 lX).trans px; go_simp; first | done | simp [hz])) ?_
   try simp only [aPS]
   refine tk 3 J ?_
   try simp only [aPS]
   refine tk 4 J ?_
   try simp only [aPS]
   refine tkw 5 J (YieldsG.pure (v:=.int .u64 (y2:Int)) (by rfl) (λw9 h9=>by have hz:=(Below.cell (p:=⟨w.heap.size+1,2,none⟩) h9 lY).trans py; go_simp; first | done | simp [hz])) ?_
   try simp only [aPS]
   refine tk 6 J ?_
   try simp only [aPS]
   refine tkw 7 J (YieldsG.pure (v:=.tuple #[.int .u64 (s2:Int),.int .u64 (c2:Int)]) (by rfl) (λw9 h9=>by go_simp)) ?_
   try simp only [aPS]
   refine tk 8 J ?_
   try simp only [aPS]
   refine tk 9 J ?_
   try simp only [aPS]
   refine tk 10 J ?_
   try simp only [aPS]
   refine tk 11 J ?_
   try simp only [aPS]
   refine tk 12 J ?_
   try simp only [aPS]
   refine AO kZ (λu hu=>?_)
   have BXu:=Gr.blk hu BX
   have BYu:=Gr.blk hu BY
   have BRu:=Gr.blk hu BR
   have hbu:=Below.gr hb hu
   have pc:u.cell? ⟨w.heap.size,2,none⟩=some (.int .u64 (x2:Int)):=BXu.cell 2
   have pf:=BXu.frozen 2
   go_wp2
   refine ⟨⟨hbu.setCell (Nat.le_refl _) _,BYu.far (by show w.heap.size+1≠w.heap.size; omega) _,BRu.far (by show w.heap.size+2≠w.heap.size; omega) _,Lib.hid (.inr (.inr (.inr (.inl (⟨rfl,rfl,BXu.set_ 2 _⟩)))))⟩,by decide⟩
  ·clear HI
   have px:wr.cell? ⟨w.heap.size,3,none⟩=some (.int .u64 (x3:Int)):=BX.cell 3
   have py:wr.cell? ⟨w.heap.size+1,3,none⟩=some (.int .u64 (y3:Int)):=BY.cell 3
   go_wp2
   refine AP (λ_=>false) kZ ?_
   try simp only [Act.put]
   refine tk 0 J ?_
   try simp only [aPS]
   refine tk 1 J ?_
   try simp only [aPS]
   refine tkw 2 J (YieldsG.pure (v:=.int .u64 (x3:Int)) (by rfl) (λw9 h9=>by have hz:=(Below.cell (p:=⟨w.heap.size,3,none⟩) h9 lX).trans px; go_simp; first | done | simp [hz])) ?_
   try simp only [aPS]
   refine tk 3 J ?_
   try simp only [aPS]
   refine tk 4 J ?_
   try simp only [aPS]
   refine tkw 5 J (YieldsG.pure (v:=.int .u64 (y3:Int)) (by rfl) (λw9 h9=>by have hz:=(Below.cell (p:=⟨w.heap.size+1,3,none⟩) h9 lY).trans py; go_simp; first | done | simp [hz])) ?_
   try simp only [aPS]
   refine tk 6 J ?_
   try simp only [aPS]
   refine tkw 7 J (YieldsG.pure (v:=.tuple #[.int .u64 (s3:Int),.int .u64 (c3:Int)]) (by rfl) (λw9 h9=>by go_simp)) ?_
   try simp only [aPS]
   refine tk 8 J ?_
   try simp only [aPS]
   refine tk 9 J ?_
   try simp only [aPS]
   refine tk 10 J ?_
   try simp only [aPS]
   refine tk 11 J ?_
   try simp only [aPS]
   refine tk 12 J ?_
   try simp only [aPS]
   refine AO kZ (λu hu=>?_)
   have BXu:=Gr.blk hu BX
   have BYu:=Gr.blk hu BY
   have BRu:=Gr.blk hu BR
   have hbu:=Below.gr hb hu
   have pc:u.cell? ⟨w.heap.size,3,none⟩=some (.int .u64 (x3:Int)):=BXu.cell 3
   have pf:=BXu.frozen 3
   go_wp2
   refine ⟨⟨hbu.setCell (Nat.le_refl _) _,BYu.far (by show w.heap.size+1≠w.heap.size; omega) _,BRu.far (by show w.heap.size+2≠w.heap.size; omega) _,Lib.hid (.inr (.inr (.inr (.inr (⟨rfl,rfl,BXu.set_ 3 _⟩)))))⟩,by decide⟩
  ·clear HI
   have BS:=BX.eq_ (BV Fd.out.symm).symm
   go_wp2_with (first | ((with_reducible refine AF (d:=some 28) ?_); refine AC J _ _ J w.heap.size rfl s _ _ _ BS (AS s) AU J kZ ?_) | ((with_reducible refine AG ?_); refine AB J _ _ _ J (w.heap.size+2) (fcs s) J J _ _ BR kZ (by rfl) (AM _) ?_; intro w9 hL9 hB9 hK9))
   exact bodyPost_ret (results_cell_row J _ _ (w.heap.size+2) _ _ (0,0) _ J hL9 AU J kZ) rfl ⟨rfl,hb.trans (hB9 _ om)⟩
def eQ:Nat:=28948022309329048855892746252171976963317496166410141009864396001977208667916
def rtR (x:Nat):Nat:=pw x eQ
def I8 (x:Nat):Nat×Bool:=if Bm (rtR x) (rtR x)≠x%pM then (0,false) else if rtR x%18446744073709551616%2=1 then (C2 (rtR x),true) else (rtR x,true)
theorem Vs:fv 28948022309329048855892746252171976963317496166410141009864396001977208667916=.agg #[.int .u64 18446744072635809548,.int .u64 18446744073709551615,.int .u64 18446744073709551615,.int .u64 4611686018427387903]:=rfl
theorem Ry (n:Nat) (_:n<18446744073709551616):∃ b:Bool,b=decide (n%2=1)∧(((n:Int)%2 == 1)=b):=by
 refine ⟨_,rfl,?_⟩
 rcases (show n%2=0∨n%2=1 by omega) with h | h
 ·have:(n:Int)%2=0:=om
  rw [this,h]; rfl
 ·have:(n:Int)%2=1:=om
  rw [this,h]; rfl
theorem OO (w:World) (x:Nat) (hx:x<(2^256)):Calls Tryz.prog 271 #[fv x] w λe w'=>e=.returned (.tuple #[fv (I8 x).1,.bool (I8 x).2])∧Below w.heap.size w w':=by
 obtain ⟨p,hp⟩:∃ p,p=115792089237316195423570985008687907853269984665640564039457584007908834671663:=⟨_,rfl⟩
 obtain ⟨one,h1⟩:∃ n,n=1:=⟨_,rfl⟩
 obtain ⟨e,he⟩:=xE (115792089237316195423570985008687907853269984665640564039457584007908834671663+1)
 obtain ⟨q,hq⟩:=xE eQ
 obtain ⟨r,hr⟩:=xE (rtR x)
 obtain ⟨m,hm⟩:=xE (Bm r r)
 obtain ⟨n,hn⟩:=xE (x%pM)
 obtain ⟨g,hg⟩:=xE (C2 r)
 have lq:q<(2^256):=by rw [hq,eQ]; omega
 have lr:r<(2^256):=by rw [hr]; exact VO _ _
 have lm:m<(2^256):=by rw [hm]; exact GL _ _
 have ln:n<(2^256):=by rw [hn]; exact mod_lt x
 have cP:∀ w,Calls Tryz.prog 243 #[] w λe w'=>e=.returned (.agg mP7)∧Below w.heap.size w w':=DK
 have c1:∀ w,Calls Tryz.prog 270 #[.int .u64 1] w λe w'=>e=.returned (fv one)∧Below w.heap.size w w':=λw=>KV w one 1 (by rw [h1]; rfl) om
 have cA:∀ w,Calls Tryz.prog 284 #[fv p,fv one] w λr w'=>r=.returned (fv e)∧Below w.heap.size w w':=λw=>TR w p one e 0 J J om om om om
 have cW:∀ w,Calls Tryz.prog 285 #[.agg mP7,fv x,fv q] w λe w'=>e=.returned (fv r)∧Below w.heap.size w w':=by
  intro w; rw [hr,rtR, ← hq]; exact OZ w x q hx lq
 have cM:∀ w,Calls Tryz.prog 268 #[.agg mP7,fv r,fv r] w λe w'=>e=.returned (fv m)∧Below w.heap.size w w':=by
  intro w; rw [hm]; exact IU w r r lr lr
 have cN:∀ w,Calls Tryz.prog 240 #[.agg mP7,fv x] w λe w'=>e=.returned (fv n)∧Below w.heap.size w w':=by
  intro w; rw [hn]; exact normR_any w x hx
 have cG:∀ w,Calls Tryz.prog 273 #[.agg mP7,fv r] w λe w'=>e=.returned (fv g)∧Below w.heap.size w w':=by
  intro w; rw [hg]; exact Ku w r lr
 obtain ⟨b,hb⟩:=xE (decide (m≠n))
 have eb:∀ W,(binOp .neq 359 (fv m) (fv n)).run Tryz.prog W=.ok (.bool b) W:=λW=>by rw [hb]; exact Nm.run_neq_fv W m n lm ln
 obtain ⟨r0,r1,r2,r3,a0,a1,a2,a3,er,fr⟩:=Ah r lr
 obtain ⟨o,ho,hob⟩:=Ry r0 a0
 have hS:I8 x=if b=true then (0,false) else if o=true then (g,true) else (r,true):=by
  unfold I8
  have h0:r%18446744073709551616=r0:=om
  rw [← hr, ← hm, ← hn, ← hg,hb,ho,h0]
  by_cases h1:m=n <;> by_cases h2:r0%2=1 <;> simp [h1,h2]
 have FP:Hid (fv p=.agg #[.int .u64 18446744069414583343,.int .u64 18446744073709551615,.int .u64 18446744073709551615,.int .u64 18446744073709551615]):=Lib.hid (by rw [hp]; exact MX)
 have FE:Hid (fv e=.agg #[.int .u64 18446744069414583344,.int .u64 18446744073709551615,.int .u64 18446744073709551615,.int .u64 18446744073709551615]):=Lib.hid (by rw [he]; rfl)
 have FQ:Hid (fv q=.agg #[.int .u64 18446744072635809548,.int .u64 18446744073709551615,.int .u64 18446744073709551615,.int .u64 4611686018427387903]):=Lib.hid (by rw [hq]; exact Vs)
 have FR:=Lib.hid fr
 obtain ⟨x0,x1,x2,x3,fx⟩:=Ae x hx
 have FX:=Lib.hid fx
 rw [fx,hS]
 clear fx hx hp h1 he hq hr hm hn hg lq lr lm ln hb ho hS a0 a1 a2 a3 er fr
 go_enter Tryz.func271,Tryz.ntmps271
 go_wp2_with fail
 refine (cP _).mono ?_
 rintro z w1 ⟨rfl,k1⟩
 have BX:=Gr.blk k1 ((Blk.new w _ _).alloc _)
 have BR:=Gr.blk k1 (Ab w _ _ _)
 have hB:=Below.gr (AZ w _ _) k1
 have sz1:w.heap.size+1<w1.heap.size:=BR.lt
 clear k1 cP
 go_wp2_with ((with_reducible refine AG ?_); refine AB J _ _ _ J w1.heap.size mP7 J J _ _ (Blk.new w1 _ _) kZ (by rfl) (by simp [Value.oneCell']) ?_; intro w2 hL2 hq2 hK2; have BX2:=hK2 _ om _ _ (BX.alloc _); have BR2:=hK2 _ om _ _ (BR.alloc _); have hB2:=(hB.alloc om _).trans (hq2 _ om))
 refine AP (λj=>j == 5) kZ ?_
 try simp only [Act.put]
 refine tk 0 J ?_
 try simp only [aPS]
 refine tkw 1 J (YieldsG.loadP (by rfl) _ _ J w1.heap.size J p _ (Blk.lt hL2) (Cq hL2) FP.out AU J kZ) ?_
 try simp only [aPS]
 refine tkw 2 J (YieldsG.call (v:=fv one) (by rfl) 270 _ (λw9=>by go_simp; try rfl) (λw9 h9=>c1 w9)) ?_
 try simp only [aPS]
 refine tkw 3 J (YieldsG.call (v:=fv e) (by rfl) 284 _ (λw9=>by go_simp; try rfl) (λw9 h9=>cA w9)) ?_
 try simp only [aPS]
 refine Au 4 J kZ (by rfl) (λw4 h4 K hK=>?_)
 go_simp
 refine hK _ _ (λ_=>Bx _ _) ?_
 clear hK K
 try simp only [aPS]
 refine CE 5 J kZ (by rfl) _ _ _ J w4.heap.size (fcs e) J J _ _ (Blk.new w4 _ _) kZ (by rfl) (AM _) rfl (λw6 h6 w7 hB7 hL7=>?_)
 try simp only [Act.put]
 refine AO kZ (λw8 h8=>?_)
 have sz4:w1.heap.size<w4.heap.size:=by have:=hL2.lt; have:=h4.size; omega
 have BM8:Blk w8 w1.heap.size 366 mP7:=Gr.blk h8 (Blk.below (B:=w4.heap.size) (Gr.blk h6 (Blk.alloc (Gr.blk h4 hL2) _)) (hB7 _ (Nat.le_refl _)) om)
 have BX8:=Gr.blk h8 (Blk.below (B:=w4.heap.size) (Gr.blk h6 (Blk.alloc (Gr.blk h4 BX2) _)) (hB7 _ (Nat.le_refl _)) om)
 have BR8:=Gr.blk h8 (Blk.below (B:=w4.heap.size) (Gr.blk h6 (Blk.alloc (Gr.blk h4 BR2) _)) (hB7 _ (Nat.le_refl _)) om)
 have BE8:Blk w8 w4.heap.size 359 #[.int .u64 18446744069414583344,.int .u64 18446744073709551615,.int .u64 18446744073709551615,.int .u64 18446744073709551615]:=(Gr.blk h8 hL7).eq_ (BV FE.out)
 have hB8:Below w.heap.size w w8:=Below.gr ((Below.gr ((Below.gr hB2 h4).alloc om _) h6).trans (hB7 _ om)) h8
 clear h4 h6 hB7 hL7 h8 c1 cA hL2 BX2 BR2 hB2
 go_wp2_with fail
 go_loopw [6,7] (λrs i wr=>Below w.heap.size w wr∧Blk wr w1.heap.size 366 mP7∧Blk wr w.heap.size 359 #[.int .u64 x0,.int .u64 x1,.int .u64 x2,.int .u64 x3]∧Blk wr (w.heap.size+1) 359 #[.int .u64 0,.int .u64 0,.int .u64 0,.int .u64 0]∧Hid ((i=.int .i64 3∧rs=.int .u64 0∧Blk wr w4.heap.size 359 #[.int .u64 18446744069414583344,.int .u64 18446744073709551615,.int .u64 18446744073709551615,.int .u64 18446744073709551615])∨(i=.int .i64 2∧rs=.int .u64 3∧Blk wr w4.heap.size 359 #[.int .u64 18446744069414583344,.int .u64 18446744073709551615,.int .u64 18446744073709551615,.int .u64 4611686018427387903])∨(i=.int .i64 1∧rs=.int .u64 3∧Blk wr w4.heap.size 359 #[.int .u64 18446744069414583344,.int .u64 18446744073709551615,.int .u64 18446744073709551615,.int .u64 4611686018427387903])∨(i=.int .i64 0∧rs=.int .u64 3∧Blk wr w4.heap.size 359 #[.int .u64 18446744069414583344,.int .u64 18446744073709551615,.int .u64 18446744073709551615,.int .u64 4611686018427387903])∨(i=.int .i64 (-1)∧rs=.int .u64 0∧Blk wr w4.heap.size 359 #[.int .u64 18446744072635809548,.int .u64 18446744073709551615,.int .u64 18446744073709551615,.int .u64 4611686018427387903]))) (λ_ i _=>(intOf i+1).toNat)
 case atStart=>exact ⟨hB8,BM8,BX8,BR8,Lib.hid (.inl ⟨rfl,rfl,BE8⟩)⟩
 case round =>
  clear hB8 BM8 BX8 BR8 BE8
  obtain ⟨hb,BM,BX,BR,HI⟩:=hrel
  rcases HI.out with ⟨rfl,rfl,BE⟩ | ⟨rfl,rfl,BE⟩ | ⟨rfl,rfl,BE⟩ | ⟨rfl,rfl,BE⟩ | ⟨rfl,rfl,BE⟩
  ·clear HI
   have pe:wr.cell? ⟨w4.heap.size,3,none⟩=some (.int .u64 18446744073709551615):=BE.cell 3
   have pf:=BE.frozen 3
   go_wp2
   refine ⟨⟨hb.setCell (by show w.heap.size≤w4.heap.size; omega) _,BM.far (by show w1.heap.size≠w4.heap.size; omega) _,BX.far (by show w.heap.size≠w4.heap.size; omega) _,BR.far (by show w.heap.size+1≠w4.heap.size; omega) _,Lib.hid (.inr (.inl (⟨rfl,rfl,BE.set_ 3 _⟩)))⟩,by decide⟩
  ·clear HI
   have pe:wr.cell? ⟨w4.heap.size,2,none⟩=some (.int .u64 18446744073709551615):=BE.cell 2
   have pf:=BE.frozen 2
   go_wp2
   refine ⟨⟨hb.setCell (by show w.heap.size≤w4.heap.size; omega) _,BM.far (by show w1.heap.size≠w4.heap.size; omega) _,BX.far (by show w.heap.size≠w4.heap.size; omega) _,BR.far (by show w.heap.size+1≠w4.heap.size; omega) _,Lib.hid (.inr (.inr (.inl (⟨rfl,rfl,BE.set_ 2 _⟩))))⟩,by decide⟩
  ·clear HI
   have pe:wr.cell? ⟨w4.heap.size,1,none⟩=some (.int .u64 18446744073709551615):=BE.cell 1
   have pf:=BE.frozen 1
   go_wp2
   refine ⟨⟨hb.setCell (by show w.heap.size≤w4.heap.size; omega) _,BM.far (by show w1.heap.size≠w4.heap.size; omega) _,BX.far (by show w.heap.size≠w4.heap.size; omega) _,BR.far (by show w.heap.size+1≠w4.heap.size; omega) _,Lib.hid (.inr (.inr (.inr (.inl (⟨rfl,rfl,BE.set_ 1 _⟩)))))⟩,by decide⟩
  ·clear HI
   have pe:wr.cell? ⟨w4.heap.size,0,none⟩=some (.int .u64 18446744069414583344):=BE.cell 0
   have pf:=BE.frozen 0
   go_wp2
   refine ⟨⟨hb.setCell (by show w.heap.size≤w4.heap.size; omega) _,BM.far (by show w1.heap.size≠w4.heap.size; omega) _,BX.far (by show w.heap.size≠w4.heap.size; omega) _,BR.far (by show w.heap.size+1≠w4.heap.size; omega) _,Lib.hid (.inr (.inr (.inr (.inr (⟨rfl,rfl,BE.set_ 0 _⟩)))))⟩,by decide⟩
  ·clear HI
   have sl:=BE.lt
   go_wp2_with (first | ((with_reducible refine AF (d:=some 31) ?_); refine Al J _ _ J w1.heap.size J _ _ _ BM De J kZ ?_) | ((with_reducible refine AF (d:=some 32) ?_); refine AC J _ _ J w.heap.size rfl x _ _ _ BX FX.out AU J kZ ?_) | ((with_reducible refine AF (d:=some 33) ?_); refine AC J _ _ J w4.heap.size rfl q _ _ _ BE FQ.out AU J kZ ?_))
   refine (cW _).mono ?_
   rintro z w5 ⟨rfl,k1⟩
   have BM:=Gr.blk k1 BM
   have BX:=Gr.blk k1 BX
   have BR:=Gr.blk k1 BR
   have hb:=Below.gr hb k1
   have sz5:w4.heap.size<w5.heap.size:=Nat.lt_of_lt_of_le sl k1.size
   clear k1 cW BE
   go_wp2_with ((with_reducible refine AG ?_); refine AB J _ _ _ J w5.heap.size (fcs r) J J _ _ (Blk.new w5 _ _) kZ (by rfl) (AM _) ?_; intro w6 hL6 hq6 hK6; have BM6:=hK6 _ om _ _ (BM.alloc _); have BX6:=hK6 _ om _ _ (BX.alloc _); have BR6:=hK6 _ om _ _ (BR.alloc _); have hB6:=(hb.alloc om _).trans (hq6 _ om))
   refine AP (λ_=>false) kZ ?_
   try simp only [Act.put]
   refine tkw 0 J (YieldsG.load (by rfl) _ _ J w1.heap.size 0 J ([.int .u64 18446744069414583343,.int .u64 18446744073709551615,.int .u64 18446744073709551615,.int .u64 18446744073709551615,.int .u64 4294968273,.int .u64 0,.int .u64 0]) _ (Blk.lt BM6) (Blk.range BM6) De J kZ) ?_
   try simp only [aPS]
   refine tkw 1 J (YieldsG.loadF (by rfl) _ _ J w5.heap.size rfl r _ _ hL6 (AS _) AU J kZ) ?_
   try simp only [aPS]
   refine tkw 2 J (YieldsG.loadF (by rfl) _ _ J w5.heap.size rfl r _ _ hL6 (AS _) AU J kZ) ?_
   try simp only [aPS]
   refine tkw 3 J (YieldsG.call (v:=fv m) (by rfl) 268 _ (λw9=>by go_simp; try rfl) (λw9 h9=>cM w9)) ?_
   try simp only [aPS]
   refine tkw 4 J (YieldsG.load (by rfl) _ _ J w1.heap.size 0 J ([.int .u64 18446744069414583343,.int .u64 18446744073709551615,.int .u64 18446744073709551615,.int .u64 18446744073709551615,.int .u64 4294968273,.int .u64 0,.int .u64 0]) _ (Blk.lt BM6) (Blk.range BM6) De J kZ) ?_
   try simp only [aPS]
   refine tkw 5 J (YieldsG.loadF (by rfl) _ _ J w.heap.size rfl x _ _ BX6 FX.out AU J kZ) ?_
   try simp only [aPS]
   refine tkw 6 J (YieldsG.call (v:=fv n) (by rfl) 240 _ (λw9=>by go_simp; try rfl) (λw9 h9=>cN w9)) ?_
   try simp only [aPS]
   refine tkw 7 J (YieldsG.pure (v:=.bool b) (by rfl) (λw9 h9=>by go_simp; rw [Nm.run_eqGuard_fv]; simp only [Result.andThen_ok])) ?_
   try simp only [aPS]
   refine AO kZ (λu hu=>?_)
   have BM:=Gr.blk hu BM6
   have BR:=Gr.blk hu BR6
   have BRT:=Gr.blk hu hL6
   have hb:=Below.gr hB6 hu
   have BW:Blk u w5.heap.size 359 #[.int .u64 (r0:Int),.int .u64 (r1:Int),.int .u64 (r2:Int),.int .u64 (r3:Int)]:=BRT.eq_ (BV FR.out)
   have pc:u.cell? ⟨w5.heap.size,0,none⟩=some (.int .u64 (r0:Int)):=BW.cell 0
   clear hu BM6 BX6 BR6 hL6 hB6 BX eb cM cN BW
   cases b
   ·cases o
    ·go_wp2_with (first | ((with_reducible refine AF (d:=some 51) ?_); refine AC J _ _ J (w5.heap.size) rfl (r) _ _ _ (BRT) (AS _) AU J kZ ?_) | ((with_reducible refine AG ?_); refine AB J _ _ _ J (w.heap.size+1) (fcs (r)) J J _ _ (BR) kZ (by rfl) (AM _) ?_; intro w9 hL9 hB9 hK9))
     exact bodyPost_ret (Av J _ _ (w.heap.size+1) _ _ _ _ J hL9 J AU J kZ) rfl ⟨rfl,hb.trans (hB9 _ om)⟩
    ·go_wp2_with (first | ((with_reducible refine AF (d:=some 48) ?_); refine Al J _ _ J w1.heap.size J _ _ _ (BM) De J kZ ?_) | ((with_reducible refine AF (d:=some 49) ?_); refine AC J _ _ J (w5.heap.size) rfl (r) _ _ _ (BRT) (AS _) AU J kZ ?_))
     refine (cG _).mono ?_
     rintro z w6 ⟨rfl,k1⟩
     have BR:=Gr.blk k1 BR
     have hb:=Below.gr hb k1
     clear k1 cG
     go_wp2_with ((with_reducible refine AG ?_); refine AB J _ _ _ J (w.heap.size+1) (fcs g) J J _ _ BR kZ (by rfl) (AM _) ?_; intro w9 hL9 hB9 hK9)
     exact bodyPost_ret (Av J _ _ (w.heap.size+1) _ _ _ _ J hL9 J AU J kZ) rfl ⟨rfl,hb.trans (hB9 _ om)⟩
   ·go_wp2_with ((with_reducible refine AG ?_); refine AB J _ _ _ J (w.heap.size+1) _ J J _ _ (BR) kZ (by rfl) (by simp [Value.oneCell']) ?_; intro w9 hL9 hB9 hK9)
    exact bodyPost_ret (Av J _ _ (w.heap.size+1) _ _ _ _ J hL9 J AU J kZ) rfl ⟨rfl,hb.trans (hB9 _ om)⟩
end
end
section
section
open Go.RowKit Go.Lib
theorem My:Nt.Pr pM:=Nt.pr_p
theorem LJ:RK=eQ:=by decide +kernel
theorem S1:2*(eQ+eQ)=pM+1:=by decide +kernel
theorem Rw (x:Nat):rtR x=BK x:=by
 have h:=JA x
 rw [C8,LJ] at h
 rw [h]
 rfl
theorem Gm (x:Nat):BK x<pM:=by rw [← C8]; exact Bw _
theorem Si (r:Nat):r%18446744073709551616%2=r%2:=om
theorem Rt (x:Nat):I8 x=Br x:=by
 unfold I8 Br
 rw [Rw,Si,C8]
theorem TX {p r a:Nat} (hp:Nt.Pr p) (hle:a≤r) (hr:r<p) (h:r*r%p=a*a%p):r=a∨r+a=p:=by
 have e:(r - a)*(r+a)=r*r - a*a:=by
  obtain ⟨d,rfl⟩:∃ d,r=a+d:=⟨r - a,by omega⟩
  rw [Nat.add_sub_cancel_left]
  have h1:(a+d)*(a+d)=a*a+d*(a+d+a):=by
   simp only [Nat.mul_add,Nat.add_mul]
   have:=Nat.mul_comm a d
   omega
  rw [h1,Nat.add_sub_cancel_left]
 have hd:p ∣ (r - a)*(r+a):=by
  rw [e]
  exact Nat.dvd_of_mod_eq_zero (Nat.sub_mod_eq_zero_of_mod_eq h)
 by_cases hz:(r+a)%p=0
 ·obtain ⟨k,hk⟩:=Nat.dvd_of_mod_eq_zero hz
  rcases k with _ | _ | k
  ·left; omega
  ·right; omega
  ·have hk':r+a=p*(k+2):=hk
   have:p*2≤p*(k+2):=Nat.mul_le_mul (Nat.le_refl _) om
   omega
 ·left
  have hd2:p ∣ r - a:=(Nt.cop hp (r+a) hz).dvd_of_dvd_mul_right hd
  have:=Nat.eq_zero_of_dvd_of_lt hd2 om
  omega
theorem PX {p r a:Nat} (hp:Nt.Pr p) (hr:r<p) (ha:a<p) (h:r*r%p=a*a%p):r=a∨r+a=p:=by
 rcases Nat.le_total a r with hl | hl
 ·exact TX hp hl hr h
 ·rcases TX hp hl ha h.symm with h1 | h1
  ·exact .inl h1.symm
  ·exact .inr om
theorem SB {p a e:Nat} (hp:Nt.Pr p) (he:2*(e+e)=p+1):((a*a) ^ e%p)*((a*a) ^ e%p)%p=a*a%p:=by
 have h2:=hp.1
 rw [← Nat.mul_mod, ← Nat.pow_add, ← Nat.pow_two, ← Nat.pow_mul,he]
 have e1:a ^ (p+1)=a ^ (p - 1)*a ^ 2:=by rw [← Nat.pow_add]; congr 1; omega
 rw [e1,Nat.mul_mod]
 by_cases hz:a%p=0
 ·have:a ^ 2%p=0:=by rw [Nat.pow_two,Nat.mul_mod,hz]; simp
  rw [this]; simp
 ·rw [Nt.flt hp a hz,Nat.one_mul,Nat.mod_mod]
theorem Rv (a:Nat):Bm (BK (Bm a a)) (BK (Bm a a))=Bm a a:=by
 have h:=JA (Bm a a)
 rw [C8,LJ] at h
 rw [h]
 unfold Bm
 rw [← Nat.pow_mod]
 exact SB My S1
theorem J3 (r:Nat) (h:r<pM) (h0:r≠0):C2 r=pM - r:=by
 unfold C2
 rw [Nat.mod_eq_of_lt h]
 exact Nat.mod_eq_of_lt om
theorem Ua (r:Nat) (h:r<pM) (h0:r≠0):Bm (C2 r) (C2 r)=Bm r r:=by
 rw [J3 r h h0]
 obtain ⟨q,hq⟩:∃ q,pM=q+r:=⟨pM - r,by omega⟩
 rw [show pM - r=q by omega]
 unfold Bm
 have e:q*q+pM*r=r*r+pM*q:=by
  rw [hq,Nat.add_mul,Nat.add_mul,Nat.mul_comm r q]
  omega
 have h1:(q*q+pM*r)%pM=q*q%pM:=Nat.add_mul_mod_self_left _ _ _
 have h2:(r*r+pM*q)%pM=r*r%pM:=Nat.add_mul_mod_self_left _ _ _
 rw [← h1, ← h2,e]
theorem UK:pM%2=1:=by decide +kernel
theorem ON (x:Nat):(Br x).1%pM%2=0:=by
 unfold Br
 have hr:=Gm x
 by_cases h1:Bm (BK x) (BK x)≠x%pM
 ·rw [if_pos h1]; rw [Nat.zero_mod]
 ·rw [if_neg h1]
  by_cases h2:BK x%pM%2=1
  ·rw [if_pos h2]
   rw [C8] at h2
   have h0:BK x≠0:=om
   have e:=J3 _ hr h0
   have hp:=UK
   show C2 (BK x)%pM%2=0
   rw [e,Nat.mod_eq_of_lt (show pM - BK x<pM by omega)]
   omega
  ·rw [if_neg h2]
   show BK x%pM%2=0
   omega
theorem Jj (x:Nat):(Br x).1<(2^256):=by
 unfold Br
 by_cases h1:Bm (BK x) (BK x)≠x%pM
 ·rw [if_pos h1]; show 0<_; omega
 ·rw [if_neg h1]
  by_cases h2:BK x%pM%2=1
  ·rw [if_pos h2]; exact Sb _
  ·rw [if_neg h2]; exact Ka _
theorem PW (x:Nat) (h:(Br x).2=true):Bm (Br x).1 (Br x).1=x%pM:=by
 unfold Br at h ⊢
 by_cases h1:Bm (BK x) (BK x)≠x%pM
 ·rw [if_pos h1] at h; cases h
 ·rw [if_neg h1]
  have h1':Bm (BK x) (BK x)=x%pM:=Classical.not_not.1 h1
  by_cases h2:BK x%pM%2=1
  ·rw [if_pos h2]
   rw [C8] at h2
   show Bm (C2 (BK x)) (C2 (BK x))=_
   rw [Ua _ (Gm x) om]
   exact h1'
  ·rw [if_neg h2]; exact h1'
theorem Rs (a:Nat):∃ s,Br (Bm a a)=(s,true)∧(s=a%pM∨s=C2 a):=by
 obtain ⟨r,hr⟩:=xE (BK (Bm a a))
 have hs:=Rv a
 rw [← hr] at hs
 have hl:r<pM:=by rw [hr]; exact Gm _
 have hx:Bm a a%pM=Bm a a:=by unfold Bm; rw [Nat.mod_mod]
 obtain ⟨b,hb⟩:=xE (a%pM)
 have hbl:b<pM:=by rw [hb]; exact Bw a
 have hng:C2 a=C2 b:=by unfold C2; rw [hb,Nat.mod_mod]
 have hrr:r=b∨r+b=pM:=by
  refine PX My hl hbl ?_
  have:Bm a a=b*b%pM:=by rw [hb, ← Nat.mul_mod]; rfl
  rw [← this]; exact hs
 have p0:0<pM:=om
 have hor:(r=b∧C2 r=C2 b)∨(r=C2 b∧C2 r=b):=by
  rcases hrr with h | h
  ·left; exact ⟨h,by rw [h]⟩
  ·by_cases h0:b=0
   ·omega
   ·right
    have e1:=J3 b hbl h0
    have e2:=J3 r hl om
    exact ⟨by omega,by omega⟩
 unfold Br
 rw [← hr,hx,if_neg (by rw [hs]; exact λh=>h J),hng, ← hb]
 by_cases h2:r%pM%2=1
 ·rw [if_pos h2]
  refine ⟨_,rfl,?_⟩
  rcases hor with h | h
  ·exact .inr h.2
  ·exact .inl h.2
 ·rw [if_neg h2]
  refine ⟨_,rfl,?_⟩
  rcases hor with h | h
  ·exact .inl h.1
  ·exact .inr h.1
end
end
section
namespace Cu
open Go.RowKit Sy
theorem JJ (l:Ak) {n:Nat} (hl:l.length=n):Value.agg (((l.map bv).toArray.toList.drop 0).take n).toArray=.agg (l.map bv).toArray:=by
 rw [List.drop_zero,List.take_of_length_le (by simp; omega)]
theorem K2 (l:Ak) {n:Nat} (hl:l.length=n):0+n≤(l.map bv).toArray.size:=by simp; omega
theorem Ug (l:Ak) {n:Nat} (hl:l.length=n) (k:Nat) (hk:k<n):(l.map bv).toArray[k]? = some (bv (l.getD k 0)):=by
 have:k<l.length:=om
 simp [List.getD,this]
noncomputable def Vp:TypeInfo:=(Tryz.prog.info? 5).getD default
theorem info_u8:Tryz.prog.info? 5=some Vp:=kZ
theorem Qb (w:World) (a b:Nat) (ha:a<K4) (hb:b<K4):AL 244 #[fv a,fv b] w (Ai w (fv (Bm a b))):=by
 refine Sy.enter (args:=[fv a,fv b]) Tryz.func244 J kL<|sC<|sM 359 (fcs a) (λg0=>?_)
 refine sM 359 (fcs b) (λg1=>?_)
 refine sM 359 (fcs 0) (λg2=>?_)
 refine sH (λj=>j == 4) ?_
 refine sD 0 J (.agg EI) (qf DK)<|sD 1 J (fv a) (qk 0 0 4 J J AU)<|sD 2 J (fv b) (qk 1 0 4 J J AU) ?_
 obtain ⟨z1,hz1⟩:∃ z:Nat,z=Bm a b:=⟨_,rfl⟩
 have lz1:z1<K4:=by rw [hz1]; exact mod_lt _
 refine sD 3 J (fv z1) (qf (λw=>by rw [hz1]; exact IU w a b lK lK))<|sx 4 J 2 J (fcs z1) (wA J)<|sI<|Sy.ret ?_
 rw [show (fv (Bm a b):Value)=fv z1 from by rw [hz1]]
 exact rc (v:=fv z1) 2 J J AU
theorem Uu (w:World) (a b:Nat) (ha:a<K4) (hb:b<K4):AL 269 #[fv a,fv b] w (Ai w (fv (KH a b))):=by
 refine Sy.enter (args:=[fv a,fv b]) Tryz.func269 J kL<|sC<|sM 359 (fcs a) (λg0=>?_)
 refine sM 359 (fcs b) (λg1=>?_)
 refine sM 359 (fcs 0) (λg2=>?_)
 refine sH (λj=>j == 4) ?_
 refine sD 0 J (.agg EI) (qf DK)<|sD 1 J (fv a) (qk 0 0 4 J J AU)<|sD 2 J (fv b) (qk 1 0 4 J J AU) ?_
 obtain ⟨z1,hz1⟩:∃ z:Nat,z=KH a b:=⟨_,rfl⟩
 have lz1:z1<K4:=by rw [hz1]; exact mod_lt _
 refine sD 3 J (fv z1) (qf (λw=>by rw [hz1]; exact LZ w a b lK lK))<|sx 4 J 2 J (fcs z1) (wA J)<|sI<|Sy.ret ?_
 rw [show (fv (KH a b):Value)=fv z1 from by rw [hz1]]
 exact rc (v:=fv z1) 2 J J AU
def D4 (x:Nat):Nat:=KH (Bm x (Bm x x)) 7
theorem RV (x:Nat):D4 x<K4:=mod_lt _
theorem TB (w:World) (x:Nat) (hx:x<K4):AL 245 #[fv x] w (Ai w (fv (D4 x))):=by
 refine Sy.enter (args:=[fv x]) Tryz.func245 J kL<|sC<|sM 359 (fcs x) (λg0=>?_)
 refine sM 359 (fcs 0) (λg1=>?_)
 refine sH (λj=>j == 7) ?_
 refine sD 0 J (fv x) (qk 0 0 4 J J AU)<|sD 1 J (fv x) (qk 0 0 4 J J AU)<|sD 2 J (fv x) (qk 0 0 4 J J AU) ?_
 obtain ⟨z1,hz1⟩:∃ z:Nat,z=Bm x x:=⟨_,rfl⟩
 have lz1:z1<K4:=by rw [hz1]; exact mod_lt _
 refine sD 3 J (fv z1) (qf (λw=>by rw [hz1]; exact Qb w x x lK lK)) ?_
 obtain ⟨z2,hz2⟩:∃ z:Nat,z=Bm x z1:=⟨_,rfl⟩
 have lz2:z2<K4:=by rw [hz2]; exact mod_lt _
 refine sD 4 J (fv z2) (qf (λw=>by rw [hz2]; exact Qb w x z1 lK lK))<|sD 5 J (fv 7) (qf (λw=>Mt w 7 dZ)) ?_
 obtain ⟨z3,hz3⟩:∃ z:Nat,z=KH z2 7:=⟨_,rfl⟩
 have lz3:z3<K4:=by rw [hz3]; exact mod_lt _
 refine sD 6 J (fv z3) (qf (λw=>by rw [hz3]; exact Uu w z2 7 lK lK))<|sx 7 J 1 J (fcs z3) (wA J)<|sI<|Sy.ret ?_
 rw [show (fv (D4 x):Value)=fv z3 from by unfold D4; rw [hz3,hz2,hz1]]
 exact rc (v:=fv z3) 1 J J AU
theorem EM (u:Fp):D4 u.val=(u*u*u+7).val:=by
 have e:u*(u*u)+7=u*u*u+7:=by grobner
 rw [← e]
 rfl
def Bf (l:Ak):Bool:=decide (Ag l<pM) && (Br (D4 (Ag l))).2
theorem KT (x:Nat):(Br x).1<pM:=by
 unfold Br
 split
 ·exact Nat.pos_of_ne_zero (by decide +kernel)
 ·split
  ·exact Bw _
  ·show BK x<pM
   rw [← C8]; exact Bw _
def Ar (l:Ak):Pt:=if h:Bf l=true then some (⟨Ag l,by unfold Bf at h; simp at h; exact h.1⟩,⟨(Br (D4 (Ag l))).1,KT _⟩) else none
theorem FB {l:Ak} (h:Bf l=false):Ar l=none:=by unfold Ar; rw [dif_neg (by simp [h])]
theorem GN {l:Ak} (h:Bf l=true):∃ u y:Fp,u.val=Ag l∧y.val=(Br (D4 (Ag l))).1∧Ar l=some (u,y)∧y*y=u*u*u+7∧y.val%2=0:=by
 refine ⟨_,_,rfl,rfl,by unfold Ar; rw [dif_pos h],?_,?_⟩
 ·have h2:(Br (D4 (Ag l))).2=true:=by unfold Bf at h; simp at h; exact h.2
  have hm:=PW _ h2
  refine Fin.ext ?_
  have hv:Ag l<pM:=by unfold Bf at h; simp at h; exact h.1
  have e:=EM ⟨Ag l,hv⟩
  show Bm (Br (D4 (Ag l))).1 (Br (D4 (Ag l))).1=_
  rw [hm, ← e]
  exact Nat.mod_eq_of_lt (Bw _)
 ·have:=ON (D4 (Ag l))
  rw [Nat.mod_eq_of_lt (KT _)] at this
  exact this
theorem Pq {l:Ak} {u:Fp} (h:u.val=Ag l):readS l=(u.val,true):=by
 unfold readS
 rw [if_pos (by rw [← h]; exact u.isLt),h]
theorem Rz {l:Ak} (h:¬ Ag l<pM):readS l=(0,false):=by unfold readS; rw [if_neg h]
theorem Sk (w:World) (l:Ak) (hl:l.length=32) (u:Fp) (hu:u.val=Ag l):AL 230 #[.agg (l.map bv).toArray] w (Ai w (.tuple #[ptv (Ar l),.bool (Bf l)])):=by
 have cR:∀ w,AL 252 #[.agg (l.map bv).toArray] w (Ai w (.tuple #[fv u.val,.bool true])):=λw=>by
  have h:=read_any w l hl
  rw [Pq hu] at h
  exact h
 refine Sy.enter (args:=[.agg (l.map bv).toArray]) Tryz.func230 J kL<|sC<|sM 210 (l.map bv).toArray (λg0=>?_)
 refine sM 57 (pcs 0 0 false) (λg1=>?_)
 refine sP (.bool false)<|sA<|sS (.agg (l.map bv).toArray) (qx 0 0 32 J J FV (JJ l hl) (K2 l hl))<|sS (.tuple #[fv u.val,.bool true]) (qf cR)<|sP (.tuple #[fv u.val,.bool true])<|sP (fv u.val)<|sP (.bool true)<|sM 55 (fcs 0) (λg2=>?_)
 refine sw 2 J (fcs u.val) (wA J)<|sP (.bool true)<|sA<|sS (fv u.val) (qk 2 0 4 J J Af) ?_
 obtain ⟨z1,hz1⟩:∃ z:Fp,z=u*u*u+7:=⟨_,rfl⟩
 refine sS (fv z1.val) (qf (by rw [hz1]; exact λw=>H5 w u)) ?_
 obtain ⟨r1,hr1⟩:∃ z:Nat,z=(Br z1.val).1:=⟨_,rfl⟩
 obtain ⟨k1,hk1⟩:=xE ((Br z1.val).2)
 have lr1:r1<K4:=by rw [hr1]; exact Jj _
 refine sS (.tuple #[fv r1,.bool k1]) (qf (λw=>by rw [hr1,hk1]; exact KU w z1.val lK))<|sP (.tuple #[fv r1,.bool k1])<|sP (fv r1)<|sP (.bool k1)<|sM 55 (fcs 0) (λg3=>?_)
 refine sw 3 J (fcs r1) (wA J)<|sP (.bool k1)<|sG<|Sy.seq<|sC<|sP (.bool true)<|sP (.bool false)<|sP (.bool false)<|sP (.bool k1) ?_
 cases k1
 ·refine sP (.bool true)<|sP (.bool true) ?_
  refine sG<|sT<|sC<|sS (pv 0 0 true) (qf zero_c)<|sw 1 J (pcs 0 0 true) (wA J)<|sP (.bool false)<|sG<|Sy.ret<|Sy.then_ret ?_
  rw [show (.tuple #[ptv (Ar l),.bool (Bf l)]:Value)=.tuple #[pv 0 0 true,.bool false] from by
   have hb:Bf l=false:=by unfold Bf; rw [← hu,EM, ← hz1, ← hk1]; simp
   rw [hb,FB hb]; rfl]
  exact Sy.ret2 (v:=pv 0 0 true) (u:=.bool false) rfl (.inl (Res.cell (ty':=57) g1 1 (pcs 0 0 true) _ kR kR Am J kR kR)) (.inl (show _=_ by kernel_rfl))
 ·refine sP (.bool false)<|sP (.bool false) ?_
  refine sG<|sU<|Sy.skip<|sB<|sS (fv u.val) (qk 2 0 4 J J Af)<|sS (fv r1) (qk 3 0 4 J J Af)<|sP (pv u.val r1 false)<|sw 1 J (pcs u.val r1 false) (wA J)<|sP (.bool true)<|sG<|Sy.ret ?_
  rw [show (.tuple #[ptv (Ar l),.bool (Bf l)]:Value)=.tuple #[pv u.val r1 false,.bool true] from by
   have hb:Bf l=true:=by unfold Bf; rw [← hu,EM, ← hz1, ← hk1]; simp [u.isLt]
   obtain ⟨u2,y2,e1,e2,e3,_,_⟩:=GN hb
   rw [hb,e3]
   unfold ptv
   simp only
   rw [e1,e2, ← hu,EM, ← hz1, ← hr1]]
  exact Sy.ret2 (v:=pv u.val r1 false) (u:=.bool true) rfl (.inl (Res.cell (ty':=57) g1 1 (pcs u.val r1 false) _ kR kR Am J kR kR)) (.inl (show _=_ by kernel_rfl))
theorem Ql (w:World) (l:Ak) (hl:l.length=32) (hu:¬ Ag l<pM):AL 230 #[.agg (l.map bv).toArray] w (Ai w (.tuple #[ptv (Ar l),.bool (Bf l)])):=by
 have cR:∀ w,AL 252 #[.agg (l.map bv).toArray] w (Ai w (.tuple #[fv (0:Fp).val,.bool false])):=λw=>by
  have h:=read_any w l hl
  rw [Rz hu] at h
  exact h
 refine Sy.enter (args:=[.agg (l.map bv).toArray]) Tryz.func230 J kL<|sC<|sM 210 (l.map bv).toArray (λg0=>?_)
 refine sM 57 (pcs 0 0 false) (λg1=>?_)
 refine sP (.bool false)<|sA<|sS (.agg (l.map bv).toArray) (qx 0 0 32 J J FV (JJ l hl) (K2 l hl))<|sS (.tuple #[fv ((0:Fp).val),.bool false]) (qf cR)<|sP (.tuple #[fv ((0:Fp).val),.bool false])<|sP (fv ((0:Fp).val))<|sP (.bool false)<|sM 55 (fcs 0) (λg2=>?_)
 refine sw 2 J (fcs ((0:Fp).val)) (wA J)<|sP (.bool false)<|sA<|sS (fv ((0:Fp).val)) (qk 2 0 4 J J Af) ?_
 obtain ⟨z1,hz1⟩:∃ z:Fp,z=(0:Fp)*(0:Fp)*(0:Fp)+7:=⟨_,rfl⟩
 refine sS (fv z1.val) (qf (by rw [hz1]; exact λw=>H5 w (0:Fp))) ?_
 obtain ⟨r1,hr1⟩:∃ z:Nat,z=(Br z1.val).1:=⟨_,rfl⟩
 obtain ⟨k1,hk1⟩:=xE ((Br z1.val).2)
 have lr1:r1<K4:=by rw [hr1]; exact Jj _
 refine sS (.tuple #[fv r1,.bool k1]) (qf (λw=>by rw [hr1,hk1]; exact KU w z1.val lK))<|sP (.tuple #[fv r1,.bool k1])<|sP (fv r1)<|sP (.bool k1)<|sM 55 (fcs 0) (λg3=>?_)
 refine sw 3 J (fcs r1) (wA J)<|sP (.bool k1)<|sG<|Sy.seq<|sC<|sP (.bool false)<|sP (.bool true)<|sP (.bool true)<|sN<|sN<|sP (.bool true)<|sG<|sT<|sC<|sS (pv 0 0 true) (qf zero_c)<|sw 1 J (pcs 0 0 true) (wA J)<|sP (.bool false)<|sG<|Sy.ret<|Sy.then_ret ?_
 rw [show (.tuple #[ptv (Ar l),.bool (Bf l)]:Value)=.tuple #[pv 0 0 true,.bool false] from by
   have hb:Bf l=false:=by unfold Bf; simp [hu]
   rw [hb,FB hb]; rfl]
 exact Sy.ret2 (v:=pv 0 0 true) (u:=.bool false) rfl (.inl (Res.cell (ty':=57) g1 1 (pcs 0 0 true) _ kR kR Am J kR kR)) (.inl (show _=_ by kernel_rfl))
theorem Qm (w:World) (l:Ak) (hl:l.length=32):Calls Tryz.prog 230 #[.agg (l.map bv).toArray] w (Ai w (.tuple #[ptv (Ar l),.bool (Bf l)])):=by
 by_cases h:Ag l<pM
 ·exact Sk w l hl ⟨Ag l,h⟩ rfl
 ·exact Ql w l hl h
end Cu
end
end Go.Proofs.YtdbcombmmnihbaaGreat
