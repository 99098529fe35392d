/-
  Texts of ours, put together: FoldZ, RefFold, RefAdd, MulZ, RefMul, PowZ, RefPow, NumB, FeOwn, RefBytes, CrvC, CurveAlive, FeB32, FeRead, RefSqrt, RootNum, CrvD.
-/
import Derived.Test.YtnbenphcpenbeaaGreatWC2
set_option linter.unusedVariables false
set_option linter.unusedSimpArgs false
namespace Go.Proofs.YtnbenphcpenbeaaGreat
section
namespace Fz
open Go.RowKit Go.Lib Sy
theorem or_zero {y:Nat→Nat} (h:¬ (((y 4 ||| y 5) ||| y 6) ||| y 7>0)):y 4=0∧y 5=0∧y 6=0∧y 7=0:=by
 have h0:((y 4 ||| y 5) ||| y 6) ||| y 7=0:=by omega
 rw [Nat.or_eq_zero_iff,Nat.or_eq_zero_iff,Nat.or_eq_zero_iff] at h0
 exact ⟨h0.1.1.1,h0.1.1.2,h0.1.2,h0.2⟩
theorem vR_hi (y:Nat→Nat):vR (λt=>y (4+t)) 4=0+y 4*1+y 5*18446744073709551616+y 6*340282366920938463463374607431768211456+y 7*6277101735386680763835789423207666416102355444464034512896:=rfl
theorem vR_lowN {y:Nat→Nat} (n k:Nat) (hn:n=k+k) (e:vR (λt=>y (k+t)) k=0):vR y n=vR y k:=by
 subst hn
 have s:=vR_split y k k
 rw [e,Nat.zero_mul,Nat.add_zero] at s
 exact s
theorem vR_low {y:Nat→Nat} (h:y 4=0∧y 5=0∧y 6=0∧y 7=0):vR y 8=vR y 4:=vR_lowN 8 4 rfl (by
 rw [vR_hi]
 obtain ⟨h1,h2,h3,h4⟩:=h
 omega)
theorem outerZ {M:Nat} {lw y z:Nat→Nat} (_:∀ t,lw t<18446744073709551616) (hM0:0<M) (hM:M+vR lw 3=18446744073709551616 ^ 4) (_:∀ t,y t<18446744073709551616) (h:vR z 8=vR y 4+vR (λt=>y (4+t)) 4*vR lw 3) (ho:((y 4 ||| y 5) ||| y 6) ||| y 7>0):vR z 8%M=vR y 8%M∧vR z 8<vR y 8:=by
 have e:vR y 8=vR z 8+vR (λt=>y (4+t)) 4*M:=by
  rw [show (8:Nat)=4+4 from rfl,vR_split y, ← hM,show (4+4:Nat)=8 from rfl,h,Nat.mul_add]
  omega
 have hp:0<vR (λt=>y (4+t)) 4:=by
  rw [vR_hi]
  rcases Nat.eq_zero_or_pos (y 4) with h4 | h4
  ·rcases Nat.eq_zero_or_pos (y 5) with h5 | h5
   ·rcases Nat.eq_zero_or_pos (y 6) with h6 | h6
    ·rcases Nat.eq_zero_or_pos (y 7) with h7 | h7
     ·rw [h4,h5,h6,h7] at ho
      exact absurd ho (by decide)
     ·omega
    ·omega
   ·omega
  ·omega
 have hpos:0<vR (λt=>y (4+t)) 4*M:=Nat.mul_pos hp hM0
 refine ⟨?_,by omega⟩
 rw [e,Nat.add_mul_mod_self_right]
theorem endZ {lw y y3 z:Nat→Nat} {c i n:Nat} (hlw:∀ t,lw t<18446744073709551616) (hy:∀ t,y t<18446744073709551616) (h3:vR y3 8=vR y 4+vR (λt=>y (4+t)) i*vR lw 3) (hz:∀ t,z t<18446744073709551616) (h:vR z 8+c*18446744073709551616 ^ n=vR y3 8+y (4+i)*vR lw 3*18446744073709551616 ^ i) (hi:i<4) (hc:c=0∨n=8) :
  vR z 8=vR y 4+vR (λt=>y (4+t)) (i+1)*vR lw 3:=by
 have e:vR y3 8+y (4+i)*vR lw 3*18446744073709551616 ^ i=vR y 4+vR (λt=>y (4+t)) (i+1)*vR lw 3:=by
  show _=_+(vR (λt=>y (4+t)) i+y (4+i)*_)*_
  rw [h3]
  grind
 rw [e] at h
 rcases hc with rfl | rfl
 ·rw [Nat.zero_mul,Nat.add_zero] at h
  exact h
 ·have h1:=vR_lt hy 4
  have h2:=vR_lt (R:=λt=>y (4+t)) (λt=>hy _) (i+1)
  have h4:=vR_lt hlw 3
  have h5:18446744073709551616 ^ (i+1)≤18446744073709551616 ^ 4:=Nat.pow_le_pow_right (by decide) (by omega)
  have h6:vR (λt=>y (4+t)) (i+1)*vR lw 3≤18446744073709551616 ^ 4*18446744073709551616 ^ 3:=Nat.mul_le_mul (by omega) (by omega)
  have h7:(18446744073709551616 ^ 4+18446744073709551616 ^ 4*18446744073709551616 ^ 3:Nat)<18446744073709551616 ^ 8:=by decide
  rcases Nat.eq_zero_or_pos c with rfl | hp
  ·rw [Nat.zero_mul,Nat.add_zero] at h
   exact h
  ·have h8:1*18446744073709551616 ^ 8≤c*18446744073709551616 ^ 8:=Nat.mul_le_mul_right _ hp
   omega
set_option maxHeartbeats 4000000 in
set_option maxRecDepth 100000 in
theorem foldZ (w:World) (M:Nat) (lw:Nat→Nat) (hlw:∀ t,lw t<18446744073709551616) (hM0:0<M) (hM:M+vR lw 3=18446744073709551616 ^ 4) (hnorm:∀ w x,x<(2^256)→Calls Tryz.prog 246 #[.agg (modc M lw),fv x] w (Gets w (fv (x%M)))) (R:Nat→Nat) (hR:∀ t,R t<18446744073709551616):Calls Tryz.prog 288 #[.agg (modc M lw),.agg (rw8 R)] w (Gets w (fv (vR R 8%M))):=by
 obtain ⟨V,hV⟩:∃ V,V=vR R 8%M:=⟨_,rfl⟩
 obtain ⟨V0,hV0⟩:∃ V,V=vR R 8:=⟨_,rfl⟩
 rw [← hV]
 refine Sy.enter (args:=[.agg (modc M lw),.agg (rw8 R)]) Tryz.func288 rfl kL ?_
 refine sC ?_
 refine sM 370 (modc M lw) (λg0=>?_)
 refine Sy.make kR 433 (rw8 R) ptr kF (λg1=>?_)
 refine sM 363 (fcs 0) (λg2=>?_)
 refine sG<|Sy.seq<|Sy.block ?_
 refine Sy.loopX (T:=Nat→Nat) V0 (λk1 y1=>[(2,.pointer (some ⟨g0,0,none⟩)),(3,.pointer (some ⟨g1,0,none⟩)),(4,.pointer (some ⟨g2,0,none⟩))]) (λk1 y1=>[(g0,370,(modc M lw)),(g1,433,(rw8 y1)),(g2,363,(fcs 0))]) (λk1 y1=>(∀ t,y1 t<18446744073709551616)∧vR y1 8%M=V∧vR y1 8+k1≤V0) R [true,true,true] (⟨hR,hV.symm,by show vR R 8+0≤V0; omega⟩) (all_cons kR (all_cons kR (all_cons kR all_nil))) kR (λk1 y1 hk1 hh1=>?_)
 refine Sy.seq<|sC ?_
 refine sP (.pointer (some ⟨g1,4,none⟩))<|sS (.int .u64 ((y1 4:Nat):Int)) (Quiet.cell 1 g1 4 433 22 (rw8 y1) _ _ rfl kR kR Tryz.underlying22 rfl _ kR)<|sP (.pointer (some ⟨g1,5,none⟩))<|sS (.int .u64 ((y1 5:Nat):Int)) (Quiet.cell 1 g1 5 433 22 (rw8 y1) _ _ rfl kR kR Tryz.underlying22 rfl _ kR)<|sS (.int .u64 (((y1 4) ||| (y1 5):Nat):Int)) (Quiet.pure (exec_int .or _ _ _ .u64 _ _ _ rfl rfl rfl (int_or _ _ _ _ _ (or_nat _ _ (hh1.1 _) (hh1.1 _)))))<|sP (.pointer (some ⟨g1,6,none⟩))<|sS (.int .u64 ((y1 6:Nat):Int)) (Quiet.cell 1 g1 6 433 22 (rw8 y1) _ _ rfl kR kR Tryz.underlying22 rfl _ kR)<|sS (.int .u64 ((((y1 4) ||| (y1 5)) ||| (y1 6):Nat):Int)) (Quiet.pure (exec_int .or _ _ _ .u64 _ _ _ rfl rfl rfl (int_or _ _ _ _ _ (or_nat _ _ (Nat.or_lt_two_pow (n:=64) (hh1.1 _) (hh1.1 _)) (hh1.1 _))))) ?_
 refine sP (.pointer (some ⟨g1,7,none⟩))<|sS (.int .u64 ((y1 7:Nat):Int)) (Quiet.cell 1 g1 7 433 22 (rw8 y1) _ _ rfl kR kR Tryz.underlying22 rfl _ kR)<|sS (.int .u64 (((((y1 4) ||| (y1 5)) ||| (y1 6)) ||| (y1 7):Nat):Int)) (Quiet.pure (exec_int .or _ _ _ .u64 _ _ _ rfl rfl rfl (int_or _ _ _ _ _ (or_nat _ _ (Nat.or_lt_two_pow (n:=64) (Nat.or_lt_two_pow (n:=64) (hh1.1 _) (hh1.1 _)) (hh1.1 _)) (hh1.1 _))))) ?_
 obtain ⟨b1,hb1⟩:∃ z:Bool,z=decide ((((y1 4) ||| (y1 5)) ||| (y1 6)) ||| (y1 7)>0):=⟨_,rfl⟩
 refine sS (.bool b1) (Quiet.pure (exec_int .gtr _ _ _ .u64 _ _ _ rfl rfl rfl (int_gtr _ _ _ _ _ (by rw [hb1]; exact decide_eq_decide.2 (by omega))))) ?_
 refine sG ?_
 cases b1
 ·have lb1:¬ ((((y1 4) ||| (y1 5)) ||| (y1 6)) ||| (y1 7)>0):=of_decide_eq_false hb1.symm
  refine sU<|Sy.exit<|Sy.then_exit<|Sy.then_exit ?_
  have hz:=or_zero lb1
  have hlow:=vR_low hz
  refine Sy.in_exit<|sB ?_
  refine sS (.agg (modc M lw)) (qL 0 g0 0 7 370 370 (modc M lw) rfl Tryz.underlying370)<|sP (.pointer (some ⟨g1,0,none⟩))<|sS (.int .u64 ((y1 0:Nat):Int)) (Quiet.cell 1 g1 0 433 22 (rw8 y1) _ _ rfl kR kR Tryz.underlying22 rfl _ kR)<|sP (.pointer (some ⟨g1,1,none⟩))<|sS (.int .u64 ((y1 1:Nat):Int)) (Quiet.cell 1 g1 1 433 22 (rw8 y1) _ _ rfl kR kR Tryz.underlying22 rfl _ kR)<|sP (.pointer (some ⟨g1,2,none⟩))<|sS (.int .u64 ((y1 2:Nat):Int)) (Quiet.cell 1 g1 2 433 22 (rw8 y1) _ _ rfl kR kR Tryz.underlying22 rfl _ kR)<|sP (.pointer (some ⟨g1,3,none⟩)) ?_
  refine sS (.int .u64 ((y1 3:Nat):Int)) (Quiet.cell 1 g1 3 433 22 (rw8 y1) _ _ rfl kR kR Tryz.underlying22 rfl _ kR)<|sS (fv (vR y1 4)) (Quiet.pure (λw=>by rw [← row_fv hh1.1]; kernel_rfl))<|sS (fv ((vR y1 4)%M)) (qF 246 #[.agg (modc M lw),fv (vR y1 4)] (λw=>hnorm w _ (vR_lt hh1.1 4)))<|sW 2 g2 363 (fcs 0) (fcs ((vR y1 4)%M)) (wS 0 363 (fcs ((vR y1 4)%M)) rfl) ?_
  refine sG<|Sy.ret ?_
  rw [show (fv V:Value)=fv ((vR y1 4)%M) from by rw [← hh1.2.1,hlow]]
  exact rC (v:=fv ((vR y1 4)%M)) 363 g2 2 (fcs ((vR y1 4)%M)) rfl Tryz.underlying363
 ·have lb1:(((y1 4) ||| (y1 5)) ||| (y1 6)) ||| (y1 7)>0:=of_decide_eq_true hb1.symm
  refine sT<|Sy.skip<|Sy.then_<|Sy.block<|sC ?_
  refine Sy.make kR 433 (rw8 (λ_=>0)) ptr kF (λg3=>?_)
  refine sG<|Sy.seq<|sC ?_
  refine sP (.int .i64 0) ?_
  refine sG<|Sy.block ?_
  refine Sy.loopK 4 (λk2=>[(2,.pointer (some ⟨g0,0,none⟩)),(3,.pointer (some ⟨g1,0,none⟩)),(4,.pointer (some ⟨g2,0,none⟩)),(5,.pointer (some ⟨g3,0,none⟩)),(6,.int .i64 ((k2:Nat):Int))]) (λk2=>[(g0,370,(modc M lw)),(g1,433,(rw8 y1)),(g2,363,(fcs 0)),(g3,433,(rw8 (cpy y1 k2)))]) [true,true,true,true] (M:=[(g0,370,(modc M lw)),(g1,433,(rw8 y1)),(g2,363,(fcs 0)),(g3,433,(rw8 (λ_=>0)))]) (all_cons kR (all_cons kR (all_cons kR (all_cons kR (all_cons kR all_nil))))) kR (bcons rfl (bcons rfl (bcons rfl (bcons (beq kR) rfl)))) (λk2 hk2=>?_)
  refine Sy.seq<|sC ?_
  refine sP (.int .i64 ((k2:Nat):Int)) ?_
  obtain ⟨b2,hb2⟩:∃ z:Bool,z=decide (k2<4):=⟨_,rfl⟩
  refine sS (.bool b2) (Quiet.pure (exec_int .lss _ _ _ .i64 _ _ _ rfl rfl rfl (int_lss _ _ _ _ _ (by rw [hb2]; exact decide_eq_decide.2 (by omega))))) ?_
  refine sG ?_
  cases b2
  ·have lb2:¬ (k2<4):=of_decide_eq_false hb2.symm
   refine sU<|Sy.exit<|Sy.then_exit<|Sy.then_exit ?_
   obtain rfl:k2=4:=by omega
   refine Sy.in_exit<|Sy.then_<|Sy.seq<|sC ?_
   refine sP (.int .i64 0) ?_
   refine sG<|Sy.block ?_
   refine Sy.loopX (T:=Nat→Nat) 4 (λk3 y3=>[(2,.pointer (some ⟨g0,0,none⟩)),(3,.pointer (some ⟨g1,0,none⟩)),(4,.pointer (some ⟨g2,0,none⟩)),(5,.pointer (some ⟨g3,0,none⟩)),(7,.int .i64 ((k3:Nat):Int))]) (λk3 y3=>[(g0,370,(modc M lw)),(g1,433,(rw8 y1)),(g2,363,(fcs 0)),(g3,433,(rw8 y3))]) (λk3 y3=>(∀ t,y3 t<18446744073709551616)∧vR y3 8=vR y1 4+vR (λt=>y1 (4+t)) k3*vR lw 3) (cpy y1 4) [true,true,true,true] (⟨cpy_lt hh1.1 4,(vR_cpy y1).trans (by show _=_+0*_; rw [Nat.zero_mul,Nat.add_zero])⟩) (all_cons kR (all_cons kR (all_cons kR (all_cons kR (all_cons kR all_nil))))) kR (λk3 y3 hk3 hh3=>?_)
   refine Sy.seq<|sC ?_
   refine sP (.int .i64 ((k3:Nat):Int)) ?_
   obtain ⟨b3,hb3⟩:∃ z:Bool,z=decide (k3<4):=⟨_,rfl⟩
   refine sS (.bool b3) (Quiet.pure (exec_int .lss _ _ _ .i64 _ _ _ rfl rfl rfl (int_lss _ _ _ _ _ (by rw [hb3]; exact decide_eq_decide.2 (by omega))))) ?_
   refine sG ?_
   cases b3
   ·have lb3:¬ (k3<4):=of_decide_eq_false hb3.symm
    refine sU<|Sy.exit<|Sy.then_exit<|Sy.then_exit ?_
    obtain rfl:k3=4:=by omega
    refine Sy.in_exit<|Sy.then_<|Sy.region ?_
    refine sS (.agg (rw8 y3)) (Quiet.load 3 g3 0 8 433 433 (rw8 y3) _ _ rfl kR kR Tryz.underlying433 rfl kR _ kR kL) ?_
    refine Sy.write kR 1 g1 433 (rw8 y1) (rw8 y3) kR (Writes.store 0 433 (rw8 y3) _ _ rfl kR kR kR kL kR kR) ?_
    refine Sy.nil<|Sy.in_ ?_
    have hf:=outerZ hlw hM0 hM hh1.1 hh3.2 lb1
    obtain ⟨hf1,hf2⟩:=hf
    exact Sy.againX (y3) [true,true,true,false] (by have:=hh1.2.2; omega) (⟨hh3.1,hf1.trans hh1.2.1,by have:=hh1.2.2; omega⟩) (all_cons kR (all_cons kR (all_cons kR all_nil))) kR
   ·have lb3:k3<4:=of_decide_eq_true hb3.symm
    refine sT<|Sy.skip<|Sy.then_<|Sy.seq<|Sy.block<|sC ?_
    refine sP (.int .u64 0) ?_
    refine sG<|Sy.seq<|sC ?_
    refine sP (.int .i64 0) ?_
    refine sG<|Sy.block ?_
    refine Sy.loopX (T:=(Nat→Nat)×Nat) 3 (λk4 y4=>[(2,.pointer (some ⟨g0,0,none⟩)),(3,.pointer (some ⟨g1,0,none⟩)),(4,.pointer (some ⟨g2,0,none⟩)),(5,.pointer (some ⟨g3,0,none⟩)),(7,.int .i64 ((k3:Nat):Int)),(8,.int .u64 ((y4.2:Nat):Int)),(9,.int .i64 ((k4:Nat):Int))]) (λk4 y4=>[(g0,370,(modc M lw)),(g1,433,(rw8 y1)),(g2,363,(fcs 0)),(g3,433,(rw8 y4.1))]) (λk4 y4=>(∀ t,y4.1 t<18446744073709551616)∧y4.2<18446744073709551616∧vR y4.1 8+y4.2*18446744073709551616 ^ (k3+k4)=vR y3 8+y1 (4+k3)*vR lw k4*18446744073709551616 ^ k3) (y3,0) [true,true,true,true] (⟨hh3.1,by show (0:Nat)<18446744073709551616; decide,by show vR y3 8+0*_=_+_*0*_; omega⟩) (all_cons kR (all_cons kR (all_cons kR (all_cons kR (all_cons kR (all_cons kR (all_cons kR all_nil))))))) kR (λk4 y4 hk4 hh4=>?_)
    refine Sy.seq<|sC ?_
    refine sP (.int .i64 ((k4:Nat):Int)) ?_
    obtain ⟨b4,hb4⟩:∃ z:Bool,z=decide (k4<3):=⟨_,rfl⟩
    refine sS (.bool b4) (Quiet.pure (exec_int .lss _ _ _ .i64 _ _ _ rfl rfl rfl (int_lss _ _ _ _ _ (by rw [hb4]; exact decide_eq_decide.2 (by omega))))) ?_
    refine sG ?_
    cases b4
    ·have lb4:¬ (k4<3):=of_decide_eq_false hb4.symm
     refine sU<|Sy.exit<|Sy.then_exit<|Sy.then_exit ?_
     obtain rfl:k4=3:=by omega
     refine Sy.in_exit<|sB ?_
     refine sP (.int .i64 ((k3:Nat):Int))<|sS (.int .i64 ((k3+3:Nat):Int)) (Quiet.pure (exec_int .add _ _ _ .i64 _ _ _ rfl rfl rfl (int_add _ _ _ _ _ ((wrap_i64 (by omega) (by omega)).trans (by omega)))))<|sP (.int .i64 ((k3+3:Nat):Int)) ?_
     refine sG<|Sy.block ?_
     refine Sy.loopX (T:=(Nat→Nat)×Nat) (5 - k3) (λk5 y5=>[(2,.pointer (some ⟨g0,0,none⟩)),(3,.pointer (some ⟨g1,0,none⟩)),(4,.pointer (some ⟨g2,0,none⟩)),(5,.pointer (some ⟨g3,0,none⟩)),(7,.int .i64 ((k3:Nat):Int)),(8,.int .u64 ((y5.2:Nat):Int)),(16,.int .i64 ((k3+3+k5:Nat):Int))]) (λk5 y5=>[(g0,370,(modc M lw)),(g1,433,(rw8 y1)),(g2,363,(fcs 0)),(g3,433,(rw8 y5.1))]) (λk5 y5=>(∀ t,y5.1 t<18446744073709551616)∧y5.2<18446744073709551616∧vR y5.1 8+y5.2*18446744073709551616 ^ (k3+3+k5)=vR y3 8+y1 (4+k3)*vR lw 3*18446744073709551616 ^ k3) y4 [true,true,true,true] (⟨hh4.1,hh4.2.1,hh4.2.2⟩) (all_cons kR (all_cons kR (all_cons kR (all_cons kR (all_cons kR (all_cons kR (all_cons kR all_nil))))))) kR (λk5 y5 hk5 hh5=>?_)
     refine Sy.seq<|sC ?_
     refine sP (.int .i64 ((k3+3+k5:Nat):Int)) ?_
     obtain ⟨b5,hb5⟩:∃ z:Bool,z=decide (k3+3+k5<8):=⟨_,rfl⟩
     refine sS (.bool b5) (Quiet.pure (exec_int .lss _ _ _ .i64 _ _ _ rfl rfl rfl (int_lss _ _ _ _ _ (by rw [hb5]; exact decide_eq_decide.2 (by omega)))))<|sP (.bool b5) ?_
     cases b5
     ·have lb5:¬ (k3+3+k5<8):=of_decide_eq_false hb5.symm
      refine sN<|sN ?_
      refine sP (.bool false) ?_
      refine sG<|sU<|Sy.exit<|Sy.then_exit<|Sy.then_exit ?_
      have hfin:=endZ hlw hh1.1 hh3.2 hh5.1 hh5.2.2 (by omega) (by first | (left; omega) | (right; omega))
      refine Sy.in_exit<|Sy.in_<|Sy.then_<|Sy.region ?_
      refine sP (.int .i64 ((k3:Nat):Int))<|sS (.int .i64 ((k3+1:Nat):Int)) (Quiet.pure (exec_int .add _ _ _ .i64 _ _ _ rfl rfl rfl (int_add _ _ _ _ _ ((wrap_i64 (by omega) (by omega)).trans (by omega)))))<|sP (.int .i64 ((k3+1:Nat):Int)) ?_
      refine Sy.nil ?_
      have hq:=hfin
      exact Sy.againX (y5.1) [true,true,true,true] (by omega) (⟨hh5.1,hq⟩) (all_cons kR (all_cons kR (all_cons kR (all_cons kR (all_cons kR all_nil))))) kR
     ·have lb5:k3+3+k5<8:=of_decide_eq_true hb5.symm
      refine sP (.int .u64 ((y5.2:Nat):Int)) ?_
      obtain ⟨b6,hb6⟩:∃ z:Bool,z=decide (y5.2>0):=⟨_,rfl⟩
      refine sS (.bool b6) (Quiet.pure (exec_int .gtr _ _ _ .u64 _ _ _ rfl rfl rfl (int_gtr _ _ _ _ _ (by rw [hb6]; exact decide_eq_decide.2 (by omega)))))<|sP (.bool b6) ?_
      refine sG ?_
      cases b6
      ·have lb6:¬ (y5.2>0):=of_decide_eq_false hb6.symm
       refine sU<|Sy.exit<|Sy.then_exit<|Sy.then_exit ?_
       have hfin:=endZ hlw hh1.1 hh3.2 hh5.1 hh5.2.2 (by omega) (by first | (left; omega) | (right; omega))
       refine Sy.in_exit<|Sy.in_<|Sy.then_<|Sy.region ?_
       refine sP (.int .i64 ((k3:Nat):Int))<|sS (.int .i64 ((k3+1:Nat):Int)) (Quiet.pure (exec_int .add _ _ _ .i64 _ _ _ rfl rfl rfl (int_add _ _ _ _ _ ((wrap_i64 (by omega) (by omega)).trans (by omega)))))<|sP (.int .i64 ((k3+1:Nat):Int)) ?_
       refine Sy.nil ?_
       have hq:=hfin
       exact Sy.againX (y5.1) [true,true,true,true] (by omega) (⟨hh5.1,hq⟩) (all_cons kR (all_cons kR (all_cons kR (all_cons kR (all_cons kR all_nil))))) kR
      ·have lb6:y5.2>0:=of_decide_eq_true hb6.symm
       refine sT<|Sy.skip<|Sy.then_<|Sy.seq<|Sy.block<|sC ?_
       refine sP (.int .i64 ((k3+3+k5:Nat):Int))<|sS (.pointer (some ⟨g3,0+(k3+3+k5)*1,none⟩)) (Quiet.pure (exec_atA 433 _ _ _ g3 0 _ (k3+3+k5) 1 .i64 rfl rfl rfl Tryz.underlying433 kF (by omega)))<|sS (.int .u64 ((y5.1 (k3+3+k5):Nat):Int)) (Quiet.cell 3 g3 (0+(k3+3+k5)*1) 433 22 (rw8 y5.1) _ _ rfl kR kR Tryz.underlying22 rfl _ (rw8_at y5.1 (k:=k3+3+k5) (by omega) (by omega)))<|sP (.int .u64 ((y5.2:Nat):Int)) ?_
       obtain ⟨x1,c1,lx1,lc1,ex1,rx1⟩:=add0_ex (y5.1 (k3+3+k5)) (y5.2) (by first | assumption | exact hR _ | exact hlw _ | exact wd_lt _ _ | exact hh1.1 _ | exact hh3.1 _ | exact hh4.1 _ | exact hh5.1 _ | exact hh5.2.1 | exact hh4.2.1 | decide) (by first | assumption | exact hR _ | exact hlw _ | exact wd_lt _ _ | exact hh1.1 _ | exact hh3.1 _ | exact hh4.1 _ | exact hh5.1 _ | exact hh5.2.1 | exact hh4.2.1 | decide)
       refine sS (.tuple #[.int .u64 ((x1:Nat):Int),.int .u64 ((c1:Nat):Int)]) (Quiet.pure (λw=>Eq.trans kR (rx1 w)))<|sP (.tuple #[.int .u64 ((x1:Nat):Int),.int .u64 ((c1:Nat):Int)])<|sP (.int .u64 ((x1:Nat):Int))<|sP (.int .u64 ((c1:Nat):Int))<|sP (.int .u64 ((x1:Nat):Int))<|sP (.int .u64 ((c1:Nat):Int)) ?_
       refine sA ?_
       refine sP (.int .i64 ((k3+3+k5:Nat):Int))<|sP (.int .u64 ((x1:Nat):Int))<|sS (.pointer (some ⟨g3,0+(k3+3+k5)*1,none⟩)) (Quiet.pure (exec_atA 433 _ _ _ g3 0 _ (k3+3+k5) 1 .i64 rfl rfl rfl Tryz.underlying433 kF (by omega))) ?_
       refine Sy.write kR 3 g3 433 (rw8 y5.1) (rw8 (upd y5.1 (k3+3+k5) x1)) kR (Writes.one (0+(k3+3+k5)*1) 22 (.int .u64 ((x1:Nat):Int)) _ _ rfl kR kR kR rfl rfl (rw8_fit _ (k:=k3+3+k5) (by omega) (by omega)) (rw8_set _ _ (by omega) (by omega))) ?_
       refine sG<|Sy.region ?_
       refine sP (.int .u64 ((c1:Nat):Int))<|sP (.int .u64 ((c1:Nat):Int)) ?_
       refine Sy.nil<|Sy.in_<|Sy.then_<|Sy.region ?_
       refine sP (.int .i64 ((k3+3+k5:Nat):Int))<|sS (.int .i64 (((k3+3+k5)+1:Nat):Int)) (Quiet.pure (exec_int .add _ _ _ .i64 _ _ _ rfl rfl rfl (int_add _ _ _ _ _ ((wrap_i64 (by omega) (by omega)).trans (by omega)))))<|sP (.int .i64 (((k3+3+k5)+1:Nat):Int)) ?_
       refine Sy.nil ?_
       have hin:=carry2 (vR_upd y5.1 (k3+3+k5) x1 8 (by omega)) hh5.2.2 ex1
       exact Sy.againX ((upd y5.1 (k3+3+k5) x1,c1)) [true,true,true,true] (by omega) (⟨upd_lt hh5.1 lx1,by omega,by rw [← Nat.add_assoc,Nat.pow_succ]; exact hin⟩) (all_cons kR (all_cons kR (all_cons kR (all_cons kR (all_cons kR (all_cons kR (all_cons kR all_nil))))))) kR
    ·have lb4:k4<3:=of_decide_eq_true hb4.symm
     refine sT<|Sy.skip<|Sy.then_<|Sy.seq<|Sy.block<|Sy.seq ?_
     refine Sy.regionD (λj=>false) kR ?_
     refine sZ 0 rfl (.int .i64 ((k3:Nat):Int))<|sD 1 rfl (.int .i64 ((4+k3:Nat):Int)) (Quiet.pure (exec_int .add _ _ _ .i64 _ _ _ rfl rfl rfl (int_add _ _ _ _ _ ((wrap_i64 (by omega) (by omega)).trans (by omega)))))<|sD 2 rfl (.pointer (some ⟨g1,0+(4+k3)*1,none⟩)) (Quiet.pure (exec_atA 433 _ _ _ g1 0 _ (4+k3) 1 .i64 rfl rfl rfl Tryz.underlying433 kF (by omega)))<|sD 3 rfl (.int .u64 ((y1 (4+k3):Nat):Int)) (Quiet.cell 1 g1 (0+(4+k3)*1) 433 22 (rw8 y1) _ _ rfl kR kR Tryz.underlying22 rfl _ (rw8_at y1 (k:=4+k3) (by omega) (by omega)))<|sZ 4 rfl (.int .i64 ((k4:Nat):Int))<|sZ 5 rfl (.pointer (some ⟨g0,4,none⟩))<|sD 6 rfl (.pointer (some ⟨g0,4+k4*1,none⟩)) (Quiet.pure (exec_atA 368 _ _ _ g0 4 _ k4 1 .i64 rfl rfl rfl Tryz.underlying368 kF (by omega)))<|sD 7 rfl (.int .u64 ((lw k4:Nat):Int)) (Quiet.cell 0 g0 (4+k4*1) 370 22 (modc M lw) _ _ rfl kR kR Tryz.underlying22 rfl _ (modc_at M lw (j:=k4) (by omega) (by omega))) ?_
     obtain ⟨hi1,lo1,llo1,elo1⟩:=two_words (y1 (4+k3)) (lw k4)
     refine sD 8 rfl (.tuple #[.int .u64 ((hi1:Nat):Int),.int .u64 ((lo1:Nat):Int)]) (qF 266 #[.int .u64 ((y1 (4+k3):Nat):Int),.int .u64 ((lw k4:Nat):Int)] (λw=>mulZ_any w (y1 (4+k3)) (lw k4) hi1 lo1 (by first | assumption | exact hR _ | exact hlw _ | exact wd_lt _ _ | exact hh1.1 _ | exact hh3.1 _ | exact hh4.1 _ | exact hh5.1 _ | exact hh5.2.1 | exact hh4.2.1 | decide) (by first | assumption | exact hR _ | exact hlw _ | exact wd_lt _ _ | exact hh1.1 _ | exact hh3.1 _ | exact hh4.1 _ | exact hh5.1 _ | exact hh5.2.1 | exact hh4.2.1 | decide) llo1 elo1))<|sZ 9 rfl (.tuple #[.int .u64 ((hi1:Nat):Int),.int .u64 ((lo1:Nat):Int)])<|sZ 10 rfl (.int .u64 ((hi1:Nat):Int))<|sZ 11 rfl (.int .u64 ((lo1:Nat):Int))<|sZ 12 rfl (.int .u64 ((hi1:Nat):Int))<|sZ 13 rfl (.int .u64 ((lo1:Nat):Int)) ?_
     refine sE ?_
     refine sB ?_
     refine sP (.int .u64 ((lo1:Nat):Int))<|sP (.int .i64 ((k3:Nat):Int))<|sP (.int .i64 ((k4:Nat):Int))<|sS (.int .i64 ((k3+k4:Nat):Int)) (Quiet.pure (exec_int .add _ _ _ .i64 _ _ _ rfl rfl rfl (int_add _ _ _ _ _ ((wrap_i64 (by omega) (by omega)).trans (by omega)))))<|sS (.pointer (some ⟨g3,0+(k3+k4)*1,none⟩)) (Quiet.pure (exec_atA 433 _ _ _ g3 0 _ (k3+k4) 1 .i64 rfl rfl rfl Tryz.underlying433 kF (by omega)))<|sS (.int .u64 ((y4.1 (k3+k4):Nat):Int)) (Quiet.cell 3 g3 (0+(k3+k4)*1) 433 22 (rw8 y4.1) _ _ rfl kR kR Tryz.underlying22 rfl _ (rw8_at y4.1 (k:=k3+k4) (by omega) (by omega))) ?_
     obtain ⟨x2,c2,lx2,lc2,ex2,rx2⟩:=add0_ex (lo1) (y4.1 (k3+k4)) (by first | assumption | exact hR _ | exact hlw _ | exact wd_lt _ _ | exact hh1.1 _ | exact hh3.1 _ | exact hh4.1 _ | exact hh5.1 _ | exact hh5.2.1 | exact hh4.2.1 | decide) (by first | assumption | exact hR _ | exact hlw _ | exact wd_lt _ _ | exact hh1.1 _ | exact hh3.1 _ | exact hh4.1 _ | exact hh5.1 _ | exact hh5.2.1 | exact hh4.2.1 | decide)
     refine sS (.tuple #[.int .u64 ((x2:Nat):Int),.int .u64 ((c2:Nat):Int)]) (Quiet.pure (λw=>Eq.trans kR (rx2 w)))<|sP (.tuple #[.int .u64 ((x2:Nat):Int),.int .u64 ((c2:Nat):Int)])<|sP (.int .u64 ((x2:Nat):Int))<|sP (.int .u64 ((c2:Nat):Int))<|sP (.int .u64 ((x2:Nat):Int))<|sP (.int .u64 ((c2:Nat):Int)) ?_
     refine sA ?_
     refine sP (.int .u64 ((x2:Nat):Int))<|sP (.int .u64 ((y4.2:Nat):Int)) ?_
     obtain ⟨x3,c3,lx3,lc3,ex3,rx3⟩:=add0_ex (x2) (y4.2) (by first | assumption | exact hR _ | exact hlw _ | exact wd_lt _ _ | exact hh1.1 _ | exact hh3.1 _ | exact hh4.1 _ | exact hh5.1 _ | exact hh5.2.1 | exact hh4.2.1 | decide) (by first | assumption | exact hR _ | exact hlw _ | exact wd_lt _ _ | exact hh1.1 _ | exact hh3.1 _ | exact hh4.1 _ | exact hh5.1 _ | exact hh5.2.1 | exact hh4.2.1 | decide)
     refine sS (.tuple #[.int .u64 ((x3:Nat):Int),.int .u64 ((c3:Nat):Int)]) (Quiet.pure (λw=>Eq.trans kR (rx3 w)))<|sP (.tuple #[.int .u64 ((x3:Nat):Int),.int .u64 ((c3:Nat):Int)])<|sP (.int .u64 ((x3:Nat):Int))<|sP (.int .u64 ((c3:Nat):Int))<|sP (.int .u64 ((x3:Nat):Int))<|sP (.int .u64 ((c3:Nat):Int)) ?_
     refine sA ?_
     refine sP (.int .i64 ((k3:Nat):Int))<|sP (.int .i64 ((k4:Nat):Int))<|sS (.int .i64 ((k3+k4:Nat):Int)) (Quiet.pure (exec_int .add _ _ _ .i64 _ _ _ rfl rfl rfl (int_add _ _ _ _ _ ((wrap_i64 (by omega) (by omega)).trans (by omega)))))<|sP (.int .u64 ((x3:Nat):Int))<|sS (.pointer (some ⟨g3,0+(k3+k4)*1,none⟩)) (Quiet.pure (exec_atA 433 _ _ _ g3 0 _ (k3+k4) 1 .i64 rfl rfl rfl Tryz.underlying433 kF (by omega))) ?_
     refine Sy.write kR 3 g3 433 (rw8 y4.1) (rw8 (upd y4.1 (k3+k4) x3)) kR (Writes.one (0+(k3+k4)*1) 22 (.int .u64 ((x3:Nat):Int)) _ _ rfl kR kR kR rfl rfl (rw8_fit _ (k:=k3+k4) (by omega) (by omega)) (rw8_set _ _ (by omega) (by omega))) ?_
     refine sG<|Sy.region ?_
     refine sP (.int .u64 ((hi1:Nat):Int))<|sP (.int .u64 ((c2:Nat):Int)) ?_
     have hst:=stepZ elo1 ex2 ex3
     have hcar:=carryZ hst (by first | assumption | exact hR _ | exact hlw _ | exact wd_lt _ _ | exact hh1.1 _ | exact hh3.1 _ | exact hh4.1 _ | exact hh5.1 _ | exact hh5.2.1 | exact hh4.2.1 | decide) (by first | assumption | exact hR _ | exact hlw _ | exact wd_lt _ _ | exact hh1.1 _ | exact hh3.1 _ | exact hh4.1 _ | exact hh5.1 _ | exact hh5.2.1 | exact hh4.2.1 | decide) (by first | assumption | exact hR _ | exact hlw _ | exact wd_lt _ _ | exact hh1.1 _ | exact hh3.1 _ | exact hh4.1 _ | exact hh5.1 _ | exact hh5.2.1 | exact hh4.2.1 | decide) hh4.2.1
     refine sS (.int .u64 ((hi1+c2:Nat):Int)) (Quiet.pure (exec_int .add _ _ _ .u64 _ _ _ rfl rfl rfl (int_add _ _ _ _ _ ((wrap_u64 (by omega) (by omega)).trans (by omega)))))<|sP (.int .u64 ((c3:Nat):Int))<|sS (.int .u64 (((hi1+c2)+c3:Nat):Int)) (Quiet.pure (exec_int .add _ _ _ .u64 _ _ _ rfl rfl rfl (int_add _ _ _ _ _ ((wrap_u64 (by omega) (by omega)).trans (by omega)))))<|sP (.int .u64 (((hi1+c2)+c3:Nat):Int)) ?_
     refine Sy.nil<|Sy.in_<|Sy.then_<|Sy.region ?_
     refine sP (.int .i64 ((k4:Nat):Int))<|sS (.int .i64 ((k4+1:Nat):Int)) (Quiet.pure (exec_int .add _ _ _ .i64 _ _ _ rfl rfl rfl (int_add _ _ _ _ _ ((wrap_i64 (by omega) (by omega)).trans (by omega)))))<|sP (.int .i64 ((k4+1:Nat):Int)) ?_
     refine Sy.nil ?_
     have hin:=innerZ (vR_upd y4.1 (k3+k4) x3 8 (by omega)) hh4.2.2 hst (P0:=18446744073709551616 ^ k4) (by rw [Nat.add_comm,Nat.pow_add])
     exact Sy.againX ((upd y4.1 (k3+k4) x3,hi1+c2+c3)) [true,true,true,true] (by omega) (⟨upd_lt hh4.1 lx3,hcar,by rw [← Nat.add_assoc,Nat.pow_succ]; exact hin⟩) (all_cons kR (all_cons kR (all_cons kR (all_cons kR (all_cons kR (all_cons kR (all_cons kR all_nil))))))) kR
  ·have lb2:k2<4:=of_decide_eq_true hb2.symm
   refine sT<|Sy.skip<|Sy.then_<|Sy.seq<|Sy.block<|Sy.region ?_
   refine sP (.int .i64 ((k2:Nat):Int))<|sP (.int .i64 ((k2:Nat):Int))<|sS (.pointer (some ⟨g1,0+k2*1,none⟩)) (Quiet.pure (exec_atA 433 _ _ _ g1 0 _ k2 1 .i64 rfl rfl rfl Tryz.underlying433 kF (by omega)))<|sS (.int .u64 ((y1 k2:Nat):Int)) (Quiet.cell 1 g1 (0+k2*1) 433 22 (rw8 y1) _ _ rfl kR kR Tryz.underlying22 rfl _ (rw8_at y1 (k:=k2) (by omega) (by omega)))<|sS (.pointer (some ⟨g3,0+k2*1,none⟩)) (Quiet.pure (exec_atA 433 _ _ _ g3 0 _ k2 1 .i64 rfl rfl rfl Tryz.underlying433 kF (by omega))) ?_
   refine Sy.write kR 3 g3 433 (rw8 (cpy y1 k2)) (rw8 (upd (cpy y1 k2) k2 (y1 k2))) kR (Writes.one (0+k2*1) 22 (.int .u64 ((y1 k2:Nat):Int)) _ _ rfl kR kR kR rfl rfl (rw8_fit _ (k:=k2) (by omega) (by omega)) (rw8_set _ _ (by omega) (by omega))) ?_
   refine Sy.nil<|Sy.in_<|Sy.then_<|Sy.region ?_
   refine sP (.int .i64 ((k2:Nat):Int))<|sS (.int .i64 ((k2+1:Nat):Int)) (Quiet.pure (exec_int .add _ _ _ .i64 _ _ _ rfl rfl rfl (int_add _ _ _ _ _ ((wrap_i64 (by omega) (by omega)).trans (by omega)))))<|sP (.int .i64 ((k2+1:Nat):Int)) ?_
   refine Sy.nil ?_
   exact Sy.againK [true,true,true,true] (M:=[(g0,370,(modc M lw)),(g1,433,(rw8 y1)),(g2,363,(fcs 0)),(g3,433,(rw8 (upd (cpy y1 k2) k2 (y1 k2))))]) (by omega) (all_cons kR (all_cons kR (all_cons kR (all_cons kR (all_cons kR all_nil))))) kR (bcons rfl (bcons rfl (bcons rfl (bcons (beq (congrArg rw8 (cpy_succ _ _))) rfl))))
end Fz
end
section
section
open Go.RowKit Go.Lib
def val8 (a b c d e f g h:Nat):Nat:=a+18446744073709551616*b+340282366920938463463374607431768211456*c+6277101735386680763835789423207666416102355444464034512896*d+(2^256)*e+2135987035920910082395021706169552114602704522356652769947041607822219725780640550022962086936576*f+39402006196394479212279040100143613805079739270465446667948293404245721771497210611414266254884915640806627990306816*g+726838724295606890549323807888004534353641360687318060281490199180639288113397923326191050713763565560762521606266177933534601628614656*h
def r8 (a b c d e f g h:Nat):Nat→Nat
 | 0=>a
 | 1=>b
 | 2=>c
 | 3=>d
 | 4=>e
 | 5=>f
 | 6=>g
 | 7=>h
 | _=>0
theorem r8_val (a b c d e f g h:Nat):Fz.vR (r8 a b c d e f g h) 8=val8 a b c d e f g h:=by
 show 0+a*1+b*18446744073709551616+c*340282366920938463463374607431768211456+d*6277101735386680763835789423207666416102355444464034512896+e*(2^256)+f*2135987035920910082395021706169552114602704522356652769947041607822219725780640550022962086936576+g*39402006196394479212279040100143613805079739270465446667948293404245721771497210611414266254884915640806627990306816+h*726838724295606890549323807888004534353641360687318060281490199180639288113397923326191050713763565560762521606266177933534601628614656=val8 a b c d e f g h
 unfold val8
 omega
def lackW:Nat→Nat
 | 0=>4294968273
 | 1=>0
 | 2=>0
 | _=>0
theorem lackW_lt:∀ t,lackW t<18446744073709551616
 | 0=>by decide
 | 1=>by decide
 | 2=>by decide
 | _+3=>by show 0<_; decide
theorem mod_row:Fz.modc pM lackW=#[.int .u64 18446744069414583343,.int .u64 18446744073709551615,.int .u64 18446744073709551615,.int .u64 18446744073709551615,.int .u64 4294968273,.int .u64 0,.int .u64 0]:=by kernel_rfl
theorem lack_sum:pM+Fz.vR lackW 3=18446744073709551616 ^ 4:=by decide +kernel
theorem pM_pos0:0<pM:=by decide +kernel
theorem fold_any (w:World) (d0 d1 d2 d3 d4 d5 d6 d7:Nat) (hd:d0<18446744073709551616∧d1<18446744073709551616∧d2<18446744073709551616∧d3<18446744073709551616∧d4<18446744073709551616∧d5<18446744073709551616∧d6<18446744073709551616∧d7<18446744073709551616):Calls Tryz.prog 288 #[.agg #[.int .u64 18446744069414583343,.int .u64 18446744073709551615,.int .u64 18446744073709551615,.int .u64 18446744073709551615,.int .u64 4294968273,.int .u64 0,.int .u64 0],.agg #[.int .u64 (d0:Int),.int .u64 (d1:Int),.int .u64 (d2:Int),.int .u64 (d3:Int),.int .u64 (d4:Int),.int .u64 (d5:Int),.int .u64 (d6:Int),.int .u64 (d7:Int)]] w λe w'=>e=.returned (fv (val8 d0 d1 d2 d3 d4 d5 d6 d7%pM))∧Below w.heap.size w w':=by
 have h:=Fz.foldZ w pM lackW lackW_lt pM_pos0 lack_sum (λw x hx=>by rw [mod_row]; exact normR_any w x hx) (r8 d0 d1 d2 d3 d4 d5 d6 d7) (λt=>by
  obtain ⟨h0,h1,h2,h3,h4,h5,h6,h7⟩:=hd
  rcases t with _ | _ | _ | _ | _ | _ | _ | _ | t <;> first | assumption | exact Nat.zero_lt_succ _)
 rw [r8_val,mod_row] at h
 exact h
end
end
section
section
open Go.RowKit Go.Lib
theorem below_alloc4 (w:World) (a b c d:Obj):Below w.heap.size w ((((w.alloc a).alloc b).alloc c).alloc d):=(below_alloc3 w a b c).alloc (by simp <;> omega) _
theorem below_alloc5 (w:World) (a b c d e:Obj):Below w.heap.size w (((((w.alloc a).alloc b).alloc c).alloc d).alloc e):=(below_alloc4 w a b c d).alloc (by simp <;> omega) _
theorem blk_new5 (w:World) (a b c d:Obj) (t:TypeId) (cs:Array Value):Blk (((((w.alloc a).alloc b).alloc c).alloc d).alloc (.cells cs t)) (w.heap.size+4) t cs:=by
 have h:=Blk.new ((((w.alloc a).alloc b).alloc c).alloc d) t cs
 have e:((((w.alloc a).alloc b).alloc c).alloc d).heap.size=w.heap.size+4:=by simp
 rwa [e] at h
section
variable {P:Program} {ops:Array Oper}
theorem YieldsG.loadP {o:Oper} {a:Act} {w:World} {d:TypeDesc} (hw:Region.wanted o (yielded ops a.tmps)=true) (ty:TypeId) (x:Operand) (ho:o.op=.load ty x)
  (g:Nat) (hx:a.eval x=.pointer (some ⟨g,0,none⟩)) (n:Nat) (cs:List Value) (hl:g<w.heap.size) (hr:w.rangeAt g 0 cs) (hf:fv n=.agg cs.toArray)
  (hu:P.underlying ty=some d) (hd:d.isRow=true) (hi:(P.info? ty).map (·.size)=some cs.length):YieldsG P ops o (fv n) a w:=by
 rw [hf]
 exact YieldsG.load hw ty x ho g 0 hx cs d hl hr hu hd hi
end
set_option maxHeartbeats 8000000 in
set_option maxRecDepth 100000 in
theorem addR_any (w:World) (x y:Nat) (hx:x<(2^256)) (hy:y<(2^256)):Calls Tryz.prog 289 #[.agg #[.int .u64 18446744069414583343,.int .u64 18446744073709551615,.int .u64 18446744073709551615,.int .u64 18446744073709551615,.int .u64 4294968273,.int .u64 0,.int .u64 0],fv x,fv y] w λe w'=>e=.returned (fv (addP x y))∧Below w.heap.size w w':=by
 obtain ⟨x0,x1,x2,x3,a0,a1,a2,a3,ex,fx⟩:=words_of x hx
 obtain ⟨y0,y1,y2,y3,b0,b1,b2,b3,ey,fy⟩:=words_of y hy
 obtain ⟨s0,c0,d0,k0,e0,r0⟩:=add0_ex x0 y0 a0 b0
 obtain ⟨s1,c1,d1,k1,e1,r1⟩:=addc_ex x1 y1 c0 a1 b1 k0
 obtain ⟨s2,c2,d2,k2,e2,r2⟩:=addc_ex x2 y2 c1 a2 b2 k1
 obtain ⟨s3,c3,d3,k3,e3,r3⟩:=addc_ex x3 y3 c2 a3 b3 k2
 have fin:val8 s0 s1 s2 s3 c3 0 0 0=x+y:=by simp only [val8]; omega
 obtain ⟨z,hz⟩:∃ z,z=addP x y:=⟨_,rfl⟩
 have cF:∀ w,Calls Tryz.prog 288 #[.agg #[.int .u64 18446744069414583343,.int .u64 18446744073709551615,.int .u64 18446744073709551615,.int .u64 18446744073709551615,.int .u64 4294968273,.int .u64 0,.int .u64 0],.agg #[.int .u64 (s0:Int),.int .u64 (s1:Int),.int .u64 (s2:Int),.int .u64 (s3:Int),.int .u64 (c3:Int),.int .u64 0,.int .u64 0,.int .u64 0]] w λe w'=>e=.returned (fv z)∧Below w.heap.size w w':=by
  intro w
  have h:=fold_any w s0 s1 s2 s3 c3 0 0 0 ⟨d0,d1,d2,d3,by omega,by omega,by omega,by omega⟩
  rw [fin] at h
  rw [hz]
  exact h
 rw [fx,fy, ← hz]
 clear fx fy ex ey hx hy hz a0 a1 a2 a3 b0 b1 b2 b3 d0 d1 d2 d3 k0 k1 k2 k3 e0 e1 e2 e3 fin
 go_enter Tryz.func289,Tryz.ntmps289
 go_wp2_with fail
 go_loopw [8,9] (λbo i wr=>Below w.heap.size w wr∧Blk wr w.heap.size 370 #[.int .u64 18446744069414583343,.int .u64 18446744073709551615,.int .u64 18446744073709551615,.int .u64 18446744073709551615,.int .u64 4294968273,.int .u64 0,.int .u64 0]∧Blk wr (w.heap.size+1) 363 #[.int .u64 (x0:Int),.int .u64 (x1:Int),.int .u64 (x2:Int),.int .u64 (x3:Int)]∧Blk wr (w.heap.size+2) 363 #[.int .u64 (y0:Int),.int .u64 (y1:Int),.int .u64 (y2:Int),.int .u64 (y3:Int)]∧Blk wr (w.heap.size+3) 363 #[.int .u64 0,.int .u64 0,.int .u64 0,.int .u64 0]∧Hid ((i=.int .i64 0∧bo=.int .u64 0∧Blk wr (w.heap.size+4) 433 #[.int .u64 0,.int .u64 0,.int .u64 0,.int .u64 0,.int .u64 0,.int .u64 0,.int .u64 0,.int .u64 0])∨(i=.int .i64 1∧bo=.int .u64 (c0:Int)∧Blk wr (w.heap.size+4) 433 #[.int .u64 (s0:Int),.int .u64 0,.int .u64 0,.int .u64 0,.int .u64 0,.int .u64 0,.int .u64 0,.int .u64 0])∨(i=.int .i64 2∧bo=.int .u64 (c1:Int)∧Blk wr (w.heap.size+4) 433 #[.int .u64 (s0:Int),.int .u64 (s1:Int),.int .u64 0,.int .u64 0,.int .u64 0,.int .u64 0,.int .u64 0,.int .u64 0])∨(i=.int .i64 3∧bo=.int .u64 (c2:Int)∧Blk wr (w.heap.size+4) 433 #[.int .u64 (s0:Int),.int .u64 (s1:Int),.int .u64 (s2:Int),.int .u64 0,.int .u64 0,.int .u64 0,.int .u64 0,.int .u64 0])∨(i=.int .i64 4∧bo=.int .u64 (c3:Int)∧Blk wr (w.heap.size+4) 433 #[.int .u64 (s0:Int),.int .u64 (s1:Int),.int .u64 (s2:Int),.int .u64 (s3:Int),.int .u64 0,.int .u64 0,.int .u64 0,.int .u64 0]))) (λ_ i _=>4 - (intOf i).toNat)
 case atStart=>exact ⟨below_alloc5 w _ _ _ _ _,(((((Blk.new w _ _).alloc _).alloc _).alloc _).alloc _),((((blk_new2 w _ _ _).alloc _).alloc _).alloc _),(((blk_new3 w _ _ _ _).alloc _).alloc _),((blk_new4 w _ _ _ _ _).alloc _),Lib.hid (.inl ⟨rfl,rfl,blk_new5 w _ _ _ _ _ _⟩)⟩
 case round =>
  obtain ⟨hb,BM,BX,BY,BR,HI⟩:=hrel
  have lX:=BX.lt
  have lY:=BY.lt
  have lR:=BR.lt
  rcases HI.out with ⟨rfl,rfl,BW⟩ | ⟨rfl,rfl,BW⟩ | ⟨rfl,rfl,BW⟩ | ⟨rfl,rfl,BW⟩ | ⟨rfl,rfl,BW⟩
  ·clear HI
   have px:wr.cell? ⟨w.heap.size+1,0,none⟩=some (.int .u64 (x0:Int)):=BX.cell 0
   have py:wr.cell? ⟨w.heap.size+2,0,none⟩=some (.int .u64 (y0:Int)):=BY.cell 0
   go_wp2
   refine wp_region_G (λ_=>false) (by kernel_rfl) ?_
   try simp only [Act.put]
   refine tk 0 rfl ?_
   try simp only [Act.put,aA,aZ,aS]
   refine tk 1 rfl ?_
   try simp only [Act.put,aA,aZ,aS]
   refine tkw 2 rfl (YieldsG.pure (v:=.int .u64 (x0:Int)) (by rfl) (λw9 h9=>by have hz:=(Below.cell (p:=⟨w.heap.size+1,0,none⟩) h9 lX).trans px; go_simp; first | done | simp [hz])) ?_
   try simp only [Act.put,aA,aZ,aS]
   refine tk 3 rfl ?_
   try simp only [Act.put,aA,aZ,aS]
   refine tk 4 rfl ?_
   try simp only [Act.put,aA,aZ,aS]
   refine tkw 5 rfl (YieldsG.pure (v:=.int .u64 (y0:Int)) (by rfl) (λw9 h9=>by have hz:=(Below.cell (p:=⟨w.heap.size+2,0,none⟩) h9 lY).trans py; go_simp; first | done | simp [hz])) ?_
   try simp only [Act.put,aA,aZ,aS]
   refine tk 6 rfl ?_
   try simp only [Act.put,aA,aZ,aS]
   refine tkw 7 rfl (YieldsG.pure (v:=.tuple #[.int .u64 (s0:Int),.int .u64 (c0:Int)]) (by rfl) (λw9 h9=>by go_simp)) ?_
   try simp only [Act.put,aA,aZ,aS]
   refine tk 8 rfl ?_
   try simp only [Act.put,aA,aZ,aS]
   refine tk 9 rfl ?_
   try simp only [Act.put,aA,aZ,aS]
   refine tk 10 rfl ?_
   try simp only [Act.put,aA,aZ,aS]
   refine tk 11 rfl ?_
   try simp only [Act.put,aA,aZ,aS]
   refine tk 12 rfl ?_
   try simp only [Act.put,aA,aZ,aS]
   refine wpAnyG_done (by kernel_rfl) (λu hu=>?_)
   have BM:=Gr.blk hu BM
   have BX:=Gr.blk hu BX
   have BY:=Gr.blk hu BY
   have BR:=Gr.blk hu BR
   have BW:=Gr.blk hu BW
   have hb:=Below.gr hb hu
   have pc:u.cell? ⟨w.heap.size+4,0,none⟩=some (.int .u64 0):=BW.cell 0
   have pf:=BW.frozen 0
   clear hu px py
   go_wp2
   refine ⟨⟨hb.setCell (by show w.heap.size≤w.heap.size+4; omega) _,BM.far (by show w.heap.size≠w.heap.size+4; omega) _,BX.far (by show w.heap.size+1≠w.heap.size+4; omega) _,BY.far (by show w.heap.size+2≠w.heap.size+4; omega) _,BR.far (by show w.heap.size+3≠w.heap.size+4; omega) _,Lib.hid (.inr (.inl (⟨rfl,rfl,BW.set_ 0 _⟩)))⟩,by decide⟩
  ·clear HI
   have px:wr.cell? ⟨w.heap.size+1,1,none⟩=some (.int .u64 (x1:Int)):=BX.cell 1
   have py:wr.cell? ⟨w.heap.size+2,1,none⟩=some (.int .u64 (y1:Int)):=BY.cell 1
   go_wp2
   refine wp_region_G (λ_=>false) (by kernel_rfl) ?_
   try simp only [Act.put]
   refine tk 0 rfl ?_
   try simp only [Act.put,aA,aZ,aS]
   refine tk 1 rfl ?_
   try simp only [Act.put,aA,aZ,aS]
   refine tkw 2 rfl (YieldsG.pure (v:=.int .u64 (x1:Int)) (by rfl) (λw9 h9=>by have hz:=(Below.cell (p:=⟨w.heap.size+1,1,none⟩) h9 lX).trans px; go_simp; first | done | simp [hz])) ?_
   try simp only [Act.put,aA,aZ,aS]
   refine tk 3 rfl ?_
   try simp only [Act.put,aA,aZ,aS]
   refine tk 4 rfl ?_
   try simp only [Act.put,aA,aZ,aS]
   refine tkw 5 rfl (YieldsG.pure (v:=.int .u64 (y1:Int)) (by rfl) (λw9 h9=>by have hz:=(Below.cell (p:=⟨w.heap.size+2,1,none⟩) h9 lY).trans py; go_simp; first | done | simp [hz])) ?_
   try simp only [Act.put,aA,aZ,aS]
   refine tk 6 rfl ?_
   try simp only [Act.put,aA,aZ,aS]
   refine tkw 7 rfl (YieldsG.pure (v:=.tuple #[.int .u64 (s1:Int),.int .u64 (c1:Int)]) (by rfl) (λw9 h9=>by go_simp)) ?_
   try simp only [Act.put,aA,aZ,aS]
   refine tk 8 rfl ?_
   try simp only [Act.put,aA,aZ,aS]
   refine tk 9 rfl ?_
   try simp only [Act.put,aA,aZ,aS]
   refine tk 10 rfl ?_
   try simp only [Act.put,aA,aZ,aS]
   refine tk 11 rfl ?_
   try simp only [Act.put,aA,aZ,aS]
   refine tk 12 rfl ?_
   try simp only [Act.put,aA,aZ,aS]
   refine wpAnyG_done (by kernel_rfl) (λu hu=>?_)
   have BM:=Gr.blk hu BM
   have BX:=Gr.blk hu BX
   have BY:=Gr.blk hu BY
   have BR:=Gr.blk hu BR
   have BW:=Gr.blk hu BW
   have hb:=Below.gr hb hu
   have pc:u.cell? ⟨w.heap.size+4,1,none⟩=some (.int .u64 0):=BW.cell 1
   have pf:=BW.frozen 1
   clear hu px py
   go_wp2
   refine ⟨⟨hb.setCell (by show w.heap.size≤w.heap.size+4; omega) _,BM.far (by show w.heap.size≠w.heap.size+4; omega) _,BX.far (by show w.heap.size+1≠w.heap.size+4; omega) _,BY.far (by show w.heap.size+2≠w.heap.size+4; omega) _,BR.far (by show w.heap.size+3≠w.heap.size+4; omega) _,Lib.hid (.inr (.inr (.inl (⟨rfl,rfl,BW.set_ 1 _⟩))))⟩,by decide⟩
  ·clear HI
   have px:wr.cell? ⟨w.heap.size+1,2,none⟩=some (.int .u64 (x2:Int)):=BX.cell 2
   have py:wr.cell? ⟨w.heap.size+2,2,none⟩=some (.int .u64 (y2:Int)):=BY.cell 2
   go_wp2
   refine wp_region_G (λ_=>false) (by kernel_rfl) ?_
   try simp only [Act.put]
   refine tk 0 rfl ?_
   try simp only [Act.put,aA,aZ,aS]
   refine tk 1 rfl ?_
   try simp only [Act.put,aA,aZ,aS]
   refine tkw 2 rfl (YieldsG.pure (v:=.int .u64 (x2:Int)) (by rfl) (λw9 h9=>by have hz:=(Below.cell (p:=⟨w.heap.size+1,2,none⟩) h9 lX).trans px; go_simp; first | done | simp [hz])) ?_
   try simp only [Act.put,aA,aZ,aS]
   refine tk 3 rfl ?_
   try simp only [Act.put,aA,aZ,aS]
   refine tk 4 rfl ?_
   try simp only [Act.put,aA,aZ,aS]
   refine tkw 5 rfl (YieldsG.pure (v:=.int .u64 (y2:Int)) (by rfl) (λw9 h9=>by have hz:=(Below.cell (p:=⟨w.heap.size+2,2,none⟩) h9 lY).trans py; go_simp; first | done | simp [hz])) ?_
   try simp only [Act.put,aA,aZ,aS]
   refine tk 6 rfl ?_
   try simp only [Act.put,aA,aZ,aS]
   refine tkw 7 rfl (YieldsG.pure (v:=.tuple #[.int .u64 (s2:Int),.int .u64 (c2:Int)]) (by rfl) (λw9 h9=>by go_simp)) ?_
   try simp only [Act.put,aA,aZ,aS]
   refine tk 8 rfl ?_
   try simp only [Act.put,aA,aZ,aS]
   refine tk 9 rfl ?_
   try simp only [Act.put,aA,aZ,aS]
   refine tk 10 rfl ?_
   try simp only [Act.put,aA,aZ,aS]
   refine tk 11 rfl ?_
   try simp only [Act.put,aA,aZ,aS]
   refine tk 12 rfl ?_
   try simp only [Act.put,aA,aZ,aS]
   refine wpAnyG_done (by kernel_rfl) (λu hu=>?_)
   have BM:=Gr.blk hu BM
   have BX:=Gr.blk hu BX
   have BY:=Gr.blk hu BY
   have BR:=Gr.blk hu BR
   have BW:=Gr.blk hu BW
   have hb:=Below.gr hb hu
   have pc:u.cell? ⟨w.heap.size+4,2,none⟩=some (.int .u64 0):=BW.cell 2
   have pf:=BW.frozen 2
   clear hu px py
   go_wp2
   refine ⟨⟨hb.setCell (by show w.heap.size≤w.heap.size+4; omega) _,BM.far (by show w.heap.size≠w.heap.size+4; omega) _,BX.far (by show w.heap.size+1≠w.heap.size+4; omega) _,BY.far (by show w.heap.size+2≠w.heap.size+4; omega) _,BR.far (by show w.heap.size+3≠w.heap.size+4; omega) _,Lib.hid (.inr (.inr (.inr (.inl (⟨rfl,rfl,BW.set_ 2 _⟩)))))⟩,by decide⟩
  ·clear HI
   have px:wr.cell? ⟨w.heap.size+1,3,none⟩=some (.int .u64 (x3:Int)):=BX.cell 3
   have py:wr.cell? ⟨w.heap.size+2,3,none⟩=some (.int .u64 (y3:Int)):=BY.cell 3
   go_wp2
   refine wp_region_G (λ_=>false) (by kernel_rfl) ?_
   try simp only [Act.put]
   refine tk 0 rfl ?_
   try simp only [Act.put,aA,aZ,aS]
   refine tk 1 rfl ?_
   try simp only [Act.put,aA,aZ,aS]
   refine tkw 2 rfl (YieldsG.pure (v:=.int .u64 (x3:Int)) (by rfl) (λw9 h9=>by have hz:=(Below.cell (p:=⟨w.heap.size+1,3,none⟩) h9 lX).trans px; go_simp; first | done | simp [hz])) ?_
   try simp only [Act.put,aA,aZ,aS]
   refine tk 3 rfl ?_
   try simp only [Act.put,aA,aZ,aS]
   refine tk 4 rfl ?_
   try simp only [Act.put,aA,aZ,aS]
   refine tkw 5 rfl (YieldsG.pure (v:=.int .u64 (y3:Int)) (by rfl) (λw9 h9=>by have hz:=(Below.cell (p:=⟨w.heap.size+2,3,none⟩) h9 lY).trans py; go_simp; first | done | simp [hz])) ?_
   try simp only [Act.put,aA,aZ,aS]
   refine tk 6 rfl ?_
   try simp only [Act.put,aA,aZ,aS]
   refine tkw 7 rfl (YieldsG.pure (v:=.tuple #[.int .u64 (s3:Int),.int .u64 (c3:Int)]) (by rfl) (λw9 h9=>by go_simp)) ?_
   try simp only [Act.put,aA,aZ,aS]
   refine tk 8 rfl ?_
   try simp only [Act.put,aA,aZ,aS]
   refine tk 9 rfl ?_
   try simp only [Act.put,aA,aZ,aS]
   refine tk 10 rfl ?_
   try simp only [Act.put,aA,aZ,aS]
   refine tk 11 rfl ?_
   try simp only [Act.put,aA,aZ,aS]
   refine tk 12 rfl ?_
   try simp only [Act.put,aA,aZ,aS]
   refine wpAnyG_done (by kernel_rfl) (λu hu=>?_)
   have BM:=Gr.blk hu BM
   have BX:=Gr.blk hu BX
   have BY:=Gr.blk hu BY
   have BR:=Gr.blk hu BR
   have BW:=Gr.blk hu BW
   have hb:=Below.gr hb hu
   have pc:u.cell? ⟨w.heap.size+4,3,none⟩=some (.int .u64 0):=BW.cell 3
   have pf:=BW.frozen 3
   clear hu px py
   go_wp2
   refine ⟨⟨hb.setCell (by show w.heap.size≤w.heap.size+4; omega) _,BM.far (by show w.heap.size≠w.heap.size+4; omega) _,BX.far (by show w.heap.size+1≠w.heap.size+4; omega) _,BY.far (by show w.heap.size+2≠w.heap.size+4; omega) _,BR.far (by show w.heap.size+3≠w.heap.size+4; omega) _,Lib.hid (.inr (.inr (.inr (.inr (⟨rfl,rfl,BW.set_ 3 _⟩)))))⟩,by decide⟩
  ·clear HI
   have pc:wr.cell? ⟨w.heap.size+4,4,none⟩=some (.int .u64 0):=BW.cell 4
   have pf:=BW.frozen 4
   have BM4:Blk (wr.setCell ⟨w.heap.size+4,4,none⟩ (.int .u64 (c3:Int))) w.heap.size 370 #[.int .u64 18446744069414583343,.int .u64 18446744073709551615,.int .u64 18446744073709551615,.int .u64 18446744073709551615,.int .u64 4294968273,.int .u64 0,.int .u64 0]:=BM.far (by show w.heap.size≠w.heap.size+4; omega) _
   have BW4:Blk (wr.setCell ⟨w.heap.size+4,4,none⟩ (.int .u64 (c3:Int))) (w.heap.size+4) 433 #[.int .u64 (s0:Int),.int .u64 (s1:Int),.int .u64 (s2:Int),.int .u64 (s3:Int),.int .u64 (c3:Int),.int .u64 0,.int .u64 0,.int .u64 0]:=BW.set_ 4 _
   have BR4:Blk (wr.setCell ⟨w.heap.size+4,4,none⟩ (.int .u64 (c3:Int))) (w.heap.size+3) 363 #[.int .u64 0,.int .u64 0,.int .u64 0,.int .u64 0]:=BR.far (by show w.heap.size+3≠w.heap.size+4; omega) _
   have hb4:Below w.heap.size w (wr.setCell ⟨w.heap.size+4,4,none⟩ (.int .u64 (c3:Int))):=hb.setCell (by show w.heap.size≤w.heap.size+4; omega) _
   have H4:=Lib.hid (And.intro BM4 (And.intro BW4 (And.intro BR4 hb4)))
   clear BM BX BY BR BW hb BM4 BW4 BR4 hb4
   go_wp2_with (first | ((with_reducible refine here_load (d:=some 33) ?_); refine wpList_load_blk rfl _ _ rfl w.heap.size rfl _ _ _ H4.out.1 Tryz.underlying370 rfl (by kernel_rfl) ?_) | ((with_reducible refine here_load (d:=some 34) ?_); refine wpList_load_blk rfl _ _ rfl (w.heap.size+4) rfl _ _ _ H4.out.2.1 Tryz.underlying433 rfl (by kernel_rfl) ?_))
   refine (cF _).mono ?_
   rintro e u ⟨rfl,hu⟩
   have BRu:=Gr.blk hu H4.out.2.2.1
   have hbu:=Below.gr H4.out.2.2.2 hu
   clear hu H4 cF
   go_wp2_with (first | ((with_reducible refine here_store ?_); refine wpList_store_blk rfl _ _ _ rfl (w.heap.size+3) (fcs (z)) rfl rfl _ _ (BRu) (by kernel_rfl) (by rfl) (fcs_one _) ?_; intro w9 hL9 hB9 hK9))
   exact bodyPost_ret (results_cell_row rfl _ _ (w.heap.size+3) _ _ (0,0) _ rfl hL9 Tryz.underlying363 rfl (by kernel_rfl)) rfl ⟨rfl,hbu.trans (hB9 _ (by omega))⟩
set_option maxHeartbeats 2000000 in
set_option maxRecDepth 100000 in
theorem negR_any (w:World) (x:Nat) (hx:x<(2^256)):Calls Tryz.prog 279 #[.agg #[.int .u64 18446744069414583343,.int .u64 18446744073709551615,.int .u64 18446744073709551615,.int .u64 18446744073709551615,.int .u64 4294968273,.int .u64 0,.int .u64 0],fv x] w λe w'=>e=.returned (fv (negP x))∧Below w.heap.size w w':=by
 obtain ⟨n,hn⟩:∃ n,n=x%pM:=⟨_,rfl⟩
 have np:n<115792089237316195423570985008687907853269984665640564039457584007908834671663:=by rw [hn]; exact mod_lt_p x
 obtain ⟨p,hp⟩:∃ p,p=115792089237316195423570985008687907853269984665640564039457584007908834671663:=⟨_,rfl⟩
 obtain ⟨q,hq⟩:∃ q,q=p - n:=⟨_,rfl⟩
 obtain ⟨g,hg⟩:∃ g,g=negP x:=⟨_,rfl⟩
 have hgq:q%pM=g:=by rw [hg,negP, ← hn,hq,hp]; rfl
 have cN:∀ w,Calls Tryz.prog 246 #[.agg #[.int .u64 18446744069414583343,.int .u64 18446744073709551615,.int .u64 18446744073709551615,.int .u64 18446744073709551615,.int .u64 4294968273,.int .u64 0,.int .u64 0],fv x] w λe w'=>e=.returned (fv n)∧Below w.heap.size w w':=by
  intro w; rw [hn]; exact normR_any w x hx
 have cM:∀ w,Calls Tryz.prog 273 #[fv p,fv n] w λe w'=>e=.returned (fv q)∧Below w.heap.size w w':=λw=>minusR_at w p n q 0 rfl rfl (by omega) (by omega) (by omega) (by omega)
 have cG:∀ w,Calls Tryz.prog 246 #[.agg #[.int .u64 18446744069414583343,.int .u64 18446744073709551615,.int .u64 18446744073709551615,.int .u64 18446744073709551615,.int .u64 4294968273,.int .u64 0,.int .u64 0],fv q] w λe w'=>e=.returned (fv g)∧Below w.heap.size w w':=by
  intro w; rw [← hgq]; exact normR_any w q (by omega)
 have FP:Hid (fv p=.agg #[.int .u64 18446744069414583343,.int .u64 18446744073709551615,.int .u64 18446744073709551615,.int .u64 18446744073709551615]):=Lib.hid (by rw [hp]; exact fv_P)
 obtain ⟨x0,x1,x2,x3,fx⟩:=words_fv x hx
 have FX:=Lib.hid fx
 rw [fx, ← hg]
 clear fx hx hn np hp hq hg hgq
 go_enter Tryz.func279,Tryz.ntmps279
 go_wp2
 refine wp_region_G (λj=>j == 8) (by kernel_rfl) ?_
 try simp only [Act.put]
 refine tkw 0 rfl (YieldsG.load (by rfl) _ _ rfl w.heap.size 0 rfl ([.int .u64 18446744069414583343,.int .u64 18446744073709551615,.int .u64 18446744073709551615,.int .u64 18446744073709551615,.int .u64 4294968273,.int .u64 0,.int .u64 0]) _ (Blk.lt (((Blk.new w _ _).alloc _).alloc _)) (Blk.range (((Blk.new w _ _).alloc _).alloc _)) Tryz.underlying370 rfl (by kernel_rfl)) ?_
 try simp only [Act.put,aA,aZ,aS]
 refine tk 1 rfl ?_
 try simp only [Act.put,aA,aZ,aS]
 refine tkw 2 rfl (YieldsG.loadP (by rfl) _ _ rfl w.heap.size rfl p _ (Blk.lt (((Blk.new w _ _).alloc _).alloc _)) (mod_range (((Blk.new w _ _).alloc _).alloc _)) FP.out Tryz.underlying363 rfl (by kernel_rfl)) ?_
 try simp only [Act.put,aA,aZ,aS]
 refine tkw 3 rfl (YieldsG.load (by rfl) _ _ rfl w.heap.size 0 rfl ([.int .u64 18446744069414583343,.int .u64 18446744073709551615,.int .u64 18446744073709551615,.int .u64 18446744073709551615,.int .u64 4294968273,.int .u64 0,.int .u64 0]) _ (Blk.lt (((Blk.new w _ _).alloc _).alloc _)) (Blk.range (((Blk.new w _ _).alloc _).alloc _)) Tryz.underlying370 rfl (by kernel_rfl)) ?_
 try simp only [Act.put,aA,aZ,aS]
 refine tkw 4 rfl (YieldsG.loadF (by rfl) _ _ rfl (w.heap.size+1) rfl (x) _ _ ((blk_new2 w _ _ _).alloc _) (FX.out) Tryz.underlying363 rfl (by kernel_rfl)) ?_
 try simp only [Act.put,aA,aZ,aS]
 refine tkw 5 rfl (YieldsG.call (v:=fv n) (by rfl) 246 _ (λw9=>by go_simp; try (first | with_reducible rfl | rfl)) (λw9 h9=>cN w9)) ?_
 try simp only [Act.put,aA,aZ,aS]
 refine tkw 6 rfl (YieldsG.call (v:=fv q) (by rfl) 273 _ (λw9=>by go_simp; try (first | with_reducible rfl | rfl)) (λw9 h9=>cM w9)) ?_
 try simp only [Act.put,aA,aZ,aS]
 refine tkw 7 rfl (YieldsG.call (v:=fv g) (by rfl) 246 _ (λw9=>by go_simp; try (first | with_reducible rfl | rfl)) (λw9 h9=>cG w9)) ?_
 try simp only [Act.put,aA,aZ,aS]
 refine wpAnyG_store 8 rfl (by kernel_rfl) (by rfl) _ _ _ rfl (w.heap.size+2) (fcs (g)) rfl rfl _ _ (blk_new3 w _ _ _ _) (by kernel_rfl) (by rfl) (fcs_one _) rfl (λw6 h6 w7 hB7 hL7=>?_)
 try simp only [Act.put]
 refine wpAnyG_done (by kernel_rfl) (λw8 h8=>?_)
 have hfin:=Gr.blk h8 hL7
 have hb9:=(Below.gr (below_alloc3 w _ _ _) h6).trans ((hB7 _ (by omega)).trans (Below.mono h8 (by have:=hL7.lt; omega)))
 go_wp2
 exact bodyPost_ret (results_cell_row rfl _ _ (w.heap.size+2) _ _ (0,0) _ rfl hfin Tryz.underlying363 rfl (by kernel_rfl)) rfl ⟨rfl,hb9⟩
end
end
section
namespace Fz
open Go.RowKit Go.Lib Sy
set_option maxHeartbeats 4000000 in
set_option maxRecDepth 100000 in
theorem mulZ (w:World) (M:Nat) (lw:Nat→Nat) (hlw:∀ t,lw t<18446744073709551616) (hM0:0<M) (hM:M+vR lw 3=18446744073709551616 ^ 4) (hnorm:∀ w x,x<(2^256)→Calls Tryz.prog 246 #[.agg (modc M lw),fv x] w (Gets w (fv (x%M)))) (x y:Nat) (hx:x<(2^256)) (hy:y<(2^256)):Calls Tryz.prog 274 #[.agg (modc M lw),fv x,fv y] w (Gets w (fv (x*y%M))):=by
 refine Sy.enter (args:=[.agg (modc M lw),fv x,fv y]) Tryz.func274 rfl kL ?_
 refine sC ?_
 refine sM 370 (modc M lw) (λg0=>?_)
 refine sM 363 (fcs x) (λg1=>?_)
 refine sM 363 (fcs y) (λg2=>?_)
 refine sM 363 (fcs 0) (λg3=>?_)
 refine sA ?_
 refine Sy.make kR 433 (rw8 (λ_=>0)) ptr kF (λg4=>?_)
 refine sG<|Sy.seq<|sC ?_
 refine sP (.int .i64 0) ?_
 refine sG<|Sy.block ?_
 refine Sy.loopX (T:=Nat→Nat) 4 (λk1 y1=>[(3,.pointer (some ⟨g0,0,none⟩)),(4,.pointer (some ⟨g1,0,none⟩)),(5,.pointer (some ⟨g2,0,none⟩)),(6,.pointer (some ⟨g3,0,none⟩)),(7,.pointer (some ⟨g4,0,none⟩)),(8,.int .i64 ((k1:Nat):Int))]) (λk1 y1=>[(g0,370,(modc M lw)),(g1,363,(fcs x)),(g2,363,(fcs y)),(g3,363,(fcs 0)),(g4,433,(rw8 y1))]) (λk1 y1=>(∀ t,y1 t<18446744073709551616)∧vR y1 8=vR (wd x) k1*vR (wd y) 4∧∀ t,k1+4≤t→y1 t=0) (λ_=>0) [true,true,true,true,true] (⟨λ_=>by show (0:Nat)<18446744073709551616; decide,by rw [vR_zero]; exact (Nat.zero_mul _).symm,λ_ _=>rfl⟩) (all_cons kR (all_cons kR (all_cons kR (all_cons kR (all_cons kR (all_cons kR all_nil)))))) kR (λk1 y1 hk1 hh1=>?_)
 refine Sy.seq<|sC ?_
 refine sP (.int .i64 ((k1:Nat):Int)) ?_
 obtain ⟨b1,hb1⟩:∃ z:Bool,z=decide (k1<4):=⟨_,rfl⟩
 refine sS (.bool b1) (Quiet.pure (exec_int .lss _ _ _ .i64 _ _ _ rfl rfl rfl (int_lss _ _ _ _ _ (by rw [hb1]; exact decide_eq_decide.2 (by omega))))) ?_
 refine sG ?_
 cases b1
 ·have lb1:¬ (k1<4):=of_decide_eq_false hb1.symm
  refine sU<|Sy.exit<|Sy.then_exit<|Sy.then_exit ?_
  obtain rfl:k1=4:=by omega
  refine Sy.in_exit<|sB ?_
  refine sS (.agg (modc M lw)) (qL 0 g0 0 7 370 370 (modc M lw) rfl Tryz.underlying370)<|sS (.agg (rw8 y1)) (Quiet.load 4 g4 0 8 433 433 (rw8 y1) _ _ rfl kR kR Tryz.underlying433 rfl kR _ kR kL)<|sS (fv (vR y1 8%M)) (qF 288 #[.agg (modc M lw),.agg (rw8 y1)] (λw=>foldZ w M lw hlw hM0 hM hnorm y1 hh1.1))<|sW 3 g3 363 (fcs 0) (fcs (vR y1 8%M)) (wS 0 363 (fcs (vR y1 8%M)) rfl) ?_
  refine sG<|Sy.ret ?_
  rw [show (fv (x*y%M):Value)=fv (vR y1 8%M) from by rw [hh1.2.1,wd4 hx,wd4 hy]]
  exact rC (v:=fv (vR y1 8%M)) 363 g3 3 (fcs (vR y1 8%M)) rfl Tryz.underlying363
 ·have lb1:k1<4:=of_decide_eq_true hb1.symm
  refine sT<|Sy.skip<|Sy.then_<|Sy.seq<|Sy.block<|sC ?_
  refine sP (.int .u64 0) ?_
  refine sG<|Sy.seq<|sC ?_
  refine sP (.int .i64 0) ?_
  refine sG<|Sy.block ?_
  refine Sy.loopX (T:=(Nat→Nat)×Nat) 4 (λk2 y2=>[(3,.pointer (some ⟨g0,0,none⟩)),(4,.pointer (some ⟨g1,0,none⟩)),(5,.pointer (some ⟨g2,0,none⟩)),(6,.pointer (some ⟨g3,0,none⟩)),(7,.pointer (some ⟨g4,0,none⟩)),(8,.int .i64 ((k1:Nat):Int)),(9,.int .u64 ((y2.2:Nat):Int)),(10,.int .i64 ((k2:Nat):Int))]) (λk2 y2=>[(g0,370,(modc M lw)),(g1,363,(fcs x)),(g2,363,(fcs y)),(g3,363,(fcs 0)),(g4,433,(rw8 y2.1))]) (λk2 y2=>(∀ t,y2.1 t<18446744073709551616)∧y2.2<18446744073709551616∧vR y2.1 8+y2.2*18446744073709551616 ^ (k1+k2)=vR y1 8+wd x k1*vR (wd y) k2*18446744073709551616 ^ k1∧∀ t,k1+4≤t→y2.1 t=0) (y1,0) [true,true,true,true,true] (⟨hh1.1,by show (0:Nat)<18446744073709551616; decide,by show vR y1 8+0*_=_+_*0*_; omega,hh1.2.2⟩) (all_cons kR (all_cons kR (all_cons kR (all_cons kR (all_cons kR (all_cons kR (all_cons kR (all_cons kR all_nil)))))))) kR (λk2 y2 hk2 hh2=>?_)
  refine Sy.seq<|sC ?_
  refine sP (.int .i64 ((k2:Nat):Int)) ?_
  obtain ⟨b2,hb2⟩:∃ z:Bool,z=decide (k2<4):=⟨_,rfl⟩
  refine sS (.bool b2) (Quiet.pure (exec_int .lss _ _ _ .i64 _ _ _ rfl rfl rfl (int_lss _ _ _ _ _ (by rw [hb2]; exact decide_eq_decide.2 (by omega))))) ?_
  refine sG ?_
  cases b2
  ·have lb2:¬ (k2<4):=of_decide_eq_false hb2.symm
   refine sU<|Sy.exit<|Sy.then_exit<|Sy.then_exit ?_
   obtain rfl:k2=4:=by omega
   refine Sy.in_exit<|Sy.then_<|Sy.region ?_
   refine sP (.int .i64 ((k1:Nat):Int))<|sS (.int .i64 ((k1+4:Nat):Int)) (Quiet.pure (exec_int .add _ _ _ .i64 _ _ _ rfl rfl rfl (int_add _ _ _ _ _ ((wrap_i64 (by omega) (by omega)).trans (by omega)))))<|sP (.int .u64 ((y2.2:Nat):Int))<|sS (.pointer (some ⟨g4,0+(k1+4)*1,none⟩)) (Quiet.pure (exec_atA 433 _ _ _ g4 0 _ (k1+4) 1 .i64 rfl rfl rfl Tryz.underlying433 kF (by omega))) ?_
   refine Sy.write kR 4 g4 433 (rw8 y2.1) (rw8 (upd y2.1 (k1+4) y2.2)) kR (Writes.one (0+(k1+4)*1) 22 (.int .u64 ((y2.2:Nat):Int)) _ _ rfl kR kR kR rfl rfl (rw8_fit _ (k:=k1+4) (by omega) (by omega)) (rw8_set _ _ (by omega) (by omega))) ?_
   refine Sy.nil<|Sy.in_<|Sy.then_<|Sy.region ?_
   refine sP (.int .i64 ((k1:Nat):Int))<|sS (.int .i64 ((k1+1:Nat):Int)) (Quiet.pure (exec_int .add _ _ _ .i64 _ _ _ rfl rfl rfl (int_add _ _ _ _ _ ((wrap_i64 (by omega) (by omega)).trans (by omega)))))<|sP (.int .i64 ((k1+1:Nat):Int)) ?_
   refine Sy.nil ?_
   have hq:=outerM hh1.2.1 hh2.2.2.1 (hh2.2.2.2 _ (Nat.le_refl _)) (by omega)
   exact Sy.againX (upd y2.1 (k1+4) y2.2) [true,true,true,true,true] (by omega) (⟨upd_lt hh2.1 hh2.2.1,hq,λt ht=>(upd_ne (by omega)).trans (hh2.2.2.2 t (by omega))⟩) (all_cons kR (all_cons kR (all_cons kR (all_cons kR (all_cons kR (all_cons kR all_nil)))))) kR
  ·have lb2:k2<4:=of_decide_eq_true hb2.symm
   refine sT<|Sy.skip<|Sy.then_<|Sy.seq<|Sy.block<|Sy.seq ?_
   refine Sy.regionD (λj=>false) kR ?_
   refine sZ 0 rfl (.int .i64 ((k1:Nat):Int))<|sD 1 rfl (.pointer (some ⟨g1,0+k1*1,none⟩)) (Quiet.pure (exec_atA 363 _ _ _ g1 0 _ k1 1 .i64 rfl rfl rfl Tryz.underlying363 kF (by omega)))<|sD 2 rfl (.int .u64 ((wd x k1:Nat):Int)) (Quiet.cell 1 g1 (0+k1*1) 363 22 (fcs x) _ _ rfl kR kR Tryz.underlying22 rfl _ (fcs_at x (k:=k1) (by omega) (by omega)))<|sZ 3 rfl (.int .i64 ((k2:Nat):Int))<|sD 4 rfl (.pointer (some ⟨g2,0+k2*1,none⟩)) (Quiet.pure (exec_atA 363 _ _ _ g2 0 _ k2 1 .i64 rfl rfl rfl Tryz.underlying363 kF (by omega)))<|sD 5 rfl (.int .u64 ((wd y k2:Nat):Int)) (Quiet.cell 2 g2 (0+k2*1) 363 22 (fcs y) _ _ rfl kR kR Tryz.underlying22 rfl _ (fcs_at y (k:=k2) (by omega) (by omega))) ?_
   obtain ⟨hi1,lo1,llo1,elo1⟩:=two_words (wd x k1) (wd y k2)
   refine sD 6 rfl (.tuple #[.int .u64 ((hi1:Nat):Int),.int .u64 ((lo1:Nat):Int)]) (qF 266 #[.int .u64 ((wd x k1:Nat):Int),.int .u64 ((wd y k2:Nat):Int)] (λw=>mulZ_any w (wd x k1) (wd y k2) hi1 lo1 (by first | assumption | exact wd_lt _ _ | exact hh1.1 _ | exact hh2.1 _ | exact hh2.2.1 | decide) (by first | assumption | exact wd_lt _ _ | exact hh1.1 _ | exact hh2.1 _ | exact hh2.2.1 | decide) llo1 elo1))<|sZ 7 rfl (.tuple #[.int .u64 ((hi1:Nat):Int),.int .u64 ((lo1:Nat):Int)])<|sZ 8 rfl (.int .u64 ((hi1:Nat):Int))<|sZ 9 rfl (.int .u64 ((lo1:Nat):Int))<|sZ 10 rfl (.int .u64 ((hi1:Nat):Int))<|sZ 11 rfl (.int .u64 ((lo1:Nat):Int)) ?_
   refine sE ?_
   refine sB ?_
   refine sP (.int .u64 ((lo1:Nat):Int))<|sP (.int .i64 ((k1:Nat):Int))<|sP (.int .i64 ((k2:Nat):Int))<|sS (.int .i64 ((k1+k2:Nat):Int)) (Quiet.pure (exec_int .add _ _ _ .i64 _ _ _ rfl rfl rfl (int_add _ _ _ _ _ ((wrap_i64 (by omega) (by omega)).trans (by omega)))))<|sS (.pointer (some ⟨g4,0+(k1+k2)*1,none⟩)) (Quiet.pure (exec_atA 433 _ _ _ g4 0 _ (k1+k2) 1 .i64 rfl rfl rfl Tryz.underlying433 kF (by omega)))<|sS (.int .u64 ((y2.1 (k1+k2):Nat):Int)) (Quiet.cell 4 g4 (0+(k1+k2)*1) 433 22 (rw8 y2.1) _ _ rfl kR kR Tryz.underlying22 rfl _ (rw8_at y2.1 (k:=k1+k2) (by omega) (by omega))) ?_
   obtain ⟨x1,c1,lx1,lc1,ex1,rx1⟩:=add0_ex (lo1) (y2.1 (k1+k2)) (by first | assumption | exact wd_lt _ _ | exact hh1.1 _ | exact hh2.1 _ | exact hh2.2.1 | decide) (by first | assumption | exact wd_lt _ _ | exact hh1.1 _ | exact hh2.1 _ | exact hh2.2.1 | decide)
   refine sS (.tuple #[.int .u64 ((x1:Nat):Int),.int .u64 ((c1:Nat):Int)]) (Quiet.pure (λw=>Eq.trans kR (rx1 w)))<|sP (.tuple #[.int .u64 ((x1:Nat):Int),.int .u64 ((c1:Nat):Int)])<|sP (.int .u64 ((x1:Nat):Int))<|sP (.int .u64 ((c1:Nat):Int))<|sP (.int .u64 ((x1:Nat):Int))<|sP (.int .u64 ((c1:Nat):Int)) ?_
   refine sA ?_
   refine sP (.int .u64 ((x1:Nat):Int))<|sP (.int .u64 ((y2.2:Nat):Int)) ?_
   obtain ⟨x2,c2,lx2,lc2,ex2,rx2⟩:=add0_ex (x1) (y2.2) (by first | assumption | exact wd_lt _ _ | exact hh1.1 _ | exact hh2.1 _ | exact hh2.2.1 | decide) (by first | assumption | exact wd_lt _ _ | exact hh1.1 _ | exact hh2.1 _ | exact hh2.2.1 | decide)
   refine sS (.tuple #[.int .u64 ((x2:Nat):Int),.int .u64 ((c2:Nat):Int)]) (Quiet.pure (λw=>Eq.trans kR (rx2 w)))<|sP (.tuple #[.int .u64 ((x2:Nat):Int),.int .u64 ((c2:Nat):Int)])<|sP (.int .u64 ((x2:Nat):Int))<|sP (.int .u64 ((c2:Nat):Int))<|sP (.int .u64 ((x2:Nat):Int))<|sP (.int .u64 ((c2:Nat):Int)) ?_
   refine sA ?_
   refine sP (.int .i64 ((k1:Nat):Int))<|sP (.int .i64 ((k2:Nat):Int))<|sS (.int .i64 ((k1+k2:Nat):Int)) (Quiet.pure (exec_int .add _ _ _ .i64 _ _ _ rfl rfl rfl (int_add _ _ _ _ _ ((wrap_i64 (by omega) (by omega)).trans (by omega)))))<|sP (.int .u64 ((x2:Nat):Int))<|sS (.pointer (some ⟨g4,0+(k1+k2)*1,none⟩)) (Quiet.pure (exec_atA 433 _ _ _ g4 0 _ (k1+k2) 1 .i64 rfl rfl rfl Tryz.underlying433 kF (by omega))) ?_
   refine Sy.write kR 4 g4 433 (rw8 y2.1) (rw8 (upd y2.1 (k1+k2) x2)) kR (Writes.one (0+(k1+k2)*1) 22 (.int .u64 ((x2:Nat):Int)) _ _ rfl kR kR kR rfl rfl (rw8_fit _ (k:=k1+k2) (by omega) (by omega)) (rw8_set _ _ (by omega) (by omega))) ?_
   refine sG<|Sy.region ?_
   refine sP (.int .u64 ((hi1:Nat):Int))<|sP (.int .u64 ((c1:Nat):Int)) ?_
   have hst:=stepZ elo1 ex1 ex2
   have hcar:=carryZ hst (by first | assumption | exact wd_lt _ _ | exact hh1.1 _ | exact hh2.1 _ | exact hh2.2.1 | decide) (by first | assumption | exact wd_lt _ _ | exact hh1.1 _ | exact hh2.1 _ | exact hh2.2.1 | decide) (by first | assumption | exact wd_lt _ _ | exact hh1.1 _ | exact hh2.1 _ | exact hh2.2.1 | decide) hh2.2.1
   refine sS (.int .u64 ((hi1+c1:Nat):Int)) (Quiet.pure (exec_int .add _ _ _ .u64 _ _ _ rfl rfl rfl (int_add _ _ _ _ _ ((wrap_u64 (by omega) (by omega)).trans (by omega)))))<|sP (.int .u64 ((c2:Nat):Int))<|sS (.int .u64 (((hi1+c1)+c2:Nat):Int)) (Quiet.pure (exec_int .add _ _ _ .u64 _ _ _ rfl rfl rfl (int_add _ _ _ _ _ ((wrap_u64 (by omega) (by omega)).trans (by omega)))))<|sP (.int .u64 (((hi1+c1)+c2:Nat):Int)) ?_
   refine Sy.nil<|Sy.in_<|Sy.then_<|Sy.region ?_
   refine sP (.int .i64 ((k2:Nat):Int))<|sS (.int .i64 ((k2+1:Nat):Int)) (Quiet.pure (exec_int .add _ _ _ .i64 _ _ _ rfl rfl rfl (int_add _ _ _ _ _ ((wrap_i64 (by omega) (by omega)).trans (by omega)))))<|sP (.int .i64 ((k2+1:Nat):Int)) ?_
   refine Sy.nil ?_
   have hin:=innerZ (vR_upd y2.1 (k1+k2) x2 8 (by omega)) hh2.2.2.1 hst (P0:=18446744073709551616 ^ k2) (by rw [Nat.add_comm,Nat.pow_add])
   exact Sy.againX ((upd y2.1 (k1+k2) x2,hi1+c1+c2)) [true,true,true,true,true] (by omega) (⟨upd_lt hh2.1 lx2,hcar,by rw [← Nat.add_assoc,Nat.pow_succ]; exact hin,λt ht=>(upd_ne (by omega)).trans (hh2.2.2.2 t ht)⟩) (all_cons kR (all_cons kR (all_cons kR (all_cons kR (all_cons kR (all_cons kR (all_cons kR (all_cons kR all_nil)))))))) kR
end Fz
end
section
section
open Go.RowKit Go.Lib
theorem mulR_any (w:World) (x y:Nat) (hx:x<(2^256)) (hy:y<(2^256)):Calls Tryz.prog 274 #[.agg #[.int .u64 18446744069414583343,.int .u64 18446744073709551615,.int .u64 18446744073709551615,.int .u64 18446744073709551615,.int .u64 4294968273,.int .u64 0,.int .u64 0],fv x,fv y] w λe w'=>e=.returned (fv (mulP x y))∧Below w.heap.size w w':=by
 have h:=Fz.mulZ w pM lackW lackW_lt pM_pos0 lack_sum (λw x hx=>by rw [mod_row]; exact normR_any w x hx) x y hx hy
 rw [mod_row] at h
 exact h
end
end
section
namespace Fz
open Go.RowKit Go.Lib Sy
def msk (j:Nat):Nat:=9223372036854775808 / 2 ^ j
theorem msk_next (j:Nat):msk j / 2=msk (j+1):=by unfold msk; rw [Nat.div_div_eq_div_mul, ← Nat.pow_succ]
theorem msk_is {j:Nat} (h:j≤63):msk j=2 ^ (63 - j):=by
 unfold msk
 have e:(9223372036854775808:Nat)=2 ^ (63 - j)*2 ^ j:=by rw [← Nat.pow_add,show 63 - j+j=63 by omega]
 rw [e]
 exact Nat.mul_div_cancel _ (Nat.two_pow_pos j)
theorem msk_pos {j:Nat} (h:j<64):0<msk j:=by rw [msk_is (by omega)]; exact Nat.two_pow_pos _
theorem msk_end:msk 64=0:=by decide
theorem msk_lt (j:Nat):msk j<18446744073709551616:=Nat.lt_of_le_of_lt (Nat.div_le_self _ _) (by decide)
theorem div_word2 (a r s:Nat) (hs:s≤63):(a+18446744073709551616*r) / 2 ^ s%2=a / 2 ^ s%2:=by
 obtain ⟨u,hu⟩:∃ u,2 ^ s*(2*u)=18446744073709551616:=by
  refine ⟨2 ^ (63 - s),?_⟩
  have:2 ^ s*2 ^ (63 - s)=2 ^ 63:=by rw [← Nat.pow_add]; congr 1; omega
  rw [show (2:Nat)*2 ^ (63 - s)=2 ^ (63 - s)*2 from Nat.mul_comm _ _, ← Nat.mul_assoc,this]
 rw [← hu,Nat.mul_assoc,Nat.add_mul_div_left _ _ (Nat.two_pow_pos s),Nat.mul_assoc,Nat.add_mul_mod_self_left]
theorem next_digit (e i s w r:Nat) (hz:e / 2 ^ (64*i)=w+18446744073709551616*r) (hs:s≤63):e / 2 ^ (64*i+s)=2*(e / 2 ^ (64*i+(s+1)))+w / 2 ^ s%2:=by
 have h1:e / 2 ^ (64*i+s)%2=w / 2 ^ s%2:=by
  rw [Nat.pow_add, ← Nat.div_div_eq_div_mul,hz,div_word2 w r s hs]
 have h2:e / 2 ^ (64*i+(s+1))=e / 2 ^ (64*i+s) / 2:=by
  rw [← Nat.add_assoc,Nat.pow_succ,Nat.div_div_eq_div_mul]
 rw [h2, ← h1]
 omega
theorem wd_digit (e i s:Nat) (hs:s≤63):e / 2 ^ (64*i+s)=2*(e / 2 ^ (64*i+(s+1)))+wd e i / 2 ^ s%2 :=
 next_digit e i s (wd e i) (e / 18446744073709551616 ^ i / 18446744073709551616) (by
  unfold wd
  rw [Nat.mod_add_div,Nat.pow_mul]) hs
theorem and_zero (a s:Nat):a &&& 2 ^ s=0↔a / 2 ^ s%2=0:=by
 have hb:a.testBit s=decide (a / 2 ^ s%2=1):=Nat.testBit_eq_decide_div_mod_eq
 constructor
 ·intro h
  have h2:(a &&& 2 ^ s).testBit s=false:=by rw [h]; simp
  rw [Nat.testBit_and,Nat.testBit_two_pow_self,Bool.and_true,hb] at h2
  have h3:¬ a / 2 ^ s%2=1:=by simpa using h2
  omega
 ·intro h
  have h2:a.testBit s=false:=by rw [hb]; simp; omega
  refine Nat.eq_of_testBit_eq λj=>?_
  rw [Nat.testBit_and,Nat.zero_testBit,Nat.testBit_two_pow]
  by_cases hj:s=j
  ·subst hj; simp [h2]
  ·simp [hj]
theorem and_nat (a b:Nat) (ha:a<18446744073709551616) (hb:b<18446744073709551616):IntKind.u64.wrap ((BitVec.ofInt IntKind.u64.bits (a:Int) &&& BitVec.ofInt IntKind.u64.bits (b:Int)).toNat:Int)=((a &&& b:Nat):Int):=by
 have hl:a &&& b<18446744073709551616:=Nat.lt_of_le_of_lt Nat.and_le_left ha
 have hw2:(BitVec.ofInt 64 (a:Int) &&& BitVec.ofInt 64 (b:Int)).toNat=a &&& b:=by
  rw [BitVec.toNat_and]
  simp only [BitVec.ofInt_natCast,BitVec.toNat_ofNat]
  rw [Nat.mod_eq_of_lt (by omega),Nat.mod_eq_of_lt (by omega)]
 show IntKind.u64.wrap ((BitVec.ofInt 64 (a:Int) &&& BitVec.ofInt 64 (b:Int)).toNat:Int)=_
 rw [hw2,wrap_u64 (by omega) (by omega)]
theorem half (a:Nat) (ha:a<18446744073709551616):IntKind.u64.wrap ((a:Int).tdiv 2)=((a / 2:Nat):Int):=by
 have e:(a:Int).tdiv 2=((a / 2:Nat):Int):=rfl
 rw [e,wrap_u64 (by omega) (by omega)]
def pz (M x e i s:Nat):Nat:=x ^ (e / 2 ^ (64*i+s))%M
theorem pz_even {M x e i j:Nat} (hj:j<64) (h:wd e i / 2 ^ (63 - j)%2=0):pz M x e i (64 - j)*pz M x e i (64 - j)%M=pz M x e i (64 - (j+1)):=by
 have q:=wd_digit e i (63 - j) (by omega)
 rw [h,Nat.add_zero,show 63 - j+1=64 - j by omega] at q
 unfold pz
 rw [show 64 - (j+1)=63 - j by omega,q, ← Nat.mul_mod, ← Nat.pow_add,Nat.two_mul]
theorem pz_odd {M x e i j:Nat} (hj:j<64) (h:¬ wd e i / 2 ^ (63 - j)%2=0):pz M x e i (64 - j)*pz M x e i (64 - j)%M*x%M=pz M x e i (64 - (j+1)):=by
 have q:=wd_digit e i (63 - j) (by omega)
 rw [show wd e i / 2 ^ (63 - j)%2=1 by omega,show 63 - j+1=64 - j by omega] at q
 unfold pz
 rw [show 64 - (j+1)=63 - j by omega,q, ← Nat.mul_mod, ← Nat.pow_add,Nat.mod_mul_mod, ← Nat.pow_succ,Nat.two_mul]
theorem pz_word {M x e i:Nat}:pz M x e (i+1) 0=pz M x e i 64:=by unfold pz; rw [Nat.add_zero,Nat.mul_add,Nat.mul_one]
theorem pz_first {M x e:Nat} (he:e<(2^256)) (hM:1<M):pz M x e 4 0=1:=by
 unfold pz
 rw [Nat.div_eq_of_lt (by rw [show 64*4+0=256 from rfl]; omega),Nat.pow_zero,Nat.mod_eq_of_lt hM]
theorem pz_last {M x e:Nat}:pz M x e 0 0=x ^ e%M:=by
 unfold pz
 rw [show 64*0+0=0 from rfl,Nat.pow_zero,Nat.div_one]
set_option maxHeartbeats 4000000 in
set_option maxRecDepth 100000 in
theorem powZ (w:World) (M:Nat) (lw:Nat→Nat) (hlw:∀ t,lw t<18446744073709551616) (hM0:0<M) (hM1:1<M) (hM:M+vR lw 3=18446744073709551616 ^ 4) (hM4:M≤(2^256)) (hnorm:∀ w x,x<(2^256)→Calls Tryz.prog 246 #[.agg (modc M lw),fv x] w (Gets w (fv (x%M)))) (hsmall:∀ w,Calls Tryz.prog 276 #[.int .u64 1] w (Gets w (fv 1))) (x e:Nat) (hx:x<(2^256)) (he:e<(2^256)):Calls Tryz.prog 291 #[.agg (modc M lw),fv x,fv e] w (Gets w (fv (x ^ e%M))):=by
 refine Sy.enter (args:=[.agg (modc M lw),fv x,fv e]) Tryz.func291 rfl kL ?_
 refine sC ?_
 refine sM 370 (modc M lw) (λg0=>?_)
 refine sM 363 (fcs x) (λg1=>?_)
 refine sM 363 (fcs e) (λg2=>?_)
 refine sM 363 (fcs 0) (λg3=>?_)
 refine sA ?_
 refine sS (fv 1) (qF 276 #[.int .u64 1] (λw=>hsmall w)) ?_
 refine sM 363 (fcs 0) (λg4=>?_)
 refine sW 4 g4 363 (fcs 0) (fcs 1) (wS 0 363 (fcs 1) rfl) ?_
 refine sG<|Sy.seq<|sC ?_
 refine sP (.int .i64 3) ?_
 refine sG<|Sy.block ?_
 refine Sy.loopX (T:=Int×Nat) 4 (λk1 y1=>[(3,.pointer (some ⟨g0,0,none⟩)),(4,.pointer (some ⟨g1,0,none⟩)),(5,.pointer (some ⟨g2,0,none⟩)),(6,.pointer (some ⟨g3,0,none⟩)),(7,.pointer (some ⟨g4,0,none⟩)),(8,.int .i64 y1.1)]) (λk1 y1=>[(g0,370,(modc M lw)),(g1,363,(fcs x)),(g2,363,(fcs e)),(g3,363,(fcs 0)),(g4,363,(fcs y1.2))]) (λk1 y1=>y1.1=3 - ((k1:Nat):Int)∧y1.2=pz M x e (4 - k1) 0) ((3:Int),1) [true,true,true,true,true] (⟨rfl,(pz_first he hM1).symm⟩) (all_cons kR (all_cons kR (all_cons kR (all_cons kR (all_cons kR (all_cons kR all_nil)))))) kR (λk1 y1 hk1 hh1=>?_)
 refine Sy.seq<|sC ?_
 refine sP (.int .i64 y1.1) ?_
 obtain ⟨b1,hb1⟩:∃ z:Bool,z=decide (y1.1 ≥ 0):=⟨_,rfl⟩
 refine sS (.bool b1) (Quiet.pure (exec_int .geq _ _ _ .i64 _ _ _ rfl rfl rfl (int_geq _ _ _ _ _ hb1.symm))) ?_
 refine sG ?_
 cases b1
 ·have lb1:¬ (y1.1 ≥ 0):=of_decide_eq_false hb1.symm
  refine sU<|Sy.exit<|Sy.then_exit<|Sy.then_exit ?_
  obtain rfl:k1=4:=by omega
  refine Sy.in_exit<|sB ?_
  refine sS (fv y1.2) (qL 4 g4 0 4 363 363 (fcs y1.2) rfl Tryz.underlying363)<|sW 3 g3 363 (fcs 0) (fcs y1.2) (wS 0 363 (fcs y1.2) rfl) ?_
  refine sG<|Sy.ret ?_
  rw [show (fv (x ^ e%M):Value)=fv y1.2 from by rw [hh1.2,show 4 - 4=0 from rfl,pz_last]]
  exact rC (v:=fv y1.2) 363 g3 3 (fcs y1.2) rfl Tryz.underlying363
 ·have lb1:y1.1 ≥ 0:=of_decide_eq_true hb1.symm
  have hq0:=hh1.1
  obtain ⟨q1,hq1⟩:∃ q:Nat,y1.1=(q:Int):=⟨y1.1.toNat,by omega⟩
  have hqk:q1+k1=3:=by omega
  refine sT<|Sy.skip<|Sy.then_<|Sy.seq<|Sy.block<|sC ?_
  refine sP (.int .u64 9223372036854775808) ?_
  refine sG<|Sy.block ?_
  refine Sy.loopX (T:=Nat×Nat) 64 (λk2 y2=>[(3,.pointer (some ⟨g0,0,none⟩)),(4,.pointer (some ⟨g1,0,none⟩)),(5,.pointer (some ⟨g2,0,none⟩)),(6,.pointer (some ⟨g3,0,none⟩)),(7,.pointer (some ⟨g4,0,none⟩)),(8,.int .i64 y1.1),(9,.int .u64 ((y2.1:Nat):Int))]) (λk2 y2=>[(g0,370,(modc M lw)),(g1,363,(fcs x)),(g2,363,(fcs e)),(g3,363,(fcs 0)),(g4,363,(fcs y2.2))]) (λk2 y2=>y2.1=msk k2∧y2.2=pz M x e q1 (64 - k2)) (9223372036854775808,y1.2) [true,true,true,true,true] (⟨rfl,by show y1.2=_; rw [hh1.2,show 4 - k1=q1+1 by omega]; exact pz_word⟩) (all_cons kR (all_cons kR (all_cons kR (all_cons kR (all_cons kR (all_cons kR (all_cons kR all_nil))))))) kR (λk2 y2 hk2 hh2=>?_)
  refine Sy.seq<|sC ?_
  refine sP (.int .u64 ((y2.1:Nat):Int)) ?_
  obtain ⟨b2,hb2⟩:∃ z:Bool,z=decide (y2.1>0):=⟨_,rfl⟩
  refine sS (.bool b2) (Quiet.pure (exec_int .gtr _ _ _ .u64 _ _ _ rfl rfl rfl (int_gtr _ _ _ _ _ (by rw [hb2]; exact decide_eq_decide.2 (by omega))))) ?_
  refine sG ?_
  cases b2
  ·have lb2:¬ (y2.1>0):=of_decide_eq_false hb2.symm
   have hk64:¬ k2<64:=λh=>by have:=msk_pos h; have:=hh2.1; omega
   refine sU<|Sy.exit<|Sy.then_exit<|Sy.then_exit ?_
   obtain rfl:k2=64:=by omega
   refine Sy.in_exit<|Sy.in_<|Sy.then_<|Sy.region ?_
   refine sP (.int .i64 y1.1)<|sS (.int .i64 (y1.1 - 1)) (Quiet.pure (exec_int .sub _ _ _ .i64 _ _ _ rfl rfl rfl (int_sub _ _ _ _ _ (wrap_i64 (by omega) (by omega)))))<|sP (.int .i64 (y1.1 - 1)) ?_
   refine Sy.nil ?_
   have hq:=hh1.1
   exact Sy.againX ((y1.1 - 1,y2.2)) [true,true,true,true,true] (by have:=hh1.1; omega) (⟨by show y1.1 - 1=_; omega,by show y2.2=_; rw [hh2.2,show 4 - (k1+1)=q1 by omega,show 64 - 64=0 from rfl]⟩) (all_cons kR (all_cons kR (all_cons kR (all_cons kR (all_cons kR (all_cons kR all_nil)))))) kR
  ·have lb2:y2.1>0:=of_decide_eq_true hb2.symm
   have hk64:k2<64:=by
    rcases Nat.lt_or_ge k2 64 with h | h
    ·exact h
    ·have e:k2=64:=by omega
     have:=hh2.1
     rw [e,msk_end] at this
     omega
   refine sT<|Sy.skip<|Sy.then_<|Sy.seq<|Sy.block<|sC ?_
   refine sS (.agg (modc M lw)) (qL 0 g0 0 7 370 370 (modc M lw) rfl Tryz.underlying370)<|sS (fv y2.2) (qL 4 g4 0 4 363 363 (fcs y2.2) rfl Tryz.underlying363)<|sS (fv y2.2) (qL 4 g4 0 4 363 363 (fcs y2.2) rfl Tryz.underlying363)<|sS (fv (y2.2*y2.2%M)) (qF 274 #[.agg (modc M lw),fv y2.2,fv y2.2] (λw=>mulZ w M lw hlw hM0 hM hnorm (y2.2) (y2.2) (by first | assumption | exact Nat.lt_of_lt_of_le (Nat.mod_lt _ hM0) hM4 | (rw [hh2.2]; exact Nat.lt_of_lt_of_le (Nat.mod_lt _ hM0) hM4)) (by first | assumption | exact Nat.lt_of_lt_of_le (Nat.mod_lt _ hM0) hM4 | (rw [hh2.2]; exact Nat.lt_of_lt_of_le (Nat.mod_lt _ hM0) hM4))))<|sW 4 g4 363 (fcs y2.2) (fcs (y2.2*y2.2%M)) (wS 0 363 (fcs (y2.2*y2.2%M)) rfl) ?_
   refine sA ?_
   refine sP (.int .i64 y1.1)<|sS (.pointer (some ⟨g2,0+q1*1,none⟩)) (Quiet.pure (exec_atA 363 _ _ _ g2 0 _ q1 1 .i64 rfl rfl (show Value.int .i64 y1.1=.int .i64 ((q1:Nat):Int) from by rw [hq1]) Tryz.underlying363 kF (by omega)))<|sS (.int .u64 ((wd e q1:Nat):Int)) (Quiet.cell 2 g2 (0+q1*1) 363 22 (fcs e) _ _ rfl kR kR Tryz.underlying22 rfl _ (fcs_at e (k:=q1) (by omega) (by omega)))<|sP (.int .u64 ((y2.1:Nat):Int))<|sS (.int .u64 (((wd e q1) &&& y2.1:Nat):Int)) (Quiet.pure (exec_int .and _ _ _ .u64 _ _ _ rfl rfl rfl (int_and _ _ _ _ _ (and_nat _ _ (wd_lt _ _) (by rw [hh2.1]; exact msk_lt _))))) ?_
   obtain ⟨b3,hb3⟩:∃ z:Bool,z=decide ((wd e q1) &&& y2.1≠0):=⟨_,rfl⟩
   refine sS (.bool b3) (Quiet.pure (exec_int .neq _ _ _ .u64 _ _ _ rfl rfl rfl (int_neq _ _ _ _ _ (by rw [hb3]; exact decide_eq_decide.2 (by omega))))) ?_
   refine sG ?_
   cases b3
   ·have lb3:¬ ((wd e q1) &&& y2.1≠0):=of_decide_eq_false hb3.symm
    have hbit:y2.1=2 ^ (63 - k2):=hh2.1.trans (msk_is (by omega))
    have hpw:y2.2*y2.2%M=pz M x e q1 (64 - (k2+1)):=by rw [hh2.2]; exact pz_even hk64 ((and_zero _ _).1 (by have:=lb3; rw [hbit] at this; omega))
    refine sU<|Sy.skip<|Sy.in_<|Sy.then_<|Sy.region ?_
    refine sP (.int .u64 ((y2.1:Nat):Int))<|sS (.int .u64 ((y2.1 / 2:Nat):Int)) (Quiet.pure (exec_int .quo _ _ _ .u64 _ _ _ rfl rfl rfl (int_quo _ _ _ _ _ (by decide) (half _ (by rw [hh2.1]; exact msk_lt _)))))<|sP (.int .u64 ((y2.1 / 2:Nat):Int)) ?_
    refine Sy.nil ?_
    have hpz:=hpw
    exact Sy.againX ((y2.1 / 2,(y2.2*y2.2%M))) [true,true,true,true,true] (hk64) (⟨by show y2.1 / 2=_; rw [hh2.1]; exact msk_next _,by show _=_; exact hpz⟩) (all_cons kR (all_cons kR (all_cons kR (all_cons kR (all_cons kR (all_cons kR (all_cons kR all_nil))))))) kR
   ·have lb3:(wd e q1) &&& y2.1≠0:=of_decide_eq_true hb3.symm
    have hbit:y2.1=2 ^ (63 - k2):=hh2.1.trans (msk_is (by omega))
    have hpw:y2.2*y2.2%M*x%M=pz M x e q1 (64 - (k2+1)):=by rw [hh2.2]; exact pz_odd hk64 (λh=>lb3 (by rw [hbit]; exact (and_zero _ _).2 h))
    refine sT<|Sy.region ?_
    refine sS (.agg (modc M lw)) (qL 0 g0 0 7 370 370 (modc M lw) rfl Tryz.underlying370)<|sS (fv (y2.2*y2.2%M)) (qL 4 g4 0 4 363 363 (fcs (y2.2*y2.2%M)) rfl Tryz.underlying363)<|sS (fv x) (qL 1 g1 0 4 363 363 (fcs x) rfl Tryz.underlying363)<|sS (fv ((y2.2*y2.2%M)*x%M)) (qF 274 #[.agg (modc M lw),fv (y2.2*y2.2%M),fv x] (λw=>mulZ w M lw hlw hM0 hM hnorm ((y2.2*y2.2%M)) (x) (by first | assumption | exact Nat.lt_of_lt_of_le (Nat.mod_lt _ hM0) hM4 | (rw [hh2.2]; exact Nat.lt_of_lt_of_le (Nat.mod_lt _ hM0) hM4)) (by first | assumption | exact Nat.lt_of_lt_of_le (Nat.mod_lt _ hM0) hM4 | (rw [hh2.2]; exact Nat.lt_of_lt_of_le (Nat.mod_lt _ hM0) hM4))))<|sW 4 g4 363 (fcs (y2.2*y2.2%M)) (fcs ((y2.2*y2.2%M)*x%M)) (wS 0 363 (fcs ((y2.2*y2.2%M)*x%M)) rfl) ?_
    refine Sy.nil<|Sy.in_<|Sy.then_<|Sy.region ?_
    refine sP (.int .u64 ((y2.1:Nat):Int))<|sS (.int .u64 ((y2.1 / 2:Nat):Int)) (Quiet.pure (exec_int .quo _ _ _ .u64 _ _ _ rfl rfl rfl (int_quo _ _ _ _ _ (by decide) (half _ (by rw [hh2.1]; exact msk_lt _)))))<|sP (.int .u64 ((y2.1 / 2:Nat):Int)) ?_
    refine Sy.nil ?_
    have hpz:=hpw
    exact Sy.againX ((y2.1 / 2,((y2.2*y2.2%M)*x%M))) [true,true,true,true,true] (hk64) (⟨by show y2.1 / 2=_; rw [hh2.1]; exact msk_next _,by show _=_; exact hpz⟩) (all_cons kR (all_cons kR (all_cons kR (all_cons kR (all_cons kR (all_cons kR (all_cons kR all_nil))))))) kR
end Fz
end
section
section
open Go.RowKit Go.Lib
def pw (x e:Nat):Nat:=x ^ e%pM
theorem pw_lt (x e:Nat):pw x e<(2^256):=mod_lt _
theorem small_at (w:World) (n:Nat) (di:Int) (hdi:di=(n:Int)) (hn:n<18446744073709551616):Calls Tryz.prog 276 #[.int .u64 di] w λe w'=>e=.returned (fv n)∧Below w.heap.size w w':=by
 subst hdi
 rw [fv_small n hn]
 go_enter Tryz.func276,Tryz.ntmps276
 go_wp2
 exact bodyPost_ret (results_cell_row rfl _ _ w.heap.size _ _ (0,0) _ rfl (heap_alloc_new w _) Tryz.underlying363 rfl (by kernel_rfl)) rfl ⟨rfl,(Below.refl _ _).alloc (Nat.le_refl _) _⟩
theorem power_any (w:World) (x e:Nat) (hx:x<(2^256)) (he:e<(2^256)):Calls Tryz.prog 291 #[.agg #[.int .u64 18446744069414583343,.int .u64 18446744073709551615,.int .u64 18446744073709551615,.int .u64 18446744073709551615,.int .u64 4294968273,.int .u64 0,.int .u64 0],fv x,fv e] w λee w'=>ee=.returned (fv (pw x e))∧Below w.heap.size w w':=by
 have h:=Fz.powZ w pM lackW lackW_lt pM_pos0 (by decide +kernel) lack_sum (by decide +kernel) (λw x hx=>by rw [mod_row]; exact normR_any w x hx) (λw=>small_at w 1 1 rfl (by decide)) x e hx he
 rw [mod_row] at h
 exact h
end
end
section
section
open Go.RowKit Go.Lib
def byteN (z j:Nat):UInt8:=UInt8.ofNat (z / 2 ^ (8*j)%256)
def lowB (z:Nat):Nat→List UInt8
 | 0=>[]
 | k+1=>byteN z k::lowB z k
theorem lowB_length (z:Nat):∀ k,(lowB z k).length=k
 | 0=>rfl
 | k+1=>by rw [lowB,List.length_cons,lowB_length z k]
def bytesS (z:Nat):List UInt8:=lowB z 32
def partB (z k:Nat):List UInt8:=List.replicate (32 - k) 0++lowB z k
theorem partB_length (z k:Nat) (h:k≤32):(partB z k).length=32:=by simp [partB,lowB_length]; omega
theorem partB_full (z:Nat):partB z 32=bytesS z:=by simp [partB,bytesS]
theorem partB_set (z k:Nat) (h:k<32):((partB z k).map bv).toArray.setIfInBounds (31 - k) (bv (byteN z k))=((partB z (k+1)).map bv).toArray:=by
 rw [List.setIfInBounds_toArray]
 congr 1
 rw [← List.map_set]
 congr 1
 unfold partB
 rw [List.set_append_left _ _ (by simp; omega)]
 obtain ⟨m,hm⟩:∃ m,32 - k=m+1:=⟨31 - k,by omega⟩
 have h2:32 - (k+1)=m:=by omega
 have h3:31 - k=m:=by omega
 rw [hm,h2,h3,List.replicate_succ',List.set_append_right _ _ (by simp)]
 simp [lowB]
theorem bytesS_length (z:Nat):(bytesS z).length=32:=lowB_length z 32
theorem bv_byteN (z j:Nat):bv (byteN z j)=.int .u8 ((z / 2 ^ (8*j)%256:Nat):Int):=by
 unfold bv byteN
 congr 2
 rw [UInt8.toNat_ofNat']
 omega
theorem Blk.val {w:World} {a:Addr} {v v':Value} {g:Nat} {t:TypeId} {cs:Array Value} (h:Blk (w.setCell a v) g t cs) (e:v=v'):Blk (w.setCell a v') g t cs:=e ▸ h
theorem b32_info {l:List UInt8} (h:l.length=32):(Tryz.prog.info? 36).map (·.size)=some (l.map bv).toArray.size:=by
 simp only [List.size_toArray,List.length_map,h]
 kernel_rfl
theorem b32_one (l:List UInt8):(l.map bv).toArray.all (·.oneCell')=true:=by simp [bv,Value.oneCell']
def valB (l:List UInt8):Nat:=l.foldl (λa b=>a*256+b.toNat) 0
theorem valB_snoc (l:List UInt8) (c:UInt8):valB (l++[c])=valB l*256+c.toNat:=by simp [valB,List.foldl_append]
theorem valB_lt:∀ (n:Nat) (l:List UInt8),l.length=n→valB l<256 ^ n
 | 0,l,h=>by
  obtain rfl:l=[]:=List.length_eq_zero_iff.1 h
  simp [valB]
 | n+1,l,h=>by
  have hne:l≠[]:=by intro e; rw [e] at h; cases h
  have e:=List.dropLast_concat_getLast hne
  have ih:=valB_lt n l.dropLast (by rw [List.length_dropLast]; omega)
  rw [← e,valB_snoc,Nat.pow_succ]
  have:=(l.getLast hne).toNat_lt
  omega
theorem valB_append (l:List UInt8):∀ (n:Nat) (m:List UInt8),m.length=n→valB (l++m)=valB l*256 ^ n+valB m
 | 0,m,h=>by
  obtain rfl:m=[]:=List.length_eq_zero_iff.1 h
  simp [valB]
 | n+1,m,h=>by
  have hne:m≠[]:=by intro e; rw [e] at h; cases h
  have e:=List.dropLast_concat_getLast hne
  have ih:=valB_append l n m.dropLast (by rw [List.length_dropLast]; omega)
  rw [← e, ← List.append_assoc,valB_snoc,valB_snoc,ih,Nat.pow_succ,Nat.add_mul,Nat.mul_assoc]
  omega
def wdB (l:List UInt8) (k p:Nat):Nat:=valB ((l.drop (8*p)).take (min 8 (k - 8*p)))
theorem wdB_zero (l:List UInt8) (p:Nat):wdB l 0 p=0:=by simp [wdB,valB]
theorem wdB_step (l:List UInt8) (k p:Nat) (c:UInt8) (h:l[k]? = some c) (hp:k / 8=p):wdB l (k+1) p=wdB l k p*256+c.toNat:=by
 unfold wdB
 rw [show min 8 (k+1 - 8*p)=(k - 8*p)+1 by omega,show min 8 (k - 8*p)=k - 8*p by omega,List.take_add_one,List.getElem?_drop,show 8*p+(k - 8*p)=k by omega,h]
 exact valB_snoc _ _
theorem wdB_same (l:List UInt8) (k p:Nat) (hp:k / 8≠p):wdB l (k+1) p=wdB l k p:=by
 unfold wdB
 rw [show min 8 (k+1 - 8*p)=min 8 (k - 8*p) by omega]
theorem wdB_lt (l:List UInt8) (k p:Nat) (hp:k / 8=p):wdB l k p<72057594037927936:=by
 unfold wdB
 have h:=valB_lt _ ((l.drop (8*p)).take (min 8 (k - 8*p))) rfl
 refine Nat.lt_of_lt_of_le h ?_
 have:((l.drop (8*p)).take (min 8 (k - 8*p))).length≤7:=by rw [List.length_take]; omega
 exact Nat.pow_le_pow_right (by omega) this
theorem wdB_all (l:List UInt8) (h:l.length=32):valB l=wdB l 32 3+18446744073709551616*wdB l 32 2+340282366920938463463374607431768211456*wdB l 32 1+6277101735386680763835789423207666416102355444464034512896*wdB l 32 0:=by
 have e:l=(l.take 8++(l.drop 8).take 8)++((l.drop 16).take 8++(l.drop 24).take 8):=by
  conv=>lhs; rw [← List.take_append_drop 16 l, ← List.take_append_drop 8 (l.take 16), ← List.take_append_drop 8 (l.drop 16)]
  congr 2
  ·rw [List.take_take]; rfl
  ·rw [List.drop_take]
  ·rw [List.drop_drop,List.take_of_length_le (by simp; omega)]
 have w0:wdB l 32 0=valB (l.take 8):=rfl
 have w1:wdB l 32 1=valB ((l.drop 8).take 8):=rfl
 have w2:wdB l 32 2=valB ((l.drop 16).take 8):=rfl
 have w3:wdB l 32 3=valB ((l.drop 24).take 8):=rfl
 conv=>lhs; rw [e]
 rw [valB_append _ 16 _ (by simp; omega),valB_append _ 8 _ (by simp; omega),valB_append _ 8 _ (by simp; omega),w0,w1,w2,w3]
 have p8:(256:Nat) ^ 8=18446744073709551616:=by decide
 have p16:(256:Nat) ^ 16=340282366920938463463374607431768211456:=by decide
 rw [p8,p16,Nat.add_mul,Nat.mul_assoc]
 omega
theorem wdB_lt8 (l:List UInt8) (k p:Nat):wdB l k p<18446744073709551616:=by
 unfold wdB
 have h:=valB_lt _ ((l.drop (8*p)).take (min 8 (k - 8*p))) rfl
 refine Nat.lt_of_lt_of_le h ?_
 have:((l.drop (8*p)).take (min 8 (k - 8*p))).length≤8:=by rw [List.length_take]; omega
 exact Nat.pow_le_pow_right (by omega) this
theorem or_add (w c:Nat) (hw:w<72057594037927936) (hc:c<256):bits .or .u64 ((w:Int)*256) (c:Int)=((w*256+c:Nat):Int):=by
 have e:((w:Int)*256)=((w*256:Nat):Int):=by omega
 rw [e]
 have h:w*256 ||| c=w*256+c:=by
  have:=Nat.two_pow_add_eq_or_of_lt (i:=8) (b:=c) (by omega) w
  rw [Nat.mul_comm w 256]
  exact this.symm
 have hw2:(BitVec.ofInt 64 ((w*256:Nat):Int) ||| BitVec.ofInt 64 (c:Int)).toNat=w*256+c:=by
  rw [BitVec.toNat_or]
  simp only [BitVec.ofInt_natCast,BitVec.toNat_ofNat]
  rw [Nat.mod_eq_of_lt (by omega),Nat.mod_eq_of_lt (by omega),h]
 show IntKind.u64.wrap ((BitVec.ofInt 64 ((w*256:Nat):Int) ||| BitVec.ofInt 64 (c:Int)).toNat:Int)=_
 rw [hw2,IntKind.wrap_u64]
 omega
theorem run_index_b32 (W:World) (l:List UInt8) (k:Nat) (c:UInt8) (h:l[k]? = some c) (hk:k<32) :
  (Instr.index 36 (.agg (l.map bv).toArray) (.int .i64 (k:Int))).run Tryz.prog W=.ok (bv c) W:=by
 unfold Instr.index
 have hs:∀ W,(sizeOf 5).run Tryz.prog W=.ok 1 W:=λW=>by kernel_rfl
 have pc:(part 5 (l.map bv).toArray ((k:Int).toNat*1)).run Tryz.prog W=.ok (bv c) W:=by
  simp [part,isAgg,run_underlying Tryz.underlying5,h]
 simp only [asIntOf,Sem.run_bind,Sem.run_pure,Result.andThen_ok,run_underlying Tryz.underlying36]
 rw [if_pos ⟨by omega,by omega⟩]
 simp only [Sem.run_bind,hs,Result.andThen_ok,pc]
theorem p256 (k:Nat):(2:Nat) ^ (8*k)=256 ^ k:=by rw [Nat.pow_mul]
theorem valB_lowB (z:Nat):∀ k,valB (lowB z k)=z%256 ^ k
 | 0=>by simp [lowB,valB,Nat.mod_one]
 | k+1=>by
  have h:=valB_append [byteN z k] k (lowB z k) (lowB_length z k)
  rw [lowB]
  rw [List.singleton_append] at h
  rw [h,valB_lowB z k,Nat.mod_pow_succ]
  have e:valB [byteN z k]=z / 256 ^ k%256:=by
   have:valB [byteN z k]=(byteN z k).toNat:=by simp [valB]
   rw [this,byteN,UInt8.toNat_ofNat',p256]
   omega
  rw [e,Nat.mul_comm]
  omega
theorem valB_bytesS (z:Nat) (hz:z<(2^256)):valB (bytesS z)=z:=by
 rw [bytesS,valB_lowB]
 have:(256:Nat) ^ 32=(2^256):=by decide
 rw [this,Nat.mod_eq_of_lt hz]
theorem valB_lt32 (l:List UInt8) (h:l.length=32):valB l<(2^256):=by
 have:=valB_lt 32 l h
 have e:(256:Nat) ^ 32=(2^256):=by decide
 omega
end
end
section
section
open Go.RowKit Sp
def Src (w:World) (A:Option Addr) (m:List UInt8):Prop :=
 m≠[]→∃ b o,A=some ⟨b,o,none⟩∧b<w.heap.size∧∀ j u,m[j]? = some u→w.cell? ⟨b,o+j,none⟩=some (bv u)
theorem Src.keep {w w':World} {A:Option Addr} {m:List UInt8} (h:Src w A m) (hs:w.heap.size≤w'.heap.size) (hk:m≠[]→∀ a,A=some a→a.block<w.heap.size→w'.heap[a.block]? = w.heap[a.block]?):Src w' A m:=λhm=>by
 obtain ⟨b,o,rfl,hb,hc⟩:=h hm
 exact ⟨b,o,rfl,by omega,λj u hu=>(World.cell?_of_block (w:=w) (a:=⟨b,o+j,none⟩) (show w'.heap[b]? = w.heap[b]? from hk hm ⟨b,o,none⟩ rfl hb)).trans (hc j u hu)⟩
theorem Src.below {w w':World} {A:Option Addr} {m:List UInt8} (h:Src w A m) (hb:Below w.heap.size w w'):Src w' A m :=
 h.keep hb.size λ_ _ _ hl=>hb.block _ hl
theorem Src.of_blk {w:World} {g:Nat} {t:TypeId} {m:List UInt8} (h:Blk w g t (m.map bv).toArray):Src w (some ⟨g,0,none⟩) m:=λ_ =>
 ⟨g,0,rfl,h.lt,λj u hu=>by rw [Nat.zero_add]; exact (h.cell j).trans (by simp [hu])⟩
theorem addr_add (g o n:Nat):(⟨g,o,none⟩:Addr).add n=⟨g,o+n,none⟩:=by
 unfold Addr.add; split <;> simp_all
theorem oneCell_bv (l:List UInt8):∀ v∈l.map bv,v.oneCell'=true:=λv hv=>by
 obtain ⟨x,_,rfl⟩:=List.mem_map.1 hv
 rfl
def OwnB (w:World) (base:Nat) (v:Value) (l:List UInt8):Prop:=w.ownsRow base 5 1 v l.length (l.map bv)
theorem infoByte:(Tryz.prog.info? 5).map (λi=>(i.zero,i.size,i.bytes))=some (some (.int .u8 0),1,1):=by kernel_rfl
theorem OwnB.form {w:World} {base:Nat} {v:Value} {l:List UInt8} (h:OwnB w base v l) (hl:0<l.length) :
  ∃ g cap,v=.slice (some ⟨g,0,none⟩) l.length cap∧base≤g∧g<w.heap.size:=World.ownsRow.form h hl
theorem OwnB.form' {w:World} {base:Nat} {v:Value} {l:List UInt8} (h:OwnB w base v l) (hl:0<l.length) :
  ∃ g n cap,v=.slice (some ⟨g,0,none⟩) n cap∧Hid (n=l.length)∧base≤g∧g<w.heap.size:=by
 obtain ⟨g,cap,h1,h2,h3⟩:=h.form hl
 exact ⟨g,l.length,cap,h1,Lib.hid rfl,h2,h3⟩
theorem OwnB.alloc {w:World} {base:Nat} {v:Value} {l:List UInt8} (h:OwnB w base v l) (o:Obj):OwnB (w.alloc o) base v l:=World.ownsRow.alloc h o
theorem OwnB.nil (w:World) (base:Nat):OwnB w base (.slice none 0 0) []:=World.ownsRow_nil w base _ _
theorem below_own {B base:Nat} {w0 w w':World} {v:Value} {l:List UInt8} (h:Below B w0 w) (hown:OwnB w base v l) (hg:w.grownBy w' v.ownBlock) (hB:B≤base) (hw:B≤w.heap.size):Below B w0 w' :=
 h.grown hg hw (λk hk=>Nat.le_trans hB (World.ownsRow.lt hown k hk).1)
theorem run_append_of_nil {P:Program} (w:World) (base:Nat) (t ty e:TypeId) (i:TypeInfo) (size:Nat) (ht:P.underlying t=some (.slice e)) (hi:P.info? e=some i)
  (v:Value) (n:Nat) (xs:List Value) (hown:w.ownsRow base e size v n xs) (c:Nat):(Builtin.append_ #[t,t] ty #[v,.slice none 0 c]).run P w=.ok v w:=by
 rcases hown.2 with ⟨rfl,rfl⟩ | ⟨g,cap,cur,rfl,_,_,hnc,_⟩
 ·simp [Builtin.append_,run_underlying ht,sizeOf,typeInfo,hi,Builtin.lenOf,Builtin.firstCells]
 ·simp [Builtin.append_,run_underlying ht,sizeOf,typeInfo,hi,Builtin.lenOf,Builtin.firstCells,hnc,storeCells]
theorem run_append_bytes (w:World) (base:Nat) (v:Value) (l m:List UInt8) (hown:OwnB w base v l) (A:Option Addr) (c:Nat) (hsrc:Src w A m) (hlen:l.length+m.length≤140737488355328) (hbase:base≤w.heap.size) (ty:TypeId) :
  ∃ v' w',(Builtin.append_ #[27,27] ty #[v,.slice A m.length c]).run Tryz.prog w=.ok v' w'∧OwnB w' base v' (l++m)∧w.grownBy w' v.ownBlock:=by
 obtain ⟨i,hi,hz0,hz1,hz2⟩:=info_parts infoByte
 by_cases hm:m=[]
 ·subst hm
  cases A with
  | none=>exact ⟨v,w,run_append_of_nil w base _ _ _ i 1 Tryz.underlying27 hi v _ _ hown c,by simpa using hown,World.grownBy.refl w _⟩
  | some ad =>
   obtain ⟨v',w',h1,h2,h3,_⟩:=run_append_own (P:=Tryz.prog) w base 27 ty 5 i (.int .u8 0) 1 1 Tryz.underlying27 hi hz0 hz1 hz2 rfl (by decide) v l.length (l.map bv) hown ad 0 c [] rfl (by simp) (by simp)
    (by simp [maxLen]; simp at hlen; omega) (by simp at hlen; omega) hbase
   exact ⟨v',w',h1,by simpa [OwnB] using h2,h3⟩
 ·obtain ⟨b,o,rfl,_,hc⟩:=hsrc hm
  obtain ⟨v',w',h1,h2,h3,_⟩:=run_append_own (P:=Tryz.prog) w base 27 ty 5 i (.int .u8 0) 1 1 Tryz.underlying27 hi hz0 hz1 hz2 rfl (by decide) v l.length (l.map bv) hown ⟨b,o,none⟩ m.length c (m.map bv) (by simp)
   (λj u hu=>by
    rw [addr_add]
    rw [List.getElem?_map] at hu
    obtain ⟨x,hx,rfl⟩:=Option.map_eq_some_iff.1 hu
    exact hc j x hx) (oneCell_bv m) (by simp [maxLen]; omega) (by omega) hbase
  exact ⟨v',w',h1,by simpa [OwnB] using h2,h3⟩
theorem wpList_append_bytes {w:World} {ops:Array Oper} {rest:List Oper} {o:Oper} {a:Act} {Q:Exit→Act→World→Prop} (hgd:o.guard=none) (s x:Operand)
  (ho:o.op=.call { callee:=.builtin .append,args:=#[s,x],argTypes:=#[27,27] }) (base:Nat) (v:Value) (l:List UInt8) (hs:a.eval s=v) (hown:OwnB w base v l)
  (A:Option Addr) (m:List UInt8) (c:Nat) (hx:a.eval x=.slice A m.length c) (hsrc:Src w A m) (hlen:l.length+m.length≤140737488355328) (hbase:base≤w.heap.size)
  (h:∀ v' w',OwnB w' base v' (l++m)→w.grownBy w' v.ownBlock→wpList Tryz.prog ops Q rest (a.put o.dst v') w'):wpList Tryz.prog ops Q (o::rest) a w:=by
 refine wpList_plain hgd λK hK=>?_
 obtain ⟨v',w',hrun,h2,h3⟩:=run_append_bytes w base v l m hown A c hsrc hlen hbase o.type
 unfold Oper.wp execOp
 simp only [ho,resolve,invoke,builtin,Sem.run_bind,Sem.run_pure,Result.andThen_ok,List.map_toArray,List.map_cons,List.map_nil,hs,hx,hrun]
 exact hK _ _ (h v' w' h2 h3)
end
end
section
section
open Go.RowKit Go.Lib
set_option maxHeartbeats 2000000 in
set_option maxRecDepth 100000 in
theorem rightR_any (w : World) (x : Nat) (hx : x < (2^256)) : Calls Tryz.prog 225 #[modV, fv x] w fun e w' => e = .returned (.bool (decide (x < pM))) ∧ Below w.heap.size w w' := by
  obtain ⟨p,hp⟩:∃ p,p=115792089237316195423570985008687907853269984665640564039457584007908834671663:=⟨_,rfl⟩
  obtain ⟨b,hb⟩:∃ b,b=decide (x<pM):=⟨_,rfl⟩
  have cb:∀ w,Calls Tryz.prog 253 #[fv x,fv p] w λe w'=>e=.returned (.bool b)∧Below w.heap.size w w':=by
    intro w; rw [hb,pM_eq, ← hp]; exact below_at w x p rfl rfl hx (by omega)
  have hpc:fv p=.agg #[.int .u64 18446744069414583343,.int .u64 18446744073709551615,.int .u64 18446744073709551615,.int .u64 18446744073709551615]:=by rw [hp]; exact fv_P
  obtain ⟨x0,x1,x2,x3,fx⟩:=words_fv x hx
  have FX:=Lib.hid fx
  have FP:=Lib.hid hpc
  rw [fx, ← hb]
  unfold modV
  clear fx hpc hx hp hb
  go_enter Tryz.func225,Tryz.ntmps225
  go_wp2_with (first | ((with_reducible refine here_load (d:=some 5) ?_); refine wpList_load_fv rfl _ _ rfl (w.heap.size+1) rfl (x) _ _ _ (blk_new2 w _ _ _) (FX.out) Tryz.underlying363 rfl (by kernel_rfl) ?_) | ((with_reducible refine here_load (d:=some 7) ?_); refine wpList_load_part rfl _ _ rfl w.heap.size rfl p [.int .u64 18446744069414583343,.int .u64 18446744073709551615,.int .u64 18446744073709551615,.int .u64 18446744073709551615] _ (mod_range ((Blk.new w _ _).alloc _)) FP.out Tryz.underlying363 rfl (by kernel_rfl) ?_))
  refine (cb _).mono ?_
  rintro e w1 ⟨rfl,k1⟩
  go_wp2
  go_ret
  exact ⟨rfl,Below.gr (below_alloc2 w _ _) k1⟩
theorem div_word (a r s : Nat) (hs : s ≤ 56) : (a + 18446744073709551616 * r) / 2 ^ s % 256 = a / 2 ^ s % 256 := by
  obtain ⟨u,hu⟩:∃ u,2 ^ s*(256*u)=18446744073709551616:=by
    refine ⟨2 ^ (56 - s),?_⟩
    have:2 ^ s*2 ^ (56 - s)=2 ^ 56:=by rw [← Nat.pow_add]; congr 1; omega
    rw [show (256:Nat)*2 ^ (56 - s)=2 ^ (56 - s)*256 from Nat.mul_comm _ _, ← Nat.mul_assoc,this]
  rw [← hu,Nat.mul_assoc,Nat.add_mul_div_left _ _ (Nat.two_pow_pos s),Nat.mul_assoc,Nat.add_mul_mod_self_left]
theorem shift_word (z i s w r:Nat) (hz:z / 2 ^ (64*i)=w+18446744073709551616*r) (hs:s≤56):z / 2 ^ (64*i+s)%256=w / 2 ^ s%256:=by
  rw [Nat.pow_add, ← Nat.div_div_eq_div_mul,hz,div_word w r s hs]
theorem lowB_get (z : Nat) : ∀ (k j : Nat), j < k → (lowB z k)[j]? = some (byteN z (k - 1 - j))
  | 0,j,h=>by omega
  | k+1,0,_=>by simp [lowB]
  | k+1,j+1,h=>by
    rw [lowB,List.getElem?_cons_succ,lowB_get z k j (by omega)]
    congr 2
    omega
theorem take_bytes (z n:Nat) (h:n<32):(bytesS z).take n++[byteN z (31 - n)]=(bytesS z).take (n+1):=by
  rw [List.take_add_one,bytesS,lowB_get z 32 n h]
  rfl
set_option maxHeartbeats 4000000 in
set_option maxRecDepth 100000 in
theorem bytesR_any (w : World) (z : Nat) (hz : z < (2^256)) : Calls Tryz.prog 220 #[fv z] w fun e w' => ∃ g cap, e = .returned (.slice (some ⟨g, 0, none⟩) 32 cap) ∧ OwnB w' (w.heap.size + 1) (.slice (some ⟨g, 0, none⟩) 32 cap) (bytesS z) ∧ g < w'.heap.size ∧ Below w.heap.size w w' := by
  obtain ⟨z0,z1,z2,z3,a0,a1,a2,a3,ez,fz⟩:=words_of z hz
  have s0:=λs hs=>shift_word z 0 s z0 (z1+18446744073709551616*z2+340282366920938463463374607431768211456*z3) (by omega) hs
  have s1:=λs hs=>shift_word z 1 s z1 (z2+18446744073709551616*z3) (by omega) hs
  have s2:=λs hs=>shift_word z 2 s z2 z3 (by omega) hs
  have s3:=λs hs=>shift_word z 3 s z3 0 (by omega) hs
  have HS:=Lib.hid (And.intro s0 (And.intro s1 (And.intro s2 s3)))
  rw [fz]
  clear ez fz hz a0 a1 a2 a3 s0 s1 s2 s3
  go_enter Tryz.func220,Tryz.ntmps220
  go_wp2_with fail
  go_loopw [3,4] (λv i wr=>Below w.heap.size w wr∧Blk wr w.heap.size 363 #[.int .u64 (z0:Int),.int .u64 (z1:Int),.int .u64 (z2:Int),.int .u64 (z3:Int)]∧Hid ((i=.int .i64 3∧OwnB wr (w.heap.size+1) v ((bytesS z).take 0))∨(i=.int .i64 2∧OwnB wr (w.heap.size+1) v ((bytesS z).take 8))∨(i=.int .i64 1∧OwnB wr (w.heap.size+1) v ((bytesS z).take 16))∨(i=.int .i64 0∧OwnB wr (w.heap.size+1) v ((bytesS z).take 24))∨(i=.int .i64 (-1)∧OwnB wr (w.heap.size+1) v ((bytesS z).take 32)))) (λ_ i _=>(intOf i+1).toNat)
  case atStart=>exact ⟨(Below.refl _ _).alloc (Nat.le_refl _) _,Blk.new w _ _,Lib.hid (.inl ⟨rfl,OwnB.nil _ _⟩)⟩
  case round =>
    obtain ⟨hb,BZ,HI⟩:=hrel
    rcases HI.out with ⟨rfl,hown⟩ | ⟨rfl,hown⟩ | ⟨rfl,hown⟩ | ⟨rfl,hown⟩ | ⟨rfl,hown⟩
    · clear HI
      go_wp2_with fail
      go_loopw [3,5] (λv s wr=>∃ t:Nat,t≤8∧s=.int .i64 (56 - 8*(t:Int))∧Below w.heap.size w wr∧Blk wr w.heap.size 363 #[.int .u64 (z0:Int),.int .u64 (z1:Int),.int .u64 (z2:Int),.int .u64 (z3:Int)]∧OwnB wr (w.heap.size+1) v ((bytesS z).take (0+t))) (λ_ s _=>(intOf s+8).toNat)
      case atStart=>exact ⟨0,by omega,rfl,hb,BZ,hown⟩
      case round =>
        clear hb BZ hown
        obtain ⟨t,ht,rfl,hb,BZ,hown⟩:=hrel
        by_cases hlt:t<8
        · obtain ⟨s, hs⟩ : ∃ s, s = 56 - 8 * t := ⟨_, rfl⟩
          have hs1:(56 - 8*(t:Int))=(s:Int):=by omega
          obtain ⟨x,hx⟩:∃ x,x=byteN z (31 - (0+t)):=⟨_,rfl⟩
          have hxe:(z3:Int) / 2 ^ s%256=(x.toNat:Int):=by
            have h:=HS.out.2.2.2 s (by omega)
            have e:8*(31 - (0+t))=64*3+s:=by omega
            rw [hx,byteN,UInt8.toNat_ofNat',e,h]
            have:((z3:Int) / 2 ^ s%256)=((z3 / 2 ^ s%256:Nat):Int):=by push_cast; rfl
            rw [this]
            omega
          have hlen:((bytesS z).take (0+t)).length≤32:=by rw [List.length_take,bytesS_length]; omega
          have HX:=Lib.hid (And.intro hx (And.intro hxe hlen))
          have pc:wr.cell? ⟨w.heap.size,3,none⟩=some (.int .u64 (z3:Int)):=BZ.cell 3
          have hsl:s≤56:=by omega
          have HT:=Lib.hid hs
          have lz:=BZ.lt
          rw [hs1]
          clear hx hxe hlen hs
          go_wp2_with (at_builtin
                       refine wpList_append_bytes rfl (.tmp 14) (.tmp 21) rfl (w.heap.size+1) _ ((bytesS z).take (0+t)) rfl (hown.alloc _) (some ⟨wr.heap.size,0,none⟩) [x] 1 rfl (Src.of_blk (Blk.eq_ (Blk.new wr 5 _) (by rw [HX.out.2.1]; rfl))) (by have:=HX.out.2.2; simp only [List.length_singleton]; omega) (by simp <;> omega) ?_
                       intro v3 w3 hv3 hg3
                       have hb3:=below_own (hb.alloc (by omega) _) (hown.alloc _) hg3 (Nat.le_succ _) (by simp <;> omega)
                       have BZ3:=Blk.grown (BZ.alloc _) hg3 (λe=>by have:=(World.ownsRow.lt hown _ e.symm).1; omega)
                       rw [HX.out.1,take_bytes z (0+t) (by omega)] at hv3)
          go_roundw
          case rel=>exact ⟨t+1,by omega,by congr 1; omega,hb3,BZ3,hv3⟩
          case measure=>simp [intOf]; omega
        · obtain rfl:t=8:=by omega
          go_wp2
          refine ⟨⟨hb,BZ,Lib.hid (.inr (.inl (⟨rfl,hown⟩)))⟩,by decide⟩
    · clear HI
      go_wp2_with fail
      go_loopw [3,5] (λv s wr=>∃ t:Nat,t≤8∧s=.int .i64 (56 - 8*(t:Int))∧Below w.heap.size w wr∧Blk wr w.heap.size 363 #[.int .u64 (z0:Int),.int .u64 (z1:Int),.int .u64 (z2:Int),.int .u64 (z3:Int)]∧OwnB wr (w.heap.size+1) v ((bytesS z).take (8+t))) (λ_ s _=>(intOf s+8).toNat)
      case atStart=>exact ⟨0,by omega,rfl,hb,BZ,hown⟩
      case round =>
        clear hb BZ hown
        obtain ⟨t,ht,rfl,hb,BZ,hown⟩:=hrel
        by_cases hlt:t<8
        · obtain ⟨s, hs⟩ : ∃ s, s = 56 - 8 * t := ⟨_, rfl⟩
          have hs1:(56 - 8*(t:Int))=(s:Int):=by omega
          obtain ⟨x,hx⟩:∃ x,x=byteN z (31 - (8+t)):=⟨_,rfl⟩
          have hxe:(z2:Int) / 2 ^ s%256=(x.toNat:Int):=by
            have h:=HS.out.2.2.1 s (by omega)
            have e:8*(31 - (8+t))=64*2+s:=by omega
            rw [hx,byteN,UInt8.toNat_ofNat',e,h]
            have:((z2:Int) / 2 ^ s%256)=((z2 / 2 ^ s%256:Nat):Int):=by push_cast; rfl
            rw [this]
            omega
          have hlen:((bytesS z).take (8+t)).length≤32:=by rw [List.length_take,bytesS_length]; omega
          have HX:=Lib.hid (And.intro hx (And.intro hxe hlen))
          have pc:wr.cell? ⟨w.heap.size,2,none⟩=some (.int .u64 (z2:Int)):=BZ.cell 2
          have hsl:s≤56:=by omega
          have HT:=Lib.hid hs
          have lz:=BZ.lt
          rw [hs1]
          clear hx hxe hlen hs
          go_wp2_with (at_builtin
                       refine wpList_append_bytes rfl (.tmp 14) (.tmp 21) rfl (w.heap.size+1) _ ((bytesS z).take (8+t)) rfl (hown.alloc _) (some ⟨wr.heap.size,0,none⟩) [x] 1 rfl (Src.of_blk (Blk.eq_ (Blk.new wr 5 _) (by rw [HX.out.2.1]; rfl))) (by have:=HX.out.2.2; simp only [List.length_singleton]; omega) (by simp <;> omega) ?_
                       intro v3 w3 hv3 hg3
                       have hb3:=below_own (hb.alloc (by omega) _) (hown.alloc _) hg3 (Nat.le_succ _) (by simp <;> omega)
                       have BZ3:=Blk.grown (BZ.alloc _) hg3 (λe=>by have:=(World.ownsRow.lt hown _ e.symm).1; omega)
                       rw [HX.out.1,take_bytes z (8+t) (by omega)] at hv3)
          go_roundw
          case rel=>exact ⟨t+1,by omega,by congr 1; omega,hb3,BZ3,hv3⟩
          case measure=>simp [intOf]; omega
        · obtain rfl:t=8:=by omega
          go_wp2
          refine ⟨⟨hb,BZ,Lib.hid (.inr (.inr (.inl (⟨rfl,hown⟩))))⟩,by decide⟩
    · clear HI
      go_wp2_with fail
      go_loopw [3,5] (λv s wr=>∃ t:Nat,t≤8∧s=.int .i64 (56 - 8*(t:Int))∧Below w.heap.size w wr∧Blk wr w.heap.size 363 #[.int .u64 (z0:Int),.int .u64 (z1:Int),.int .u64 (z2:Int),.int .u64 (z3:Int)]∧OwnB wr (w.heap.size+1) v ((bytesS z).take (16+t))) (λ_ s _=>(intOf s+8).toNat)
      case atStart=>exact ⟨0,by omega,rfl,hb,BZ,hown⟩
      case round =>
        clear hb BZ hown
        obtain ⟨t,ht,rfl,hb,BZ,hown⟩:=hrel
        by_cases hlt:t<8
        · obtain ⟨s, hs⟩ : ∃ s, s = 56 - 8 * t := ⟨_, rfl⟩
          have hs1:(56 - 8*(t:Int))=(s:Int):=by omega
          obtain ⟨x,hx⟩:∃ x,x=byteN z (31 - (16+t)):=⟨_,rfl⟩
          have hxe:(z1:Int) / 2 ^ s%256=(x.toNat:Int):=by
            have h:=HS.out.2.1 s (by omega)
            have e:8*(31 - (16+t))=64*1+s:=by omega
            rw [hx,byteN,UInt8.toNat_ofNat',e,h]
            have:((z1:Int) / 2 ^ s%256)=((z1 / 2 ^ s%256:Nat):Int):=by push_cast; rfl
            rw [this]
            omega
          have hlen:((bytesS z).take (16+t)).length≤32:=by rw [List.length_take,bytesS_length]; omega
          have HX:=Lib.hid (And.intro hx (And.intro hxe hlen))
          have pc:wr.cell? ⟨w.heap.size,1,none⟩=some (.int .u64 (z1:Int)):=BZ.cell 1
          have hsl:s≤56:=by omega
          have HT:=Lib.hid hs
          have lz:=BZ.lt
          rw [hs1]
          clear hx hxe hlen hs
          go_wp2_with (at_builtin
                       refine wpList_append_bytes rfl (.tmp 14) (.tmp 21) rfl (w.heap.size+1) _ ((bytesS z).take (16+t)) rfl (hown.alloc _) (some ⟨wr.heap.size,0,none⟩) [x] 1 rfl (Src.of_blk (Blk.eq_ (Blk.new wr 5 _) (by rw [HX.out.2.1]; rfl))) (by have:=HX.out.2.2; simp only [List.length_singleton]; omega) (by simp <;> omega) ?_
                       intro v3 w3 hv3 hg3
                       have hb3:=below_own (hb.alloc (by omega) _) (hown.alloc _) hg3 (Nat.le_succ _) (by simp <;> omega)
                       have BZ3:=Blk.grown (BZ.alloc _) hg3 (λe=>by have:=(World.ownsRow.lt hown _ e.symm).1; omega)
                       rw [HX.out.1,take_bytes z (16+t) (by omega)] at hv3)
          go_roundw
          case rel=>exact ⟨t+1,by omega,by congr 1; omega,hb3,BZ3,hv3⟩
          case measure=>simp [intOf]; omega
        · obtain rfl:t=8:=by omega
          go_wp2
          refine ⟨⟨hb,BZ,Lib.hid (.inr (.inr (.inr (.inl (⟨rfl,hown⟩)))))⟩,by decide⟩
    · clear HI
      go_wp2_with fail
      go_loopw [3,5] (λv s wr=>∃ t:Nat,t≤8∧s=.int .i64 (56 - 8*(t:Int))∧Below w.heap.size w wr∧Blk wr w.heap.size 363 #[.int .u64 (z0:Int),.int .u64 (z1:Int),.int .u64 (z2:Int),.int .u64 (z3:Int)]∧OwnB wr (w.heap.size+1) v ((bytesS z).take (24+t))) (λ_ s _=>(intOf s+8).toNat)
      case atStart=>exact ⟨0,by omega,rfl,hb,BZ,hown⟩
      case round =>
        clear hb BZ hown
        obtain ⟨t,ht,rfl,hb,BZ,hown⟩:=hrel
        by_cases hlt:t<8
        · obtain ⟨s, hs⟩ : ∃ s, s = 56 - 8 * t := ⟨_, rfl⟩
          have hs1:(56 - 8*(t:Int))=(s:Int):=by omega
          obtain ⟨x,hx⟩:∃ x,x=byteN z (31 - (24+t)):=⟨_,rfl⟩
          have hxe:(z0:Int) / 2 ^ s%256=(x.toNat:Int):=by
            have h:=HS.out.1 s (by omega)
            have e:8*(31 - (24+t))=64*0+s:=by omega
            rw [hx,byteN,UInt8.toNat_ofNat',e,h]
            have:((z0:Int) / 2 ^ s%256)=((z0 / 2 ^ s%256:Nat):Int):=by push_cast; rfl
            rw [this]
            omega
          have hlen:((bytesS z).take (24+t)).length≤32:=by rw [List.length_take,bytesS_length]; omega
          have HX:=Lib.hid (And.intro hx (And.intro hxe hlen))
          have pc:wr.cell? ⟨w.heap.size,0,none⟩=some (.int .u64 (z0:Int)):=BZ.cell 0
          have hsl:s≤56:=by omega
          have HT:=Lib.hid hs
          have lz:=BZ.lt
          rw [hs1]
          clear hx hxe hlen hs
          go_wp2_with (at_builtin
                       refine wpList_append_bytes rfl (.tmp 14) (.tmp 21) rfl (w.heap.size+1) _ ((bytesS z).take (24+t)) rfl (hown.alloc _) (some ⟨wr.heap.size,0,none⟩) [x] 1 rfl (Src.of_blk (Blk.eq_ (Blk.new wr 5 _) (by rw [HX.out.2.1]; rfl))) (by have:=HX.out.2.2; simp only [List.length_singleton]; omega) (by simp <;> omega) ?_
                       intro v3 w3 hv3 hg3
                       have hb3:=below_own (hb.alloc (by omega) _) (hown.alloc _) hg3 (Nat.le_succ _) (by simp <;> omega)
                       have BZ3:=Blk.grown (BZ.alloc _) hg3 (λe=>by have:=(World.ownsRow.lt hown _ e.symm).1; omega)
                       rw [HX.out.1,take_bytes z (24+t) (by omega)] at hv3)
          go_roundw
          case rel=>exact ⟨t+1,by omega,by congr 1; omega,hb3,BZ3,hv3⟩
          case measure=>simp [intOf]; omega
        · obtain rfl:t=8:=by omega
          go_wp2
          refine ⟨⟨hb,BZ,Lib.hid (.inr (.inr (.inr (.inr (⟨rfl,hown⟩)))))⟩,by decide⟩
    · clear HI
      rw [List.take_of_length_le (by rw [bytesS_length]; exact Nat.le_refl _)] at hown
      obtain ⟨g,n,cap,rfl,hn,_,hl⟩:=hown.form' (by rw [bytesS_length]; omega)
      have hn32:n=32:=by rw [hn.out,bytesS_length]
      subst hn32
      go_wp2
      go_ret
      exact ⟨g,cap,rfl,hown,hl,hb⟩
end
end
section
namespace Cu
open Go.RowKit Sy
set_option maxRecDepth 100000
set_option maxHeartbeats 4000000
def modcs:Array Value:=#[.int .u64 18446744069414583343,.int .u64 18446744073709551615,.int .u64 18446744073709551615,.int .u64 18446744073709551615,.int .u64 4294968273,.int .u64 0,.int .u64 0]
def mod0:Array Value:=#[.int .u64 0,.int .u64 0,.int .u64 0,.int .u64 0,.int .u64 0,.int .u64 0,.int .u64 0]
theorem refmul_c (w:World) (a b:Fp):Calls Tryz.prog 274 #[.agg modcs,fv a.val,fv b.val] w (Gets w (fv (a*b).val)):=mulR_any w a.val b.val (lt4 a) (lt4 b)
theorem refadd_c (w:World) (a b:Fp):Calls Tryz.prog 289 #[.agg modcs,fv a.val,fv b.val] w (Gets w (fv (a+b).val)):=addR_any w a.val b.val (lt4 a) (lt4 b)
theorem refneg_c (w:World) (a:Fp):Calls Tryz.prog 279 #[.agg modcs,fv a.val] w (Gets w (fv (-a).val)):=by rw [← val_neg]; exact negR_any w a.val (lt4 a)
theorem eql_num (w:World) (F:Slots) (o:Oper) (x y:Operand) (n m:Nat) {yt:TypeId} (ho:o.op=.binOp .eql 363 x y yt) (hx:evF F x=fv n) (hy:evF F y=fv m) (hn:n<K4) (hm:m<K4):(execOp (evF F) o).run Tryz.prog w=.ok (.value (.bool (decide (n=m)))) w:=by
 have h1:=Nm.run_eqGuard_fv .eql x y n m w
 have h2:=Nm.run_eql_fv w n m hn hm
 unfold execOp
 simp only [ho,hx,hy,Sem.run_bind,h1,h2,Result.andThen_ok,Sem.run_pure]
theorem small_c (w:World) (k:Nat) (hk:k<18446744073709551616):Calls Tryz.prog 276 #[.int .u64 (k:Int)] w (Gets w (fv k)):=by
 rw [fv_small k hk]
 refine Sy.enter (args:=[.int .u64 (k:Int)]) Tryz.func276 rfl kL ?_
 refine sC ?_
 refine sM 363 (fcs 0) (λg0=>?_)
 refine sA ?_
 refine sP (.int .u64 (k:Int))<|sP (.agg #[.int .u64 (k:Int),.int .u64 0,.int .u64 0,.int .u64 0])<|sW 0 g0 363 (fcs 0) #[.int .u64 (k:Int),.int .u64 0,.int .u64 0,.int .u64 0] (wS 0 363 #[.int .u64 (k:Int),.int .u64 0,.int .u64 0,.int .u64 0] rfl) ?_
 refine sG<|Sy.ret ?_
 exact Sy.ret1 rfl (.inl (Res.cell (ty':=363) g0 0 #[.int .u64 (k:Int),.int .u64 0,.int .u64 0,.int .u64 0] _ kR kR Tryz.underlying363 rfl kR kR))
theorem mulR_c (w:World) (a b:Fp):Calls Tryz.prog 250 #[fv a.val,fv b.val] w (Gets w (fv (a*b).val)):=by
 refine Sy.enter (args:=[fv a.val,fv b.val]) Tryz.func250 rfl kL ?_
 refine sC ?_
 refine sM 363 (fcs a.val) (λg0=>?_)
 refine sM 363 (fcs b.val) (λg1=>?_)
 refine sM 363 (fcs 0) (λg2=>?_)
 refine sH (λj=>j == 4) ?_
 refine sD 0 rfl (.agg modcs) (qF 249 #[] (refP_any))<|sD 1 rfl (fv a.val) (qL 0 g0 0 4 363 363 (fcs a.val) rfl Tryz.underlying363)<|sD 2 rfl (fv b.val) (qL 1 g1 0 4 363 363 (fcs b.val) rfl Tryz.underlying363) ?_
 obtain ⟨z1,hz1⟩:∃ z:Fp,z=a*b:=⟨_,rfl⟩
 refine sD 3 rfl (fv z1.val) (qF 274 #[.agg modcs,fv a.val,fv b.val] (λw=>by rw [hz1]; exact refmul_c w a b))<|sX 4 rfl 2 g2 363 (fcs 0) (fcs z1.val) (wS 0 363 (fcs z1.val) rfl) ?_
 refine sI ?_
 refine Sy.ret ?_
 rw [show (fv (a*b).val:Value)=fv z1.val from by rw [hz1]]
 exact rC (v:=fv z1.val) 363 g2 2 (fcs z1.val) rfl Tryz.underlying363
theorem addR_c (w:World) (a b:Fp):Calls Tryz.prog 275 #[fv a.val,fv b.val] w (Gets w (fv (a+b).val)):=by
 refine Sy.enter (args:=[fv a.val,fv b.val]) Tryz.func275 rfl kL ?_
 refine sC ?_
 refine sM 363 (fcs a.val) (λg0=>?_)
 refine sM 363 (fcs b.val) (λg1=>?_)
 refine sM 363 (fcs 0) (λg2=>?_)
 refine sH (λj=>j == 4) ?_
 refine sD 0 rfl (.agg modcs) (qF 249 #[] (refP_any))<|sD 1 rfl (fv a.val) (qL 0 g0 0 4 363 363 (fcs a.val) rfl Tryz.underlying363)<|sD 2 rfl (fv b.val) (qL 1 g1 0 4 363 363 (fcs b.val) rfl Tryz.underlying363) ?_
 obtain ⟨z1,hz1⟩:∃ z:Fp,z=a+b:=⟨_,rfl⟩
 refine sD 3 rfl (fv z1.val) (qF 289 #[.agg modcs,fv a.val,fv b.val] (λw=>by rw [hz1]; exact refadd_c w a b))<|sX 4 rfl 2 g2 363 (fcs 0) (fcs z1.val) (wS 0 363 (fcs z1.val) rfl) ?_
 refine sI ?_
 refine Sy.ret ?_
 rw [show (fv (a+b).val:Value)=fv z1.val from by rw [hz1]]
 exact rC (v:=fv z1.val) 363 g2 2 (fcs z1.val) rfl Tryz.underlying363
theorem zeroR_c (w:World)  : Calls Tryz.prog 248 #[] w (Gets w (pv 0 0 true)):=by
 refine Sy.enter (args:=[]) Tryz.func248 rfl kL ?_
 refine sC ?_
 refine sM 65 (pcs 0 0 false) (λg0=>?_)
 refine sA ?_
 refine sP (pv 0 0 true)<|sW 0 g0 65 (pcs 0 0 false) (pcs 0 0 true) (wS 0 65 (pcs 0 0 true) rfl) ?_
 refine sG<|Sy.ret ?_
 exact rC (v:=pv 0 0 true) 65 g0 0 (pcs 0 0 true) rfl Tryz.underlying65
theorem cubeR_c (w:World) (x:Fp):Calls Tryz.prog 251 #[fv x.val] w (Gets w (fv (x*x*x+7).val)):=by
 refine Sy.enter (args:=[fv x.val]) Tryz.func251 rfl kL ?_
 refine sC ?_
 refine sM 363 (fcs x.val) (λg0=>?_)
 refine sM 363 (fcs 0) (λg1=>?_)
 refine sH (λj=>j == 7) ?_
 refine sD 0 rfl (fv x.val) (qL 0 g0 0 4 363 363 (fcs x.val) rfl Tryz.underlying363)<|sD 1 rfl (fv x.val) (qL 0 g0 0 4 363 363 (fcs x.val) rfl Tryz.underlying363)<|sD 2 rfl (fv x.val) (qL 0 g0 0 4 363 363 (fcs x.val) rfl Tryz.underlying363) ?_
 obtain ⟨z1,hz1⟩:∃ z:Fp,z=x*x:=⟨_,rfl⟩
 refine sD 3 rfl (fv z1.val) (qF 250 #[fv x.val,fv x.val] (λw=>by rw [hz1]; exact mulR_c w x x)) ?_
 obtain ⟨z2,hz2⟩:∃ z:Fp,z=x*z1:=⟨_,rfl⟩
 refine sD 4 rfl (fv z2.val) (qF 250 #[fv x.val,fv z1.val] (λw=>by rw [hz2]; exact mulR_c w x z1)) ?_
 obtain ⟨z3,hz3⟩:∃ z:Fp,z=(7:Fp):=⟨_,rfl⟩
 refine sD 5 rfl (fv z3.val) (qF 276 #[.int .u64 7] (λw=>by rw [hz3]; exact small_c w 7 (by decide))) ?_
 obtain ⟨z4,hz4⟩:∃ z:Fp,z=z2+z3:=⟨_,rfl⟩
 refine sD 6 rfl (fv z4.val) (qF 275 #[fv z2.val,fv z3.val] (λw=>by rw [hz4]; exact addR_c w z2 z3))<|sX 7 rfl 1 g1 363 (fcs 0) (fcs z4.val) (wS 0 363 (fcs z4.val) rfl) ?_
 refine sI ?_
 refine Sy.ret ?_
 rw [show (fv (x*x*x+7).val:Value)=fv z4.val from by
  refine congrArg (λt:Fp=>fv t.val) ?_
  grobner]
 exact rC (v:=fv z4.val) 363 g1 1 (fcs z4.val) rfl Tryz.underlying363
theorem pointR_c (w:World) (x y:Nat) (hx:x<K4) (hy:y<K4):Calls Tryz.prog 278 #[fv x,fv y] w (Gets w (pv x y false)):=by
 refine Sy.enter (args:=[fv x,fv y]) Tryz.func278 rfl kL ?_
 refine sC ?_
 refine sM 363 (fcs x) (λg0=>?_)
 refine sM 363 (fcs y) (λg1=>?_)
 refine sM 65 (pcs 0 0 false) (λg2=>?_)
 refine sH (λj=>j == 5) ?_
 refine sD 0 rfl (fv x) (qL 0 g0 0 4 363 363 (fcs x) rfl Tryz.underlying363)<|sD 1 rfl (fv x) (qF 292 #[fv x] (λw=>refFe_any w x lK))<|sD 2 rfl (fv y) (qL 1 g1 0 4 363 363 (fcs y) rfl Tryz.underlying363)<|sD 3 rfl (fv y) (qF 292 #[fv y] (λw=>refFe_any w y lK))<|sZ 4 rfl (pv x y false)<|sX 5 rfl 2 g2 65 (pcs 0 0 false) (pcs x y false) (wS 0 65 (pcs x y false) rfl) ?_
 refine sI ?_
 refine Sy.ret ?_
 exact rC (v:=pv x y false) 65 g2 2 (pcs x y false) rfl Tryz.underlying65
theorem rightR_b (w:World) (x y:Nat) (i:Bool) (hx:x<K4) (hy:y<K4):Calls Tryz.prog 222 #[pv x y i] w (Gets w (.bool (rightB x y i))):=by
 refine Sy.enter (args:=[pv x y i]) Tryz.func222 rfl kL ?_
 refine sC ?_
 refine sM 65 (pcs x y i) (λg0=>?_)
 refine sP (.bool false) ?_
 refine sG<|Sy.seq<|sC ?_
 refine sP (.pointer (some ⟨g0,8,none⟩))<|sS (.bool i) (qC 0 g0 8 65 4 (pcs x y i) rfl Tryz.underlying4) ?_
 refine sG ?_
 cases i
 ·refine sU<|Sy.skip<|sB ?_
  refine sP (.pointer (some ⟨g0,0,none⟩))<|sS (fv x) (qL 0 g0 0 4 65 63 (pcs x y false) rfl Tryz.underlying63)<|sS (fv x) (qF 221 #[fv x] (λw=>refOf_any w x lK)) ?_
  refine sM 363 (fcs 0) (λg1=>?_)
  refine sW 1 g1 363 (fcs 0) (fcs x) (wS 0 363 (fcs x) rfl) ?_
  refine sA ?_
  refine sP (.pointer (some ⟨g0,4,none⟩))<|sS (fv y) (qL 0 g0 4 4 65 63 (pcs x y false) rfl Tryz.underlying63)<|sS (fv y) (qF 221 #[fv y] (λw=>refOf_any w y lK)) ?_
  refine sM 363 (fcs 0) (λg2=>?_)
  refine sW 2 g2 363 (fcs 0) (fcs y) (wS 0 363 (fcs y) rfl) ?_
  refine sA ?_
  refine sS (.agg modcs) (qF 249 #[] (refP_any)) ?_
  refine sM 370 mod0 (λg3=>?_)
  refine sW 3 g3 370 mod0 modcs (wS 0 370 modcs rfl) ?_
  refine sA ?_
  refine sS (.agg modcs) (qL 3 g3 0 7 370 370 modcs rfl Tryz.underlying370)<|sS (fv x) (qL 1 g1 0 4 363 363 (fcs x) rfl Tryz.underlying363) ?_
  obtain ⟨b1,hb1⟩:∃ z:Bool,z=decide (x<pM):=⟨_,rfl⟩
  refine sS (.bool b1) (qF 225 #[.agg modcs,fv x] (λw=>by rw [hb1]; exact rightR_any w x lK))<|sP (.bool b1) ?_
  refine sA ?_
  refine sS (.agg modcs) (qL 3 g3 0 7 370 370 modcs rfl Tryz.underlying370)<|sS (fv y) (qL 2 g2 0 4 363 363 (fcs y) rfl Tryz.underlying363) ?_
  obtain ⟨b2,hb2⟩:∃ z:Bool,z=decide (y<pM):=⟨_,rfl⟩
  refine sS (.bool b2) (qF 225 #[.agg modcs,fv y] (λw=>by rw [hb2]; exact rightR_any w y lK))<|sP (.bool b2) ?_
  refine sH (λj=>false) ?_
  refine sZ 0 rfl (.bool b1)<|sZ 1 rfl (.bool b1) ?_
  cases b1
  ·refine sQ 2 rfl<|sZ 3 rfl (.bool false)<|sZ 4 rfl (.bool false)<|sQ 5 rfl<|sQ 6 rfl<|sQ 7 rfl<|sQ 8 rfl<|sQ 9 rfl ?_
   refine sQ 10 rfl<|sZ 11 rfl (.bool false)<|sZ 12 rfl (.bool false) ?_
   refine sI ?_
   refine Sy.ret ?_
   rw [show (.bool (rightB x y false):Value)=.bool false from by rw [rb_x (of_decide_eq_false hb1.symm)]]
   exact rV (.bool false) rfl
  ·obtain ⟨ux,rfl⟩:∃ u:Fp,x=u.val:=⟨⟨x,of_decide_eq_true hb1.symm⟩,rfl⟩
   refine sZ 2 rfl (.bool b2)<|sZ 3 rfl (.bool b2)<|sZ 4 rfl (.bool b2) ?_
   cases b2
   ·refine sQ 5 rfl<|sQ 6 rfl<|sQ 7 rfl<|sQ 8 rfl<|sQ 9 rfl<|sQ 10 rfl<|sZ 11 rfl (.bool false)<|sZ 12 rfl (.bool false) ?_
    refine sI ?_
    refine Sy.ret ?_
    rw [show (.bool (rightB ux.val y false):Value)=.bool false from by rw [rb_y (of_decide_eq_false hb2.symm)]]
    exact rV (.bool false) rfl
   ·obtain ⟨uy,rfl⟩:∃ u:Fp,y=u.val:=⟨⟨y,of_decide_eq_true hb2.symm⟩,rfl⟩
    refine sD 5 rfl (fv uy.val) (qL 2 g2 0 4 363 363 (fcs uy.val) rfl Tryz.underlying363)<|sD 6 rfl (fv uy.val) (qL 2 g2 0 4 363 363 (fcs uy.val) rfl Tryz.underlying363) ?_
    obtain ⟨z1,hz1⟩:∃ z:Fp,z=uy*uy:=⟨_,rfl⟩
    refine sD 7 rfl (fv z1.val) (qF 250 #[fv uy.val,fv uy.val] (λw=>by rw [hz1]; exact mulR_c w uy uy))<|sD 8 rfl (fv ux.val) (qL 1 g1 0 4 363 363 (fcs ux.val) rfl Tryz.underlying363) ?_
    obtain ⟨z2,hz2⟩:∃ z:Fp,z=ux*ux*ux+7:=⟨_,rfl⟩
    refine sD 9 rfl (fv z2.val) (qF 251 #[fv ux.val] (λw=>by rw [hz2]; exact cubeR_c w ux)) ?_
    obtain ⟨b3,hb3⟩:∃ z:Bool,z=decide (z1.val=z2.val):=⟨_,rfl⟩
    refine sD 10 rfl (.bool b3) (Quiet.pure (λw=>by rw [hb3]; exact eql_num w _ _ _ _ _ _ rfl rfl rfl lK lK))<|sZ 11 rfl (.bool b3)<|sZ 12 rfl (.bool b3) ?_
    refine sI ?_
    refine Sy.ret ?_
    rw [show (.bool (rightB ux.val uy.val false):Value)=.bool b3 from by rw [hb3,rb_xy]; simp only [hz2,hz1]]
    exact rV (.bool b3) rfl
 ·refine sT<|Sy.seq ?_
  refine Sy.regionD (λj=>false) kR ?_
  refine sD 0 rfl (pv x y true) (qL 0 g0 0 9 65 65 (pcs x y true) rfl Tryz.underlying65)<|sD 1 rfl (pv 0 0 true) (qF 248 #[] (zeroR_c)) ?_
  obtain ⟨b4,hb4⟩:∃ z:Bool,z=sameB x y true 0 0 true:=⟨_,rfl⟩
  refine sD 2 rfl (.bool b4) (Quiet.pure (λw=>by rw [hb4]; exact eql_pt w _ _ _ _ _ _ _ _ _ _ rfl rfl rfl lK lK lK lK))<|sZ 3 rfl (.bool b4) ?_
  refine sI ?_
  refine Sy.ret<|Sy.then_ret ?_
  rw [show (.bool (rightB x y true):Value)=.bool b4 from by rw [hb4,rightB_inf]]
  exact rV (.bool b4) rfl
theorem taken_c (w:World) (x y:Nat) (i:Bool) (hx:x<K4) (hy:y<K4):Calls Tryz.prog 252 #[pv x y i] w (Gets w (ptv (dec x y i))):=by
 refine Sy.enter (args:=[pv x y i]) Tryz.func252 rfl kL ?_
 refine sC ?_
 refine sM 65 (pcs x y i) (λg0=>?_)
 refine sM 65 (pcs 0 0 false) (λg1=>?_)
 refine sA ?_
 refine sS (pv x y i) (qL 0 g0 0 9 65 65 (pcs x y i) rfl Tryz.underlying65) ?_
 obtain ⟨b1,hb1⟩:∃ z:Bool,z=rightB x y i:=⟨_,rfl⟩
 refine sS (.bool b1) (qF 222 #[pv x y i] (by rw [hb1]; exact λw=>rightR_b w x y i lK lK))<|sP (.bool b1) ?_
 refine sG<|Sy.seq<|sC ?_
 refine sP (.bool b1) ?_
 cases b1
 ·refine sP (.bool true) ?_
  refine sG<|sT<|sC ?_
  refine sS (pv 0 0 true) (qF 248 #[] (zeroR_c))<|sW 1 g1 65 (pcs 0 0 false) (pcs 0 0 true) (wS 0 65 (pcs 0 0 true) rfl) ?_
  refine sG<|Sy.ret<|Sy.then_ret ?_
  rw [show (ptv (dec x y i):Value)=pv 0 0 true from ptv_wrong x y i hb1.symm]
  exact rC (v:=pv 0 0 true) 65 g1 1 (pcs 0 0 true) rfl Tryz.underlying65
 ·refine sP (.bool false) ?_
  refine sG<|sU<|Sy.skip<|sB ?_
  refine sS (pv x y i) (qL 0 g0 0 9 65 65 (pcs x y i) rfl Tryz.underlying65)<|sW 1 g1 65 (pcs 0 0 false) (pcs x y i) (wS 0 65 (pcs x y i) rfl) ?_
  refine sG<|Sy.ret ?_
  rw [show (ptv (dec x y i):Value)=pv x y i from ptv_right x y i hb1.symm]
  exact rC (v:=pv x y i) 65 g1 1 (pcs x y i) rfl Tryz.underlying65
theorem negRe_none (w:World) (x y:Nat) (i:Bool) (hx:x<K4) (hy:y<K4) (h:dec x y i=none):Calls Tryz.prog 255 #[pv x y i] w (Gets w (ptv (Ec.neg none))):=by
 refine Sy.enter (args:=[pv x y i]) Tryz.func255 rfl kL ?_
 refine sC ?_
 refine sM 65 (pcs x y i) (λg0=>?_)
 refine sM 65 (pcs 0 0 false) (λg1=>?_)
 refine sA ?_
 refine sS (pv x y i) (qL 0 g0 0 9 65 65 (pcs x y i) rfl Tryz.underlying65)<|sS (pv 0 0 true) (qF 252 #[pv x y i] (λw=>by have hrr:=taken_c w x y i lK lK; rw [h] at hrr; exact hrr))<|sW 0 g0 65 (pcs x y i) (pcs 0 0 true) (wS 0 65 (pcs 0 0 true) rfl) ?_
 refine sG<|Sy.seq<|sC ?_
 refine sP (.pointer (some ⟨g0,8,none⟩))<|sS (.bool true) (qC 0 g0 8 65 4 (pcs 0 0 true) rfl Tryz.underlying4) ?_
 refine sG<|sT<|sC ?_
 refine sS (pv 0 0 true) (qL 0 g0 0 9 65 65 (pcs 0 0 true) rfl Tryz.underlying65)<|sW 1 g1 65 (pcs 0 0 false) (pcs 0 0 true) (wS 0 65 (pcs 0 0 true) rfl) ?_
 refine sG<|Sy.ret<|Sy.then_ret ?_
 rw [show (ptv (Ec.neg none):Value)=pv 0 0 true from rfl]
 exact rC (v:=pv 0 0 true) 65 g1 1 (pcs 0 0 true) rfl Tryz.underlying65
theorem negRe_some (w:World) (x y:Nat) (i:Bool) (hx:x<K4) (hy:y<K4) (u v:Fp) (h:dec x y i=some (u,v)):Calls Tryz.prog 255 #[pv x y i] w (Gets w (ptv (Ec.neg (some (u,v))))):=by
 refine Sy.enter (args:=[pv x y i]) Tryz.func255 rfl kL ?_
 refine sC ?_
 refine sM 65 (pcs x y i) (λg0=>?_)
 refine sM 65 (pcs 0 0 false) (λg1=>?_)
 refine sA ?_
 refine sS (pv x y i) (qL 0 g0 0 9 65 65 (pcs x y i) rfl Tryz.underlying65)<|sS (pv u.val v.val false) (qF 252 #[pv x y i] (λw=>by have hrr:=taken_c w x y i lK lK; rw [h] at hrr; exact hrr))<|sW 0 g0 65 (pcs x y i) (pcs u.val v.val false) (wS 0 65 (pcs u.val v.val false) rfl) ?_
 refine sG<|Sy.seq<|sC ?_
 refine sP (.pointer (some ⟨g0,8,none⟩))<|sS (.bool false) (qC 0 g0 8 65 4 (pcs u.val v.val false) rfl Tryz.underlying4) ?_
 refine sG<|sU<|Sy.skip ?_
 refine sR (λj=>j == 9) ?_
 refine sZ 0 rfl (.pointer (some ⟨g0,0,none⟩))<|sD 1 rfl (fv u.val) (qL 0 g0 0 4 65 63 (pcs u.val v.val false) rfl Tryz.underlying63)<|sD 2 rfl (fv u.val) (qF 221 #[fv u.val] (λw=>refOf_any w u.val lK))<|sD 3 rfl (.agg modcs) (qF 249 #[] (refP_any))<|sZ 4 rfl (.pointer (some ⟨g0,4,none⟩))<|sD 5 rfl (fv v.val) (qL 0 g0 4 4 65 63 (pcs u.val v.val false) rfl Tryz.underlying63)<|sD 6 rfl (fv v.val) (qF 221 #[fv v.val] (λw=>refOf_any w v.val lK)) ?_
 obtain ⟨z1,hz1⟩:∃ z:Fp,z = -v:=⟨_,rfl⟩
 refine sD 7 rfl (fv z1.val) (qF 279 #[.agg modcs,fv v.val] (λw=>by rw [hz1]; exact refneg_c w v))<|sD 8 rfl (pv u.val z1.val false) (qF 278 #[fv u.val,fv z1.val] (λw=>pointR_c w u.val z1.val lK lK))<|sX 9 rfl 1 g1 65 (pcs 0 0 false) (pcs u.val z1.val false) (wS 0 65 (pcs u.val z1.val false) rfl) ?_
 refine sI ?_
 refine Sy.ret ?_
 rw [show (ptv (Ec.neg (some (u,v))):Value)=pv u.val z1.val false from by rw [hz1]; rfl]
 exact rC (v:=pv u.val z1.val false) 65 g1 1 (pcs u.val z1.val false) rfl Tryz.underlying65
theorem negRe_any (w:World) (x y:Nat) (i:Bool) (hx:x<K4) (hy:y<K4):Calls Tryz.prog 255 #[pv x y i] w (Gets w (ptv (Ec.neg (dec x y i)))):=by
 rcases h:dec x y i with _ | ⟨u,v⟩
 ·exact negRe_none w x y i hx hy h
 ·exact negRe_some w x y i hx hy u v h
end Cu
end
section
namespace Cu
open Go.RowKit Sy
end Cu
end
section
section
open Go.RowKit Go.Lib
set_option maxHeartbeats 8000000 in
set_option maxRecDepth 100000 in
theorem bytes_any (w:World) (x:Nat) (hx:x<(2^256)):Calls Tryz.prog 235 #[fv x] w λe w'=>e=.returned (.agg ((bytesS (x%pM)).map bv).toArray)∧Below w.heap.size w w':=by
 obtain ⟨z,hz⟩:∃ z,z=x%pM:=⟨_,rfl⟩
 have hzl:z<(2^256):=by rw [hz]; exact mod_lt x
 have cn:∀ w,Calls Tryz.prog 238 #[fv x] w λe w'=>e=.returned (fv z)∧Below w.heap.size w w':=by
  intro w; rw [hz]; exact norm_any w x hx
 rw [← hz]
 obtain ⟨z0,z1,z2,z3,a0,a1,a2,a3,ez,fz⟩:=words_of z hzl
 have HZ:=Lib.hid (And.intro a0 (And.intro a1 (And.intro a2 (And.intro a3 ez))))
 have FZ:=Lib.hid fz
 obtain ⟨x0,x1,x2,x3,fx⟩:=words_fv x hx
 rw [fx] at cn ⊢
 clear fx fz hz hzl a0 a1 a2 a3 ez hx
 have hZB:Hid ((List.replicate 32 (Value.int .u8 0)).toArray=((partB z 0).map bv).toArray):=Lib.hid (by simp [partB,lowB,bv])
 go_enter Tryz.func235,Tryz.ntmps235
 go_wp2_with fail
 refine (cn _).mono ?_
 rintro e w1 ⟨rfl,hb⟩
 have BR:Blk w1 (w.heap.size+1) 36 _:=Gr.blk hb (Blk.alloc (blk_new2 w _ _ _) _)
 have BB:Blk w1 (w.heap.size+2) 36 ((partB z 0).map bv).toArray:=Blk.eq_ (Gr.blk hb (blk_new3 w _ _ _ _)) hZB.out
 have hB:=Below.gr (below_alloc3 w _ _ _) hb
 have sz:=BB.lt
 clear hb cn
 go_wp2_with (first | ((with_reducible refine here_store ?_); refine wpList_store_blk rfl _ _ _ rfl (w1.heap.size) (fcs (z)) rfl rfl _ _ (Blk.new w1 _ _) (by kernel_rfl) (by rfl) (fcs_one _) ?_; intro w2 hL2 hB2 hK2; have CR:=hK2 _ (by omega) _ _ (BR.alloc _); have CB:=hK2 _ (by omega) _ _ (BB.alloc _); have hC:=(hB.alloc (by omega) _).trans (hB2 _ (by omega))))
 go_loopw [8] (λi wr=>∃ k:Nat,k≤32∧i=.int .i64 (k:Int)∧Below w.heap.size w wr∧Blk wr (w.heap.size+2) 36 ((partB z k).map bv).toArray∧Blk wr w1.heap.size 63 #[.int .u64 (z0:Int),.int .u64 (z1:Int),.int .u64 (z2:Int),.int .u64 (z3:Int)]∧Blk wr (w.heap.size+1) 36 (List.replicate 32 (Value.int .u8 0)).toArray) (λi _=>32 - (intOf i).toNat)
 case atStart=>exact ⟨0,by omega,rfl,hC,CB,hL2.eq_ (fcs_words FZ.out),CR⟩
 case round =>
  obtain ⟨k,hk,rfl,hb,hP,hN,hR⟩:=hrel
  by_cases hlt:k<32
  ·have ce:∀ j,j<32→∃ v,wr.cell? ⟨w.heap.size+1+1,j,none⟩=some v:=λj hj=>⟨_,(hP.cell j).trans (Array.getElem?_eq_getElem (by simp [partB_length z k hk]; exact hj))⟩
   obtain ⟨v,hv⟩:=ce (31 - k) (by omega)
   have ff:=hP.frozen (31 - k)
   have q0:wr.cell? ⟨w1.heap.size,0,none⟩=some (.int .u64 (z0:Int)):=hN.cell 0
   have q1:wr.cell? ⟨w1.heap.size,1,none⟩=some (.int .u64 (z1:Int)):=hN.cell 1
   have q2:wr.cell? ⟨w1.heap.size,2,none⟩=some (.int .u64 (z2:Int)):=hN.cell 2
   have q3:wr.cell? ⟨w1.heap.size,3,none⟩=some (.int .u64 (z3:Int)):=hN.cell 3
   have hPn:=hP.set_ (31 - k) (bv (byteN z k))
   rw [partB_set z k hlt] at hPn
   have HP:=Lib.hid hPn
   clear hPn ce
   have HR:=Lib.hid (And.intro hb (And.intro hN hR))
   clear hb hP hN hR hk
   have hsz:w.heap.size+2<w1.heap.size:=sz
   rcases (show k=0∨k=1∨k=2∨k=3∨k=4∨k=5∨k=6∨k=7∨k=8∨k=9∨k=10∨k=11∨k=12∨k=13∨k=14∨k=15∨k=16∨k=17∨k=18∨k=19∨k=20∨k=21∨k=22∨k=23∨k=24∨k=25∨k=26∨k=27∨k=28∨k=29∨k=30∨k=31 by omega) with rfl | rfl | rfl | rfl | rfl | rfl | rfl | rfl | rfl | rfl | rfl | rfl | rfl | rfl | rfl | rfl | rfl | rfl | rfl | rfl | rfl | rfl | rfl | rfl | rfl | rfl | rfl | rfl | rfl | rfl | rfl | rfl
   all_goals
    go_wp2
    obtain ⟨a0,a1,a2,a3,ez⟩:=HZ.out
    refine ⟨⟨_,by decide,rfl,HR.out.1.setCell (by show w.heap.size≤w.heap.size+1+1; omega) _,HP.out.val (by rw [bv_byteN]; congr 1; omega),HR.out.2.1.far (by show w1.heap.size≠w.heap.size+1+1; omega) _,HR.out.2.2.far (by show w.heap.size+1≠w.heap.size+1+1; omega) _⟩,by simp [intOf]⟩
  ·have p1:¬ (k:Int)<32:=by omega
   obtain rfl:k=32:=by omega
   rw [partB_full] at hP
   have HI:=Lib.hid (bytesS_length z)
   have HL:=Lib.hid hP
   have HR:=Lib.hid hR
   clear hN hP hR
   go_wp2_with (first | ((with_reducible refine here_load (d:=some 24) ?_); refine wpList_load_blk rfl _ _ rfl (w.heap.size+2) rfl _ _ _ HL.out Tryz.underlying36 rfl (b32_info HI.out) ?_) | ((with_reducible refine here_store ?_); refine wpList_store_blk rfl _ _ _ rfl (w.heap.size+1) ((bytesS z).map bv).toArray rfl rfl _ _ HR.out (b32_info HI.out) (by simp [HI.out]) (b32_one _) ?_; intro w9 hL9 hB9 hK9))
   exact bodyPost_ret (results_cell_row rfl _ _ (w.heap.size+1) _ _ (0,0) _ rfl hL9 Tryz.underlying36 rfl (b32_info HI.out)) rfl ⟨rfl,hb.trans (hB9 _ (by omega))⟩
end
end
section
section
open Go.RowKit Go.Lib
def readS (l:List UInt8):Nat×Bool:=if valB l<pM then (valB l,true) else (0,false)
set_option maxHeartbeats 8000000 in
set_option maxRecDepth 100000 in
theorem read_any (w:World) (l:List UInt8) (hl:l.length=32):Calls Tryz.prog 258 #[.agg (l.map bv).toArray] w λe w'=>e=.returned (.tuple #[fv (readS l).1,.bool (readS l).2])∧Below w.heap.size w w':=by
 have HL:=Lib.hid hl
 clear hl
 go_enter Tryz.func258,Tryz.ntmps258
 go_wp2_with (first | ((with_reducible refine here_load (d:=some 7) ?_); refine wpList_load_blk rfl _ _ rfl w.heap.size rfl _ _ _ (((Blk.new w _ _).alloc _).alloc _) Tryz.underlying36 rfl (b32_info HL.out) ?_))
 go_loopw [8] (λi wr=>∃ k y0 y1 y2 y3:Nat,k≤32∧i=.int .i64 (k:Int)∧Hid (y0=wdB l k 0∧y1=wdB l k 1∧y2=wdB l k 2∧y3=wdB l k 3)∧Below w.heap.size w wr∧Blk wr (w.heap.size+2) 63 #[.int .u64 (y3:Int),.int .u64 (y2:Int),.int .u64 (y1:Int),.int .u64 (y0:Int)]∧Blk wr (w.heap.size+1) 63 #[.int .u64 0,.int .u64 0,.int .u64 0,.int .u64 0]) (λi _=>32 - (intOf i).toNat)
 case atStart=>exact ⟨0,0,0,0,0,by omega,rfl,Lib.hid ⟨(wdB_zero l 0).symm,(wdB_zero l 1).symm,(wdB_zero l 2).symm,(wdB_zero l 3).symm⟩,below_alloc3 w _ _ _,blk_new3 w _ _ _ _,(blk_new2 w _ _ _).alloc _⟩
 case round =>
  obtain ⟨k,y0,y1,y2,y3,hk,rfl,HY,hb,hP,hR⟩:=hrel
  have q3:wr.cell? ⟨w.heap.size+1+1,0,none⟩=some (.int .u64 (y3:Int)):=hP.cell 0
  have q2:wr.cell? ⟨w.heap.size+1+1,1,none⟩=some (.int .u64 (y2:Int)):=hP.cell 1
  have q1:wr.cell? ⟨w.heap.size+1+1,2,none⟩=some (.int .u64 (y1:Int)):=hP.cell 2
  have q0:wr.cell? ⟨w.heap.size+1+1,3,none⟩=some (.int .u64 (y0:Int)):=hP.cell 3
  have ff:∀ j,wr.frozen? ⟨w.heap.size+1+1,j,none⟩=false:=λj=>hP.frozen j
  by_cases hlt:k<32
  ·obtain ⟨c,hc⟩:∃ c,l[k]? = some c:=⟨l[k]'(by rw [HL.out]; exact hlt),List.getElem?_eq_getElem _⟩
   have HC:=Lib.hid hc
   obtain ⟨m,hm⟩:∃ m,m=c.toNat:=⟨_,rfl⟩
   have hm8:m<256:=by rw [hm]; exact c.toNat_lt
   have hI:∀ W,(Instr.index 36 (.agg (l.map bv).toArray) (.int .i64 (k:Int))).run Tryz.prog W=.ok (.int .u8 (m:Int)) W:=λW=>by
    rw [run_index_b32 W l k c hc hlt,hm]; rfl
   have HM:=Lib.hid hm
   have HR:=Lib.hid (And.intro hb (And.intro hP hR))
   clear hb hP hR hc hk hm
   rcases (show k=0∨k=1∨k=2∨k=3∨k=4∨k=5∨k=6∨k=7∨k=8∨k=9∨k=10∨k=11∨k=12∨k=13∨k=14∨k=15∨k=16∨k=17∨k=18∨k=19∨k=20∨k=21∨k=22∨k=23∨k=24∨k=25∨k=26∨k=27∨k=28∨k=29∨k=30∨k=31 by omega) with rfl | rfl | rfl | rfl | rfl | rfl | rfl | rfl | rfl | rfl | rfl | rfl | rfl | rfl | rfl | rfl | rfl | rfl | rfl | rfl | rfl | rfl | rfl | rfl | rfl | rfl | rfl | rfl | rfl | rfl | rfl | rfl
   all_goals
    simp only [Int.cast_ofNat_Int] at hI
   all_goals
    first
    | ((have hy:y0<72057594037927936:=by rw [HY.out.1]; exact wdB_lt l _ 0 (by decide)); (have ho:=or_add y0 m hy hm8); go_wp2; (refine ⟨⟨_,y0*256+m,y1,y2,y3,by decide,rfl,Lib.hid ⟨by rw [HY.out.1,HM.out]; exact (wdB_step l _ 0 c HC.out (by decide)).symm,by rw [HY.out.2.1]; exact (wdB_same l _ 1 (by decide)).symm,by rw [HY.out.2.2.1]; exact (wdB_same l _ 2 (by decide)).symm,by rw [HY.out.2.2.2]; exact (wdB_same l _ 3 (by decide)).symm⟩,HR.out.1.setCell (by show w.heap.size≤w.heap.size+1+1; omega) _,Blk.eq_ (HR.out.2.1.set_ 3 _) (by rw [show ((y0*256+m:Nat):Int)=(y0:Int)*256+(m:Int) by omega]; rfl),HR.out.2.2.far (by show w.heap.size+1≠w.heap.size+1+1; omega) _⟩,by simp [intOf]⟩))
    | ((have hy:y1<72057594037927936:=by rw [HY.out.2.1]; exact wdB_lt l _ 1 (by decide)); (have ho:=or_add y1 m hy hm8); go_wp2; (refine ⟨⟨_,y0,y1*256+m,y2,y3,by decide,rfl,Lib.hid ⟨by rw [HY.out.1]; exact (wdB_same l _ 0 (by decide)).symm,by rw [HY.out.2.1,HM.out]; exact (wdB_step l _ 1 c HC.out (by decide)).symm,by rw [HY.out.2.2.1]; exact (wdB_same l _ 2 (by decide)).symm,by rw [HY.out.2.2.2]; exact (wdB_same l _ 3 (by decide)).symm⟩,HR.out.1.setCell (by show w.heap.size≤w.heap.size+1+1; omega) _,Blk.eq_ (HR.out.2.1.set_ 2 _) (by rw [show ((y1*256+m:Nat):Int)=(y1:Int)*256+(m:Int) by omega]; rfl),HR.out.2.2.far (by show w.heap.size+1≠w.heap.size+1+1; omega) _⟩,by simp [intOf]⟩))
    | ((have hy:y2<72057594037927936:=by rw [HY.out.2.2.1]; exact wdB_lt l _ 2 (by decide)); (have ho:=or_add y2 m hy hm8); go_wp2; (refine ⟨⟨_,y0,y1,y2*256+m,y3,by decide,rfl,Lib.hid ⟨by rw [HY.out.1]; exact (wdB_same l _ 0 (by decide)).symm,by rw [HY.out.2.1]; exact (wdB_same l _ 1 (by decide)).symm,by rw [HY.out.2.2.1,HM.out]; exact (wdB_step l _ 2 c HC.out (by decide)).symm,by rw [HY.out.2.2.2]; exact (wdB_same l _ 3 (by decide)).symm⟩,HR.out.1.setCell (by show w.heap.size≤w.heap.size+1+1; omega) _,Blk.eq_ (HR.out.2.1.set_ 1 _) (by rw [show ((y2*256+m:Nat):Int)=(y2:Int)*256+(m:Int) by omega]; rfl),HR.out.2.2.far (by show w.heap.size+1≠w.heap.size+1+1; omega) _⟩,by simp [intOf]⟩))
    | ((have hy:y3<72057594037927936:=by rw [HY.out.2.2.2]; exact wdB_lt l _ 3 (by decide)); (have ho:=or_add y3 m hy hm8); go_wp2; (refine ⟨⟨_,y0,y1,y2,y3*256+m,by decide,rfl,Lib.hid ⟨by rw [HY.out.1]; exact (wdB_same l _ 0 (by decide)).symm,by rw [HY.out.2.1]; exact (wdB_same l _ 1 (by decide)).symm,by rw [HY.out.2.2.1]; exact (wdB_same l _ 2 (by decide)).symm,by rw [HY.out.2.2.2,HM.out]; exact (wdB_step l _ 3 c HC.out (by decide)).symm⟩,HR.out.1.setCell (by show w.heap.size≤w.heap.size+1+1; omega) _,Blk.eq_ (HR.out.2.1.set_ 0 _) (by rw [show ((y3*256+m:Nat):Int)=(y3:Int)*256+(m:Int) by omega]; rfl),HR.out.2.2.far (by show w.heap.size+1≠w.heap.size+1+1; omega) _⟩,by simp [intOf]⟩))
  ·have p1:¬ (k:Int)<32:=by omega
   obtain rfl:k=32:=by omega
   have b0:y0<18446744073709551616:=by rw [HY.out.1]; exact wdB_lt8 l _ _
   have b1:y1<18446744073709551616:=by rw [HY.out.2.1]; exact wdB_lt8 l _ _
   have b2:y2<18446744073709551616:=by rw [HY.out.2.2.1]; exact wdB_lt8 l _ _
   have b3:y3<18446744073709551616:=by rw [HY.out.2.2.2]; exact wdB_lt8 l _ _
   obtain ⟨z,hz⟩:∃ z,z=y3+18446744073709551616*y2+340282366920938463463374607431768211456*y1+6277101735386680763835789423207666416102355444464034512896*y0:=⟨_,rfl⟩
   have fz:=fv_mk y3 y2 y1 y0 b3 b2 b1 b0
   rw [← hz] at fz
   have hzl:z<(2^256):=by rw [hz]; exact fv_lt y3 y2 y1 y0 b3 b2 b1 b0
   have hzv:z=valB l:=by rw [wdB_all l HL.out,hz,HY.out.1,HY.out.2.1,HY.out.2.2.1,HY.out.2.2.2]
   obtain ⟨n,hn⟩:∃ n,n=z%pM:=⟨_,rfl⟩
   have hnl:n<(2^256):=by rw [hn]; exact mod_lt z
   obtain ⟨b,hbd⟩:∃ b,b=decide (n≠z):=⟨_,rfl⟩
   have eb:∀ W,(binOp .neq 63 (fv n) (fv z)).run Tryz.prog W=.ok (.bool b) W:=λW=>by rw [hbd]; exact run_neq_fv W n z hnl hzl
   have cn:∀ w,Calls Tryz.prog 238 #[fv z] w λe w'=>e=.returned (fv n)∧Below w.heap.size w w':=by
    intro w; rw [hn]; exact norm_any w z hzl
   have hS:readS l=if b=true then (0,false) else (z,true):=by
    unfold readS
    rw [← hzv,hbd,hn]
    by_cases h:z<pM
    ·rw [if_pos h,Nat.mod_eq_of_lt h]; simp
    ·have h2:z%pM≠z:=λe=>h (by rw [← e]; exact mod_lt_p z)
     rw [if_neg h]; simp [h2]
   have HS:=Lib.hid hS
   have FZ:=Lib.hid fz.symm
   have HP:=Lib.hid hP
   clear HY b0 b1 b2 b3 hz fz hzl hzv hn hnl hbd hS q0 q1 q2 q3 ff hP
   go_wp2
   refine wp_region_G (λ_=>false) (by kernel_rfl) ?_
   try simp only [Act.put]
   refine tkw 0 rfl (YieldsG.loadF (by rfl) _ _ rfl (w.heap.size+2) rfl (z) _ _ (HP.out) (FZ.out) Tryz.underlying63 rfl (by kernel_rfl)) ?_
   try simp only [Act.put,aA,aZ,aS]
   refine tkw 1 rfl (YieldsG.call (v:=fv n) (by rfl) 238 _ (λw9=>by go_simp; try (first | with_reducible rfl | rfl)) (λw9 h9=>cn w9)) ?_
   try simp only [Act.put,aA,aZ,aS]
   refine tkw 2 rfl (YieldsG.loadF (by rfl) _ _ rfl (w.heap.size+2) rfl (z) _ _ (HP.out) (FZ.out) Tryz.underlying63 rfl (by kernel_rfl)) ?_
   try simp only [Act.put,aA,aZ,aS]
   refine tkw 3 rfl (YieldsG.pure (v:=.bool b) (by rfl) (λw9 h9=>by go_simp; rw [run_eqGuard_fv]; simp only [Result.andThen_ok,eb])) ?_
   try simp only [Act.put,aA,aZ,aS]
   refine wpAnyG_done (by kernel_rfl) (λu hu=>?_)
   have hbu:=Below.gr hb hu
   have BR:=Gr.blk hu hR
   have BP:=Gr.blk hu HP.out
   clear hu hb hR HP eb cn
   cases b
   ·have HT:Hid (readS l=(z,true)):=Lib.hid (by rw [HS.out]; rfl)
    clear HS
    go_wp2_with (first | ((with_reducible refine here_load (d:=some 31) ?_); refine wpList_load_fv rfl _ _ rfl (w.heap.size+2) rfl (z) _ _ _ (BP) (FZ.out) Tryz.underlying63 rfl (by kernel_rfl) ?_) | ((with_reducible refine here_store ?_); refine wpList_store_blk rfl _ _ _ rfl (w.heap.size+1) (fcs (z)) rfl rfl _ _ (BR) (by kernel_rfl) (by rfl) (fcs_one _) ?_; intro vz hLz hqz hKz))
    exact bodyPost_ret (res_cell_tmp rfl _ _ (w.heap.size+1) _ _ _ _ rfl hLz rfl Tryz.underlying63 rfl (by kernel_rfl)) rfl ⟨by rw [HT.out]; rfl,hbu.trans (hqz _ (by omega))⟩
   ·have HT:Hid (readS l=(0,false)):=Lib.hid (by rw [HS.out]; rfl)
    clear HS
    go_wp2_with (first | ((with_reducible refine here_store ?_); refine wpList_store_blk rfl _ _ _ rfl (w.heap.size+1) _ rfl rfl _ _ (BR) (by kernel_rfl) (by rfl) (by simp [Value.oneCell']) ?_; intro vz hLz hqz hKz))
    exact bodyPost_ret (res_cell_tmp rfl _ _ (w.heap.size+1) _ _ _ _ rfl hLz rfl Tryz.underlying63 rfl (by kernel_rfl)) rfl ⟨by rw [HT.out]; rfl,hbu.trans (hqz _ (by omega))⟩
end
end
section
section
open Go.RowKit Go.Lib
set_option maxHeartbeats 8000000 in
set_option maxRecDepth 100000 in
theorem addR_at {v1 v2:Value} (w:World) (x y s k:Nat) (h1:fv x=v1) (h2:fv y=v2) (hx:x<(2^256)) (hy:y<(2^256)) (hs:s<(2^256)) (he:s+(2^256)*k=x+y):Calls Tryz.prog 290 #[v1,v2] w λe w'=>e=.returned (fv s)∧Below w.heap.size w w':=by
 subst h1 h2
 obtain ⟨x0,x1,x2,x3,a0,a1,a2,a3,ex,fx⟩:=words_of x hx
 obtain ⟨y0,y1,y2,y3,b0,b1,b2,b3,ey,fy⟩:=words_of y hy
 obtain ⟨s0,c0,d0,k0,e0,r0⟩:=add0_ex x0 y0 a0 b0
 obtain ⟨s1,c1,d1,k1,e1,r1⟩:=addc_ex x1 y1 c0 a1 b1 k0
 obtain ⟨s2,c2,d2,k2,e2,r2⟩:=addc_ex x2 y2 c1 a2 b2 k1
 obtain ⟨s3,c3,d3,k3,e3,r3⟩:=addc_ex x3 y3 c2 a3 b3 k2
 have fin:s0+18446744073709551616*s1+340282366920938463463374607431768211456*s2+6277101735386680763835789423207666416102355444464034512896*s3=s:=by omega
 have hfs:=fv_mk s0 s1 s2 s3 d0 d1 d2 d3
 rw [fin] at hfs
 have Fd:=Lib.hid hfs
 rw [fx,fy]
 clear fx fy ex ey hx hy hs he a0 a1 a2 a3 b0 b1 b2 b3 d0 d1 d2 d3 k0 k1 k2 k3 e0 e1 e2 e3 fin hfs
 go_enter Tryz.func290,Tryz.ntmps290
 go_wp2_with fail
 go_loopw [5,6] (λbo i wr=>Below w.heap.size w wr∧Blk wr (w.heap.size+1) 363 #[.int .u64 (y0:Int),.int .u64 (y1:Int),.int .u64 (y2:Int),.int .u64 (y3:Int)]∧Blk wr (w.heap.size+2) 363 #[.int .u64 0,.int .u64 0,.int .u64 0,.int .u64 0]∧Hid ((i=.int .i64 0∧bo=.int .u64 0∧Blk wr w.heap.size 363 #[.int .u64 (x0:Int),.int .u64 (x1:Int),.int .u64 (x2:Int),.int .u64 (x3:Int)])∨(i=.int .i64 1∧bo=.int .u64 (c0:Int)∧Blk wr w.heap.size 363 #[.int .u64 (s0:Int),.int .u64 (x1:Int),.int .u64 (x2:Int),.int .u64 (x3:Int)])∨(i=.int .i64 2∧bo=.int .u64 (c1:Int)∧Blk wr w.heap.size 363 #[.int .u64 (s0:Int),.int .u64 (s1:Int),.int .u64 (x2:Int),.int .u64 (x3:Int)])∨(i=.int .i64 3∧bo=.int .u64 (c2:Int)∧Blk wr w.heap.size 363 #[.int .u64 (s0:Int),.int .u64 (s1:Int),.int .u64 (s2:Int),.int .u64 (x3:Int)])∨(i=.int .i64 4∧bo=.int .u64 (c3:Int)∧Blk wr w.heap.size 363 #[.int .u64 (s0:Int),.int .u64 (s1:Int),.int .u64 (s2:Int),.int .u64 (s3:Int)]))) (λ_ i _=>4 - (intOf i).toNat)
 case atStart=>exact ⟨below_alloc3 w _ _ _,(blk_new2 w _ _ _).alloc _,blk_new3 w _ _ _ _,Lib.hid (.inl ⟨rfl,rfl,((Blk.new w _ _).alloc _).alloc _⟩)⟩
 case round =>
  obtain ⟨hb,BY,BR,HI⟩:=hrel
  have lY:=BY.lt
  have lX:w.heap.size<wr.heap.size:=by omega
  have hsz:w.heap.size+2<wr.heap.size:=BR.lt
  rcases HI.out with ⟨rfl,rfl,BX⟩ | ⟨rfl,rfl,BX⟩ | ⟨rfl,rfl,BX⟩ | ⟨rfl,rfl,BX⟩ | ⟨rfl,rfl,BX⟩
  ·clear HI
   have px:wr.cell? ⟨w.heap.size,0,none⟩=some (.int .u64 (x0:Int)):=BX.cell 0
   have py:wr.cell? ⟨w.heap.size+1,0,none⟩=some (.int .u64 (y0:Int)):=BY.cell 0
   go_wp2
   refine wp_region_G (λ_=>false) (by kernel_rfl) ?_
   try simp only [Act.put]
   refine tk 0 rfl ?_
   try simp only [Act.put,aA,aZ,aS]
   refine tk 1 rfl ?_
   try simp only [Act.put,aA,aZ,aS]
   refine tkw 2 rfl (YieldsG.pure (v:=.int .u64 (x0:Int)) (by rfl) (λw9 h9=>by have hz:=(Below.cell (p:=⟨w.heap.size,0,none⟩) h9 lX).trans px; go_simp; first | done | simp [hz])) ?_
   try simp only [Act.put,aA,aZ,aS]
   refine tk 3 rfl ?_
   try simp only [Act.put,aA,aZ,aS]
   refine tk 4 rfl ?_
   try simp only [Act.put,aA,aZ,aS]
   refine tkw 5 rfl (YieldsG.pure (v:=.int .u64 (y0:Int)) (by rfl) (λw9 h9=>by have hz:=(Below.cell (p:=⟨w.heap.size+1,0,none⟩) h9 lY).trans py; go_simp; first | done | simp [hz])) ?_
   try simp only [Act.put,aA,aZ,aS]
   refine tk 6 rfl ?_
   try simp only [Act.put,aA,aZ,aS]
   refine tkw 7 rfl (YieldsG.pure (v:=.tuple #[.int .u64 (s0:Int),.int .u64 (c0:Int)]) (by rfl) (λw9 h9=>by go_simp)) ?_
   try simp only [Act.put,aA,aZ,aS]
   refine tk 8 rfl ?_
   try simp only [Act.put,aA,aZ,aS]
   refine tk 9 rfl ?_
   try simp only [Act.put,aA,aZ,aS]
   refine tk 10 rfl ?_
   try simp only [Act.put,aA,aZ,aS]
   refine tk 11 rfl ?_
   try simp only [Act.put,aA,aZ,aS]
   refine tk 12 rfl ?_
   try simp only [Act.put,aA,aZ,aS]
   refine wpAnyG_done (by kernel_rfl) (λu hu=>?_)
   have BXu:=Gr.blk hu BX
   have BYu:=Gr.blk hu BY
   have BRu:=Gr.blk hu BR
   have hbu:=Below.gr hb hu
   have pc:u.cell? ⟨w.heap.size,0,none⟩=some (.int .u64 (x0:Int)):=BXu.cell 0
   have pf:=BXu.frozen 0
   go_wp2
   refine ⟨⟨hbu.setCell (Nat.le_refl _) _,BYu.far (by show w.heap.size+1≠w.heap.size; omega) _,BRu.far (by show w.heap.size+2≠w.heap.size; omega) _,Lib.hid (.inr (.inl (⟨rfl,rfl,BXu.set_ 0 _⟩)))⟩,by decide⟩
  ·clear HI
   have px:wr.cell? ⟨w.heap.size,1,none⟩=some (.int .u64 (x1:Int)):=BX.cell 1
   have py:wr.cell? ⟨w.heap.size+1,1,none⟩=some (.int .u64 (y1:Int)):=BY.cell 1
   go_wp2
   refine wp_region_G (λ_=>false) (by kernel_rfl) ?_
   try simp only [Act.put]
   refine tk 0 rfl ?_
   try simp only [Act.put,aA,aZ,aS]
   refine tk 1 rfl ?_
   try simp only [Act.put,aA,aZ,aS]
   refine tkw 2 rfl (YieldsG.pure (v:=.int .u64 (x1:Int)) (by rfl) (λw9 h9=>by have hz:=(Below.cell (p:=⟨w.heap.size,1,none⟩) h9 lX).trans px; go_simp; first | done | simp [hz])) ?_
   try simp only [Act.put,aA,aZ,aS]
   refine tk 3 rfl ?_
   try simp only [Act.put,aA,aZ,aS]
   refine tk 4 rfl ?_
   try simp only [Act.put,aA,aZ,aS]
   refine tkw 5 rfl (YieldsG.pure (v:=.int .u64 (y1:Int)) (by rfl) (λw9 h9=>by have hz:=(Below.cell (p:=⟨w.heap.size+1,1,none⟩) h9 lY).trans py; go_simp; first | done | simp [hz])) ?_
   try simp only [Act.put,aA,aZ,aS]
   refine tk 6 rfl ?_
   try simp only [Act.put,aA,aZ,aS]
   refine tkw 7 rfl (YieldsG.pure (v:=.tuple #[.int .u64 (s1:Int),.int .u64 (c1:Int)]) (by rfl) (λw9 h9=>by go_simp)) ?_
   try simp only [Act.put,aA,aZ,aS]
   refine tk 8 rfl ?_
   try simp only [Act.put,aA,aZ,aS]
   refine tk 9 rfl ?_
   try simp only [Act.put,aA,aZ,aS]
   refine tk 10 rfl ?_
   try simp only [Act.put,aA,aZ,aS]
   refine tk 11 rfl ?_
   try simp only [Act.put,aA,aZ,aS]
   refine tk 12 rfl ?_
   try simp only [Act.put,aA,aZ,aS]
   refine wpAnyG_done (by kernel_rfl) (λu hu=>?_)
   have BXu:=Gr.blk hu BX
   have BYu:=Gr.blk hu BY
   have BRu:=Gr.blk hu BR
   have hbu:=Below.gr hb hu
   have pc:u.cell? ⟨w.heap.size,1,none⟩=some (.int .u64 (x1:Int)):=BXu.cell 1
   have pf:=BXu.frozen 1
   go_wp2
   refine ⟨⟨hbu.setCell (Nat.le_refl _) _,BYu.far (by show w.heap.size+1≠w.heap.size; omega) _,BRu.far (by show w.heap.size+2≠w.heap.size; omega) _,Lib.hid (.inr (.inr (.inl (⟨rfl,rfl,BXu.set_ 1 _⟩))))⟩,by decide⟩
  ·clear HI
   have px:wr.cell? ⟨w.heap.size,2,none⟩=some (.int .u64 (x2:Int)):=BX.cell 2
   have py:wr.cell? ⟨w.heap.size+1,2,none⟩=some (.int .u64 (y2:Int)):=BY.cell 2
   go_wp2
   refine wp_region_G (λ_=>false) (by kernel_rfl) ?_
   try simp only [Act.put]
   refine tk 0 rfl ?_
   try simp only [Act.put,aA,aZ,aS]
   refine tk 1 rfl ?_
   try simp only [Act.put,aA,aZ,aS]
   refine tkw 2 rfl (YieldsG.pure (v:=.int .u64 (x2:Int)) (by rfl) (λw9 h9=>by have hz:=(Below.cell (p:=⟨w.heap.size,2,none⟩) h9 lX).trans px; go_simp; first | done | simp [hz])) ?_
   try simp only [Act.put,aA,aZ,aS]
   refine tk 3 rfl ?_
   try simp only [Act.put,aA,aZ,aS]
   refine tk 4 rfl ?_
   try simp only [Act.put,aA,aZ,aS]
   refine tkw 5 rfl (YieldsG.pure (v:=.int .u64 (y2:Int)) (by rfl) (λw9 h9=>by have hz:=(Below.cell (p:=⟨w.heap.size+1,2,none⟩) h9 lY).trans py; go_simp; first | done | simp [hz])) ?_
   try simp only [Act.put,aA,aZ,aS]
   refine tk 6 rfl ?_
   try simp only [Act.put,aA,aZ,aS]
   refine tkw 7 rfl (YieldsG.pure (v:=.tuple #[.int .u64 (s2:Int),.int .u64 (c2:Int)]) (by rfl) (λw9 h9=>by go_simp)) ?_
   try simp only [Act.put,aA,aZ,aS]
   refine tk 8 rfl ?_
   try simp only [Act.put,aA,aZ,aS]
   refine tk 9 rfl ?_
   try simp only [Act.put,aA,aZ,aS]
   refine tk 10 rfl ?_
   try simp only [Act.put,aA,aZ,aS]
   refine tk 11 rfl ?_
   try simp only [Act.put,aA,aZ,aS]
   refine tk 12 rfl ?_
   try simp only [Act.put,aA,aZ,aS]
   refine wpAnyG_done (by kernel_rfl) (λu hu=>?_)
   have BXu:=Gr.blk hu BX
   have BYu:=Gr.blk hu BY
   have BRu:=Gr.blk hu BR
   have hbu:=Below.gr hb hu
   have pc:u.cell? ⟨w.heap.size,2,none⟩=some (.int .u64 (x2:Int)):=BXu.cell 2
   have pf:=BXu.frozen 2
   go_wp2
   refine ⟨⟨hbu.setCell (Nat.le_refl _) _,BYu.far (by show w.heap.size+1≠w.heap.size; omega) _,BRu.far (by show w.heap.size+2≠w.heap.size; omega) _,Lib.hid (.inr (.inr (.inr (.inl (⟨rfl,rfl,BXu.set_ 2 _⟩)))))⟩,by decide⟩
  ·clear HI
   have px:wr.cell? ⟨w.heap.size,3,none⟩=some (.int .u64 (x3:Int)):=BX.cell 3
   have py:wr.cell? ⟨w.heap.size+1,3,none⟩=some (.int .u64 (y3:Int)):=BY.cell 3
   go_wp2
   refine wp_region_G (λ_=>false) (by kernel_rfl) ?_
   try simp only [Act.put]
   refine tk 0 rfl ?_
   try simp only [Act.put,aA,aZ,aS]
   refine tk 1 rfl ?_
   try simp only [Act.put,aA,aZ,aS]
   refine tkw 2 rfl (YieldsG.pure (v:=.int .u64 (x3:Int)) (by rfl) (λw9 h9=>by have hz:=(Below.cell (p:=⟨w.heap.size,3,none⟩) h9 lX).trans px; go_simp; first | done | simp [hz])) ?_
   try simp only [Act.put,aA,aZ,aS]
   refine tk 3 rfl ?_
   try simp only [Act.put,aA,aZ,aS]
   refine tk 4 rfl ?_
   try simp only [Act.put,aA,aZ,aS]
   refine tkw 5 rfl (YieldsG.pure (v:=.int .u64 (y3:Int)) (by rfl) (λw9 h9=>by have hz:=(Below.cell (p:=⟨w.heap.size+1,3,none⟩) h9 lY).trans py; go_simp; first | done | simp [hz])) ?_
   try simp only [Act.put,aA,aZ,aS]
   refine tk 6 rfl ?_
   try simp only [Act.put,aA,aZ,aS]
   refine tkw 7 rfl (YieldsG.pure (v:=.tuple #[.int .u64 (s3:Int),.int .u64 (c3:Int)]) (by rfl) (λw9 h9=>by go_simp)) ?_
   try simp only [Act.put,aA,aZ,aS]
   refine tk 8 rfl ?_
   try simp only [Act.put,aA,aZ,aS]
   refine tk 9 rfl ?_
   try simp only [Act.put,aA,aZ,aS]
   refine tk 10 rfl ?_
   try simp only [Act.put,aA,aZ,aS]
   refine tk 11 rfl ?_
   try simp only [Act.put,aA,aZ,aS]
   refine tk 12 rfl ?_
   try simp only [Act.put,aA,aZ,aS]
   refine wpAnyG_done (by kernel_rfl) (λu hu=>?_)
   have BXu:=Gr.blk hu BX
   have BYu:=Gr.blk hu BY
   have BRu:=Gr.blk hu BR
   have hbu:=Below.gr hb hu
   have pc:u.cell? ⟨w.heap.size,3,none⟩=some (.int .u64 (x3:Int)):=BXu.cell 3
   have pf:=BXu.frozen 3
   go_wp2
   refine ⟨⟨hbu.setCell (Nat.le_refl _) _,BYu.far (by show w.heap.size+1≠w.heap.size; omega) _,BRu.far (by show w.heap.size+2≠w.heap.size; omega) _,Lib.hid (.inr (.inr (.inr (.inr (⟨rfl,rfl,BXu.set_ 3 _⟩)))))⟩,by decide⟩
  ·clear HI
   have BS:=BX.eq_ (fcs_words Fd.out.symm).symm
   go_wp2_with (first | ((with_reducible refine here_load (d:=some 28) ?_); refine wpList_load_fv rfl _ _ rfl (w.heap.size) rfl (s) _ _ _ (BS) (fv_fcs s) Tryz.underlying363 rfl (by kernel_rfl) ?_) | ((with_reducible refine here_store ?_); refine wpList_store_blk rfl _ _ _ rfl (w.heap.size+2) (fcs (s)) rfl rfl _ _ (BR) (by kernel_rfl) (by rfl) (fcs_one _) ?_; intro w9 hL9 hB9 hK9))
   exact bodyPost_ret (results_cell_row rfl _ _ (w.heap.size+2) _ _ (0,0) _ rfl hL9 Tryz.underlying363 rfl (by kernel_rfl)) rfl ⟨rfl,hb.trans (hB9 _ (by omega))⟩
def eQ:Nat:=28948022309329048855892746252171976963317496166410141009864396001977208667916
def rtR (x:Nat):Nat:=pw x eQ
def sqrtR (x:Nat):Nat×Bool:=if mulP (rtR x) (rtR x)≠x%pM then (0,false) else if rtR x%18446744073709551616%2=1 then (negP (rtR x),true) else (rtR x,true)
theorem fv_eQ:fv 28948022309329048855892746252171976963317496166410141009864396001977208667916=.agg #[.int .u64 18446744072635809548,.int .u64 18446744073709551615,.int .u64 18446744073709551615,.int .u64 4611686018427387903]:=rfl
theorem rem_two (n:Nat) (_:n<18446744073709551616):∃ b:Bool,b=decide (n%2=1)∧(((n:Int)%2 == 1)=b):=by
 refine ⟨_,rfl,?_⟩
 rcases (show n%2=0∨n%2=1 by omega) with h | h
 ·have:(n:Int)%2=0:=by omega
  rw [this,h]; rfl
 ·have:(n:Int)%2=1:=by omega
  rw [this,h]; rfl
set_option maxHeartbeats 8000000 in
set_option maxRecDepth 100000 in
theorem sqrtR_any (w:World) (x:Nat) (hx:x<(2^256)):Calls Tryz.prog 277 #[fv x] w λe w'=>e=.returned (.tuple #[fv (sqrtR x).1,.bool (sqrtR x).2])∧Below w.heap.size w w':=by
 obtain ⟨p,hp⟩:∃ p,p=115792089237316195423570985008687907853269984665640564039457584007908834671663:=⟨_,rfl⟩
 obtain ⟨one,h1⟩:∃ n,n=1:=⟨_,rfl⟩
 obtain ⟨e,he⟩:∃ e,e=115792089237316195423570985008687907853269984665640564039457584007908834671663+1:=⟨_,rfl⟩
 obtain ⟨q,hq⟩:∃ q,q=eQ:=⟨_,rfl⟩
 obtain ⟨r,hr⟩:∃ r,r=rtR x:=⟨_,rfl⟩
 obtain ⟨m,hm⟩:∃ z,z=mulP r r:=⟨_,rfl⟩
 obtain ⟨n,hn⟩:∃ z,z=x%pM:=⟨_,rfl⟩
 obtain ⟨g,hg⟩:∃ z,z=negP r:=⟨_,rfl⟩
 have lq:q<(2^256):=by rw [hq,eQ]; omega
 have lr:r<(2^256):=by rw [hr]; exact pw_lt _ _
 have lm:m<(2^256):=by rw [hm]; exact mulP_lt _ _
 have ln:n<(2^256):=by rw [hn]; exact mod_lt x
 have cP:∀ w,Calls Tryz.prog 249 #[] w λe w'=>e=.returned (.agg #[.int .u64 18446744069414583343,.int .u64 18446744073709551615,.int .u64 18446744073709551615,.int .u64 18446744073709551615,.int .u64 4294968273,.int .u64 0,.int .u64 0])∧Below w.heap.size w w':=refP_any
 have c1:∀ w,Calls Tryz.prog 276 #[.int .u64 1] w λe w'=>e=.returned (fv one)∧Below w.heap.size w w':=λw=>small_at w one 1 (by rw [h1]; rfl) (by omega)
 have cA:∀ w,Calls Tryz.prog 290 #[fv p,fv one] w λr w'=>r=.returned (fv e)∧Below w.heap.size w w':=λw=>addR_at w p one e 0 rfl rfl (by omega) (by omega) (by omega) (by omega)
 have cW:∀ w,Calls Tryz.prog 291 #[.agg #[.int .u64 18446744069414583343,.int .u64 18446744073709551615,.int .u64 18446744073709551615,.int .u64 18446744073709551615,.int .u64 4294968273,.int .u64 0,.int .u64 0],fv x,fv q] w λe w'=>e=.returned (fv r)∧Below w.heap.size w w':=by
  intro w; rw [hr,rtR, ← hq]; exact power_any w x q hx lq
 have cM:∀ w,Calls Tryz.prog 274 #[.agg #[.int .u64 18446744069414583343,.int .u64 18446744073709551615,.int .u64 18446744073709551615,.int .u64 18446744073709551615,.int .u64 4294968273,.int .u64 0,.int .u64 0],fv r,fv r] w λe w'=>e=.returned (fv m)∧Below w.heap.size w w':=by
  intro w; rw [hm]; exact mulR_any w r r lr lr
 have cN:∀ w,Calls Tryz.prog 246 #[.agg #[.int .u64 18446744069414583343,.int .u64 18446744073709551615,.int .u64 18446744073709551615,.int .u64 18446744073709551615,.int .u64 4294968273,.int .u64 0,.int .u64 0],fv x] w λe w'=>e=.returned (fv n)∧Below w.heap.size w w':=by
  intro w; rw [hn]; exact normR_any w x hx
 have cG:∀ w,Calls Tryz.prog 279 #[.agg #[.int .u64 18446744069414583343,.int .u64 18446744073709551615,.int .u64 18446744073709551615,.int .u64 18446744073709551615,.int .u64 4294968273,.int .u64 0,.int .u64 0],fv r] w λe w'=>e=.returned (fv g)∧Below w.heap.size w w':=by
  intro w; rw [hg]; exact negR_any w r lr
 obtain ⟨b,hb⟩:∃ b,b=decide (m≠n):=⟨_,rfl⟩
 have eb:∀ W,(binOp .neq 363 (fv m) (fv n)).run Tryz.prog W=.ok (.bool b) W:=λW=>by rw [hb]; exact Nm.run_neq_fv W m n lm ln
 obtain ⟨r0,r1,r2,r3,a0,a1,a2,a3,er,fr⟩:=words_of r lr
 obtain ⟨o,ho,hob⟩:=rem_two r0 a0
 have hS:sqrtR x=if b=true then (0,false) else if o=true then (g,true) else (r,true):=by
  unfold sqrtR
  have h0:r%18446744073709551616=r0:=by omega
  rw [← hr, ← hm, ← hn, ← hg,hb,ho,h0]
  by_cases h1:m=n <;> by_cases h2:r0%2=1 <;> simp [h1,h2]
 have FP:Hid (fv p=.agg #[.int .u64 18446744069414583343,.int .u64 18446744073709551615,.int .u64 18446744073709551615,.int .u64 18446744073709551615]):=Lib.hid (by rw [hp]; exact fv_P)
 have FE:Hid (fv e=.agg #[.int .u64 18446744069414583344,.int .u64 18446744073709551615,.int .u64 18446744073709551615,.int .u64 18446744073709551615]):=Lib.hid (by rw [he]; rfl)
 have FQ:Hid (fv q=.agg #[.int .u64 18446744072635809548,.int .u64 18446744073709551615,.int .u64 18446744073709551615,.int .u64 4611686018427387903]):=Lib.hid (by rw [hq]; exact fv_eQ)
 have FR:=Lib.hid fr
 obtain ⟨x0,x1,x2,x3,fx⟩:=words_fv x hx
 have FX:=Lib.hid fx
 rw [fx,hS]
 clear fx hx hp h1 he hq hr hm hn hg lq lr lm ln hb ho hS a0 a1 a2 a3 er fr
 go_enter Tryz.func277,Tryz.ntmps277
 go_wp2_with fail
 refine (cP _).mono ?_
 rintro z w1 ⟨rfl,k1⟩
 have BX:=Gr.blk k1 ((Blk.new w _ _).alloc _)
 have BR:=Gr.blk k1 (blk_new2 w _ _ _)
 have hB:=Below.gr (below_alloc2 w _ _) k1
 have sz1:w.heap.size+1<w1.heap.size:=BR.lt
 clear k1 cP
 go_wp2_with (first | ((with_reducible refine here_store ?_); refine wpList_store_blk rfl _ _ _ rfl (w1.heap.size) #[.int .u64 18446744069414583343,.int .u64 18446744073709551615,.int .u64 18446744073709551615,.int .u64 18446744073709551615,.int .u64 4294968273,.int .u64 0,.int .u64 0] rfl rfl _ _ (Blk.new w1 _ _) (by kernel_rfl) (by rfl) (by simp [Value.oneCell']) ?_; intro w2 hL2 hq2 hK2; have BX2:=hK2 _ (by omega) _ _ (BX.alloc _); have BR2:=hK2 _ (by omega) _ _ (BR.alloc _); have hB2:=(hB.alloc (by omega) _).trans (hq2 _ (by omega))))
 refine wp_region_G (λj=>j == 5) (by kernel_rfl) ?_
 try simp only [Act.put]
 refine tk 0 rfl ?_
 try simp only [Act.put,aA,aZ,aS]
 refine tkw 1 rfl (YieldsG.loadP (by rfl) _ _ rfl w1.heap.size rfl p _ (Blk.lt hL2) (mod_range hL2) FP.out Tryz.underlying363 rfl (by kernel_rfl)) ?_
 try simp only [Act.put,aA,aZ,aS]
 refine tkw 2 rfl (YieldsG.call (v:=fv one) (by rfl) 276 _ (λw9=>by go_simp; try (first | with_reducible rfl | rfl)) (λw9 h9=>c1 w9)) ?_
 try simp only [Act.put,aA,aZ,aS]
 refine tkw 3 rfl (YieldsG.call (v:=fv e) (by rfl) 290 _ (λw9=>by go_simp; try (first | with_reducible rfl | rfl)) (λw9 h9=>cA w9)) ?_
 try simp only [Act.put,aA,aZ,aS]
 refine wpAnyG_sole 4 rfl (by kernel_rfl) (by rfl) (λw4 h4 K hK=>?_)
 go_simp
 refine hK _ _ (λ_=>gr_alloc _ _) ?_
 clear hK K
 try simp only [Act.put,aA,aZ,aS]
 refine wpAnyG_store 5 rfl (by kernel_rfl) (by rfl) _ _ _ rfl (w4.heap.size) (fcs (e)) rfl rfl _ _ (Blk.new w4 _ _) (by kernel_rfl) (by rfl) (fcs_one _) rfl (λw6 h6 w7 hB7 hL7=>?_)
 try simp only [Act.put]
 refine wpAnyG_done (by kernel_rfl) (λw8 h8=>?_)
 have sz4:w1.heap.size<w4.heap.size:=by have:=hL2.lt; have:=h4.size; omega
 have BM8:Blk w8 w1.heap.size 370 #[.int .u64 18446744069414583343,.int .u64 18446744073709551615,.int .u64 18446744073709551615,.int .u64 18446744073709551615,.int .u64 4294968273,.int .u64 0,.int .u64 0]:=Gr.blk h8 (Blk.below (B:=w4.heap.size) (Gr.blk h6 (Blk.alloc (Gr.blk h4 hL2) _)) (hB7 _ (Nat.le_refl _)) (by omega))
 have BX8:=Gr.blk h8 (Blk.below (B:=w4.heap.size) (Gr.blk h6 (Blk.alloc (Gr.blk h4 BX2) _)) (hB7 _ (Nat.le_refl _)) (by omega))
 have BR8:=Gr.blk h8 (Blk.below (B:=w4.heap.size) (Gr.blk h6 (Blk.alloc (Gr.blk h4 BR2) _)) (hB7 _ (Nat.le_refl _)) (by omega))
 have BE8:Blk w8 w4.heap.size 363 #[.int .u64 18446744069414583344,.int .u64 18446744073709551615,.int .u64 18446744073709551615,.int .u64 18446744073709551615]:=(Gr.blk h8 hL7).eq_ (fcs_words FE.out)
 have hB8:Below w.heap.size w w8:=Below.gr ((Below.gr ((Below.gr hB2 h4).alloc (by omega) _) h6).trans (hB7 _ (by omega))) h8
 clear h4 h6 hB7 hL7 h8 c1 cA hL2 BX2 BR2 hB2
 go_wp2_with fail
 go_loopw [6,7] (λrs i wr=>Below w.heap.size w wr∧Blk wr w1.heap.size 370 #[.int .u64 18446744069414583343,.int .u64 18446744073709551615,.int .u64 18446744073709551615,.int .u64 18446744073709551615,.int .u64 4294968273,.int .u64 0,.int .u64 0]∧Blk wr w.heap.size 363 #[.int .u64 x0,.int .u64 x1,.int .u64 x2,.int .u64 x3]∧Blk wr (w.heap.size+1) 363 #[.int .u64 0,.int .u64 0,.int .u64 0,.int .u64 0]∧Hid ((i=.int .i64 3∧rs=.int .u64 0∧Blk wr w4.heap.size 363 #[.int .u64 18446744069414583344,.int .u64 18446744073709551615,.int .u64 18446744073709551615,.int .u64 18446744073709551615])∨(i=.int .i64 2∧rs=.int .u64 3∧Blk wr w4.heap.size 363 #[.int .u64 18446744069414583344,.int .u64 18446744073709551615,.int .u64 18446744073709551615,.int .u64 4611686018427387903])∨(i=.int .i64 1∧rs=.int .u64 3∧Blk wr w4.heap.size 363 #[.int .u64 18446744069414583344,.int .u64 18446744073709551615,.int .u64 18446744073709551615,.int .u64 4611686018427387903])∨(i=.int .i64 0∧rs=.int .u64 3∧Blk wr w4.heap.size 363 #[.int .u64 18446744069414583344,.int .u64 18446744073709551615,.int .u64 18446744073709551615,.int .u64 4611686018427387903])∨(i=.int .i64 (-1)∧rs=.int .u64 0∧Blk wr w4.heap.size 363 #[.int .u64 18446744072635809548,.int .u64 18446744073709551615,.int .u64 18446744073709551615,.int .u64 4611686018427387903]))) (λ_ i _=>(intOf i+1).toNat)
 case atStart=>exact ⟨hB8,BM8,BX8,BR8,Lib.hid (.inl ⟨rfl,rfl,BE8⟩)⟩
 case round =>
  clear hB8 BM8 BX8 BR8 BE8
  obtain ⟨hb,BM,BX,BR,HI⟩:=hrel
  rcases HI.out with ⟨rfl,rfl,BE⟩ | ⟨rfl,rfl,BE⟩ | ⟨rfl,rfl,BE⟩ | ⟨rfl,rfl,BE⟩ | ⟨rfl,rfl,BE⟩
  ·clear HI
   have pe:wr.cell? ⟨w4.heap.size,3,none⟩=some (.int .u64 18446744073709551615):=BE.cell 3
   have pf:=BE.frozen 3
   go_wp2
   refine ⟨⟨hb.setCell (by show w.heap.size≤w4.heap.size; omega) _,BM.far (by show w1.heap.size≠w4.heap.size; omega) _,BX.far (by show w.heap.size≠w4.heap.size; omega) _,BR.far (by show w.heap.size+1≠w4.heap.size; omega) _,Lib.hid (.inr (.inl (⟨rfl,rfl,BE.set_ 3 _⟩)))⟩,by decide⟩
  ·clear HI
   have pe:wr.cell? ⟨w4.heap.size,2,none⟩=some (.int .u64 18446744073709551615):=BE.cell 2
   have pf:=BE.frozen 2
   go_wp2
   refine ⟨⟨hb.setCell (by show w.heap.size≤w4.heap.size; omega) _,BM.far (by show w1.heap.size≠w4.heap.size; omega) _,BX.far (by show w.heap.size≠w4.heap.size; omega) _,BR.far (by show w.heap.size+1≠w4.heap.size; omega) _,Lib.hid (.inr (.inr (.inl (⟨rfl,rfl,BE.set_ 2 _⟩))))⟩,by decide⟩
  ·clear HI
   have pe:wr.cell? ⟨w4.heap.size,1,none⟩=some (.int .u64 18446744073709551615):=BE.cell 1
   have pf:=BE.frozen 1
   go_wp2
   refine ⟨⟨hb.setCell (by show w.heap.size≤w4.heap.size; omega) _,BM.far (by show w1.heap.size≠w4.heap.size; omega) _,BX.far (by show w.heap.size≠w4.heap.size; omega) _,BR.far (by show w.heap.size+1≠w4.heap.size; omega) _,Lib.hid (.inr (.inr (.inr (.inl (⟨rfl,rfl,BE.set_ 1 _⟩)))))⟩,by decide⟩
  ·clear HI
   have pe:wr.cell? ⟨w4.heap.size,0,none⟩=some (.int .u64 18446744069414583344):=BE.cell 0
   have pf:=BE.frozen 0
   go_wp2
   refine ⟨⟨hb.setCell (by show w.heap.size≤w4.heap.size; omega) _,BM.far (by show w1.heap.size≠w4.heap.size; omega) _,BX.far (by show w.heap.size≠w4.heap.size; omega) _,BR.far (by show w.heap.size+1≠w4.heap.size; omega) _,Lib.hid (.inr (.inr (.inr (.inr (⟨rfl,rfl,BE.set_ 0 _⟩)))))⟩,by decide⟩
  ·clear HI
   have sl:=BE.lt
   go_wp2_with (first | ((with_reducible refine here_load (d:=some 31) ?_); refine wpList_load_blk rfl _ _ rfl w1.heap.size rfl _ _ _ (BM) Tryz.underlying370 rfl (by kernel_rfl) ?_) | ((with_reducible refine here_load (d:=some 32) ?_); refine wpList_load_fv rfl _ _ rfl (w.heap.size) rfl (x) _ _ _ (BX) (FX.out) Tryz.underlying363 rfl (by kernel_rfl) ?_) | ((with_reducible refine here_load (d:=some 33) ?_); refine wpList_load_fv rfl _ _ rfl (w4.heap.size) rfl (q) _ _ _ (BE) (FQ.out) Tryz.underlying363 rfl (by kernel_rfl) ?_))
   refine (cW _).mono ?_
   rintro z w5 ⟨rfl,k1⟩
   have BM:=Gr.blk k1 BM
   have BX:=Gr.blk k1 BX
   have BR:=Gr.blk k1 BR
   have hb:=Below.gr hb k1
   have sz5:w4.heap.size<w5.heap.size:=Nat.lt_of_lt_of_le sl k1.size
   clear k1 cW BE
   go_wp2_with (first | ((with_reducible refine here_store ?_); refine wpList_store_blk rfl _ _ _ rfl (w5.heap.size) (fcs (r)) rfl rfl _ _ (Blk.new w5 _ _) (by kernel_rfl) (by rfl) (fcs_one _) ?_; intro w6 hL6 hq6 hK6; have BM6:=hK6 _ (by omega) _ _ (BM.alloc _); have BX6:=hK6 _ (by omega) _ _ (BX.alloc _); have BR6:=hK6 _ (by omega) _ _ (BR.alloc _); have hB6:=(hb.alloc (by omega) _).trans (hq6 _ (by omega))))
   refine wp_region_G (λ_=>false) (by kernel_rfl) ?_
   try simp only [Act.put]
   refine tkw 0 rfl (YieldsG.load (by rfl) _ _ rfl w1.heap.size 0 rfl ([.int .u64 18446744069414583343,.int .u64 18446744073709551615,.int .u64 18446744073709551615,.int .u64 18446744073709551615,.int .u64 4294968273,.int .u64 0,.int .u64 0]) _ (Blk.lt (BM6)) (Blk.range (BM6)) Tryz.underlying370 rfl (by kernel_rfl)) ?_
   try simp only [Act.put,aA,aZ,aS]
   refine tkw 1 rfl (YieldsG.loadF (by rfl) _ _ rfl (w5.heap.size) rfl (r) _ _ (hL6) (fv_fcs _) Tryz.underlying363 rfl (by kernel_rfl)) ?_
   try simp only [Act.put,aA,aZ,aS]
   refine tkw 2 rfl (YieldsG.loadF (by rfl) _ _ rfl (w5.heap.size) rfl (r) _ _ (hL6) (fv_fcs _) Tryz.underlying363 rfl (by kernel_rfl)) ?_
   try simp only [Act.put,aA,aZ,aS]
   refine tkw 3 rfl (YieldsG.call (v:=fv m) (by rfl) 274 _ (λw9=>by go_simp; try (first | with_reducible rfl | rfl)) (λw9 h9=>cM w9)) ?_
   try simp only [Act.put,aA,aZ,aS]
   refine tkw 4 rfl (YieldsG.load (by rfl) _ _ rfl w1.heap.size 0 rfl ([.int .u64 18446744069414583343,.int .u64 18446744073709551615,.int .u64 18446744073709551615,.int .u64 18446744073709551615,.int .u64 4294968273,.int .u64 0,.int .u64 0]) _ (Blk.lt (BM6)) (Blk.range (BM6)) Tryz.underlying370 rfl (by kernel_rfl)) ?_
   try simp only [Act.put,aA,aZ,aS]
   refine tkw 5 rfl (YieldsG.loadF (by rfl) _ _ rfl (w.heap.size) rfl (x) _ _ (BX6) (FX.out) Tryz.underlying363 rfl (by kernel_rfl)) ?_
   try simp only [Act.put,aA,aZ,aS]
   refine tkw 6 rfl (YieldsG.call (v:=fv n) (by rfl) 246 _ (λw9=>by go_simp; try (first | with_reducible rfl | rfl)) (λw9 h9=>cN w9)) ?_
   try simp only [Act.put,aA,aZ,aS]
   refine tkw 7 rfl (YieldsG.pure (v:=.bool b) (by rfl) (λw9 h9=>by go_simp; rw [Nm.run_eqGuard_fv]; simp only [Result.andThen_ok])) ?_
   try simp only [Act.put,aA,aZ,aS]
   refine wpAnyG_done (by kernel_rfl) (λu hu=>?_)
   have BM:=Gr.blk hu BM6
   have BR:=Gr.blk hu BR6
   have BRT:=Gr.blk hu hL6
   have hb:=Below.gr hB6 hu
   have BW:Blk u w5.heap.size 363 #[.int .u64 (r0:Int),.int .u64 (r1:Int),.int .u64 (r2:Int),.int .u64 (r3:Int)]:=BRT.eq_ (fcs_words FR.out)
   have pc:u.cell? ⟨w5.heap.size,0,none⟩=some (.int .u64 (r0:Int)):=BW.cell 0
   clear hu BM6 BX6 BR6 hL6 hB6 BX eb cM cN BW
   cases b
   ·cases o
    ·go_wp2_with (first | ((with_reducible refine here_load (d:=some 51) ?_); refine wpList_load_fv rfl _ _ rfl (w5.heap.size) rfl (r) _ _ _ (BRT) (fv_fcs _) Tryz.underlying363 rfl (by kernel_rfl) ?_) | ((with_reducible refine here_store ?_); refine wpList_store_blk rfl _ _ _ rfl (w.heap.size+1) (fcs (r)) rfl rfl _ _ (BR) (by kernel_rfl) (by rfl) (fcs_one _) ?_; intro w9 hL9 hB9 hK9))
     exact bodyPost_ret (res_cell_tmp rfl _ _ (w.heap.size+1) _ _ _ _ rfl hL9 rfl Tryz.underlying363 rfl (by kernel_rfl)) rfl ⟨rfl,hb.trans (hB9 _ (by omega))⟩
    ·go_wp2_with (first | ((with_reducible refine here_load (d:=some 48) ?_); refine wpList_load_blk rfl _ _ rfl w1.heap.size rfl _ _ _ (BM) Tryz.underlying370 rfl (by kernel_rfl) ?_) | ((with_reducible refine here_load (d:=some 49) ?_); refine wpList_load_fv rfl _ _ rfl (w5.heap.size) rfl (r) _ _ _ (BRT) (fv_fcs _) Tryz.underlying363 rfl (by kernel_rfl) ?_))
     refine (cG _).mono ?_
     rintro z w6 ⟨rfl,k1⟩
     have BR:=Gr.blk k1 BR
     have hb:=Below.gr hb k1
     clear k1 cG
     go_wp2_with (first | ((with_reducible refine here_store ?_); refine wpList_store_blk rfl _ _ _ rfl (w.heap.size+1) (fcs (g)) rfl rfl _ _ (BR) (by kernel_rfl) (by rfl) (fcs_one _) ?_; intro w9 hL9 hB9 hK9))
     exact bodyPost_ret (res_cell_tmp rfl _ _ (w.heap.size+1) _ _ _ _ rfl hL9 rfl Tryz.underlying363 rfl (by kernel_rfl)) rfl ⟨rfl,hb.trans (hB9 _ (by omega))⟩
   ·go_wp2_with (first | ((with_reducible refine here_store ?_); refine wpList_store_blk rfl _ _ _ rfl (w.heap.size+1) _ rfl rfl _ _ (BR) (by kernel_rfl) (by rfl) (by simp [Value.oneCell']) ?_; intro w9 hL9 hB9 hK9))
    exact bodyPost_ret (res_cell_tmp rfl _ _ (w.heap.size+1) _ _ _ _ rfl hL9 rfl Tryz.underlying363 rfl (by kernel_rfl)) rfl ⟨rfl,hb.trans (hB9 _ (by omega))⟩
end
end
section
section
open Go.RowKit Go.Lib
theorem prime_p:Nt.Pr pM:=Nt.pr_p
theorem eRoot_is:eRoot=eQ:=by decide +kernel
theorem four_eQ:2*(eQ+eQ)=pM+1:=by decide +kernel
theorem root_is (x:Nat):rtR x=rootR x:=by
 have h:=rootR_pow x
 rw [rootR_red,eRoot_is] at h
 rw [h]
 rfl
theorem root_lt_p (x:Nat):rootR x<pM:=by rw [← rootR_red]; exact mod_lt_p _
theorem low_odd (r:Nat):r%18446744073709551616%2=r%2:=by omega
theorem sqrt_is (x:Nat):sqrtR x=sqrtS x:=by
 unfold sqrtR sqrtS
 rw [root_is,low_odd,rootR_red]
theorem sq_le {p r a:Nat} (hp:Nt.Pr p) (hle:a≤r) (hr:r<p) (h:r*r%p=a*a%p):r=a∨r+a=p:=by
 have e:(r - a)*(r+a)=r*r - a*a:=by
  obtain ⟨d,rfl⟩:∃ d,r=a+d:=⟨r - a,by omega⟩
  rw [Nat.add_sub_cancel_left]
  have h1:(a+d)*(a+d)=a*a+d*(a+d+a):=by
   simp only [Nat.mul_add,Nat.add_mul]
   have:=Nat.mul_comm a d
   omega
  rw [h1,Nat.add_sub_cancel_left]
 have hd:p ∣ (r - a)*(r+a):=by
  rw [e]
  exact Nat.dvd_of_mod_eq_zero (Nat.sub_mod_eq_zero_of_mod_eq h)
 by_cases hz:(r+a)%p=0
 ·obtain ⟨k,hk⟩:=Nat.dvd_of_mod_eq_zero hz
  rcases k with _ | _ | k
  ·left; omega
  ·right; omega
  ·have hk':r+a=p*(k+2):=hk
   have:p*2≤p*(k+2):=Nat.mul_le_mul (Nat.le_refl _) (by omega)
   omega
 ·left
  have hd2:p ∣ r - a:=(Nt.cop hp (r+a) hz).dvd_of_dvd_mul_right hd
  have:=Nat.eq_zero_of_dvd_of_lt hd2 (by omega)
  omega
theorem sq_roots {p r a:Nat} (hp:Nt.Pr p) (hr:r<p) (ha:a<p) (h:r*r%p=a*a%p):r=a∨r+a=p:=by
 rcases Nat.le_total a r with hl | hl
 ·exact sq_le hp hl hr h
 ·rcases sq_le hp hl ha h.symm with h1 | h1
  ·exact .inl h1.symm
  ·exact .inr (by omega)
theorem pow_gen {p a e:Nat} (hp:Nt.Pr p) (he:2*(e+e)=p+1):((a*a) ^ e%p)*((a*a) ^ e%p)%p=a*a%p:=by
 have h2:=hp.1
 rw [← Nat.mul_mod, ← Nat.pow_add, ← Nat.pow_two, ← Nat.pow_mul,he]
 have e1:a ^ (p+1)=a ^ (p - 1)*a ^ 2:=by rw [← Nat.pow_add]; congr 1; omega
 rw [e1,Nat.mul_mod]
 by_cases hz:a%p=0
 ·have:a ^ 2%p=0:=by rw [Nat.pow_two,Nat.mul_mod,hz]; simp
  rw [this]; simp
 ·rw [Nt.flt hp a hz,Nat.one_mul,Nat.mod_mod]
theorem root_sq (a:Nat):mulP (rootR (mulP a a)) (rootR (mulP a a))=mulP a a:=by
 have h:=rootR_pow (mulP a a)
 rw [rootR_red,eRoot_is] at h
 rw [h]
 unfold mulP
 rw [← Nat.pow_mod]
 exact pow_gen prime_p four_eQ
theorem neg_of (r:Nat) (h:r<pM) (h0:r≠0):negP r=pM - r:=by
 unfold negP
 rw [Nat.mod_eq_of_lt h]
 exact Nat.mod_eq_of_lt (by omega)
theorem neg_sq (r:Nat) (h:r<pM) (h0:r≠0):mulP (negP r) (negP r)=mulP r r:=by
 rw [neg_of r h h0]
 obtain ⟨q,hq⟩:∃ q,pM=q+r:=⟨pM - r,by omega⟩
 rw [show pM - r=q by omega]
 unfold mulP
 have e:q*q+pM*r=r*r+pM*q:=by
  rw [hq,Nat.add_mul,Nat.add_mul,Nat.mul_comm r q]
  omega
 have h1:(q*q+pM*r)%pM=q*q%pM:=Nat.add_mul_mod_self_left _ _ _
 have h2:(r*r+pM*q)%pM=r*r%pM:=Nat.add_mul_mod_self_left _ _ _
 rw [← h1, ← h2,e]
theorem pM_odd:pM%2=1:=by decide +kernel
theorem sqrt_even (x:Nat):(sqrtS x).1%pM%2=0:=by
 unfold sqrtS
 have hr:=root_lt_p x
 by_cases h1:mulP (rootR x) (rootR x)≠x%pM
 ·rw [if_pos h1]; rw [Nat.zero_mod]
 ·rw [if_neg h1]
  by_cases h2:rootR x%pM%2=1
  ·rw [if_pos h2]
   rw [rootR_red] at h2
   have h0:rootR x≠0:=by omega
   have e:=neg_of _ hr h0
   have hp:=pM_odd
   show negP (rootR x)%pM%2=0
   rw [e,Nat.mod_eq_of_lt (show pM - rootR x<pM by omega)]
   omega
  ·rw [if_neg h2]
   show rootR x%pM%2=0
   omega
theorem sqrt_lt (x:Nat):(sqrtS x).1<(2^256):=by
 unfold sqrtS
 by_cases h1:mulP (rootR x) (rootR x)≠x%pM
 ·rw [if_pos h1]; show 0<_; omega
 ·rw [if_neg h1]
  by_cases h2:rootR x%pM%2=1
  ·rw [if_pos h2]; exact negP_lt _
  ·rw [if_neg h2]; exact rootR_lt _
theorem sqrt_mul (x:Nat) (h:(sqrtS x).2=true):mulP (sqrtS x).1 (sqrtS x).1=x%pM:=by
 unfold sqrtS at h ⊢
 by_cases h1:mulP (rootR x) (rootR x)≠x%pM
 ·rw [if_pos h1] at h; cases h
 ·rw [if_neg h1]
  have h1':mulP (rootR x) (rootR x)=x%pM:=Classical.not_not.1 h1
  by_cases h2:rootR x%pM%2=1
  ·rw [if_pos h2]
   rw [rootR_red] at h2
   show mulP (negP (rootR x)) (negP (rootR x))=_
   rw [neg_sq _ (root_lt_p x) (by omega)]
   exact h1'
  ·rw [if_neg h2]; exact h1'
theorem sqrt_sq (a:Nat):∃ s,sqrtS (mulP a a)=(s,true)∧(s=a%pM∨s=negP a):=by
 obtain ⟨r,hr⟩:∃ r,r=rootR (mulP a a):=⟨_,rfl⟩
 have hs:=root_sq a
 rw [← hr] at hs
 have hl:r<pM:=by rw [hr]; exact root_lt_p _
 have hx:mulP a a%pM=mulP a a:=by unfold mulP; rw [Nat.mod_mod]
 obtain ⟨b,hb⟩:∃ b,b=a%pM:=⟨_,rfl⟩
 have hbl:b<pM:=by rw [hb]; exact mod_lt_p a
 have hng:negP a=negP b:=by unfold negP; rw [hb,Nat.mod_mod]
 have hrr:r=b∨r+b=pM:=by
  refine sq_roots prime_p hl hbl ?_
  have:mulP a a=b*b%pM:=by rw [hb, ← Nat.mul_mod]; rfl
  rw [← this]; exact hs
 have p0:0<pM:=by omega
 have hor:(r=b∧negP r=negP b)∨(r=negP b∧negP r=b):=by
  rcases hrr with h | h
  ·left; exact ⟨h,by rw [h]⟩
  ·by_cases h0:b=0
   ·omega
   ·right
    have e1:=neg_of b hbl h0
    have e2:=neg_of r hl (by omega)
    exact ⟨by omega,by omega⟩
 unfold sqrtS
 rw [← hr,hx,if_neg (by rw [hs]; exact λh=>h rfl),hng, ← hb]
 by_cases h2:r%pM%2=1
 ·rw [if_pos h2]
  refine ⟨_,rfl,?_⟩
  rcases hor with h | h
  ·exact .inr h.2
  ·exact .inl h.2
 ·rw [if_neg h2]
  refine ⟨_,rfl,?_⟩
  rcases hor with h | h
  ·exact .inl h.1
  ·exact .inr h.1
end
end
section
namespace Cu
open Go.RowKit Sy
set_option maxRecDepth 100000
set_option maxHeartbeats 4000000
theorem key_whole (l:List UInt8) {n:Nat} (hl:l.length=n):Value.agg (((l.map bv).toArray.toList.drop 0).take n).toArray=.agg (l.map bv).toArray:=by
 rw [List.drop_zero,List.take_of_length_le (by simp; omega)]
theorem key_size (l:List UInt8) {n:Nat} (hl:l.length=n):0+n≤(l.map bv).toArray.size:=by simp; omega
theorem key_at (l:List UInt8) {n:Nat} (hl:l.length=n) (k:Nat) (hk:k<n):(l.map bv).toArray[k]? = some (bv (l.getD k 0)):=by
 have:k<l.length:=by omega
 simp [List.getD,this]
noncomputable def infU8:TypeInfo:=(Tryz.prog.info? 5).getD default
theorem info_u8:Tryz.prog.info? 5=some infU8:=by kernel_rfl
theorem mulR_n (w:World) (a b:Nat) (ha:a<K4) (hb:b<K4):Calls Tryz.prog 250 #[fv a,fv b] w (Gets w (fv (mulP a b))):=by
 refine Sy.enter (args:=[fv a,fv b]) Tryz.func250 rfl kL ?_
 refine sC ?_
 refine sM 363 (fcs a) (λg0=>?_)
 refine sM 363 (fcs b) (λg1=>?_)
 refine sM 363 (fcs 0) (λg2=>?_)
 refine sH (λj=>j == 4) ?_
 refine sD 0 rfl (.agg modcs) (qF 249 #[] (refP_any))<|sD 1 rfl (fv a) (qL 0 g0 0 4 363 363 (fcs a) rfl Tryz.underlying363)<|sD 2 rfl (fv b) (qL 1 g1 0 4 363 363 (fcs b) rfl Tryz.underlying363) ?_
 obtain ⟨z1,hz1⟩:∃ z:Nat,z=mulP a b:=⟨_,rfl⟩
 have lz1:z1<K4:=by rw [hz1]; exact mod_lt _
 refine sD 3 rfl (fv z1) (qF 274 #[.agg modcs,fv a,fv b] (λw=>by rw [hz1]; exact mulR_any w a b lK lK))<|sX 4 rfl 2 g2 363 (fcs 0) (fcs z1) (wS 0 363 (fcs z1) rfl) ?_
 refine sI ?_
 refine Sy.ret ?_
 rw [show (fv (mulP a b):Value)=fv z1 from by rw [hz1]]
 exact rC (v:=fv z1) 363 g2 2 (fcs z1) rfl Tryz.underlying363
theorem addR_n (w:World) (a b:Nat) (ha:a<K4) (hb:b<K4):Calls Tryz.prog 275 #[fv a,fv b] w (Gets w (fv (addP a b))):=by
 refine Sy.enter (args:=[fv a,fv b]) Tryz.func275 rfl kL ?_
 refine sC ?_
 refine sM 363 (fcs a) (λg0=>?_)
 refine sM 363 (fcs b) (λg1=>?_)
 refine sM 363 (fcs 0) (λg2=>?_)
 refine sH (λj=>j == 4) ?_
 refine sD 0 rfl (.agg modcs) (qF 249 #[] (refP_any))<|sD 1 rfl (fv a) (qL 0 g0 0 4 363 363 (fcs a) rfl Tryz.underlying363)<|sD 2 rfl (fv b) (qL 1 g1 0 4 363 363 (fcs b) rfl Tryz.underlying363) ?_
 obtain ⟨z1,hz1⟩:∃ z:Nat,z=addP a b:=⟨_,rfl⟩
 have lz1:z1<K4:=by rw [hz1]; exact mod_lt _
 refine sD 3 rfl (fv z1) (qF 289 #[.agg modcs,fv a,fv b] (λw=>by rw [hz1]; exact addR_any w a b lK lK))<|sX 4 rfl 2 g2 363 (fcs 0) (fcs z1) (wS 0 363 (fcs z1) rfl) ?_
 refine sI ?_
 refine Sy.ret ?_
 rw [show (fv (addP a b):Value)=fv z1 from by rw [hz1]]
 exact rC (v:=fv z1) 363 g2 2 (fcs z1) rfl Tryz.underlying363
def cubeN (x:Nat):Nat:=addP (mulP x (mulP x x)) 7
theorem cubeN_lt (x:Nat):cubeN x<K4:=mod_lt _
theorem cubeR_n (w:World) (x:Nat) (hx:x<K4):Calls Tryz.prog 251 #[fv x] w (Gets w (fv (cubeN x))):=by
 refine Sy.enter (args:=[fv x]) Tryz.func251 rfl kL ?_
 refine sC ?_
 refine sM 363 (fcs x) (λg0=>?_)
 refine sM 363 (fcs 0) (λg1=>?_)
 refine sH (λj=>j == 7) ?_
 refine sD 0 rfl (fv x) (qL 0 g0 0 4 363 363 (fcs x) rfl Tryz.underlying363)<|sD 1 rfl (fv x) (qL 0 g0 0 4 363 363 (fcs x) rfl Tryz.underlying363)<|sD 2 rfl (fv x) (qL 0 g0 0 4 363 363 (fcs x) rfl Tryz.underlying363) ?_
 obtain ⟨z1,hz1⟩:∃ z:Nat,z=mulP x x:=⟨_,rfl⟩
 have lz1:z1<K4:=by rw [hz1]; exact mod_lt _
 refine sD 3 rfl (fv z1) (qF 250 #[fv x,fv x] (λw=>by rw [hz1]; exact mulR_n w x x lK lK)) ?_
 obtain ⟨z2,hz2⟩:∃ z:Nat,z=mulP x z1:=⟨_,rfl⟩
 have lz2:z2<K4:=by rw [hz2]; exact mod_lt _
 refine sD 4 rfl (fv z2) (qF 250 #[fv x,fv z1] (λw=>by rw [hz2]; exact mulR_n w x z1 lK lK))<|sD 5 rfl (fv 7) (qF 276 #[.int .u64 7] (λw=>small_c w 7 (by decide))) ?_
 obtain ⟨z3,hz3⟩:∃ z:Nat,z=addP z2 7:=⟨_,rfl⟩
 have lz3:z3<K4:=by rw [hz3]; exact mod_lt _
 refine sD 6 rfl (fv z3) (qF 275 #[fv z2,fv 7] (λw=>by rw [hz3]; exact addR_n w z2 7 lK lK))<|sX 7 rfl 1 g1 363 (fcs 0) (fcs z3) (wS 0 363 (fcs z3) rfl) ?_
 refine sI ?_
 refine Sy.ret ?_
 rw [show (fv (cubeN x):Value)=fv z3 from by unfold cubeN; rw [hz3,hz2,hz1]]
 exact rC (v:=fv z3) 363 g1 1 (fcs z3) rfl Tryz.underlying363
theorem cubeN_val (u:Fp):cubeN u.val=(u*u*u+7).val:=by
 have e:u*(u*u)+7=u*u*u+7:=by grobner
 rw [← e]
 rfl
def liftB (l:List UInt8):Bool:=decide (valB l<pM) && (sqrtS (cubeN (valB l))).2
theorem sqrt_fin (x:Nat):(sqrtS x).1<pM:=by
 unfold sqrtS
 split
 ·exact Nat.pos_of_ne_zero (by decide +kernel)
 ·split
  ·exact mod_lt_p _
  ·show rootR x<pM
   rw [← rootR_red]; exact mod_lt_p _
def liftP (l:List UInt8):Pt:=if h:liftB l=true then some (⟨valB l,by unfold liftB at h; simp at h; exact h.1⟩,⟨(sqrtS (cubeN (valB l))).1,sqrt_fin _⟩) else none
theorem lift_no {l:List UInt8} (h:liftB l=false):liftP l=none:=by unfold liftP; rw [dif_neg (by simp [h])]
theorem lift_yes {l:List UInt8} (h:liftB l=true):∃ u y:Fp,u.val=valB l∧y.val=(sqrtS (cubeN (valB l))).1∧liftP l=some (u,y)∧y*y=u*u*u+7∧y.val%2=0:=by
 refine ⟨_,_,rfl,rfl,by unfold liftP; rw [dif_pos h],?_,?_⟩
 ·have h2:(sqrtS (cubeN (valB l))).2=true:=by unfold liftB at h; simp at h; exact h.2
  have hm:=sqrt_mul _ h2
  refine Fin.ext ?_
  have hv:valB l<pM:=by unfold liftB at h; simp at h; exact h.1
  have e:=cubeN_val ⟨valB l,hv⟩
  show mulP (sqrtS (cubeN (valB l))).1 (sqrtS (cubeN (valB l))).1=_
  rw [hm, ← e]
  exact Nat.mod_eq_of_lt (mod_lt_p _)
 ·have:=sqrt_even (cubeN (valB l))
  rw [Nat.mod_eq_of_lt (sqrt_fin _)] at this
  exact this
theorem read_yes {l:List UInt8} {u:Fp} (h:u.val=valB l):readS l=(u.val,true):=by
 unfold readS
 rw [if_pos (by rw [← h]; exact u.isLt),h]
theorem read_no {l:List UInt8} (h:¬ valB l<pM):readS l=(0,false):=by unfold readS; rw [if_neg h]
theorem lift_in (w:World) (l:List UInt8) (hl:l.length=32) (u:Fp) (hu:u.val=valB l):Calls Tryz.prog 236 #[.agg (l.map bv).toArray] w (Gets w (.tuple #[ptv (liftP l),.bool (liftB l)])):=by
 have cR:∀ w,Calls Tryz.prog 258 #[.agg (l.map bv).toArray] w (Gets w (.tuple #[fv u.val,.bool true])):=λw=>by
  have h:=read_any w l hl
  rw [read_yes hu] at h
  exact h
 refine Sy.enter (args:=[.agg (l.map bv).toArray]) Tryz.func236 rfl kL ?_
 refine sC ?_
 refine sM 220 (l.map bv).toArray (λg0=>?_)
 refine sM 65 (pcs 0 0 false) (λg1=>?_)
 refine sP (.bool false) ?_
 refine sA ?_
 refine sS (.agg (l.map bv).toArray) (Quiet.load 0 g0 0 32 220 220 (l.map bv).toArray _ _ rfl kR kR Tryz.underlying220 rfl kR _ (key_whole l hl) (key_size l hl))<|sS (.tuple #[fv u.val,.bool true]) (qF 258 #[.agg (l.map bv).toArray] (cR))<|sP (.tuple #[fv u.val,.bool true])<|sP (fv u.val)<|sP (.bool true) ?_
 refine sM 63 (fcs 0) (λg2=>?_)
 refine sW 2 g2 63 (fcs 0) (fcs u.val) (wS 0 63 (fcs u.val) rfl)<|sP (.bool true) ?_
 refine sA ?_
 refine sS (fv u.val) (qL 2 g2 0 4 63 63 (fcs u.val) rfl Tryz.underlying63) ?_
 obtain ⟨z1,hz1⟩:∃ z:Fp,z=u*u*u+7:=⟨_,rfl⟩
 refine sS (fv z1.val) (qF 240 #[fv u.val] (by rw [hz1]; exact λw=>square_c w u)) ?_
 obtain ⟨r1,hr1⟩:∃ z:Nat,z=(sqrtS z1.val).1:=⟨_,rfl⟩
 obtain ⟨k1,hk1⟩:∃ z:Bool,z=(sqrtS z1.val).2:=⟨_,rfl⟩
 have lr1:r1<K4:=by rw [hr1]; exact sqrt_lt _
 refine sS (.tuple #[fv r1,.bool k1]) (qF 259 #[fv z1.val] (λw=>by rw [hr1,hk1]; exact sqrt_any w z1.val lK))<|sP (.tuple #[fv r1,.bool k1])<|sP (fv r1)<|sP (.bool k1) ?_
 refine sM 63 (fcs 0) (λg3=>?_)
 refine sW 3 g3 63 (fcs 0) (fcs r1) (wS 0 63 (fcs r1) rfl)<|sP (.bool k1) ?_
 refine sG<|Sy.seq<|sC ?_
 refine sP (.bool true)<|sP (.bool false)<|sP (.bool false)<|sP (.bool k1) ?_
 cases k1
 ·refine sP (.bool true)<|sP (.bool true) ?_
  refine sG<|sT<|sC ?_
  refine sS (pv 0 0 true) (qF 203 #[] (zero_c))<|sW 1 g1 65 (pcs 0 0 false) (pcs 0 0 true) (wS 0 65 (pcs 0 0 true) rfl)<|sP (.bool false) ?_
  refine sG<|Sy.ret<|Sy.then_ret ?_
  rw [show (.tuple #[ptv (liftP l),.bool (liftB l)]:Value)=.tuple #[pv 0 0 true,.bool false] from by
   have hb:liftB l=false:=by unfold liftB; rw [← hu,cubeN_val, ← hz1, ← hk1]; simp
   rw [hb,lift_no hb]; rfl]
  exact Sy.ret2 (v:=pv 0 0 true) (u:=.bool false) rfl (.inl (Res.cell (ty':=65) g1 1 (pcs 0 0 true) _ kR kR Tryz.underlying65 rfl kR kR)) (.inl (show _=_ by kernel_rfl))
 ·refine sP (.bool false)<|sP (.bool false) ?_
  refine sG<|sU<|Sy.skip<|sB ?_
  refine sS (fv u.val) (qL 2 g2 0 4 63 63 (fcs u.val) rfl Tryz.underlying63)<|sS (fv r1) (qL 3 g3 0 4 63 63 (fcs r1) rfl Tryz.underlying63)<|sP (pv u.val r1 false)<|sW 1 g1 65 (pcs 0 0 false) (pcs u.val r1 false) (wS 0 65 (pcs u.val r1 false) rfl)<|sP (.bool true) ?_
  refine sG<|Sy.ret ?_
  rw [show (.tuple #[ptv (liftP l),.bool (liftB l)]:Value)=.tuple #[pv u.val r1 false,.bool true] from by
   have hb:liftB l=true:=by unfold liftB; rw [← hu,cubeN_val, ← hz1, ← hk1]; simp [u.isLt]
   obtain ⟨u2,y2,e1,e2,e3,_,_⟩:=lift_yes hb
   rw [hb,e3]
   unfold ptv
   simp only
   rw [e1,e2, ← hu,cubeN_val, ← hz1, ← hr1]]
  exact Sy.ret2 (v:=pv u.val r1 false) (u:=.bool true) rfl (.inl (Res.cell (ty':=65) g1 1 (pcs u.val r1 false) _ kR kR Tryz.underlying65 rfl kR kR)) (.inl (show _=_ by kernel_rfl))
theorem lift_out (w:World) (l:List UInt8) (hl:l.length=32) (hu:¬ valB l<pM):Calls Tryz.prog 236 #[.agg (l.map bv).toArray] w (Gets w (.tuple #[ptv (liftP l),.bool (liftB l)])):=by
 have cR:∀ w,Calls Tryz.prog 258 #[.agg (l.map bv).toArray] w (Gets w (.tuple #[fv (0:Fp).val,.bool false])):=λw=>by
  have h:=read_any w l hl
  rw [read_no hu] at h
  exact h
 refine Sy.enter (args:=[.agg (l.map bv).toArray]) Tryz.func236 rfl kL ?_
 refine sC ?_
 refine sM 220 (l.map bv).toArray (λg0=>?_)
 refine sM 65 (pcs 0 0 false) (λg1=>?_)
 refine sP (.bool false) ?_
 refine sA ?_
 refine sS (.agg (l.map bv).toArray) (Quiet.load 0 g0 0 32 220 220 (l.map bv).toArray _ _ rfl kR kR Tryz.underlying220 rfl kR _ (key_whole l hl) (key_size l hl))<|sS (.tuple #[fv ((0:Fp).val),.bool false]) (qF 258 #[.agg (l.map bv).toArray] (cR))<|sP (.tuple #[fv ((0:Fp).val),.bool false])<|sP (fv ((0:Fp).val))<|sP (.bool false) ?_
 refine sM 63 (fcs 0) (λg2=>?_)
 refine sW 2 g2 63 (fcs 0) (fcs ((0:Fp).val)) (wS 0 63 (fcs ((0:Fp).val)) rfl)<|sP (.bool false) ?_
 refine sA ?_
 refine sS (fv ((0:Fp).val)) (qL 2 g2 0 4 63 63 (fcs ((0:Fp).val)) rfl Tryz.underlying63) ?_
 obtain ⟨z1,hz1⟩:∃ z:Fp,z=(0:Fp)*(0:Fp)*(0:Fp)+7:=⟨_,rfl⟩
 refine sS (fv z1.val) (qF 240 #[fv ((0:Fp).val)] (by rw [hz1]; exact λw=>square_c w (0:Fp))) ?_
 obtain ⟨r1,hr1⟩:∃ z:Nat,z=(sqrtS z1.val).1:=⟨_,rfl⟩
 obtain ⟨k1,hk1⟩:∃ z:Bool,z=(sqrtS z1.val).2:=⟨_,rfl⟩
 have lr1:r1<K4:=by rw [hr1]; exact sqrt_lt _
 refine sS (.tuple #[fv r1,.bool k1]) (qF 259 #[fv z1.val] (λw=>by rw [hr1,hk1]; exact sqrt_any w z1.val lK))<|sP (.tuple #[fv r1,.bool k1])<|sP (fv r1)<|sP (.bool k1) ?_
 refine sM 63 (fcs 0) (λg3=>?_)
 refine sW 3 g3 63 (fcs 0) (fcs r1) (wS 0 63 (fcs r1) rfl)<|sP (.bool k1) ?_
 refine sG<|Sy.seq<|sC ?_
 refine sP (.bool false)<|sP (.bool true)<|sP (.bool true) ?_
 refine sN<|sN ?_
 refine sP (.bool true) ?_
 refine sG<|sT<|sC ?_
 refine sS (pv 0 0 true) (qF 203 #[] (zero_c))<|sW 1 g1 65 (pcs 0 0 false) (pcs 0 0 true) (wS 0 65 (pcs 0 0 true) rfl)<|sP (.bool false) ?_
 refine sG<|Sy.ret<|Sy.then_ret ?_
 rw [show (.tuple #[ptv (liftP l),.bool (liftB l)]:Value)=.tuple #[pv 0 0 true,.bool false] from by
   have hb:liftB l=false:=by unfold liftB; simp [hu]
   rw [hb,lift_no hb]; rfl]
 exact Sy.ret2 (v:=pv 0 0 true) (u:=.bool false) rfl (.inl (Res.cell (ty':=65) g1 1 (pcs 0 0 true) _ kR kR Tryz.underlying65 rfl kR kR)) (.inl (show _=_ by kernel_rfl))
theorem lift_any (w:World) (l:List UInt8) (hl:l.length=32):Calls Tryz.prog 236 #[.agg (l.map bv).toArray] w (Gets w (.tuple #[ptv (liftP l),.bool (liftB l)])):=by
 by_cases h:valB l<pM
 ·exact lift_in w l hl ⟨valB l,h⟩ rfl
 ·exact lift_out w l hl h
end Cu
end
end Go.Proofs.YtnbenphcpenbeaaGreat
