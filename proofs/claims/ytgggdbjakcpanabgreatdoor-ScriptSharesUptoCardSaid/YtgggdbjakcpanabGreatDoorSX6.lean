/-
  Texts of ours, put together: ScProd, ScMul, Concat, SigD, SigE, CrvY, RefNumber, CrvE, CrvZ, SigF, SigG, ScpO, ScpP, ScpQ, ScpR, ScpN, ScriptPartsL, ScNum, EcN, SigM, ScriptPaysL, ScrA, LiftZ, LiftS, ScrB, PLift, ScrC.
-/
import Derived.Test.YtgggdbjakcpanabGreatDoorSX5
set_option linter.unusedVariables false
set_option linter.unusedSimpArgs false
namespace Go.Proofs.YtgggdbjakcpanabGreatDoor
section
namespace Sc
open Go.RowKit Go.Lib
theorem step_ex (v m x y:Nat) (hv:v<18446744073709551616) (hm:m<18446744073709551616) (hx:x<18446744073709551616) (hy:y<18446744073709551616):∃ lo hi:Nat,lo<18446744073709551616∧hi<18446744073709551616∧lo+18446744073709551616*hi=v*m+x+y:=by
 have h:v*m≤18446744073709551615*18446744073709551615:=Nat.mul_le_mul (by omega) (by omega)
 exact ⟨(v*m+x+y)%18446744073709551616,(v*m+x+y) / 18446744073709551616,by omega,by omega,by omega⟩
set_option maxHeartbeats 1000000 in
theorem step_at (w:World) (v m x y lo hi:Nat) (hv:v<18446744073709551616) (hm:m<18446744073709551616) (hx:x<18446744073709551616) (hy:y<18446744073709551616) (hlo:lo<18446744073709551616) (he:lo+18446744073709551616*hi=v*m+x+y) :
  Calls Tryz.prog 82 #[.int .u64 (v:Int),.int .u64 (m:Int),.int .u64 (x:Int),.int .u64 (y:Int)] w λe w'=>e=.returned (.tuple #[.int .u64 (lo:Int),.int .u64 (hi:Int)])∧w'=w:=by
 have h:v*m≤18446744073709551615*18446744073709551615:=Nat.mul_le_mul (by omega) (by omega)
 obtain ⟨p,q,bq,bp,hpq⟩:=mul_ex v m hv hm
 obtain ⟨s,k,bs,bk,hsk,ra⟩:=add0_ex q x bq hx
 obtain ⟨t,l,bt,bl,htl,rb⟩:=add0_ex s y bs hy
 have hsum:p+k+l<18446744073709551616:=by omega
 have hsum1:p+k<18446744073709551616:=by omega
 obtain rfl:t=lo:=by omega
 have HI:Hid (hi=p+k+l):=Lib.hid (by omega)
 have cm:=λw=>mul64_at w v m p q hv hm bq hpq
 clear h hpq hsk htl he hlo bs bq bp
 go_enter Tryz.func82,Tryz.ntmps82
 go_wp2_with fail
 refine (cm _).mono ?_
 rintro e w1 ⟨rfl,rfl⟩
 go_wp2
 go_ret2
 exact ⟨by rw [HI.out]; rfl,rfl⟩
theorem step_c (w:World) (v m x y lo hi:Nat) (hv:v<18446744073709551616) (hm:m<18446744073709551616) (hx:x<18446744073709551616) (hy:y<18446744073709551616) (hlo:lo<18446744073709551616) (he:lo+18446744073709551616*hi=v*m+x+y) :
  Calls Tryz.prog 82 #[.int .u64 ((v:Nat):Int),.int .u64 ((m:Nat):Int),.int .u64 ((x:Nat):Int),.int .u64 ((y:Nat):Int)] w (Sy.Gets w (.tuple #[.int .u64 ((lo:Nat):Int),.int .u64 ((hi:Nat):Int)])) :=
 (step_at w v m x y lo hi hv hm hx hy hlo he).mono λe w' ⟨h1,h2⟩=>⟨h1,by rw [h2]; exact Below.refl _ _⟩
end Sc
namespace Fz
open Go.RowKit Go.Lib Sy
theorem prod_split {x y lo hi:Nat} {R:Nat→Nat} (hx:x<(2^256)) (hy:y<(2^256)) (he:lo+(2^256)*hi=x*y) (h:vR R 8=vR (wd x) 4*vR (wd y) 4):vR R 4+vR (λt=>R (4+t)) 4*(2^256)=lo+(2^256)*hi:=by
 rw [wd4 hx,wd4 hy,show (8:Nat)=4+4 from rfl,vR_split] at h
 rw [he, ← h]
theorem prod_parts {x y lo hi:Nat} {R:Nat→Nat} (hx:x<(2^256)) (hy:y<(2^256)) (hlo:lo<(2^256)) (he:lo+(2^256)*hi=x*y) (h:vR R 8=vR (wd x) 4*vR (wd y) 4) (hR:vR R 4<18446744073709551616 ^ 4):lo=vR R 4:=by
 have q:=prod_split hx hy he h
 have hR':vR R 4<(2^256):=hR
 omega
theorem prod_high {x y lo hi:Nat} {R:Nat→Nat} (hx:x<(2^256)) (hy:y<(2^256)) (hlo:lo<(2^256)) (he:lo+(2^256)*hi=x*y) (h:vR R 8=vR (wd x) 4*vR (wd y) 4) (hR:vR R 4<18446744073709551616 ^ 4):hi=vR (λt=>R (4+t)) 4:=by
 have q:=prod_split hx hy he h
 have hR':vR R 4<(2^256):=hR
 omega
set_option maxHeartbeats 4000000 in
set_option maxRecDepth 100000 in
theorem productZ (w:World) (x y lo hi:Nat) (hx:x<(2^256)) (hy:y<(2^256)) (hlo:Hid (lo<(2^256))) (he:Hid (lo+(2^256)*hi=x*y)):Calls Tryz.prog 57 #[fv x,fv y] w (Gets w (.tuple #[fv lo,fv hi])):=by
 refine Sy.enter (args:=[fv x,fv y]) Tryz.func57 rfl kL ?_
 refine sC ?_
 refine sM 30 (fcs x) (λg0=>?_)
 refine sM 30 (fcs y) (λg1=>?_)
 refine sM 30 (fcs 0) (λg2=>?_)
 refine sM 30 (fcs 0) (λg3=>?_)
 refine sA ?_
 refine Sy.make kR 142 (rw8 (λ_=>0)) ptr kF (λg4=>?_)
 refine sG<|Sy.seq<|sC ?_
 refine sS (fv x) (qL 0 g0 0 4 30 30 (fcs x) rfl Tryz.underlying30)<|sP (.int .i64 0) ?_
 refine sG<|Sy.block ?_
 refine Sy.loopX (T:=Nat→Nat) 4 (λk1 y1=>[(2,.pointer (some ⟨g0,0,none⟩)),(3,.pointer (some ⟨g1,0,none⟩)),(4,.pointer (some ⟨g2,0,none⟩)),(5,.pointer (some ⟨g3,0,none⟩)),(6,.pointer (some ⟨g4,0,none⟩)),(12,fv x),(13,.int .i64 ((k1:Nat):Int))]) (λk1 y1=>[(g0,30,(fcs x)),(g1,30,(fcs y)),(g2,30,(fcs 0)),(g3,30,(fcs 0)),(g4,142,(rw8 y1))]) (λk1 y1=>(∀ t,y1 t<18446744073709551616)∧vR y1 8=vR (wd x) k1*vR (wd y) 4∧∀ t,k1+4≤t→y1 t=0) (λ_=>0) [true,true,true,true,true] (⟨λ_=>by show (0:Nat)<18446744073709551616; decide,by rw [vR_zero]; exact (Nat.zero_mul _).symm,λ_ _=>rfl⟩) (all_cons kR (all_cons kR (all_cons kR (all_cons kR (all_cons kR (all_cons kR (all_cons kR all_nil))))))) kR (λk1 y1 hk1 hh1=>?_)
 refine sC ?_
 obtain ⟨b1,hb1⟩:∃ z:Bool,z=decide (k1<4):=⟨_,rfl⟩
 refine sS (.bool b1) (Quiet.pure (exec_int .lss _ _ _ .i64 _ _ _ rfl rfl rfl (int_lss _ _ _ _ _ (by rw [hb1]; exact decide_eq_decide.2 (by omega))))) ?_
 refine sG<|Sy.seq ?_
 cases b1
 ·have lb1:¬ (k1<4):=of_decide_eq_false hb1.symm
  refine sU<|Sy.exit<|Sy.then_exit<|Sy.then_exit ?_
  obtain rfl:k1=4:=by omega
  refine Sy.in_exit<|Sy.then_<|Sy.seq ?_
  refine Sy.regionV (twoV g2 30 (fcs (vR y1 4)) g3 30 (fcs (vR (λt=>y1 (4+t)) 4))) ?_
  refine Sy.takeV 0 rfl (.pointer (some ⟨g4,0,none⟩)) ?_
  refine Sy.loadV 1 rfl 4 g4 0 142 28 (rw8 y1) _ (.int .u64 ((y1 0:Nat):Int)) _ rfl Tryz.underlying28 (far_of (i:=2) (j:=3) (k:=4) (hik:=by decide) (hjk:=by decide)) ?_
  refine Sy.takeV 2 rfl (.pointer (some ⟨g4,1,none⟩)) ?_
  refine Sy.loadV 3 rfl 4 g4 1 142 28 (rw8 y1) _ (.int .u64 ((y1 1:Nat):Int)) _ rfl Tryz.underlying28 (far_of (i:=2) (j:=3) (k:=4) (hik:=by decide) (hjk:=by decide)) ?_
  refine Sy.takeV 4 rfl (.pointer (some ⟨g4,2,none⟩)) ?_
  refine Sy.loadV 5 rfl 4 g4 2 142 28 (rw8 y1) _ (.int .u64 ((y1 2:Nat):Int)) _ rfl Tryz.underlying28 (far_of (i:=2) (j:=3) (k:=4) (hik:=by decide) (hjk:=by decide)) ?_
  refine Sy.takeV 6 rfl (.pointer (some ⟨g4,3,none⟩)) ?_
  refine Sy.loadV 7 rfl 4 g4 3 142 28 (rw8 y1) _ (.int .u64 ((y1 3:Nat):Int)) _ rfl Tryz.underlying28 (far_of (i:=2) (j:=3) (k:=4) (hik:=by decide) (hjk:=by decide)) ?_
  refine Sy.takeV 8 rfl (fv (vR y1 4)) ?_ (hq:=λw=>by rw [← row_fv hh1.1]; kernel_rfl)
  refine Sy.takeV 9 rfl (.pointer (some ⟨g4,4,none⟩)) ?_
  refine Sy.loadV 10 rfl 4 g4 4 142 28 (rw8 y1) _ (.int .u64 ((y1 4:Nat):Int)) _ rfl Tryz.underlying28 (far_of (i:=2) (j:=3) (k:=4) (hik:=by decide) (hjk:=by decide)) ?_
  refine Sy.takeV 11 rfl (.pointer (some ⟨g4,5,none⟩)) ?_
  refine Sy.loadV 12 rfl 4 g4 5 142 28 (rw8 y1) _ (.int .u64 ((y1 5:Nat):Int)) _ rfl Tryz.underlying28 (far_of (i:=2) (j:=3) (k:=4) (hik:=by decide) (hjk:=by decide)) ?_
  refine Sy.takeV 13 rfl (.pointer (some ⟨g4,6,none⟩)) ?_
  refine Sy.loadV 14 rfl 4 g4 6 142 28 (rw8 y1) _ (.int .u64 ((y1 6:Nat):Int)) _ rfl Tryz.underlying28 (far_of (i:=2) (j:=3) (k:=4) (hik:=by decide) (hjk:=by decide)) ?_
  refine Sy.takeV 15 rfl (.pointer (some ⟨g4,7,none⟩)) ?_
  refine Sy.loadV 16 rfl 4 g4 7 142 28 (rw8 y1) _ (.int .u64 ((y1 7:Nat):Int)) _ rfl Tryz.underlying28 (far_of (i:=2) (j:=3) (k:=4) (hik:=by decide) (hjk:=by decide)) ?_
  refine Sy.takeV 17 rfl (fv (vR (λt=>y1 (4+t)) 4)) ?_ (hq:=λw=>by rw [← row_fv (R:=λt=>y1 (4+t)) (λt=>hh1.1 _)]; kernel_rfl)
  refine Sy.storesV 18 19 rfl rfl 2 3 g2 g3 30 30 (fcs 0) (fcs 0) (fcs (vR y1 4)) (fcs (vR (λt=>y1 (4+t)) 4)) 30 30 _ _ _ _ rfl rfl (by decide) ?_ (n1:=4) (n2:=4)
  refine Sy.then_<|Sy.ret ?_
  rw [show (.tuple #[fv lo,fv hi]:Value)=.tuple #[fv (vR y1 4),fv (vR (λt=>y1 (4+t)) 4)] from by rw [prod_parts hx hy hlo.out he.out hh1.2.1 (vR_lt hh1.1 4),prod_high hx hy hlo.out he.out hh1.2.1 (vR_lt hh1.1 4)]]
  exact Sy.ret2 (v:=fv (vR y1 4)) (u:=fv (vR (λt=>y1 (4+t)) 4)) rfl (.inl (Res.cell (ty':=30) g2 2 (fcs (vR y1 4)) _ kR kR Tryz.underlying30 rfl kR kR)) (.inl (Res.cell (ty':=30) g3 3 (fcs (vR (λt=>y1 (4+t)) 4)) _ kR kR Tryz.underlying30 rfl kR kR))
 ·have lb1:k1<4:=of_decide_eq_true hb1.symm
  refine sT<|Sy.skip<|Sy.then_<|Sy.seq<|Sy.block<|sC ?_
  refine sP (.int .i64 ((k1:Nat):Int))<|sS (.int .u64 ((wd x k1:Nat):Int)) (Quiet.pure (exec_idx _ _ _ _ _ 4 k1 .i64 _ _ rfl rfl rfl Tryz.underlying30 Tryz.underlying28 rfl kF (by omega) (fcs_at x (by omega) rfl)))<|sP (.int .i64 ((k1:Nat):Int))<|sP (.int .u64 ((wd x k1:Nat):Int)) ?_
  refine sA ?_
  refine sP (.int .u64 0) ?_
  refine sG<|Sy.seq<|sC ?_
  refine sS (fv y) (qL 1 g1 0 4 30 30 (fcs y) rfl Tryz.underlying30)<|sP (.int .i64 0) ?_
  refine sG<|Sy.block ?_
  refine Sy.loopX (T:=(Nat→Nat)×Nat) 4 (λk2 y2=>[(2,.pointer (some ⟨g0,0,none⟩)),(3,.pointer (some ⟨g1,0,none⟩)),(4,.pointer (some ⟨g2,0,none⟩)),(5,.pointer (some ⟨g3,0,none⟩)),(6,.pointer (some ⟨g4,0,none⟩)),(7,.int .i64 ((k1:Nat):Int)),(8,.int .u64 ((wd x k1:Nat):Int)),(9,.int .u64 ((y2.2:Nat):Int)),(12,fv x),(13,.int .i64 ((k1:Nat):Int)),(17,fv y),(18,.int .i64 ((k2:Nat):Int))]) (λk2 y2=>[(g0,30,(fcs x)),(g1,30,(fcs y)),(g2,30,(fcs 0)),(g3,30,(fcs 0)),(g4,142,(rw8 y2.1))]) (λk2 y2=>(∀ t,y2.1 t<18446744073709551616)∧y2.2<18446744073709551616∧vR y2.1 8+y2.2*18446744073709551616 ^ (k1+k2)=vR y1 8+wd x k1*vR (wd y) k2*18446744073709551616 ^ k1∧∀ t,k1+4≤t→y2.1 t=0) (y1,0) [true,true,true,true,true] (⟨hh1.1,by show (0:Nat)<18446744073709551616; decide,by show vR y1 8+0*_=_+_*0*_; omega,hh1.2.2⟩) (all_cons kR (all_cons kR (all_cons kR (all_cons kR (all_cons kR (all_cons kR (all_cons kR (all_cons kR (all_cons kR (all_cons kR (all_cons kR (all_cons kR all_nil)))))))))))) kR (λk2 y2 hk2 hh2=>?_)
  refine sC ?_
  obtain ⟨b2,hb2⟩:∃ z:Bool,z=decide (k2<4):=⟨_,rfl⟩
  refine sS (.bool b2) (Quiet.pure (exec_int .lss _ _ _ .i64 _ _ _ rfl rfl rfl (int_lss _ _ _ _ _ (by rw [hb2]; exact decide_eq_decide.2 (by omega))))) ?_
  refine sG<|Sy.seq ?_
  cases b2
  ·have lb2:¬ (k2<4):=of_decide_eq_false hb2.symm
   refine sU<|Sy.exit<|Sy.then_exit<|Sy.then_exit ?_
   obtain rfl:k2=4:=by omega
   refine Sy.in_exit<|Sy.then_<|Sy.region ?_
   refine sP (.int .i64 ((k1:Nat):Int))<|sS (.int .i64 ((k1+4:Nat):Int)) (Quiet.pure (exec_int .add _ _ _ .i64 _ _ _ rfl rfl rfl (int_add _ _ _ _ _ ((wrap_i64 (by omega) (by omega)).trans (by omega)))))<|sP (.int .u64 ((y2.2:Nat):Int))<|sS (.pointer (some ⟨g4,0+(k1+4)*1,none⟩)) (Quiet.pure (exec_atA 142 _ _ _ g4 0 _ (k1+4) 1 .i64 rfl rfl rfl Tryz.underlying142 kF (by omega))) ?_
   refine Sy.write kR 4 g4 142 (rw8 y2.1) (rw8 (upd y2.1 (k1+4) y2.2)) kR (Writes.one (0+(k1+4)*1) 28 (.int .u64 ((y2.2:Nat):Int)) _ _ rfl kR kR kR rfl rfl (rw8_fit _ (k:=k1+4) (by omega) (by omega)) (rw8_set _ _ (by omega) (by omega))) ?_
   refine Sy.nil<|Sy.in_<|Sy.then_<|Sy.region ?_
   refine sS (.int .i64 ((k1+1:Nat):Int)) (Quiet.pure (exec_int .add _ _ _ .i64 _ _ _ rfl rfl rfl (int_add _ _ _ _ _ ((wrap_i64 (by omega) (by omega)).trans (by omega)))))<|sP (.int .i64 ((k1+1:Nat):Int)) ?_
   refine Sy.nil ?_
   have hq:=outerM hh1.2.1 hh2.2.2.1 (hh2.2.2.2 _ (Nat.le_refl _)) (by omega)
   exact Sy.againX (upd y2.1 (k1+4) y2.2) [true,true,true,true,true] (by omega) (⟨upd_lt hh2.1 hh2.2.1,hq,λt ht=>(upd_ne (by omega)).trans (hh2.2.2.2 t (by omega))⟩) (all_cons kR (all_cons kR (all_cons kR (all_cons kR (all_cons kR (all_cons kR (all_cons kR all_nil))))))) kR
  ·have lb2:k2<4:=of_decide_eq_true hb2.symm
   refine sT<|Sy.skip<|Sy.then_<|Sy.seq<|Sy.block<|sC ?_
   refine sP (.int .i64 ((k2:Nat):Int))<|sS (.int .u64 ((wd y k2:Nat):Int)) (Quiet.pure (exec_idx _ _ _ _ _ 4 k2 .i64 _ _ rfl rfl rfl Tryz.underlying30 Tryz.underlying28 rfl kF (by omega) (fcs_at y (by omega) rfl)))<|sP (.int .i64 ((k2:Nat):Int))<|sP (.int .u64 ((wd y k2:Nat):Int)) ?_
   refine sG<|Sy.region ?_
   refine sP (.int .i64 ((k1:Nat):Int))<|sP (.int .i64 ((k2:Nat):Int))<|sS (.int .i64 ((k1+k2:Nat):Int)) (Quiet.pure (exec_int .add _ _ _ .i64 _ _ _ rfl rfl rfl (int_add _ _ _ _ _ ((wrap_i64 (by omega) (by omega)).trans (by omega)))))<|sP (.int .u64 ((wd x k1:Nat):Int))<|sP (.int .u64 ((wd y k2:Nat):Int))<|sP (.int .i64 ((k1:Nat):Int))<|sP (.int .i64 ((k2:Nat):Int))<|sS (.int .i64 ((k1+k2:Nat):Int)) (Quiet.pure (exec_int .add _ _ _ .i64 _ _ _ rfl rfl rfl (int_add _ _ _ _ _ ((wrap_i64 (by omega) (by omega)).trans (by omega))))) ?_
   refine sS (.pointer (some ⟨g4,0+(k1+k2)*1,none⟩)) (Quiet.pure (exec_atA 142 _ _ _ g4 0 _ (k1+k2) 1 .i64 rfl rfl rfl Tryz.underlying142 kF (by omega)))<|sS (.int .u64 ((y2.1 (k1+k2):Nat):Int)) (Quiet.cell 4 g4 (0+(k1+k2)*1) 142 28 (rw8 y2.1) _ _ rfl kR kR Tryz.underlying28 rfl _ (rw8_at y2.1 (k:=k1+k2) (by omega) (by omega)))<|sP (.int .u64 ((y2.2:Nat):Int)) ?_
   obtain ⟨lo,hi,llo,lhi,elo⟩:=Sc.step_ex (wd x k1) (wd y k2) (y2.1 (k1+k2)) y2.2 (by first | assumption | exact wd_lt _ _ | exact hh1.1 _ | exact hh2.1 _ | exact hh2.2.1 | decide) (by first | assumption | exact wd_lt _ _ | exact hh1.1 _ | exact hh2.1 _ | exact hh2.2.1 | decide) (by first | assumption | exact wd_lt _ _ | exact hh1.1 _ | exact hh2.1 _ | exact hh2.2.1 | decide) (by first | assumption | exact wd_lt _ _ | exact hh1.1 _ | exact hh2.1 _ | exact hh2.2.1 | decide)
   refine sS (.tuple #[.int .u64 ((lo:Nat):Int),.int .u64 ((hi:Nat):Int)]) (qF 82 #[.int .u64 ((wd x k1:Nat):Int),.int .u64 ((wd y k2:Nat):Int),.int .u64 ((y2.1 (k1+k2):Nat):Int),.int .u64 ((y2.2:Nat):Int)] (λw=>Sc.step_c w (wd x k1) (wd y k2) (y2.1 (k1+k2)) y2.2 lo hi (by first | assumption | exact wd_lt _ _ | exact hh1.1 _ | exact hh2.1 _ | exact hh2.2.1 | decide) (by first | assumption | exact wd_lt _ _ | exact hh1.1 _ | exact hh2.1 _ | exact hh2.2.1 | decide) (by first | assumption | exact wd_lt _ _ | exact hh1.1 _ | exact hh2.1 _ | exact hh2.2.1 | decide) (by first | assumption | exact wd_lt _ _ | exact hh1.1 _ | exact hh2.1 _ | exact hh2.2.1 | decide) llo elo))<|sP (.tuple #[.int .u64 ((lo:Nat):Int),.int .u64 ((hi:Nat):Int)])<|sP (.int .u64 ((lo:Nat):Int))<|sP (.int .u64 ((hi:Nat):Int))<|sS (.pointer (some ⟨g4,0+(k1+k2)*1,none⟩)) (Quiet.pure (exec_atA 142 _ _ _ g4 0 _ (k1+k2) 1 .i64 rfl rfl rfl Tryz.underlying142 kF (by omega))) ?_
   refine Sy.write kR 4 g4 142 (rw8 y2.1) (rw8 (upd y2.1 (k1+k2) lo)) kR (Writes.one (0+(k1+k2)*1) 28 (.int .u64 ((lo:Nat):Int)) _ _ rfl kR kR kR rfl rfl (rw8_fit _ (k:=k1+k2) (by omega) (by omega)) (rw8_set _ _ (by omega) (by omega))) ?_
   refine sP (.int .u64 ((hi:Nat):Int)) ?_
   refine Sy.nil<|Sy.in_<|Sy.then_<|Sy.region ?_
   refine sS (.int .i64 ((k2+1:Nat):Int)) (Quiet.pure (exec_int .add _ _ _ .i64 _ _ _ rfl rfl rfl (int_add _ _ _ _ _ ((wrap_i64 (by omega) (by omega)).trans (by omega)))))<|sP (.int .i64 ((k2+1:Nat):Int)) ?_
   refine Sy.nil ?_
   have hin:=innerZ (vR_upd y2.1 (k1+k2) lo 8 (by omega)) hh2.2.2.1 elo (P0:=18446744073709551616 ^ k2) (by rw [Nat.add_comm,Nat.pow_add])
   exact Sy.againX ((upd y2.1 (k1+k2) lo,hi)) [true,true,true,true,true] (by omega) (⟨upd_lt hh2.1 llo,lhi,by rw [← Nat.add_assoc,Nat.pow_succ]; exact hin,λt ht=>(upd_ne (by omega)).trans (hh2.2.2.2 t ht)⟩) (all_cons kR (all_cons kR (all_cons kR (all_cons kR (all_cons kR (all_cons kR (all_cons kR (all_cons kR (all_cons kR (all_cons kR (all_cons kR (all_cons kR all_nil)))))))))))) kR
end Fz
namespace Sc
open Go.RowKit Go.Lib
theorem product_any (w:World) (x y lo hi:Nat) (hx:x<(2^256)) (hy:y<(2^256)) (hlo:lo<(2^256)) (_:hi<(2^256)) (he:lo+(2^256)*hi=x*y):Calls Tryz.prog 57 #[fv x,fv y] w λe w'=>e=.returned (.tuple #[fv lo,fv hi])∧Below w.heap.size w w' :=
 Fz.productZ w x y lo hi hx hy (hid hlo) (hid he)
end Sc
end
section
namespace Sc
open Go.RowKit Go.Lib
theorem mul_step (s h l h' s':Nat) (hl:l+(2^256)*h'=h*432420386565659656852420866394968145599) (hs:s'=addP s l):(s'+(2^256)*h')%pM=(s+(2^256)*h)%pM:=by
 rw [hs,addP,Nat.mod_add_mod]
 refine mod_of_mult (k:=h) ?_
 omega
theorem fold_ex (h:Nat) (_:h<(2^256)):∃ l h':Nat,l<(2^256)∧l+(2^256)*h'=h*432420386565659656852420866394968145599:=⟨h*432420386565659656852420866394968145599%(2^256),h*432420386565659656852420866394968145599 / (2^256),by omega,by omega⟩
theorem gap_at (w:World) (g:Nat) (hg:g=432420386565659656852420866394968145599):Calls Tryz.prog 58 #[] w λe w'=>e=.returned (fv g)∧Below w.heap.size w w':=by
 subst hg; exact gap_any w
set_option maxHeartbeats 8000000 in
set_option maxRecDepth 100000 in
theorem mulF_any (w:World) (x y:Nat) (hx:x<(2^256)) (hy:y<(2^256)):Calls Tryz.prog 31 #[fv x,fv y] w λe w'=>e=.returned (fv (mulP x y))∧Below w.heap.size w w':=by
 have hxy:x*y≤115792089237316195423570985008687907853269984665640564039457584007913129639935*115792089237316195423570985008687907853269984665640564039457584007913129639935:=Nat.mul_le_mul (by omega) (by omega)
 obtain ⟨s0,h0,ls0,lh0,e0⟩:∃ lo hi:Nat,lo<(2^256)∧hi<(2^256)∧lo+(2^256)*hi=x*y:=⟨x*y%(2^256),x*y / (2^256),by omega,by omega,by omega⟩
 obtain ⟨l1,h1,ll1,e1⟩:=fold_ex h0 lh0
 have lh1:h1≤432420386565659656852420866394968145599:=by omega
 obtain ⟨l2,h2,ll2,e2⟩:=fold_ex h1 (by omega)
 have lh2:h2≤2:=by omega
 obtain ⟨l3,h3,ll3,e3⟩:=fold_ex h2 (by omega)
 have lh3:h3=0:=by omega
 obtain ⟨s1,hs1⟩:∃ s,s=addP s0 l1:=⟨_,rfl⟩
 obtain ⟨s2,hs2⟩:∃ s,s=addP s1 l2:=⟨_,rfl⟩
 obtain ⟨s3,hs3⟩:∃ s,s=addP s2 l3:=⟨_,rfl⟩
 have ls1:s1<(2^256):=by rw [hs1]; exact addP_lt _ _
 have ls2:s2<(2^256):=by rw [hs2]; exact addP_lt _ _
 have hfin:mulP x y=s3:=by
  have q1:=mul_step s0 h0 l1 h1 s1 e1 hs1
  have q2:=mul_step s1 h1 l2 h2 s2 e2 hs2
  have q3:=mul_step s2 h2 l3 h3 s3 e3 hs3
  rw [q2,q1,e0,lh3,Nat.mul_zero,Nat.add_zero] at q3
  have:s3%pM=s3:=by rw [hs3,addP,Nat.mod_mod]
  rw [mulP, ← q3,this]
 obtain ⟨g,hg⟩:∃ g,g=432420386565659656852420866394968145599:=⟨_,rfl⟩
 have cg:=λw=>gap_at w g hg
 have cp:=λw=>product_any w x y s0 h0 hx hy ls0 lh0 e0
 have p1:=λw=>product_any w h0 g l1 h1 lh0 (by omega) ll1 (by omega) (by rw [hg]; exact e1)
 have p2:=λw=>product_any w h1 g l2 h2 (by omega) (by omega) ll2 (by omega) (by rw [hg]; exact e2)
 have p3:=λw=>product_any w h2 g l3 h3 (by omega) (by omega) ll3 (by omega) (by rw [hg]; exact e3)
 have c1:∀ w,Calls Tryz.prog 30 #[fv s0,fv l1] w λe w'=>e=.returned (fv s1)∧Below w.heap.size w w':=by
  intro w; rw [hs1]; exact addF_any w s0 l1 ls0 ll1
 have c2:∀ w,Calls Tryz.prog 30 #[fv s1,fv l2] w λe w'=>e=.returned (fv s2)∧Below w.heap.size w w':=by
  intro w; rw [hs2]; exact addF_any w s1 l2 ls1 ll2
 have c3:∀ w,Calls Tryz.prog 30 #[fv s2,fv l3] w λe w'=>e=.returned (fv s3)∧Below w.heap.size w w':=by
  intro w; rw [hs3]; exact addF_any w s2 l3 ls2 ll3
 rw [hfin]
 obtain ⟨x0,x1,x2,x3,fx⟩:=words_fv x hx
 obtain ⟨y0,y1,y2,y3,fy⟩:=words_fv y hy
 have FX:=Lib.hid fx
 have FY:=Lib.hid fy
 rw [fx,fy]
 clear fx fy hx hy hxy ls0 lh0 e0 ll1 e1 lh1 ll2 e2 lh2 ll3 e3 lh3 hs1 hs2 hs3 ls1 ls2 hfin hg
 go_enter Tryz.func31,Tryz.ntmps31
 go_wp2_with (first | ((with_reducible refine here_load (d:=some 9) ?_); refine wpList_load_fv rfl _ _ rfl (w.heap.size) rfl (x) _ _ _ (((Blk.new w _ _).alloc _).alloc _) (FX.out) Tryz.underlying30 rfl (by kernel_rfl) ?_) | ((with_reducible refine here_load (d:=some 10) ?_); refine wpList_load_fv rfl _ _ rfl (w.heap.size+1) rfl (y) _ _ _ ((blk_new2 w _ _ _).alloc _) (FY.out) Tryz.underlying30 rfl (by kernel_rfl) ?_))
 refine (cp _).mono ?_
 rintro e w1 ⟨rfl,k1⟩
 have BR:Blk w1 (w.heap.size+2) 30 _:=Gr.blk k1 (blk_new3 w _ _ _ _)
 have hB:=Below.gr (below_alloc3 w _ _ _) k1
 have sz:w.heap.size+2<w1.heap.size:=BR.lt
 clear k1 cp
 go_wp2_with (first | ((with_reducible refine here_store ?_); refine wpList_store_blk rfl _ _ _ rfl (w1.heap.size) (fcs (s0)) rfl rfl _ _ ((Blk.new w1 _ _).alloc _) (by kernel_rfl) (by rfl) (fcs_one _) ?_; intro w2 hL2 hB2' hK2; have CR2:=hK2 _ (by omega) _ _ ((BR.alloc _).alloc _); have CH2:=hK2 _ (by omega) _ _ (blk_new2 w1 _ _ _); have hB2:=((hB.alloc (by omega) _).alloc (by simp <;> omega) _).trans (hB2' _ (by omega))) | ((with_reducible refine here_store ?_); refine wpList_store_blk rfl _ _ _ rfl (w1.heap.size+1) (fcs (h0)) rfl rfl _ _ (CH2) (by kernel_rfl) (by rfl) (fcs_one _) ?_; intro w3 hL3 hB3' hK3; have CR3:=hK3 _ (by omega) _ _ CR2; have CS3:=hK3 _ (by omega) _ _ hL2; have hB3:=hB2.trans (hB3' _ (by omega))))
 go_loopw [14] (λi wr=>Below w.heap.size w wr∧Blk wr (w.heap.size+2) 30 #[.int .u64 0,.int .u64 0,.int .u64 0,.int .u64 0]∧Hid ((i=.int .i64 0∧Blk wr w1.heap.size 30 (fcs s0)∧Blk wr (w1.heap.size+1) 30 (fcs h0))∨(i=.int .i64 1∧Blk wr w1.heap.size 30 (fcs s1)∧Blk wr (w1.heap.size+1) 30 (fcs h1))∨(i=.int .i64 2∧Blk wr w1.heap.size 30 (fcs s2)∧Blk wr (w1.heap.size+1) 30 (fcs h2))∨(i=.int .i64 3∧Blk wr w1.heap.size 30 (fcs s3)∧Blk wr (w1.heap.size+1) 30 (fcs h3)))) (λi _=>3 - (RowKit.intOf i).toNat)
 case atStart=>exact ⟨hB3,CR3,Lib.hid (.inl ⟨rfl,CS3,hL3⟩)⟩
 case round =>
  obtain ⟨hb,CR,HI⟩:=hrel
  rcases HI.out with ⟨rfl,BS,BH⟩ | ⟨rfl,BS,BH⟩ | ⟨rfl,BS,BH⟩ | ⟨rfl,BS,BH⟩
  ·clear HI
   have szr:w1.heap.size+1<wr.heap.size:=BH.lt
   go_wp2
   refine wp_region_G (λj=>j == 6 || j == 7) (by kernel_rfl) ?_
   try simp only [Act.put]
   refine tkw 0 rfl (YieldsG.loadF (by rfl) _ _ rfl (w1.heap.size+1) rfl (h0) _ _ (BH.alloc _) (fv_fcs _) Tryz.underlying30 rfl (by kernel_rfl)) ?_
   try simp only [Act.put,aA,aZ,aS]
   refine tkw 1 rfl (YieldsG.call (v:=fv g) (by rfl) 58 _ (λw9=>by go_simp; try (first | with_reducible rfl | rfl)) (λw9 h9=>cg w9)) ?_
   try simp only [Act.put,aA,aZ,aS]
   refine tkw 2 rfl (YieldsG.call (v:=.tuple #[fv l1,fv h1]) (by rfl) 57 _ (λw9=>by go_simp; try (first | with_reducible rfl | rfl)) (λw9 h9=>p1 w9)) ?_
   try simp only [Act.put,aA,aZ,aS]
   refine tk 3 rfl ?_
   try simp only [Act.put,aA,aZ,aS]
   refine tk 4 rfl ?_
   try simp only [Act.put,aA,aZ,aS]
   refine wpAnyG_takeA 5 rfl (by kernel_rfl) (λ_ _ _ h=>h) (λ_=>YieldsG.pure (by rfl) (λw9 _=>by go_simp; try with_reducible rfl)) ?_
   try simp only [Act.put,aA,aZ,aS]
   refine wpAnyG_storeK 6 rfl (by kernel_rfl) (by rfl) _ _ _ rfl (wr.heap.size) (fcs l1) rfl rfl _ _ (Blk.new wr _ _) (by kernel_rfl) (by rfl) (fcs_one _) rfl (λu1 g1 v1 hB1 hK1 hL1=>?_)
   try simp only [Act.put]
   have BH1:=hK1 _ (by omega) _ _ (Gr.blk g1 (BH.alloc _))
   have BS1:=hK1 _ (by omega) _ _ (Gr.blk g1 (BS.alloc _))
   have CR1:=hK1 _ (by omega) _ _ (Gr.blk g1 (CR.alloc _))
   have hb1:=(Below.gr (hb.alloc (by omega) _) g1).trans (hB1 _ (by omega))
   refine wpAnyG_storeK 7 rfl (by kernel_rfl) (by rfl) _ _ _ rfl (w1.heap.size+1) (fcs h1) rfl rfl _ _ (BH1) (by kernel_rfl) (by rfl) (fcs_one _) rfl (λu2 g2 v2 hB2 hK2 hL2=>?_)
   try simp only [Act.put]
   have BL2:=hK2 _ (by omega) _ _ (Gr.blk g2 hL1)
   have BS2:=hK2 _ (by omega) _ _ (Gr.blk g2 BS1)
   have CR2:=hK2 _ (by omega) _ _ (Gr.blk g2 CR1)
   have hb2:=(Below.gr hb1 g2).trans (hB2 _ (by omega))
   refine wpAnyG_done (by kernel_rfl) (λv hv=>?_)
   have DH:=Gr.blk hv hL2
   have DL:=Gr.blk hv BL2
   have DS:=Gr.blk hv BS2
   have DR:=Gr.blk hv CR2
   have hbv:=Below.gr hb2 hv
   clear hv g1 g2 BH1 BS1 CR1 hb1 BL2 BS2 CR2 hb2 hL1 hL2 hB1 hB2 hK1 hK2
   go_wp2_with (first | ((with_reducible refine here_load (d:=some 22) ?_); refine wpList_load_fv rfl _ _ rfl (w1.heap.size) rfl (s0) _ _ _ (DS) (fv_fcs _) Tryz.underlying30 rfl (by kernel_rfl) ?_) | ((with_reducible refine here_load (d:=some 23) ?_); refine wpList_load_fv rfl _ _ rfl (wr.heap.size) rfl (l1) _ _ _ (DL) (fv_fcs _) Tryz.underlying30 rfl (by kernel_rfl) ?_))
   refine (c1 _).mono ?_
   rintro e y1 ⟨rfl,k1⟩
   have EH:=Gr.blk k1 DH
   have ES:=Gr.blk k1 DS
   have ER:=Gr.blk k1 DR
   have hby:=Below.gr hbv k1
   clear k1
   go_wp2_with (first | ((with_reducible refine here_store ?_); refine wpList_store_blk rfl _ _ _ rfl (w1.heap.size) (fcs (s1)) rfl rfl _ _ (ES) (by kernel_rfl) (by rfl) (fcs_one _) ?_; intro y2 hLy hBy hKy))
   exact ⟨⟨hby.trans (hBy _ (by omega)),hKy _ (by omega) _ _ ER,Lib.hid (.inr (.inl (⟨rfl,hLy,hKy _ (by omega) _ _ EH⟩)))⟩,by decide⟩
  ·clear HI
   have szr:w1.heap.size+1<wr.heap.size:=BH.lt
   go_wp2
   refine wp_region_G (λj=>j == 6 || j == 7) (by kernel_rfl) ?_
   try simp only [Act.put]
   refine tkw 0 rfl (YieldsG.loadF (by rfl) _ _ rfl (w1.heap.size+1) rfl (h1) _ _ (BH.alloc _) (fv_fcs _) Tryz.underlying30 rfl (by kernel_rfl)) ?_
   try simp only [Act.put,aA,aZ,aS]
   refine tkw 1 rfl (YieldsG.call (v:=fv g) (by rfl) 58 _ (λw9=>by go_simp; try (first | with_reducible rfl | rfl)) (λw9 h9=>cg w9)) ?_
   try simp only [Act.put,aA,aZ,aS]
   refine tkw 2 rfl (YieldsG.call (v:=.tuple #[fv l2,fv h2]) (by rfl) 57 _ (λw9=>by go_simp; try (first | with_reducible rfl | rfl)) (λw9 h9=>p2 w9)) ?_
   try simp only [Act.put,aA,aZ,aS]
   refine tk 3 rfl ?_
   try simp only [Act.put,aA,aZ,aS]
   refine tk 4 rfl ?_
   try simp only [Act.put,aA,aZ,aS]
   refine wpAnyG_takeA 5 rfl (by kernel_rfl) (λ_ _ _ h=>h) (λ_=>YieldsG.pure (by rfl) (λw9 _=>by go_simp; try with_reducible rfl)) ?_
   try simp only [Act.put,aA,aZ,aS]
   refine wpAnyG_storeK 6 rfl (by kernel_rfl) (by rfl) _ _ _ rfl (wr.heap.size) (fcs l2) rfl rfl _ _ (Blk.new wr _ _) (by kernel_rfl) (by rfl) (fcs_one _) rfl (λu1 g1 v1 hB1 hK1 hL1=>?_)
   try simp only [Act.put]
   have BH1:=hK1 _ (by omega) _ _ (Gr.blk g1 (BH.alloc _))
   have BS1:=hK1 _ (by omega) _ _ (Gr.blk g1 (BS.alloc _))
   have CR1:=hK1 _ (by omega) _ _ (Gr.blk g1 (CR.alloc _))
   have hb1:=(Below.gr (hb.alloc (by omega) _) g1).trans (hB1 _ (by omega))
   refine wpAnyG_storeK 7 rfl (by kernel_rfl) (by rfl) _ _ _ rfl (w1.heap.size+1) (fcs h2) rfl rfl _ _ (BH1) (by kernel_rfl) (by rfl) (fcs_one _) rfl (λu2 g2 v2 hB2 hK2 hL2=>?_)
   try simp only [Act.put]
   have BL2:=hK2 _ (by omega) _ _ (Gr.blk g2 hL1)
   have BS2:=hK2 _ (by omega) _ _ (Gr.blk g2 BS1)
   have CR2:=hK2 _ (by omega) _ _ (Gr.blk g2 CR1)
   have hb2:=(Below.gr hb1 g2).trans (hB2 _ (by omega))
   refine wpAnyG_done (by kernel_rfl) (λv hv=>?_)
   have DH:=Gr.blk hv hL2
   have DL:=Gr.blk hv BL2
   have DS:=Gr.blk hv BS2
   have DR:=Gr.blk hv CR2
   have hbv:=Below.gr hb2 hv
   clear hv g1 g2 BH1 BS1 CR1 hb1 BL2 BS2 CR2 hb2 hL1 hL2 hB1 hB2 hK1 hK2
   go_wp2_with (first | ((with_reducible refine here_load (d:=some 22) ?_); refine wpList_load_fv rfl _ _ rfl (w1.heap.size) rfl (s1) _ _ _ (DS) (fv_fcs _) Tryz.underlying30 rfl (by kernel_rfl) ?_) | ((with_reducible refine here_load (d:=some 23) ?_); refine wpList_load_fv rfl _ _ rfl (wr.heap.size) rfl (l2) _ _ _ (DL) (fv_fcs _) Tryz.underlying30 rfl (by kernel_rfl) ?_))
   refine (c2 _).mono ?_
   rintro e y1 ⟨rfl,k1⟩
   have EH:=Gr.blk k1 DH
   have ES:=Gr.blk k1 DS
   have ER:=Gr.blk k1 DR
   have hby:=Below.gr hbv k1
   clear k1
   go_wp2_with (first | ((with_reducible refine here_store ?_); refine wpList_store_blk rfl _ _ _ rfl (w1.heap.size) (fcs (s2)) rfl rfl _ _ (ES) (by kernel_rfl) (by rfl) (fcs_one _) ?_; intro y2 hLy hBy hKy))
   exact ⟨⟨hby.trans (hBy _ (by omega)),hKy _ (by omega) _ _ ER,Lib.hid (.inr (.inr (.inl (⟨rfl,hLy,hKy _ (by omega) _ _ EH⟩))))⟩,by decide⟩
  ·clear HI
   have szr:w1.heap.size+1<wr.heap.size:=BH.lt
   go_wp2
   refine wp_region_G (λj=>j == 6 || j == 7) (by kernel_rfl) ?_
   try simp only [Act.put]
   refine tkw 0 rfl (YieldsG.loadF (by rfl) _ _ rfl (w1.heap.size+1) rfl (h2) _ _ (BH.alloc _) (fv_fcs _) Tryz.underlying30 rfl (by kernel_rfl)) ?_
   try simp only [Act.put,aA,aZ,aS]
   refine tkw 1 rfl (YieldsG.call (v:=fv g) (by rfl) 58 _ (λw9=>by go_simp; try (first | with_reducible rfl | rfl)) (λw9 h9=>cg w9)) ?_
   try simp only [Act.put,aA,aZ,aS]
   refine tkw 2 rfl (YieldsG.call (v:=.tuple #[fv l3,fv h3]) (by rfl) 57 _ (λw9=>by go_simp; try (first | with_reducible rfl | rfl)) (λw9 h9=>p3 w9)) ?_
   try simp only [Act.put,aA,aZ,aS]
   refine tk 3 rfl ?_
   try simp only [Act.put,aA,aZ,aS]
   refine tk 4 rfl ?_
   try simp only [Act.put,aA,aZ,aS]
   refine wpAnyG_takeA 5 rfl (by kernel_rfl) (λ_ _ _ h=>h) (λ_=>YieldsG.pure (by rfl) (λw9 _=>by go_simp; try with_reducible rfl)) ?_
   try simp only [Act.put,aA,aZ,aS]
   refine wpAnyG_storeK 6 rfl (by kernel_rfl) (by rfl) _ _ _ rfl (wr.heap.size) (fcs l3) rfl rfl _ _ (Blk.new wr _ _) (by kernel_rfl) (by rfl) (fcs_one _) rfl (λu1 g1 v1 hB1 hK1 hL1=>?_)
   try simp only [Act.put]
   have BH1:=hK1 _ (by omega) _ _ (Gr.blk g1 (BH.alloc _))
   have BS1:=hK1 _ (by omega) _ _ (Gr.blk g1 (BS.alloc _))
   have CR1:=hK1 _ (by omega) _ _ (Gr.blk g1 (CR.alloc _))
   have hb1:=(Below.gr (hb.alloc (by omega) _) g1).trans (hB1 _ (by omega))
   refine wpAnyG_storeK 7 rfl (by kernel_rfl) (by rfl) _ _ _ rfl (w1.heap.size+1) (fcs h3) rfl rfl _ _ (BH1) (by kernel_rfl) (by rfl) (fcs_one _) rfl (λu2 g2 v2 hB2 hK2 hL2=>?_)
   try simp only [Act.put]
   have BL2:=hK2 _ (by omega) _ _ (Gr.blk g2 hL1)
   have BS2:=hK2 _ (by omega) _ _ (Gr.blk g2 BS1)
   have CR2:=hK2 _ (by omega) _ _ (Gr.blk g2 CR1)
   have hb2:=(Below.gr hb1 g2).trans (hB2 _ (by omega))
   refine wpAnyG_done (by kernel_rfl) (λv hv=>?_)
   have DH:=Gr.blk hv hL2
   have DL:=Gr.blk hv BL2
   have DS:=Gr.blk hv BS2
   have DR:=Gr.blk hv CR2
   have hbv:=Below.gr hb2 hv
   clear hv g1 g2 BH1 BS1 CR1 hb1 BL2 BS2 CR2 hb2 hL1 hL2 hB1 hB2 hK1 hK2
   go_wp2_with (first | ((with_reducible refine here_load (d:=some 22) ?_); refine wpList_load_fv rfl _ _ rfl (w1.heap.size) rfl (s2) _ _ _ (DS) (fv_fcs _) Tryz.underlying30 rfl (by kernel_rfl) ?_) | ((with_reducible refine here_load (d:=some 23) ?_); refine wpList_load_fv rfl _ _ rfl (wr.heap.size) rfl (l3) _ _ _ (DL) (fv_fcs _) Tryz.underlying30 rfl (by kernel_rfl) ?_))
   refine (c3 _).mono ?_
   rintro e y1 ⟨rfl,k1⟩
   have EH:=Gr.blk k1 DH
   have ES:=Gr.blk k1 DS
   have ER:=Gr.blk k1 DR
   have hby:=Below.gr hbv k1
   clear k1
   go_wp2_with (first | ((with_reducible refine here_store ?_); refine wpList_store_blk rfl _ _ _ rfl (w1.heap.size) (fcs (s3)) rfl rfl _ _ (ES) (by kernel_rfl) (by rfl) (fcs_one _) ?_; intro y2 hLy hBy hKy))
   exact ⟨⟨hby.trans (hBy _ (by omega)),hKy _ (by omega) _ _ ER,Lib.hid (.inr (.inr (.inr (⟨rfl,hLy,hKy _ (by omega) _ _ EH⟩))))⟩,by decide⟩
  ·clear HI
   go_wp2_with (first | ((with_reducible refine here_load (d:=some 26) ?_); refine wpList_load_fv rfl _ _ rfl (w1.heap.size) rfl (s3) _ _ _ (BS) (fv_fcs _) Tryz.underlying30 rfl (by kernel_rfl) ?_) | ((with_reducible refine here_store ?_); refine wpList_store_blk rfl _ _ _ rfl (w.heap.size+2) (fcs (s3)) rfl rfl _ _ (CR) (by kernel_rfl) (by rfl) (fcs_one _) ?_; intro w9 hL9 hB9 hK9))
   exact bodyPost_ret (results_cell_row rfl _ _ (w.heap.size+2) _ _ (0,0) _ rfl hL9 Tryz.underlying30 rfl (by kernel_rfl)) rfl ⟨rfl,hb.trans (hB9 _ (by omega))⟩
end Sc
end
section
namespace Sh
open Go.RowKit Sp
set_option maxHeartbeats 2000000 in
set_option maxRecDepth 100000 in
theorem grow_nil (w : World) (n : Nat) (h0 : 0 < n) (hn : n ≤ 1000000) :
    Calls Tryz.prog 59 #[.slice none 0 0,.int .i64 n] w λe w'=>∃ v,e=.returned v∧OwnB w' w.heap.size v []∧Below w.heap.size w w':=by
  obtain ⟨i,hi,hz0,hz1,hz2⟩:=info_parts infoByte
  have q0:(0:Int)<(n:Int):=by omega
  have q1:(n:Int)≤1000000:=by omega
  have hrun:∀ ty,(Builtin.append_ #[39,3] ty #[.slice none 0 0,.int .i64 n]).run Tryz.prog w=_:=λty =>
    Lib.run_append_nil_zeros w 39 3 ty 5 i (.int .u8 0) .i64 .i64 Tryz.underlying39 Tryz.underlying3 hi hz0 n h0 (by omega) (by omega) (by rw [hz2]; omega)
  have HI:=Lib.hid hrun
  clear hrun hi hz0 hz1 hz2
  have hcap:=grownCap_ge w n 0 5
  have hcap2:grownCap w n 0 5≤9223372036854775807:=by have:=grownCap_le_maxLen w n 0 5 (by simp [maxLen]; omega); simpa [maxLen] using this
  obtain ⟨c,hc⟩:∃ c,c=grownCap w n 0 5:=⟨_,rfl⟩
  rw [← hc] at hcap hcap2
  have HCc:=Lib.hid hc
  clear hc
  go_enter Tryz.func59,Tryz.ntmps59
  go_wp2_with (at_builtin; refine Lib.wpList_append_run _ rfl _ _ _ _ rfl _ _ rfl rfl _ _ (HI.out _) ?_)
  rw [← HCc.out]
  go_wp2
  go_ret
  refine ⟨_,rfl,?_,?_⟩
  · have h:=World.ownsRow_made (base:=w.heap.size) (e:=5) (size:=1) w.drew (Builtin.zeroCells (Value.int .u8 0).cells n++Builtin.zeroCells (Value.int .u8 0).cells (c - n)) c (by simp) (by simpa [maxLen] using hcap2) (by simp [size_zeroCells,Value.cells]; omega)
    exact h
  · exact ((Below.refl _ _).drew).alloc (Nat.le_refl _) _
set_option maxHeartbeats 4000000 in
set_option maxRecDepth 100000 in
theorem concat_any (w : World) (T : Option Addr) (ts : List Tx) (ct : Nat) (hT : Texts w T ts) (h0 : 0 < (cat ts).length) (hm : (cat ts).length ≤ 1000000) (hn : ts.length ≤ 1000000) :
    Calls Tryz.prog 32 #[.slice T ts.length ct] w λe w'=>∃ v,e=.returned v∧OwnB w' w.heap.size v (cat ts)∧Below w.heap.size w w':=by
  have HT:=Lib.hid hT
  clear hT
  obtain ⟨M,hM⟩:∃ M,M=(cat ts).length:=⟨_,rfl⟩
  rw [← hM] at h0 hm
  have HM:=Lib.hid hM
  clear hM
  have q0:(0:Int)<(M:Int):=by omega
  have q1:(M:Int)≤1000000:=by omega
  go_enter Tryz.func32,Tryz.ntmps32
  go_wp2
  go_loopw [3,11] (λs i wr=>∃ k z:Nat,k≤ts.length∧i=.int .i64 k∧s=.int .i64 z∧z=(cat (ts.take k)).length∧wr=w)
    (λ_ i _=>ts.length - (RowKit.intOf i).toNat)
  case atStart=>exact ⟨0,0,Nat.zero_le _,rfl,rfl,rfl,rfl⟩
  case round =>
    obtain ⟨k,z,hk,rfl,rfl,hz,hw⟩:=hrel
    have hw':=hw.symm
    clear hw
    subst hw'
    have hzM:z≤M:=by rw [hz,HM.out]; exact cat_le ts k
    have HZ:=Lib.hid hz
    clear hz
    by_cases hlt:k<ts.length
    · obtain ⟨x,hx⟩:∃ x,ts[k]? = some x:=⟨ts[k],List.getElem?_eq_getElem hlt⟩
      obtain ⟨b,o,rfl,hbl,htx⟩:=HT.out (λe=>by rw [e] at hlt; exact absurd hlt (Nat.not_lt_zero _))
      have hc:w.cell? ⟨b,o+k,none⟩=some (.slice x.A x.l.length x.c):=(htx k x hx).1
      obtain ⟨L,hL⟩:∃ L,L=x.l.length:=⟨_,rfl⟩
      rw [← hL] at hc
      have hlx:z+L≤M:=by rw [HZ.out,HM.out,hL]; exact cat_next ts k x hx
      have q2:(0:Int)≤(z:Int):=by omega
      have q3:(0:Int)≤(L:Int):=by omega
      have q4:(z:Int)+(L:Int)≤1000000:=by omega
      have HX:=Lib.hid (And.intro hx hL)
      clear hx htx hL
      go_wp2
      go_roundw
      case rel=>exact ⟨k+1,z+L,by omega,by go_num,by go_num,by rw [cat_step ts k x HX.out.1,List.length_append, ← HZ.out, ← HX.out.2],by first | trivial | rfl⟩
      case measure=>simp [RowKit.intOf]; omega
    · obtain rfl : k = ts.length := by omega
      obtain rfl:z=M:=by rw [HZ.out,HM.out,List.take_length]
      clear hlt
      go_wp2_with fail
      refine (grow_nil w z (by omega) hm).mono ?_
      rintro e w1 ⟨v,rfl,hown,hb⟩
      go_wp2
      go_loopw [6,27] (λv i wq=>∃ (k:Nat) (v0:Value),k≤ts.length∧v0=v∧i=.int .i64 k∧OwnB wq w.heap.size v0 (cat (ts.take k))∧Below w.heap.size w wq)
        (λ_ i _=>ts.length - (RowKit.intOf i).toNat)
      case atStart=>exact ⟨0,_,Nat.zero_le _,rfl,rfl,hown,hb⟩
      case round =>
        clear hown hb
        obtain ⟨k,v0,hk,rfl,rfl,hown,hb⟩:=hrel
        by_cases hlt:k<ts.length
        · obtain ⟨x, hx⟩ : ∃ x, ts[k]? = some x := ⟨ts[k], List.getElem?_eq_getElem hlt⟩
          obtain ⟨b,o,rfl,hbl,htx⟩:=HT.out (λe=>by rw [e] at hlt; exact absurd hlt (Nat.not_lt_zero _))
          have hc:wr.cell? ⟨b,o+k,none⟩=some (.slice x.A x.l.length x.c):=(hb.cell (p:=⟨b,o+k,none⟩) hbl).trans (htx k x hx).1
          have hok:=(htx k x hx).2.below hb
          have hlx:=cat_next ts k x hx
          have HX:=Lib.hid (And.intro hx (And.intro hok hlx))
          clear hx htx hok hlx
          go_wp2_with (at_builtin
                       refine wpList_append_bytes rfl (.tmp 31) (.tmp 32) rfl w.heap.size v0 (cat (ts.take k)) rfl hown x.A x.l x.c rfl HX.out.2.1.1 (by have:=HX.out.2.2; have:=HM.out; omega) hb.size ?_
                       intro v7 w7 hv7 hg7
                       have hb7:=below_own hb hown hg7 (Nat.le_refl _) hb.size)
          go_roundw
          case rel=>exact ⟨k+1,v7,by omega,rfl,by go_num,by rw [cat_step ts k x HX.out.1]; exact hv7,hb7⟩
          case measure=>simp [RowKit.intOf]; omega
        · obtain rfl:k=ts.length:=by omega
          rw [List.take_length] at hown
          go_wp2
          go_ret
          exact ⟨_,rfl,hown,hb⟩
end Sh
end
section
namespace Cu
open Go.RowKit Sy
set_option maxRecDepth 100000
set_option maxHeartbeats 4000000
theorem own_row2 {l:List UInt8} {k:Nat} {sp:List Value} (h:l.length=k):(((l.map bv++sp).toArray).toList.drop 0).take k=l.map bv:=by
 rw [List.drop_zero,List.take_append_of_le_length (by rw [List.length_map,h]; exact Nat.le_refl _),List.take_of_length_le (by rw [List.length_map,h]; exact Nat.le_refl _)]
theorem own_agg {l:List UInt8} {k:Nat} {sp:List Value} (h:l.length=k):Value.agg ((((l.map bv++sp).toArray).toList.drop 0).take k).toArray=.agg (l.map bv).toArray:=congrArg (λl:List Value=>Value.agg l.toArray) (own_row2 h)
theorem own_sz2 {l:List UInt8} {k:Nat} {sp:List Value} (h:l.length=k):0+k≤((l.map bv++sp).toArray).size:=by
 simp only [List.size_toArray,List.length_append,List.length_map]
 omega
theorem concat2_c (w:World) (g g1 g2:Nat) (t t1 t2:TypeId) (x y:List UInt8) (hx:x.length=32) (hy:y.length=32)
  (h1:Blk w g1 t1 (x.map bv).toArray) (h2:Blk w g2 t2 (y.map bv).toArray) (hb:Blk w g t #[.slice (some ⟨g1,0,none⟩) 32 32,.slice (some ⟨g2,0,none⟩) 32 32]) :
  Calls Tryz.prog 32 #[.slice (some ⟨g,0,none⟩) 2 2] w (GetsN w (λvq Mq=>∃ (g:Nat) (sp:List Value) (cap:Nat),vq=.slice (some ⟨g,0,none⟩) 64 cap∧Mq=[(g,5,((x++y).map bv++sp).toArray)])):=by
 have e:Sh.cat [⟨some ⟨g1,0,none⟩,x,32⟩,⟨some ⟨g2,0,none⟩,y,32⟩]=x++y:=by simp [Sh.cat]
 have hl:(x++y).length=64:=by rw [List.length_append,hx,hy]
 have hb':Blk w g t (([⟨some ⟨g1,0,none⟩,x,32⟩,⟨some ⟨g2,0,none⟩,y,32⟩]:List Sh.Tx).map Sh.Tx.val).toArray:=by
  rw [List.map_cons,List.map_cons,List.map_nil,val_key hx,val_key hy]
  exact hb
 refine (Sh.concat_any w _ _ 2 (texts_blk hb' (λz hz=>?_)) (by rw [e,hl]; decide) (by rw [e,hl]; decide) (by show 2≤1000000; decide)).mono ?_
 ·simp only [List.mem_cons,List.not_mem_nil,or_false] at hz
  rcases hz with rfl | rfl
  ·exact ok_key h1 hx
  ·exact ok_key h2 hy
 rintro e' w' ⟨v,rfl,ho,hb2⟩
 rw [e] at ho
 unfold Sh.OwnB at ho
 rw [hl] at ho
 rcases ho.2 with ⟨_,h0⟩ | ⟨g',cap',cur,hv,hg,hk,q3,q4,q5,q6⟩
 ·cases h0
 ·subst hv
  have hc:cur=((x++y).map bv++cur.toList.drop 64).toArray:=by
   rw [Nat.mul_one] at q6
   rw [← q6,List.take_append_drop]
  refine ⟨_,[(g',5,cur)],rfl,⟨g',cur.toList.drop 64,cap',rfl,by rw [← hc]⟩,hb2,λg1 t1 cs1 hm=>?_,by simp⟩
  simp only [List.mem_singleton,Prod.mk.injEq] at hm
  obtain ⟨rfl,rfl,rfl⟩:=hm
  exact ⟨hg,hk⟩
def ansS (d:Nat) (key m:List UInt8) (k:Nat):Nat:=Sc.addP (evD k) (Sc.mulP (chalS (evX (evP k)) key m) d)
def sigS (d:Nat) (key m:List UInt8) (k:Nat):List UInt8:=evX (evP k)++bytesS (ansS d key m k%Sc.pM)
theorem sigS_length (d:Nat) (key m:List UInt8) (k:Nat):(sigS d key m k).length=64:=by
 unfold sigS
 rw [List.length_append,evX_length,bytesS_length]
theorem evD_lt (k:Nat) (hk:k<K4):evD k<K4:=by
 unfold evD
 split
 ·decide
 ·split
  ·exact Sc.mod_lt _
  ·exact hk
theorem chalS_lt (x key m:List UInt8):chalS x key m<K4:=Sc.mod_lt _
theorem cat_length {x y:List UInt8} (hx:x.length=32) (hy:y.length=32):(x++y).length=64:=by rw [List.length_append,hx,hy]
theorem sign_none (w:World) (d k:Nat) (hd:d<K4) (hk:k<K4) (hsm:(evP k).isSome=false) (key:List UInt8) (hkey:key.length=32) (A:Option Addr) (m:List UInt8) (n c:Nat) (hn:m.length=n) (hm:n≤999999900) (hc:n≤c) (hc2:c≤9223372036854775807) (hs:Sh.Src w A m) (ht:Sh.TabAt w 0):Calls Tryz.prog 15 #[fv d,.agg (key.map bv).toArray,.slice A n c,fv k] w (Gets w (.tuple #[.agg ((List.replicate 64 (0:UInt8)).map bv).toArray,.bool false])):=by
 refine Sy.enter (args:=[fv d,.agg (key.map bv).toArray,.slice A n c,fv k]) Tryz.func15 rfl kL ?_
 refine sC ?_
 refine sM 30 (fcs d) (λg0=>?_)
 refine sM 31 (key.map bv).toArray (λg1=>?_)
 refine sM 30 (fcs k) (λg2=>?_)
 refine sM 36 (Zl 64).toArray (λg3=>?_)
 refine sP (.bool false) ?_
 refine sA ?_
 refine sS (fv k) (qL 2 g2 0 4 30 30 (fcs k) rfl Tryz.underlying30)<|sS (.tuple #[fv (evD k),.agg ((evX (evP k)).map bv).toArray,.bool false]) (qF 13 #[fv k] (λw=>by have q:=even_any w k hk; rw [hsm] at q; exact q))<|sP (.tuple #[fv (evD k),.agg ((evX (evP k)).map bv).toArray,.bool false])<|sP (fv (evD k))<|sP (.agg ((evX (evP k)).map bv).toArray)<|sP (.bool false) ?_
 refine sM 31 (Zl 32).toArray (λg4=>?_)
 refine sW 2 g2 30 (fcs k) (fcs (evD k)) (wS 0 30 (fcs (evD k)) rfl)<|sW 4 g4 31 (Zl 32).toArray ((evX (evP k)).map bv).toArray (Writes.store 0 31 ((evX (evP k)).map bv).toArray _ _ rfl kR kR (by rw [key_sz (evX (evP k)) (evX_length _)]; kernel_rfl) (by rw [key_sz (evX (evP k)) (evX_length _)]; exact Nat.le_of_ble_eq_true kR) (key_one _) (key_set _ _ (by rw [(evX_length _)]; kernel_rfl)))<|sP (.bool false) ?_
 refine sG<|Sy.seq<|sC ?_
 refine sP (.bool false)<|sP (.bool true) ?_
 refine sG<|sT<|sC ?_
 refine sP (.agg ((Zl 64):List Value).toArray)<|sW 3 g3 36 (Zl 64).toArray (Zl 64).toArray (wS 0 36 (Zl 64).toArray rfl)<|sP (.bool false) ?_
 refine sG<|Sy.ret<|Sy.then_ret ?_
 rw [show (.tuple #[.agg ((List.replicate 64 (0:UInt8)).map bv).toArray,.bool false]:Value)=.tuple #[.agg ((Zl 64):List Value).toArray,.bool false] from by kernel_rfl]
 exact Sy.ret2 (v:=.agg ((Zl 64):List Value).toArray) (u:=.bool false) rfl (.inl (Res.cell (ty':=36) g3 3 (Zl 64).toArray _ kR kR Tryz.underlying36 rfl kR kR)) (.inl (show _=_ by kernel_rfl))
theorem sign_some (w:World) (d k:Nat) (hd:d<K4) (hk:k<K4) (hsm:(evP k).isSome=true) (key:List UInt8) (hkey:key.length=32) (A:Option Addr) (m:List UInt8) (n c:Nat) (hn:m.length=n) (hm:n≤999999900) (hc:n≤c) (hc2:c≤9223372036854775807) (hs:Sh.Src w A m) (ht:Sh.TabAt w 0):Calls Tryz.prog 15 #[fv d,.agg (key.map bv).toArray,.slice A n c,fv k] w (Gets w (.tuple #[.agg ((sigS d key m k).map bv).toArray,.bool true])):=by
 refine Sy.enter (args:=[fv d,.agg (key.map bv).toArray,.slice A n c,fv k]) Tryz.func15 rfl kL ?_
 refine sC ?_
 refine sM 30 (fcs d) (λg0=>?_)
 refine sM 31 (key.map bv).toArray (λg1=>?_)
 refine sM 30 (fcs k) (λg2=>?_)
 refine sM 36 (Zl 64).toArray (λg3=>?_)
 refine sP (.bool false) ?_
 refine sA ?_
 refine sS (fv k) (qL 2 g2 0 4 30 30 (fcs k) rfl Tryz.underlying30)<|sS (.tuple #[fv (evD k),.agg ((evX (evP k)).map bv).toArray,.bool true]) (qF 13 #[fv k] (λw=>by have q:=even_any w k hk; rw [hsm] at q; exact q))<|sP (.tuple #[fv (evD k),.agg ((evX (evP k)).map bv).toArray,.bool true])<|sP (fv (evD k))<|sP (.agg ((evX (evP k)).map bv).toArray)<|sP (.bool true) ?_
 refine sM 31 (Zl 32).toArray (λg4=>?_)
 refine sW 2 g2 30 (fcs k) (fcs (evD k)) (wS 0 30 (fcs (evD k)) rfl)<|sW 4 g4 31 (Zl 32).toArray ((evX (evP k)).map bv).toArray (Writes.store 0 31 ((evX (evP k)).map bv).toArray _ _ rfl kR kR (by rw [key_sz (evX (evP k)) (evX_length _)]; kernel_rfl) (by rw [key_sz (evX (evP k)) (evX_length _)]; exact Nat.le_of_ble_eq_true kR) (key_one _) (key_set _ _ (by rw [(evX_length _)]; kernel_rfl)))<|sP (.bool true) ?_
 refine sG<|Sy.seq<|sC ?_
 refine sP (.bool true)<|sP (.bool false) ?_
 refine sG<|sU<|Sy.skip<|sB ?_
 refine sS (.agg ((evX (evP k)).map bv).toArray) (Quiet.load 4 g4 0 32 31 31 ((evX (evP k)).map bv).toArray _ _ rfl kR kR Tryz.underlying31 rfl kR _ (key_whole (evX (evP k)) (evX_length _)) (key_size (evX (evP k)) (evX_length _)))<|sS (.agg (key.map bv).toArray) (Quiet.load 1 g1 0 32 31 31 (key.map bv).toArray _ _ rfl kR kR Tryz.underlying31 rfl kR _ (key_whole key hkey) (key_size key hkey))<|sP (.slice A n c)<|sS (fv (chalS (evX (evP k)) key m)) (qG 24 #[.agg ((evX (evP k)).map bv).toArray,.agg (key.map bv).toArray,.slice A n c] (λw hw=>challenge_any w (evX (evP k)) key (evX_length _) hkey A m n c hn hm hc hc2 (hs.below hw.below) (ht.below hw.below ht.lt))) ?_
 refine sM 30 (fcs 0) (λg5=>?_)
 refine sW 5 g5 30 (fcs 0) (fcs (chalS (evX (evP k)) key m)) (wS 0 30 (fcs (chalS (evX (evP k)) key m)) rfl) ?_
 refine sH (λj=>j == 7) ?_
 refine sD 0 rfl (fv (evD k)) (qL 2 g2 0 4 30 30 (fcs (evD k)) rfl Tryz.underlying30)<|sD 1 rfl (fv (chalS (evX (evP k)) key m)) (qL 5 g5 0 4 30 30 (fcs (chalS (evX (evP k)) key m)) rfl Tryz.underlying30)<|sD 2 rfl (fv d) (qL 0 g0 0 4 30 30 (fcs d) rfl Tryz.underlying30)<|sD 3 rfl (fv (Sc.mulP (chalS (evX (evP k)) key m) d)) (qF 31 #[fv (chalS (evX (evP k)) key m),fv d] (λw=>Sc.mulF_any w _ _ (chalS_lt _ _ _) hd))<|sD 4 rfl (fv (ansS d key m k)) (qF 30 #[fv (evD k),fv (Sc.mulP (chalS (evX (evP k)) key m) d)] (λw=>Sc.addF_any w _ _ (evD_lt k hk) (Sc.mod_lt _)))<|sD 5 rfl (.agg ((bytesS (ansS d key m k%Sc.pM)).map bv).toArray) (qF 29 #[fv (ansS d key m k)] (λw=>Sc.bytes_any w _ (Sc.mod_lt _))) ?_
 refine Sy.makeD 6 rfl kR kR 26 (Zl 32).toArray ptr kF (λg6=>?_)
 refine Sy.writeD 7 rfl kR (by rfl) kR 6 g6 26 (Zl 32).toArray ((bytesS (ansS d key m k%Sc.pM)).map bv).toArray kR (Writes.store 0 26 ((bytesS (ansS d key m k%Sc.pM)).map bv).toArray _ _ rfl kR kR (by rw [key_sz (bytesS (ansS d key m k%Sc.pM)) (bytesS_length _)]; kernel_rfl) (by rw [key_sz (bytesS (ansS d key m k%Sc.pM)) (bytesS_length _)]; exact Nat.le_of_ble_eq_true kR) (key_one _) (key_set _ _ (by rw [(bytesS_length _)]; kernel_rfl))) ?_
 refine sE ?_
 refine sR (λj=>j == 6) ?_
 refine sZ 0 rfl (.slice (some ⟨g4,0,none⟩) 32 32)<|sZ 1 rfl (.slice (some ⟨g6,0,none⟩) 32 32) ?_
 refine Sy.makeD 2 rfl kR kR 39 #[.slice (some ⟨g4,0,none⟩) 32 32,.slice (some ⟨g6,0,none⟩) 32 32] (λg=>.slice (some ⟨g,0,none⟩) 2 2) kF (λg7=>?_)
 refine Sy.callND 3 rfl kR kR 32 #[.slice (some ⟨g7,0,none⟩) 2 2] kF (λvq Mq=>∃ (g:Nat) (sp:List Value) (cap:Nat),vq=.slice (some ⟨g,0,none⟩) 64 cap∧Mq=[(g,5,(((evX (evP k))++(bytesS (ansS d key m k%Sc.pM))).map bv++sp).toArray)]) (λw hw=>concat2_c w g7 g4 g6 _ _ _ (evX (evP k)) (bytesS (ansS d key m k%Sc.pM)) (evX_length _) (bytesS_length _) (hw.get (i:=4) rfl) (hw.get (i:=6) rfl) (hw.get (i:=7) rfl)) (λvq Mq hR0=>?_)
 obtain ⟨g9,sp9,cp9,rfl,rfl⟩:=hR0
 refine sZ 4 rfl (.pointer (some ⟨g9,0,none⟩))<|sD 5 rfl (.agg (((evX (evP k))++(bytesS (ansS d key m k%Sc.pM))).map bv).toArray) (Quiet.load 8 g9 0 64 5 36 (((evX (evP k))++(bytesS (ansS d key m k%Sc.pM))).map bv++sp9).toArray _ _ rfl kR kR Tryz.underlying36 rfl kR _ (own_agg (cat_length (evX_length _) (bytesS_length _))) (own_sz2 (cat_length (evX_length _) (bytesS_length _))))<|sX 6 rfl 3 g3 36 (Zl 64).toArray (((evX (evP k))++(bytesS (ansS d key m k%Sc.pM))).map bv).toArray (Writes.store 0 36 (((evX (evP k))++(bytesS (ansS d key m k%Sc.pM))).map bv).toArray _ _ rfl kR kR (by rw [key_sz ((evX (evP k))++(bytesS (ansS d key m k%Sc.pM))) (cat_length (evX_length _) (bytesS_length _))]; kernel_rfl) (by rw [key_sz ((evX (evP k))++(bytesS (ansS d key m k%Sc.pM))) (cat_length (evX_length _) (bytesS_length _))]; exact Nat.le_of_ble_eq_true kR) (key_one _) (key_set _ _ (by rw [(cat_length (evX_length _) (bytesS_length _))]; kernel_rfl))) ?_
 refine Sy.anyOf [7] kR (by decide) (Sy.each1 ?_)
 refine Sy.oneQuiet rfl kR (.bool true) qP ?_
 refine sI ?_
 refine Sy.ret ?_
 exact Sy.ret2 (v:=.agg (((evX (evP k))++(bytesS (ansS d key m k%Sc.pM))).map bv).toArray) (u:=.bool true) rfl (.inl (Res.cell (ty':=36) g3 3 (((evX (evP k))++(bytesS (ansS d key m k%Sc.pM))).map bv).toArray _ kR kR Tryz.underlying36 rfl (by rw [key_sz ((evX (evP k))++(bytesS (ansS d key m k%Sc.pM))) (cat_length (evX_length _) (bytesS_length _))]; kernel_rfl) kR)) (.inl (show _=_ by kernel_rfl))
end Cu
end
section
namespace Cu
open Go.RowKit Sy
set_option maxRecDepth 100000
set_option maxHeartbeats 4000000
def nonS (sec:Nat) (m:List UInt8):Nat:=nonceS (evD sec) (evX (evP sec)) m
theorem nonS_lt (sec:Nat) (m:List UInt8):nonS sec m<K4:=Sc.mod_lt _
def signB (sec:Nat) (m:List UInt8):Bool:=(evP sec).isSome && (evP (nonS sec m)).isSome
def signL (sec:Nat) (m:List UInt8):List UInt8:=if signB sec m=true then sigS (evD sec) (evX (evP sec)) m (nonS sec m) else List.replicate 64 0
theorem Sign_no (w:World) (sec:Nat) (hsec:sec<K4) (hsm:(evP sec).isSome=false) (A:Option Addr) (m:List UInt8) (n c:Nat) (hn:m.length=n) (hm:n≤999999900) (hc:n≤c) (hc2:c≤9223372036854775807) (hs:Sh.Src w A m) (ht:Sh.TabAt w 0):Calls Tryz.prog 6 #[fv sec,.slice A n c] w (Gets w (.tuple #[.agg ((List.replicate 64 (0:UInt8)).map bv).toArray,.bool false])):=by
 refine Sy.enter (args:=[fv sec,.slice A n c]) Tryz.func6 rfl kL ?_
 refine sC ?_
 refine sM 30 (fcs sec) (λg0=>?_)
 refine sM 36 (Zl 64).toArray (λg1=>?_)
 refine sP (.bool false) ?_
 refine sA ?_
 refine sS (fv sec) (qL 0 g0 0 4 30 30 (fcs sec) rfl Tryz.underlying30)<|sS (.tuple #[fv (evD sec),.agg ((evX (evP sec)).map bv).toArray,.bool false]) (qF 13 #[fv sec] (λw=>by have q:=even_any w sec hsec; rw [hsm] at q; exact q))<|sP (.tuple #[fv (evD sec),.agg ((evX (evP sec)).map bv).toArray,.bool false])<|sP (fv (evD sec))<|sP (.agg ((evX (evP sec)).map bv).toArray)<|sP (.bool false) ?_
 refine sM 30 (fcs 0) (λg2=>?_)
 refine sM 31 (Zl 32).toArray (λg3=>?_)
 refine sW 2 g2 30 (fcs 0) (fcs (evD sec)) (wS 0 30 (fcs (evD sec)) rfl)<|sW 3 g3 31 (Zl 32).toArray ((evX (evP sec)).map bv).toArray (Writes.store 0 31 ((evX (evP sec)).map bv).toArray _ _ rfl kR kR (by rw [key_sz (evX (evP sec)) (evX_length _)]; kernel_rfl) (by rw [key_sz (evX (evP sec)) (evX_length _)]; exact Nat.le_of_ble_eq_true kR) (key_one _) (key_set _ _ (by rw [(evX_length _)]; kernel_rfl)))<|sP (.bool false) ?_
 refine sG<|Sy.seq<|sC ?_
 refine sP (.bool false)<|sP (.bool true) ?_
 refine sG<|sT<|sC ?_
 refine sP (.agg ((Zl 64):List Value).toArray)<|sW 1 g1 36 (Zl 64).toArray (Zl 64).toArray (wS 0 36 (Zl 64).toArray rfl)<|sP (.bool false) ?_
 refine sG<|Sy.ret<|Sy.then_ret ?_
 rw [show (.tuple #[.agg ((List.replicate 64 (0:UInt8)).map bv).toArray,.bool false]:Value)=.tuple #[.agg ((Zl 64):List Value).toArray,.bool false] from by kernel_rfl]
 exact Sy.ret2 (v:=.agg ((Zl 64):List Value).toArray) (u:=.bool false) rfl (.inl (Res.cell (ty':=36) g1 1 (Zl 64).toArray _ kR kR Tryz.underlying36 rfl kR kR)) (.inl (show _=_ by kernel_rfl))
theorem Sign_no2 (w:World) (sec:Nat) (hsec:sec<K4) (hsm:(evP sec).isSome=true) (A:Option Addr) (m:List UInt8) (n c:Nat) (hn:m.length=n) (hm:n≤999999900) (hc:n≤c) (hc2:c≤9223372036854775807) (hs:Sh.Src w A m) (ht:Sh.TabAt w 0) (hsk:(evP (nonS sec m)).isSome=false):Calls Tryz.prog 6 #[fv sec,.slice A n c] w (Gets w (.tuple #[.agg ((List.replicate 64 (0:UInt8)).map bv).toArray,.bool false])):=by
 refine Sy.enter (args:=[fv sec,.slice A n c]) Tryz.func6 rfl kL ?_
 refine sC ?_
 refine sM 30 (fcs sec) (λg0=>?_)
 refine sM 36 (Zl 64).toArray (λg1=>?_)
 refine sP (.bool false) ?_
 refine sA ?_
 refine sS (fv sec) (qL 0 g0 0 4 30 30 (fcs sec) rfl Tryz.underlying30)<|sS (.tuple #[fv (evD sec),.agg ((evX (evP sec)).map bv).toArray,.bool true]) (qF 13 #[fv sec] (λw=>by have q:=even_any w sec hsec; rw [hsm] at q; exact q))<|sP (.tuple #[fv (evD sec),.agg ((evX (evP sec)).map bv).toArray,.bool true])<|sP (fv (evD sec))<|sP (.agg ((evX (evP sec)).map bv).toArray)<|sP (.bool true) ?_
 refine sM 30 (fcs 0) (λg2=>?_)
 refine sM 31 (Zl 32).toArray (λg3=>?_)
 refine sW 2 g2 30 (fcs 0) (fcs (evD sec)) (wS 0 30 (fcs (evD sec)) rfl)<|sW 3 g3 31 (Zl 32).toArray ((evX (evP sec)).map bv).toArray (Writes.store 0 31 ((evX (evP sec)).map bv).toArray _ _ rfl kR kR (by rw [key_sz (evX (evP sec)) (evX_length _)]; kernel_rfl) (by rw [key_sz (evX (evP sec)) (evX_length _)]; exact Nat.le_of_ble_eq_true kR) (key_one _) (key_set _ _ (by rw [(evX_length _)]; kernel_rfl)))<|sP (.bool true) ?_
 refine sG<|Sy.seq<|sC ?_
 refine sP (.bool true)<|sP (.bool false) ?_
 refine sG<|sU<|Sy.skip ?_
 refine sR (λj=>j == 10) ?_
 refine sD 0 rfl (fv (evD sec)) (qL 2 g2 0 4 30 30 (fcs (evD sec)) rfl Tryz.underlying30)<|sD 1 rfl (.agg ((evX (evP sec)).map bv).toArray) (Quiet.load 3 g3 0 32 31 31 ((evX (evP sec)).map bv).toArray _ _ rfl kR kR Tryz.underlying31 rfl kR _ (key_whole (evX (evP sec)) (evX_length _)) (key_size (evX (evP sec)) (evX_length _)))<|sZ 2 rfl (.slice A n c)<|sD 3 rfl (fv (evD sec)) (qL 2 g2 0 4 30 30 (fcs (evD sec)) rfl Tryz.underlying30)<|sD 4 rfl (.agg ((evX (evP sec)).map bv).toArray) (Quiet.load 3 g3 0 32 31 31 ((evX (evP sec)).map bv).toArray _ _ rfl kR kR Tryz.underlying31 rfl kR _ (key_whole (evX (evP sec)) (evX_length _)) (key_size (evX (evP sec)) (evX_length _)))<|sZ 5 rfl (.slice A n c)<|sD 6 rfl (fv (nonS sec m)) (qG 16 #[fv (evD sec),.agg ((evX (evP sec)).map bv).toArray,.slice A n c] (λw hw=>nonce_any w _ (evD_lt sec hsec) _ (evX_length _) A m n c hn hm hc hc2 (hs.below hw.below) (ht.below hw.below ht.lt)))<|sD 7 rfl (.tuple #[.agg ((List.replicate 64 (0:UInt8)).map bv).toArray,.bool false]) (qG 15 #[fv (evD sec),.agg ((evX (evP sec)).map bv).toArray,.slice A n c,fv (nonS sec m)] (λw hw=>sign_none w _ _ (evD_lt sec hsec) (nonS_lt sec m) hsk _ (evX_length _) A m n c hn hm hc hc2 (hs.below hw.below) (ht.below hw.below ht.lt))) ?_
 refine sZ 8 rfl (.agg ((List.replicate 64 (0:UInt8)).map bv).toArray)<|sZ 9 rfl (.bool false)<|sX 10 rfl 1 g1 36 (Zl 64).toArray ((List.replicate 64 (0:UInt8)).map bv).toArray (Writes.store 0 36 ((List.replicate 64 (0:UInt8)).map bv).toArray _ _ rfl kR kR (by rw [key_sz (List.replicate 64 (0:UInt8)) (List.length_replicate)]; kernel_rfl) (by rw [key_sz (List.replicate 64 (0:UInt8)) (List.length_replicate)]; exact Nat.le_of_ble_eq_true kR) (key_one _) (key_set _ _ (by rw [(List.length_replicate)]; kernel_rfl))) ?_
 refine Sy.anyOf [11] kR (by decide) (Sy.each1 ?_)
 refine Sy.oneQuiet rfl kR (.bool false) qP ?_
 refine sI ?_
 refine Sy.ret ?_
 exact Sy.ret2 (v:=.agg ((List.replicate 64 (0:UInt8)).map bv).toArray) (u:=.bool false) rfl (.inl (Res.cell (ty':=36) g1 1 ((List.replicate 64 (0:UInt8)).map bv).toArray _ kR kR Tryz.underlying36 rfl (by rw [key_sz (List.replicate 64 (0:UInt8)) (List.length_replicate)]; kernel_rfl) kR)) (.inl (show _=_ by kernel_rfl))
theorem Sign_yes (w:World) (sec:Nat) (hsec:sec<K4) (hsm:(evP sec).isSome=true) (A:Option Addr) (m:List UInt8) (n c:Nat) (hn:m.length=n) (hm:n≤999999900) (hc:n≤c) (hc2:c≤9223372036854775807) (hs:Sh.Src w A m) (ht:Sh.TabAt w 0) (hsk:(evP (nonS sec m)).isSome=true):Calls Tryz.prog 6 #[fv sec,.slice A n c] w (Gets w (.tuple #[.agg ((sigS (evD sec) (evX (evP sec)) m (nonS sec m)).map bv).toArray,.bool true])):=by
 refine Sy.enter (args:=[fv sec,.slice A n c]) Tryz.func6 rfl kL ?_
 refine sC ?_
 refine sM 30 (fcs sec) (λg0=>?_)
 refine sM 36 (Zl 64).toArray (λg1=>?_)
 refine sP (.bool false) ?_
 refine sA ?_
 refine sS (fv sec) (qL 0 g0 0 4 30 30 (fcs sec) rfl Tryz.underlying30)<|sS (.tuple #[fv (evD sec),.agg ((evX (evP sec)).map bv).toArray,.bool true]) (qF 13 #[fv sec] (λw=>by have q:=even_any w sec hsec; rw [hsm] at q; exact q))<|sP (.tuple #[fv (evD sec),.agg ((evX (evP sec)).map bv).toArray,.bool true])<|sP (fv (evD sec))<|sP (.agg ((evX (evP sec)).map bv).toArray)<|sP (.bool true) ?_
 refine sM 30 (fcs 0) (λg2=>?_)
 refine sM 31 (Zl 32).toArray (λg3=>?_)
 refine sW 2 g2 30 (fcs 0) (fcs (evD sec)) (wS 0 30 (fcs (evD sec)) rfl)<|sW 3 g3 31 (Zl 32).toArray ((evX (evP sec)).map bv).toArray (Writes.store 0 31 ((evX (evP sec)).map bv).toArray _ _ rfl kR kR (by rw [key_sz (evX (evP sec)) (evX_length _)]; kernel_rfl) (by rw [key_sz (evX (evP sec)) (evX_length _)]; exact Nat.le_of_ble_eq_true kR) (key_one _) (key_set _ _ (by rw [(evX_length _)]; kernel_rfl)))<|sP (.bool true) ?_
 refine sG<|Sy.seq<|sC ?_
 refine sP (.bool true)<|sP (.bool false) ?_
 refine sG<|sU<|Sy.skip ?_
 refine sR (λj=>j == 10) ?_
 refine sD 0 rfl (fv (evD sec)) (qL 2 g2 0 4 30 30 (fcs (evD sec)) rfl Tryz.underlying30)<|sD 1 rfl (.agg ((evX (evP sec)).map bv).toArray) (Quiet.load 3 g3 0 32 31 31 ((evX (evP sec)).map bv).toArray _ _ rfl kR kR Tryz.underlying31 rfl kR _ (key_whole (evX (evP sec)) (evX_length _)) (key_size (evX (evP sec)) (evX_length _)))<|sZ 2 rfl (.slice A n c)<|sD 3 rfl (fv (evD sec)) (qL 2 g2 0 4 30 30 (fcs (evD sec)) rfl Tryz.underlying30)<|sD 4 rfl (.agg ((evX (evP sec)).map bv).toArray) (Quiet.load 3 g3 0 32 31 31 ((evX (evP sec)).map bv).toArray _ _ rfl kR kR Tryz.underlying31 rfl kR _ (key_whole (evX (evP sec)) (evX_length _)) (key_size (evX (evP sec)) (evX_length _)))<|sZ 5 rfl (.slice A n c)<|sD 6 rfl (fv (nonS sec m)) (qG 16 #[fv (evD sec),.agg ((evX (evP sec)).map bv).toArray,.slice A n c] (λw hw=>nonce_any w _ (evD_lt sec hsec) _ (evX_length _) A m n c hn hm hc hc2 (hs.below hw.below) (ht.below hw.below ht.lt)))<|sD 7 rfl (.tuple #[.agg ((sigS (evD sec) (evX (evP sec)) m (nonS sec m)).map bv).toArray,.bool true]) (qG 15 #[fv (evD sec),.agg ((evX (evP sec)).map bv).toArray,.slice A n c,fv (nonS sec m)] (λw hw=>sign_some w _ _ (evD_lt sec hsec) (nonS_lt sec m) hsk _ (evX_length _) A m n c hn hm hc hc2 (hs.below hw.below) (ht.below hw.below ht.lt))) ?_
 refine sZ 8 rfl (.agg ((sigS (evD sec) (evX (evP sec)) m (nonS sec m)).map bv).toArray)<|sZ 9 rfl (.bool true)<|sX 10 rfl 1 g1 36 (Zl 64).toArray ((sigS (evD sec) (evX (evP sec)) m (nonS sec m)).map bv).toArray (Writes.store 0 36 ((sigS (evD sec) (evX (evP sec)) m (nonS sec m)).map bv).toArray _ _ rfl kR kR (by rw [key_sz (sigS (evD sec) (evX (evP sec)) m (nonS sec m)) (sigS_length _ _ _ _)]; kernel_rfl) (by rw [key_sz (sigS (evD sec) (evX (evP sec)) m (nonS sec m)) (sigS_length _ _ _ _)]; exact Nat.le_of_ble_eq_true kR) (key_one _) (key_set _ _ (by rw [(sigS_length _ _ _ _)]; kernel_rfl))) ?_
 refine Sy.anyOf [11] kR (by decide) (Sy.each1 ?_)
 refine Sy.oneQuiet rfl kR (.bool true) qP ?_
 refine sI ?_
 refine Sy.ret ?_
 exact Sy.ret2 (v:=.agg ((sigS (evD sec) (evX (evP sec)) m (nonS sec m)).map bv).toArray) (u:=.bool true) rfl (.inl (Res.cell (ty':=36) g1 1 ((sigS (evD sec) (evX (evP sec)) m (nonS sec m)).map bv).toArray _ kR kR Tryz.underlying36 rfl (by rw [key_sz (sigS (evD sec) (evX (evP sec)) m (nonS sec m)) (sigS_length _ _ _ _)]; kernel_rfl) kR)) (.inl (show _=_ by kernel_rfl))
theorem Sign_any (w:World) (sec:Nat) (hsec:sec<K4) (A:Option Addr) (m:List UInt8) (n c:Nat) (hn:m.length=n) (hm:n≤999999900) (hc:n≤c) (hc2:c≤9223372036854775807) (hs:Sh.Src w A m) (ht:Sh.TabAt w 0):Calls Tryz.prog 6 #[fv sec,.slice A n c] w (Gets w (.tuple #[.agg ((signL sec m).map bv).toArray,.bool (signB sec m)])):=by
 unfold signL
 cases h1:(evP sec).isSome with
 | false =>
  rw [show signB sec m=false from by unfold signB; rw [h1]; rfl,if_neg (by decide)]
  exact Sign_no w sec hsec h1 A m n c hn hm hc hc2 hs ht
 | true =>
  cases h2:(evP (nonS sec m)).isSome with
  | false =>
   rw [show signB sec m=false from by unfold signB; rw [h1,h2]; rfl,if_neg (by decide)]
   exact Sign_no2 w sec hsec h1 A m n c hn hm hc hc2 hs ht h2
  | true =>
   rw [show signB sec m=true from by unfold signB; rw [h1,h2]; rfl,if_pos rfl]
   exact Sign_yes w sec hsec h1 A m n c hn hm hc hc2 hs ht h2
end Cu
end
section
namespace Cu
open Go.RowKit Sy
set_option maxRecDepth 100000
set_option maxHeartbeats 4000000
section
variable {P:Program} {w0:Base} {n:Nat} {F:Slots} {L:Blocks}
end
end Cu
end
section
section
open Go.RowKit Go.Lib
end
end
section
namespace Cu
open Go.RowKit Sy
end Cu
end
section
namespace Cu
open Go.RowKit Sy
set_option maxRecDepth 100000
set_option maxHeartbeats 4000000
section
variable {P:Program} {w0:Base} {F:Slots} {L:Blocks} {o:Oper}
theorem Quiet.read {v:Value} (h:∀ w,St w0 w L→(execOp (evF F) o).run P w=.ok (.value v) w):Quiet P w0 F L o v:=λw hw=>by
 unfold Gives; rw [h w hw]; exact ⟨rfl,Gr.refl _⟩
end
theorem str_of {w:World} {A:Option Addr} {m:List UInt8} {c:Nat} (h:Src w A m) (hm:m≠[]) :
  (convert 39 9 (.slice A m.length c)).run Tryz.prog w=.ok (.string ⟨m.toArray⟩) w:=by
 obtain ⟨b,o,rfl,_,hc⟩:=h hm
 refine run_convert_bytes_back w 39 9 5 _ c m Tryz.underlying39 Tryz.underlying5 Tryz.underlying9 (λj hj=>?_)
 rw [addr_off]
 exact hc j _ (List.getElem?_eq_getElem hj)
theorem str_src {w0:Base} {F:Slots} {L:Blocks} {o:Oper} (A:Option Addr) (m:List UInt8) (k c:Nat) (x:Operand) (ho:o.op=.convert 39 9 x) (hx:evF F x=.slice A k c) (hm:m.length=k) (hk:k≠0) (hs:Src w0.world A m):Quiet Tryz.prog w0 F L o (.string ⟨m.toArray⟩):=Quiet.read λw hw=>by
 have h:=str_of (c:=c) (hs.below hw.below) (by intro e; rw [e] at hm; exact hk hm.symm)
 rw [hm] at h
 unfold execOp
 simp only [ho,hx,Sem.run_bind,h,Result.andThen_ok,Sem.run_pure]
theorem eql_str (w:World) (F:Slots) (o:Oper) (x y:Operand) (a b:List UInt8) {yt:TypeId} (ho:o.op=.binOp .eql 9 x y yt) (hx:evF F x=.string ⟨a.toArray⟩) (hy:evF F y=.string ⟨b.toArray⟩):(execOp (evF F) o).run Tryz.prog w=.ok (.value (.bool (decide (a=b)))) w:=by
 have h1:(eqGuard .eql 9 x y (.string ⟨a.toArray⟩) (.string ⟨b.toArray⟩)).run Tryz.prog w=.ok () w:=by go_simp
 have h2:(binOp .eql 9 (.string ⟨a.toArray⟩) (.string ⟨b.toArray⟩)).run Tryz.prog w=.ok (.bool (decide (a=b))) w:=by
  by_cases e:a=b <;> simp [go_sem,ByteArray.toList_eq,e]
 unfold execOp
 simp only [ho,hx,hy,Sem.run_bind,h1,h2,Result.andThen_ok,Sem.run_pure]
end Cu
end
section
namespace Cu
open Go.RowKit Sy
set_option maxRecDepth 100000
set_option maxHeartbeats 4000000
theorem equal_any (w:World) (A A2:Option Addr) (l m:List UInt8) (n k c d:Nat) (hl:l.length=n) (hm:m.length=k) (hn:n≠0) (hk:k≠0) (hs:Src w A l) (ht:Src w A2 m):Calls Tryz.prog 48 #[.slice A n c,.slice A2 k d] w (Gets w (.bool (decide (l=m)))):=by
 refine Sy.enter (args:=[.slice A n c,.slice A2 k d]) Tryz.func48 rfl kL ?_
 refine sC ?_
 refine sP (.bool false) ?_
 refine sA ?_
 refine sP (.slice A n c)<|sS (.string ⟨l.toArray⟩) (str_src A l n c _ rfl rfl hl hn hs)<|sP (.slice A2 k d)<|sS (.string ⟨m.toArray⟩) (str_src A2 m k d _ rfl rfl hm hk ht)<|sS (.bool (decide (l=m))) (Quiet.pure (λw=>eql_str w _ _ _ _ l m rfl rfl rfl))<|sP (.bool (decide (l=m))) ?_
 refine sG<|Sy.ret ?_
 exact rV (.bool (decide (l=m))) rfl
theorem src_part {w:World} {g:Nat} {t:TypeId} {l:List UInt8} (hb:Blk w g t (l.map bv).toArray) (k n:Nat):Src w (some ⟨g,k,none⟩) ((l.drop k).take n):=λ_=>⟨g,k,rfl,hb.lt,λj u hj=>by
 refine (hb.cell (k+j)).trans ?_
 rw [List.getElem?_take] at hj
 split at hj
 ·rw [List.getElem?_drop] at hj
  rw [List.getElem?_toArray,List.getElem?_map,hj]
  rfl
 ·cases hj⟩
theorem key_part {l:List UInt8} (k n:Nat):Value.agg ((((l.map bv).toArray).toList.drop k).take n).toArray=.agg (((l.drop k).take n).map bv).toArray:=by
 rw [List.map_take,List.map_drop]
theorem part_size {l:List UInt8} {N:Nat} (h:l.length=N) {k n:Nat} (hk:k+n≤N):k+n≤((l.map bv).toArray).size:=by
 rw [key_sz l h]; exact hk
theorem part_len {l:List UInt8} {N:Nat} (h:l.length=N) {k n:Nat} (hk:k+n≤N):((l.drop k).take n).length=n:=by
 rw [List.length_take,List.length_drop,h]; omega
def trl (k x y:Nat) (i:Bool):List Value:=fws k++(fws x++(fws y++[Value.bool i]))
def two (z e px py:Nat) (pi:Bool) (j:Nat):Trm:=if j=0 then ⟨z,gx.val,gy.val,false⟩ else ⟨e,px,py,pi⟩
def rPt (z e px py:Nat) (pi:Bool):Pt:=Ec.add finv (Ec.nm finv (z%Sc.pM) bP) (Ec.nm finv (e%Sc.pM) (dec px py pi))
theorem rPt_on (z e px py:Nat) (pi:Bool):Ec.On (rPt z e px py pi):=Ec.On.add fld (bP_on.nm fld _) ((dec_on _ _ _).nm fld _)
theorem two_c (w:World) (g:Nat) (t:TypeId) (z e px py:Nat) (pi:Bool) (hz:z<K4) (he:e<K4) (hx:px<K4) (hy:py<K4) (hb:Blk w g t (trl z gx.val gy.val false++trl e px py pi).toArray):Calls Tryz.prog 47 #[.slice (some ⟨g,0,none⟩) 2 2] w (Gets w (ptv (rPt z e px py pi))):=by
 have hr:w.rangeAt g 0 (trl z gx.val gy.val false++trl e px py pi):=blk_range hb (by rw [List.drop_zero]; exact List.take_of_length_le (Nat.le_refl _))
 have h:=multi_any w (some ⟨g,0,none⟩) g 0 2 2 (two z e px py pi) (Nat.le_refl _) (by decide) (λj=>by
  unfold two
  split
  ·exact ⟨hz,lt4 _,lt4 _⟩
  ·exact ⟨he,hx,hy⟩) (λ_=>⟨rfl,hb.lt,λj hj=>by
  rcases j with _ | _ | j
  ·exact range_left hr
  ·exact range_right hr rfl
  ·omega⟩)
 have e0:Ec.sumL finv (λt=>Ec.nm finv (two z e px py pi t).kn (two z e px py pi t).pt) (List.range 2)=rPt z e px py pi:=by
  have d0:dec gx.val gy.val false=bP:=dec_fin gx gy bP_on
  unfold rPt
  rw [← d0]
  show Ec.add finv (Ec.add finv none (Ec.nm finv (z%Sc.pM) (dec gx.val gy.val false))) (Ec.nm finv (e%Sc.pM) (dec px py pi))=_
  rw [Ec.zero_add]
 rw [e0] at h
 exact h
def ansB (s:List UInt8) (e px py:Nat) (pi:Bool):Bool :=
 (Sc.readS ((s.drop 32).take 32)).2 && (decide ((encS (rPt (Sc.readS ((s.drop 32).take 32)).1 (Sc.negP e) px py pi)).getD 0 0=UInt8.ofNat 2) && decide (((encS (rPt (Sc.readS ((s.drop 32).take 32)).1 (Sc.negP e) px py pi)).drop 1).take 32=(s.drop 0).take 32))
theorem readS_lt (l:List UInt8):(Sc.readS l).1<K4:=by
 unfold Sc.readS
 split
 ·exact Nat.lt_trans (by assumption) (by decide)
 ·show 0<_; decide
theorem enc_any' (w:World) {R:Pt} (h:Ec.On R):Calls Tryz.prog 25 #[pv (pX R) (pY R) (pI R)] w (Gets w (.agg ((encS R).map bv).toArray)):=by
 have q:=enc_any w (pX R) (pY R) (pI R) (pX_lt R) (pY_lt R)
 rw [dec_parts h] at q
 exact q
theorem answers_any (w:World) (s:List UInt8) (hs:s.length=64) (e:Nat) (he:e<K4) (px py:Nat) (pi:Bool) (hpx:px<K4) (hpy:py<K4):Calls Tryz.prog 23 #[.agg (s.map bv).toArray,fv e,pv px py pi] w (Gets w (.bool (ansB s e px py pi))):=by
 refine Sy.enter (args:=[.agg (s.map bv).toArray,fv e,pv px py pi]) Tryz.func23 rfl kL ?_
 refine sC ?_
 refine sM 36 (s.map bv).toArray (λg0=>?_)
 refine sM 30 (fcs e) (λg1=>?_)
 refine sM 66 (pcs px py pi) (λg2=>?_)
 refine sP (.bool false) ?_
 refine sA ?_
 refine sP (.slice (some ⟨g0,32,none⟩) 32 32)<|sP (.pointer (some ⟨g0,32,none⟩))<|sS (.agg (((s.drop 32).take 32).map bv).toArray) (Quiet.load 0 g0 32 32 36 26 (s.map bv).toArray _ _ rfl kR kR Tryz.underlying26 rfl kR _ (key_part 32 32) (part_size hs (by decide))) ?_
 obtain ⟨b1,hb1⟩:∃ z:Bool,z=(Sc.readS ((s.drop 32).take 32)).2:=⟨_,rfl⟩
 refine sS (.tuple #[fv ((Sc.readS ((s.drop 32).take 32)).1),.bool b1]) (qF 46 #[.agg (((s.drop 32).take 32).map bv).toArray] (λw=>by rw [hb1]; exact Sc.read_any w _ (part_len hs (by decide))))<|sP (.tuple #[fv ((Sc.readS ((s.drop 32).take 32)).1),.bool b1])<|sP (fv ((Sc.readS ((s.drop 32).take 32)).1))<|sP (.bool b1) ?_
 refine sM 30 (fcs 0) (λg3=>?_)
 refine sW 3 g3 30 (fcs 0) (fcs ((Sc.readS ((s.drop 32).take 32)).1)) (wS 0 30 (fcs ((Sc.readS ((s.drop 32).take 32)).1)) rfl)<|sP (.bool b1) ?_
 refine sG<|Sy.seq<|sC ?_
 refine sP (.bool b1) ?_
 cases b1
 ·refine sP (.bool true) ?_
  refine sG<|sT<|sC ?_
  refine sP (.bool false) ?_
  refine sG<|Sy.ret<|Sy.then_ret ?_
  rw [show (.bool (ansB s e px py pi):Value)=.bool false from by unfold ansB; rw [← hb1]; rfl]
  exact rV (.bool false) rfl
 ·refine sP (.bool false) ?_
  refine sG<|sU<|Sy.skip ?_
  refine sR (λj=>j == 11) ?_
  refine sD 0 rfl (fv ((Sc.readS ((s.drop 32).take 32)).1)) (qL 3 g3 0 4 30 30 (fcs ((Sc.readS ((s.drop 32).take 32)).1)) rfl Tryz.underlying30)<|sD 1 rfl (pv gx.val gy.val false) (qF 27 #[] (base_c))<|sZ 2 rfl (trv ((Sc.readS ((s.drop 32).take 32)).1) gx.val gy.val false)<|sD 3 rfl (fv e) (qL 1 g1 0 4 30 30 (fcs e) rfl Tryz.underlying30)<|sD 4 rfl (fv (Sc.negP e)) (qF 28 #[fv e] (λw=>Sc.negF_any w e he))<|sD 5 rfl (pv px py pi) (qL 2 g2 0 9 66 66 (pcs px py pi) rfl Tryz.underlying66)<|sZ 6 rfl (trv (Sc.negP e) px py pi) ?_
  refine Sy.joinD (λgq=>[(0,.agg (s.map bv).toArray),(1,fv e),(2,pv px py pi),(3,.pointer (some ⟨g0,0,none⟩)),(4,.pointer (some ⟨g1,0,none⟩)),(5,.pointer (some ⟨g2,0,none⟩)),(6,.bool false),(7,.pointer (some ⟨g3,0,none⟩)),(8,.bool true),(9,.pointer (some ⟨(gq 1),0,none⟩)),(10,.tuple #[fv ((Sc.readS ((s.drop 32).take 32)).1),.bool true]),(11,.slice (some ⟨g0,32,none⟩) 32 32),(12,.pointer (some ⟨g0,32,none⟩)),(13,.agg (((s.drop 32).take 32).map bv).toArray),(14,.tuple #[fv ((Sc.readS ((s.drop 32).take 32)).1),.bool true]),(15,fv ((Sc.readS ((s.drop 32).take 32)).1)),(16,.bool true),(17,.bool true),(18,.bool false),(19,fv ((Sc.readS ((s.drop 32).take 32)).1)),(20,pv gx.val gy.val false),(21,trv ((Sc.readS ((s.drop 32).take 32)).1) gx.val gy.val false),(22,fv e),(23,fv (Sc.negP e)),(24,pv px py pi),(25,trv (Sc.negP e) px py pi),(26,.slice (some ⟨(gq 0),0,none⟩) 2 2),(27,pv (pX (rPt (Sc.readS ((s.drop 32).take 32)).1 (Sc.negP e) px py pi)) (pY (rPt (Sc.readS ((s.drop 32).take 32)).1 (Sc.negP e) px py pi)) (pI (rPt (Sc.readS ((s.drop 32).take 32)).1 (Sc.negP e) px py pi))),(28,.agg ((encS (rPt (Sc.readS ((s.drop 32).take 32)).1 (Sc.negP e) px py pi)).map bv).toArray)]) (λgq=>[(g0,36,(s.map bv).toArray),(g1,30,(fcs e)),(g2,66,(pcs px py pi)),(g3,30,(fcs ((Sc.readS ((s.drop 32).take 32)).1))),((gq 0),100,(trl ((Sc.readS ((s.drop 32).take 32)).1) gx.val gy.val false++(trl (Sc.negP e) px py pi)).toArray),((gq 1),71,(Zl 33).toArray)]) 1 #[true,true,true,true,true,true,true,true,true,true,true,false] (λgq=>?_) (λfin=>?_)
  ·refine Sy.writeD 11 rfl kR (by rfl) kR 5 (gq 1) 71 (Zl 33).toArray ((encS (rPt (Sc.readS ((s.drop 32).take 32)).1 (Sc.negP e) px py pi)).map bv).toArray kR (Writes.store 0 71 ((encS (rPt (Sc.readS ((s.drop 32).take 32)).1 (Sc.negP e) px py pi)).map bv).toArray _ _ rfl kR kR (by rw [key_sz (encS (rPt (Sc.readS ((s.drop 32).take 32)).1 (Sc.negP e) px py pi)) (encS_length _)]; kernel_rfl) (by rw [key_sz (encS (rPt (Sc.readS ((s.drop 32).take 32)).1 (Sc.negP e) px py pi)) (encS_length _)]; exact Nat.le_of_ble_eq_true kR) (key_one _) (key_set _ _ (by rw [(encS_length _)]; kernel_rfl))) ?_
   refine sE ?_
   refine sR (λj=>false) ?_
   refine sZ 0 rfl (.pointer (some ⟨(gq 1),0,none⟩))<|sD 1 rfl (bv ((encS (rPt (Sc.readS ((s.drop 32).take 32)).1 (Sc.negP e) px py pi)).getD 0 0)) (Quiet.cell 5 (gq 1) 0 71 5 ((encS (rPt (Sc.readS ((s.drop 32).take 32)).1 (Sc.negP e) px py pi)).map bv).toArray _ _ rfl kR kR Tryz.underlying5 rfl _ (key_at (encS (rPt (Sc.readS ((s.drop 32).take 32)).1 (Sc.negP e) px py pi)) (encS_length _) 0 (by decide))) ?_
   obtain ⟨b2,hb2⟩:∃ z:Bool,z=decide (((encS (rPt (Sc.readS ((s.drop 32).take 32)).1 (Sc.negP e) px py pi)).getD 0 0)=UInt8.ofNat 2):=⟨_,rfl⟩
   refine sD 2 rfl (.bool b2) (Quiet.pure (λw=>by rw [hb2]; exact eql_u8 w _ _ _ _ _ 2 (by decide) rfl rfl rfl))<|sZ 3 rfl (.bool b2) ?_
   cases b2
   ·refine sQ 4 rfl<|sQ 5 rfl<|sQ 6 rfl<|sZ 7 rfl (.bool false)<|sZ 8 rfl (.bool false) ?_
    refine sI ?_
    refine Sy.ret ?_
    rw [show (.bool (ansB s e px py pi):Value)=.bool false from by unfold ansB; rw [← hb1, ← hb2]; rfl]
    exact rV (.bool false) rfl
   ·refine sZ 4 rfl (.slice (some ⟨(gq 1),1,none⟩) 32 32)<|sZ 5 rfl (.slice (some ⟨g0,0,none⟩) 32 64) ?_
    obtain ⟨b3,hb3⟩:∃ z:Bool,z=decide (((encS (rPt (Sc.readS ((s.drop 32).take 32)).1 (Sc.negP e) px py pi)).drop 1).take 32=(s.drop 0).take 32):=⟨_,rfl⟩
    refine sD 6 rfl (.bool b3) (qG 48 #[.slice (some ⟨(gq 1),1,none⟩) 32 32,.slice (some ⟨g0,0,none⟩) 32 64] (λw hw=>by rw [hb3]; exact equal_any w _ _ _ _ 32 32 _ _ (part_len (encS_length _) (by decide)) (part_len hs (by decide)) (by decide) (by decide) (src_part (hw.get (i:=5) rfl) 1 32) (src_part (hw.get (i:=0) rfl) 0 32)))<|sZ 7 rfl (.bool b3)<|sZ 8 rfl (.bool b3) ?_
    refine sI ?_
    refine Sy.ret ?_
    rw [show (.bool (ansB s e px py pi):Value)=.bool b3 from by unfold ansB; rw [← hb1, ← hb2, ← hb3]; rfl]
    exact rV (.bool b3) rfl
  ·refine Sy.anyOf [7,10] kR (by decide) (Sy.each2 ?_ ?_)
   ·refine Sy.oneMake rfl kR 100 (trl ((Sc.readS ((s.drop 32).take 32)).1) gx.val gy.val false++(trl (Sc.negP e) px py pi)).toArray (λg=>.slice (some ⟨g,0,none⟩) 2 2) kF (λg4=>?_)
    refine Sy.anyOf [8,10] kR (by decide) (Sy.each2 ?_ ?_)
    ·refine Sy.oneQuiet rfl kR (pv (pX (rPt (Sc.readS ((s.drop 32).take 32)).1 (Sc.negP e) px py pi)) (pY (rPt (Sc.readS ((s.drop 32).take 32)).1 (Sc.negP e) px py pi)) (pI (rPt (Sc.readS ((s.drop 32).take 32)).1 (Sc.negP e) px py pi))) (qG 47 #[.slice (some ⟨g4,0,none⟩) 2 2] (λw hw=>by rw [← ptv_parts]; exact two_c w g4 _ _ _ px py pi (readS_lt _) (Sc.mod_lt _) hpx hpy (hw.get (i:=4) rfl))) ?_
     refine Sy.anyOf [9,10] kR (by decide) (Sy.each2 ?_ ?_)
     ·refine Sy.oneQuiet rfl kR (.agg ((encS (rPt (Sc.readS ((s.drop 32).take 32)).1 (Sc.negP e) px py pi)).map bv).toArray) (qF 25 #[pv (pX (rPt (Sc.readS ((s.drop 32).take 32)).1 (Sc.negP e) px py pi)) (pY (rPt (Sc.readS ((s.drop 32).take 32)).1 (Sc.negP e) px py pi)) (pI (rPt (Sc.readS ((s.drop 32).take 32)).1 (Sc.negP e) px py pi))] (λw=>enc_any' w (rPt_on _ _ _ _ _))) ?_
      refine Sy.anyOf [10] kR (by decide) (Sy.each1 ?_)
      ·refine Sy.oneMake rfl kR 71 (Zl 33).toArray ptr kF (λg5=>?_)
       exact Sy.leafI fin (λi=>if i=0 then g4 else g5) kR (all_cons kR (all_cons kR (all_cons kR (all_cons kR (all_cons kR (all_cons kR (all_cons kR (all_cons kR (all_cons kR (all_cons kR (all_cons kR (all_cons kR (all_cons kR (all_cons kR (all_cons kR (all_cons kR (all_cons kR (all_cons kR (all_cons kR (all_cons kR (all_cons kR (all_cons kR (all_cons kR (all_cons kR (all_cons kR (all_cons kR (all_cons kR (all_cons kR (all_cons kR all_nil))))))))))))))))))))))))))))) kR
     ·refine Sy.oneMake rfl kR 71 (Zl 33).toArray ptr kF (λg6=>?_)
      refine Sy.anyOf [9] kR (by decide) (Sy.each1 ?_)
      ·refine Sy.oneQuiet rfl kR (.agg ((encS (rPt (Sc.readS ((s.drop 32).take 32)).1 (Sc.negP e) px py pi)).map bv).toArray) (qF 25 #[pv (pX (rPt (Sc.readS ((s.drop 32).take 32)).1 (Sc.negP e) px py pi)) (pY (rPt (Sc.readS ((s.drop 32).take 32)).1 (Sc.negP e) px py pi)) (pI (rPt (Sc.readS ((s.drop 32).take 32)).1 (Sc.negP e) px py pi))] (λw=>enc_any' w (rPt_on _ _ _ _ _))) ?_
       exact Sy.leafI fin (λi=>if i=0 then g4 else g6) kR (all_cons kR (all_cons kR (all_cons kR (all_cons kR (all_cons kR (all_cons kR (all_cons kR (all_cons kR (all_cons kR (all_cons kR (all_cons kR (all_cons kR (all_cons kR (all_cons kR (all_cons kR (all_cons kR (all_cons kR (all_cons kR (all_cons kR (all_cons kR (all_cons kR (all_cons kR (all_cons kR (all_cons kR (all_cons kR (all_cons kR (all_cons kR (all_cons kR (all_cons kR all_nil))))))))))))))))))))))))))))) kR
    ·refine Sy.oneMake rfl kR 71 (Zl 33).toArray ptr kF (λg7=>?_)
     refine Sy.anyOf [8] kR (by decide) (Sy.each1 ?_)
     ·refine Sy.oneQuiet rfl kR (pv (pX (rPt (Sc.readS ((s.drop 32).take 32)).1 (Sc.negP e) px py pi)) (pY (rPt (Sc.readS ((s.drop 32).take 32)).1 (Sc.negP e) px py pi)) (pI (rPt (Sc.readS ((s.drop 32).take 32)).1 (Sc.negP e) px py pi))) (qG 47 #[.slice (some ⟨g4,0,none⟩) 2 2] (λw hw=>by rw [← ptv_parts]; exact two_c w g4 _ _ _ px py pi (readS_lt _) (Sc.mod_lt _) hpx hpy (hw.get (i:=4) rfl))) ?_
      refine Sy.anyOf [9] kR (by decide) (Sy.each1 ?_)
      ·refine Sy.oneQuiet rfl kR (.agg ((encS (rPt (Sc.readS ((s.drop 32).take 32)).1 (Sc.negP e) px py pi)).map bv).toArray) (qF 25 #[pv (pX (rPt (Sc.readS ((s.drop 32).take 32)).1 (Sc.negP e) px py pi)) (pY (rPt (Sc.readS ((s.drop 32).take 32)).1 (Sc.negP e) px py pi)) (pI (rPt (Sc.readS ((s.drop 32).take 32)).1 (Sc.negP e) px py pi))] (λw=>enc_any' w (rPt_on _ _ _ _ _))) ?_
       exact Sy.leafI fin (λi=>if i=0 then g4 else g7) kR (all_cons kR (all_cons kR (all_cons kR (all_cons kR (all_cons kR (all_cons kR (all_cons kR (all_cons kR (all_cons kR (all_cons kR (all_cons kR (all_cons kR (all_cons kR (all_cons kR (all_cons kR (all_cons kR (all_cons kR (all_cons kR (all_cons kR (all_cons kR (all_cons kR (all_cons kR (all_cons kR (all_cons kR (all_cons kR (all_cons kR (all_cons kR (all_cons kR (all_cons kR all_nil))))))))))))))))))))))))))))) kR
   ·refine Sy.oneMake rfl kR 71 (Zl 33).toArray ptr kF (λg8=>?_)
    refine Sy.anyOf [7] kR (by decide) (Sy.each1 ?_)
    ·refine Sy.oneMake rfl kR 100 (trl ((Sc.readS ((s.drop 32).take 32)).1) gx.val gy.val false++(trl (Sc.negP e) px py pi)).toArray (λg=>.slice (some ⟨g,0,none⟩) 2 2) kF (λg9=>?_)
     refine Sy.anyOf [8] kR (by decide) (Sy.each1 ?_)
     ·refine Sy.oneQuiet rfl kR (pv (pX (rPt (Sc.readS ((s.drop 32).take 32)).1 (Sc.negP e) px py pi)) (pY (rPt (Sc.readS ((s.drop 32).take 32)).1 (Sc.negP e) px py pi)) (pI (rPt (Sc.readS ((s.drop 32).take 32)).1 (Sc.negP e) px py pi))) (qG 47 #[.slice (some ⟨g9,0,none⟩) 2 2] (λw hw=>by rw [← ptv_parts]; exact two_c w g9 _ _ _ px py pi (readS_lt _) (Sc.mod_lt _) hpx hpy (hw.get (i:=5) rfl))) ?_
      refine Sy.anyOf [9] kR (by decide) (Sy.each1 ?_)
      ·refine Sy.oneQuiet rfl kR (.agg ((encS (rPt (Sc.readS ((s.drop 32).take 32)).1 (Sc.negP e) px py pi)).map bv).toArray) (qF 25 #[pv (pX (rPt (Sc.readS ((s.drop 32).take 32)).1 (Sc.negP e) px py pi)) (pY (rPt (Sc.readS ((s.drop 32).take 32)).1 (Sc.negP e) px py pi)) (pI (rPt (Sc.readS ((s.drop 32).take 32)).1 (Sc.negP e) px py pi))] (λw=>enc_any' w (rPt_on _ _ _ _ _))) ?_
       exact Sy.leafS (M:=[(g0,36,(s.map bv).toArray),(g1,30,(fcs e)),(g2,66,(pcs px py pi)),(g3,30,(fcs ((Sc.readS ((s.drop 32).take 32)).1)))]) (x:=(g9,100,(trl ((Sc.readS ((s.drop 32).take 32)).1) gx.val gy.val false++(trl (Sc.negP e) px py pi)).toArray)) (y:=(g8,71,(Zl 33).toArray)) fin (λi=>if i=0 then g9 else g8) kR (all_cons kR (all_cons kR (all_cons kR (all_cons kR (all_cons kR (all_cons kR (all_cons kR (all_cons kR (all_cons kR (all_cons kR (all_cons kR (all_cons kR (all_cons kR (all_cons kR (all_cons kR (all_cons kR (all_cons kR (all_cons kR (all_cons kR (all_cons kR (all_cons kR (all_cons kR (all_cons kR (all_cons kR (all_cons kR (all_cons kR (all_cons kR (all_cons kR (all_cons kR all_nil))))))))))))))))))))))))))))) kR kR
end Cu
end
section
namespace Cu
open Go.RowKit Sy
def verB (key m s:List UInt8):Bool:=liftB key && ansB s (chalS ((s.drop 0).take 32) key m) (pX (liftP key)) (pY (liftP key)) (pI (liftP key))
set_option maxHeartbeats 4000000 in
set_option maxRecDepth 100000 in
theorem verify_any (w:World) (key s:List UInt8) (hkey:key.length=32) (hss:s.length=64) (A:Option Addr) (m:List UInt8) (n c:Nat) (hn:m.length=n) (hm:n≤999999900) (hc:n≤c) (hc2:c≤9223372036854775807) (hs:Sh.Src w A m) (ht:Sh.TabAt w 0):Calls Tryz.prog 12 #[.agg (key.map bv).toArray,.slice A n c,.agg (s.map bv).toArray] w (Gets w (.bool (verB key m s))):=by
 refine Sy.enter (args:=[.agg (key.map bv).toArray,.slice A n c,.agg (s.map bv).toArray]) Tryz.func12 rfl kL ?_
 refine sC ?_
 refine sM 31 (key.map bv).toArray (λg0=>?_)
 refine sM 36 (s.map bv).toArray (λg1=>?_)
 refine sP (.bool false) ?_
 refine sA ?_
 refine sS (.agg (key.map bv).toArray) (Quiet.load 0 g0 0 32 31 31 (key.map bv).toArray _ _ rfl kR kR Tryz.underlying31 rfl kR _ (key_whole key hkey) (key_size key hkey)) ?_
 obtain ⟨b1,hb1⟩:∃ z:Bool,z=liftB key:=⟨_,rfl⟩
 refine sS (.tuple #[pv (pX (liftP key)) (pY (liftP key)) (pI (liftP key)),.bool b1]) (qF 22 #[.agg (key.map bv).toArray] (λw=>by rw [← ptv_parts,hb1]; exact lift_any w key hkey))<|sP (.tuple #[pv (pX (liftP key)) (pY (liftP key)) (pI (liftP key)),.bool b1])<|sP (pv (pX (liftP key)) (pY (liftP key)) (pI (liftP key)))<|sP (.bool b1) ?_
 refine sM 66 (pcs 0 0 false) (λg2=>?_)
 refine sW 2 g2 66 (pcs 0 0 false) (pcs (pX (liftP key)) (pY (liftP key)) (pI (liftP key))) (wS 0 66 (pcs (pX (liftP key)) (pY (liftP key)) (pI (liftP key))) rfl)<|sP (.bool b1) ?_
 refine sH (λj=>false) ?_
 refine sZ 0 rfl (.bool b1)<|sZ 1 rfl (.bool b1) ?_
 cases b1
 ·refine sQ 2 rfl<|sQ 3 rfl<|sQ 4 rfl<|sQ 5 rfl<|sQ 6 rfl<|sQ 7 rfl<|sQ 8 rfl<|sQ 9 rfl ?_
  refine sQ 10 rfl<|sZ 11 rfl (.bool false)<|sZ 12 rfl (.bool false) ?_
  refine sI ?_
  refine Sy.ret ?_
  rw [show (.bool (verB key m s):Value)=.bool false from by unfold verB; rw [← hb1]; rfl]
  exact rV (.bool false) rfl
 ·refine sD 2 rfl (.agg (s.map bv).toArray) (Quiet.load 1 g1 0 64 36 36 (s.map bv).toArray _ _ rfl kR kR Tryz.underlying36 rfl kR _ (key_whole s hss) (key_size s hss))<|sZ 3 rfl (.slice (some ⟨g1,0,none⟩) 32 64)<|sZ 4 rfl (.pointer (some ⟨g1,0,none⟩))<|sD 5 rfl (.agg (((s.drop 0).take 32).map bv).toArray) (Quiet.load 1 g1 0 32 36 31 (s.map bv).toArray _ _ rfl kR kR Tryz.underlying31 rfl kR _ (key_part 0 32) (part_size hss (by decide)))<|sD 6 rfl (.agg (key.map bv).toArray) (Quiet.load 0 g0 0 32 31 31 (key.map bv).toArray _ _ rfl kR kR Tryz.underlying31 rfl kR _ (key_whole key hkey) (key_size key hkey))<|sZ 7 rfl (.slice A n c)<|sD 8 rfl (fv (chalS ((s.drop 0).take 32) key m)) (qG 24 #[.agg (((s.drop 0).take 32).map bv).toArray,.agg (key.map bv).toArray,.slice A n c] (λw hw=>challenge_any w _ key (part_len hss (by decide)) hkey A m n c hn hm hc hc2 (hs.below hw.below) (ht.below hw.below ht.lt)))<|sD 9 rfl (pv (pX (liftP key)) (pY (liftP key)) (pI (liftP key))) (qL 2 g2 0 9 66 66 (pcs (pX (liftP key)) (pY (liftP key)) (pI (liftP key))) rfl Tryz.underlying66) ?_
  obtain ⟨b2,hb2⟩:∃ z:Bool,z=ansB s (chalS ((s.drop 0).take 32) key m) (pX (liftP key)) (pY (liftP key)) (pI (liftP key)):=⟨_,rfl⟩
  refine sD 10 rfl (.bool b2) (qF 23 #[.agg (s.map bv).toArray,fv (chalS ((s.drop 0).take 32) key m),pv (pX (liftP key)) (pY (liftP key)) (pI (liftP key))] (λw=>by rw [hb2]; exact answers_any w s hss _ (chalS_lt _ _ _) _ _ _ (pX_lt _) (pY_lt _)))<|sZ 11 rfl (.bool b2)<|sZ 12 rfl (.bool b2) ?_
  refine sI ?_
  refine Sy.ret ?_
  rw [show (.bool (verB key m s):Value)=.bool b2 from by unfold verB; rw [← hb1, ← hb2]; rfl]
  exact rV (.bool b2) rfl
end Cu
end
section
namespace Pg
open Go.RowKit Sy
set_option maxRecDepth 100000
set_option maxHeartbeats 4000000
open Wr
abbrev TbS (w:World):Prop:=Sh.TabAt w 0
def envOf (m:Byt) (h:Nat):Env:=⟨λkey s=>Cu.verB key m s,λb=>Sp.sum b,h⟩
theorem src_byt {w:World} {A:Option Addr} {n cp:Nat} {b:Byt} (h:BytR (rdW w) (.slice A n cp) b):Sh.Src w A b:=λhne=>by
 obtain ⟨A',n',cp',e,h2,h3,h4,h5⟩:=h
 injection e with e1 e2 e3
 subst e1
 obtain ⟨g,o,rfl,hq⟩:=h5 hne
 have hlt:0<b.length:=List.length_pos_iff.2 hne
 exact ⟨g,o,rfl,(hq 0 _ (List.getElem?_eq_getElem hlt)).1,λj u hu=>(hq j u hu).2⟩
theorem tb_st {w0:Base} {w:World} {L:Blocks} (ht:TbS w0.world) (hw:St w0 w L):TbS w:=ht.below hw.below ht.lt
theorem hash_ef (hh:Nat) (m:Byt) (hm:m.length=32) (x:Opn) (hx:x.1.toNat=102):EfC TbS (envOf m hh) m x 93:=by
 intro w0 g s r T la l hT hok hsm hr hl hla w hw
 rw [show needs x=1 by unfold needs; rw [hx]; rfl] at hl
 have mA:∀ b∈s.bl++T,b∈MS g s m (envOf m hh).h r 0 T:=λb hb=>List.mem_append_right _ hb
 have mT:∀ b∈T,b∈MS g s m (envOf m hh).h r 0 T:=λb hb=>List.mem_append_right _ (List.mem_append_right _ hb)
 obtain ⟨z,rfl⟩:=List.length_eq_one_iff.1 hl
 obtain ⟨A,n,cp,rfl,a1,a2,a3,a4⟩:=hla
 obtain ⟨ga,oa,rfl,aq⟩:=a4 (by simp)
 have hn:n=1:=a1.symm
 obtain ⟨c0,d0⟩:=aq 0 z rfl
 refine Sy.enterT (args:=[ptr g,.slice (some ⟨ga,oa,Option.none⟩) n cp]) hw Tryz.func93 rfl kL ?_
 refine sC ?_
 refine sP (.slice none 0 0)<|sP (.int .i64 0) ?_
 obtain ⟨zA,zn,zc,ez,z2,z3,z4,z5⟩:=d0
 have d0:BytR (rdC w0 T) z.1 z.2:=⟨zA,zn,zc,ez,z2,z3,z4,z5⟩
 have hz9:z.2.length≤256:=hsm z (by simp)
 obtain ⟨d,hd⟩:∃ d,d=Sp.sum z.2:=⟨_,rfl⟩
 have hdl:d.length=32:=by rw [hd]; exact Sh.sum_length _
 refine sA ?_
 refine sp rfl<|sS (.pointer (some ⟨ga,oa+0*1,Option.none⟩)) (Quiet.pure (exec_at 25 39 _ _ ga oa n cp 0 1 .i64 rfl rfl rfl Tryz.underlying25 kF (by omega)))<|sS (.slice zA zn zc) (by rw [← ez]; exact cellC (R:=s.bl++T) c0 mA rfl Tryz.underlying39)<|sS (.agg (d.map bv).toArray) (by rw [hd]; exact qg (λw hw=>by
  have q:=d0.le (rdC_world hw mT)
  rw [ez] at q
  have h:=Sh.of_any w zA z.2 zc (src_byt q) (tb_st (w0:=w0.inn) hT hw) (by omega) (by simp only [maxLen] at z4; omega) (by omega)
  rw [z2] at h
  exact h)) ?_
 refine sM 27 ((List.replicate 32 (0:UInt8)).map bv).toArray (λg6=>?_)
 refine Sy.movT ?_
 refine sw 1 rfl (d.map bv).toArray (Writes.row 27 (d.map bv) 32 _ _ rfl kR kR kR (by rw [List.length_map,hdl]) (by simp) (λu hu=>by obtain ⟨b,_,rfl⟩:=List.mem_map.1 hu; rfl)) ?_
 refine Sy.setT ?_
 refine sA ?_
 refine sP (.slice (some ⟨g6,0,Option.none⟩) 32 32) ?_
 refine Sy.make kR 39 #[.slice (some ⟨g6,0,Option.none⟩) 32 32] (λg=>.slice (some ⟨g,0,Option.none⟩) 1 1) kF (λg2=>?_)
 refine sp rfl<|sP (.int .i64 0) ?_
 refine sG<|Sy.ret ?_
 have e2:does (envOf m hh) x [z.2]=(0,[d]):=by unfold does; rw [hx,hd]; rfl
 exact Sy.retT2 (MS g s m (envOf m hh).h r 0 ([(g2,39,#[.slice (some ⟨g6,0,Option.none⟩) 32 32])]++(T++[(g6,27,(d.map bv).toArray)]))) rfl (.inl (show _=some (.slice (some ⟨g2,0,Option.none⟩) 1 1) by kernel_rfl)) (.inl (show _=some (.int .i64 0) by kernel_rfl)) (λ_ h=>h.perm (Sy.flat_perm (ls:=[[(g,62,(mcs s.v m (envOf m hh).h r 0).toArray)],[(g6,27,(d.map bv).toArray)],s.bl,T,[(g2,39,#[.slice (some ⟨g6,0,Option.none⟩) 32 32])]]) (ms:=[[(g,62,(mcs s.v m (envOf m hh).h r 0).toArray)],s.bl,[(g2,39,#[.slice (some ⟨g6,0,Option.none⟩) 32 32])],T,[(g6,27,(d.map bv).toArray)]]) [0,2,4,3,1] kR rfl (by simp) (by simp)))
  ⟨⟨.slice (some ⟨g2,0,Option.none⟩) 1 1,[(g2,39,#[.slice (some ⟨g6,0,Option.none⟩) 32 32])]⟩,[(g6,27,(d.map bv).toArray)],[(.slice (some ⟨g6,0,Option.none⟩) 32 32,d)],by show _=Value.tuple #[_,.int .i64 (((does (envOf m hh) x [z.2]).1:Nat):Int)]; rw [e2]; rfl,by rw [skp_no _ (by omega) (by omega)],StkY.one (byt_blk (λj v hv=>.inr ⟨_,_,List.mem_append_right _ (List.mem_singleton.2 rfl),hv⟩) hdl (by decide)) (by omega),by show _=(does (envOf m hh) x [z.2]).2; rw [e2]; rfl⟩
theorem signed_any (w0:Base) (hT:TbS w0.world) (g:Nat) (s:Slc) (m:Byt) (hm:m.length=32) (h k:Nat) (r:Value) (T:Blocks) (sv kv:Value) (sby kby:Byt) (hs:BytR (rdC w0 T) sv sby) (hk:BytR (rdC w0 T) kv kby) (w:World) (hw:St w0 w (MS g s m h r k T)):Calls Tryz.prog 118 #[ptr g,sv,kv] w (Turns w0 (λv M=>v=.bool (sgn (envOf m h) sby kby)∧M=MS g s m h r k T)):=by
 obtain ⟨sA_,sn,sc,rfl,s2,s3,s4,s5⟩:=hs
 obtain ⟨kA,kn,kc,rfl,k2,k3,k4,k5⟩:=hk
 have mT:∀ b∈T,b∈MS g s m h r k T:=λb hb=>List.mem_append_right _ (List.mem_append_right _ hb)
 refine Sy.enterT (args:=[ptr g,.slice sA_ sn sc,.slice kA kn kc]) hw Tryz.func118 rfl kL ?_
 have hsm:sc<9223372036854775808:=by simp only [maxLen] at s4; omega
 have hkm:kc<9223372036854775808:=by simp only [maxLen] at k4; omega
 refine sC ?_
 refine sP (.bool false) ?_
 refine Sy.nil<|Sy.then_<|Sy.seq ?_
 refine Sy.regionD (λ_=>false) kR ?_
 obtain ⟨b1,hb1⟩:∃ t_:Bool,t_=decide (kn=32):=⟨_,rfl⟩
 refine sa 0 rfl rfl<|sb 1 rfl (.int .i64 (kn:Int))<|sv 2 rfl (.bool b1) (exec_int .eql _ _ _ .i64 _ _ _ rfl rfl rfl (int_eql _ _ _ _ _ (by rw [hb1]; exact decide_eq_decide.2 (by omega))))<|sa 3 rfl rfl ?_
 cases b1
 case' false =>
  have l1:¬ kn=32:=of_decide_eq_false hb1.symm
  refine sQ 4 rfl<|sQ 5 rfl<|sQ 6 rfl<|sZ 7 rfl (.bool false)<|sZ 8 rfl (.bool false)<|sQ 9 rfl<|sQ 10 rfl<|sQ 11 rfl<|sQ 12 rfl<|sQ 13 rfl<|sQ 14 rfl<|sQ 15 rfl<|sQ 16 rfl<|sQ 17 rfl<|sQ 18 rfl<|sQ 19 rfl<|sZ 20 rfl (.bool false)<|sZ 21 rfl (.bool false) ?_
  refine sI ?_
  refine Sy.ret ?_
  have e:sgn (envOf m h) sby kby=false:=by unfold sgn; rw [decide_eq_false (by omega)]; rfl
  exact Sy.retT1 _ rfl (.inl (show _=some (.bool false) by kernel_rfl)) (λ_ h=>h) ⟨by rw [e],rfl⟩
 have l1:kn=32:=of_decide_eq_true hb1.symm
 obtain ⟨b2,hb2⟩:∃ t_:Bool,t_=decide (sn=64):=⟨_,rfl⟩
 refine sa 4 rfl rfl<|sb 5 rfl (.int .i64 (sn:Int))<|sv 6 rfl (.bool b2) (exec_int .eql _ _ _ .i64 _ _ _ rfl rfl rfl (int_eql _ _ _ _ _ (by rw [hb2]; exact decide_eq_decide.2 (by omega))))<|sb 7 rfl (.bool b2)<|sa 8 rfl rfl ?_
 cases b2
 case' false =>
  have l2:¬ sn=64:=of_decide_eq_false hb2.symm
  refine sQ 9 rfl<|sQ 10 rfl<|sQ 11 rfl<|sQ 12 rfl<|sQ 13 rfl<|sQ 14 rfl<|sQ 15 rfl<|sQ 16 rfl<|sQ 17 rfl<|sQ 18 rfl<|sQ 19 rfl<|sZ 20 rfl (.bool false)<|sZ 21 rfl (.bool false) ?_
  refine sI ?_
  refine Sy.ret ?_
  have e:sgn (envOf m h) sby kby=false:=by unfold sgn; rw [decide_eq_false (p:=sby.length=64) (by omega)]; simp
  exact Sy.retT1 _ rfl (.inl (show _=some (.bool false) by kernel_rfl)) (λ_ h=>h) ⟨by rw [e],rfl⟩
 have l2:sn=64:=of_decide_eq_true hb2.symm
 subst l1
 subst l2
 obtain ⟨gk,ok,rfl,kq⟩:=k5 (by intro e; rw [e] at k2; cases k2)
 obtain ⟨gs,os,rfl,sq⟩:=s5 (by intro e; rw [e] at s2; cases s2)
 have kx:XAt (rdC w0 T) gk ok (kby.map bv):=λj u hu=>by
  rw [List.getElem?_map] at hu
  cases hx:kby[j]? with
  | none=>rw [hx] at hu; cases hu
  | some y=>rw [hx] at hu; cases hu; exact kq j y hx
 have sx_:XAt (rdC w0 T) gs os (sby.map bv):=λj u hu=>by
  rw [List.getElem?_map] at hu
  cases hx:sby[j]? with
  | none=>rw [hx] at hu; cases hu
  | some y=>rw [hx] at hu; cases hu; exact sq j y hx
 have e:sgn (envOf m h) sby kby=Cu.verB kby m sby:=by unfold sgn; rw [decide_eq_true k2,decide_eq_true s2]; rfl
 obtain ⟨b,hb⟩:∃ b,b=Cu.verB kby m sby:=⟨_,rfl⟩
 rw [e, ← hb]
 refine sa 9 rfl rfl<|sv 10 rfl (.pointer (some ⟨gk,ok,none⟩)) (exec_array 31 5 _ (some ⟨gk,ok,none⟩) 32 32 kc rfl rfl Tryz.underlying31 (Nat.le_refl _))<|sD 11 rfl (.agg (kby.map bv).toArray) (rowC (R:=T) (cs:=kby.map bv) kx mT (by rw [List.length_map,k2]) rfl Tryz.underlying31)<|sa 12 rfl rfl<|sa 13 rfl rfl<|sb 14 rfl (.pointer (some ⟨g,1,none⟩))<|sb 15 rfl (.slice (some ⟨g,1,none⟩) 32 32)<|sa 16 rfl rfl<|sv 17 rfl (.pointer (some ⟨gs,os,none⟩)) (exec_array 36 5 _ (some ⟨gs,os,none⟩) 64 64 sc rfl rfl Tryz.underlying36 (Nat.le_refl _))<|sD 18 rfl (.agg (sby.map bv).toArray) (rowC (R:=T) (cs:=sby.map bv) sx_ mT (by rw [List.length_map,s2]) rfl Tryz.underlying36)<|sD 19 rfl (.bool b) (by rw [hb]; exact qg (λw hw=>by
  have hbk:=(hw.blk g 62 _ (List.mem_append_left _ (List.mem_singleton.2 rfl))).2
  refine Cu.verify_any w kby sby k2 s2 (some ⟨g,1,none⟩) m 32 32 hm (by decide) (Nat.le_refl _) (by decide) (λ_=>⟨g,1,rfl,hbk.lt,λj u hu=>(hbk.cell _).trans ?_⟩) (tb_st (w0:=w0.inn) hT hw)
  have hj:=(List.getElem?_eq_some_iff.1 hu).1
  unfold mcs
  rw [List.getElem?_toArray,Nat.add_comm,List.getElem?_cons_succ,List.getElem?_append_left (by rw [List.length_map]; exact hj),List.getElem?_map,hu]
  rfl))<|sb 20 rfl (.bool b)<|sZ 21 rfl (.bool b) ?_
 refine sI ?_
 refine Sy.ret ?_
 exact Sy.retT1 _ rfl (.inl (show _=some (.bool b) by kernel_rfl)) (λ_ h=>h) ⟨rfl,rfl⟩
theorem sig_ef (hh:Nat) (m:Byt) (hm:m.length=32) (x:Opn) (hx:x.1.toNat=103):EfC TbS (envOf m hh) m x 94:=by
 intro w0 g s r T la l hT hok hsm hr hl hla w hw
 rw [show needs x=2 by unfold needs; rw [hx]; rfl] at hl
 have mA:∀ b∈s.bl++T,b∈MS g s m (envOf m hh).h r 0 T:=λb hb=>List.mem_append_right _ hb
 have mT:∀ b∈T,b∈MS g s m (envOf m hh).h r 0 T:=λb hb=>List.mem_append_right _ (List.mem_append_right _ hb)
 obtain ⟨z,y,rfl⟩:=len2 hl
 obtain ⟨A,n,cp,rfl,a1,a2,a3,a4⟩:=hla
 obtain ⟨ga,oa,rfl,aq⟩:=a4 (by simp)
 have hn:n=2:=a1.symm
 obtain ⟨c0,d0⟩:=aq 0 z rfl
 obtain ⟨c1,d1⟩:=aq 1 y rfl
 refine Sy.enterT (args:=[ptr g,.slice (some ⟨ga,oa,Option.none⟩) n cp]) hw Tryz.func94 rfl kL ?_
 refine sC ?_
 refine sP (.slice none 0 0)<|sP (.int .i64 0) ?_
 refine Sy.nil<|Sy.then_<|Sy.seq ?_
 refine Sy.regionD (λj=>j == 7 || j == 8) kR ?_
 obtain ⟨b,hb⟩:∃ b,b=sgn (envOf m hh) z.2 y.2:=⟨_,rfl⟩
 refine sa 0 rfl rfl<|sa 1 rfl rfl<|sv 2 rfl (.pointer (some ⟨ga,oa+0*1,Option.none⟩)) (exec_at 25 39 _ _ ga oa n cp 0 1 .i64 rfl rfl rfl Tryz.underlying25 kF (by omega))<|se 3 [7,8,9,10,11,12] rfl z.1 (cellC (R:=s.bl++T) c0 mA rfl Tryz.underlying39)<|sa 4 rfl rfl<|sv 5 rfl (.pointer (some ⟨ga,oa+1*1,Option.none⟩)) (exec_at 25 39 _ _ ga oa n cp 1 1 .i64 rfl rfl rfl Tryz.underlying25 kF (by omega))<|se 6 [7,8,9,10,11,12] rfl y.1 (cellC (R:=s.bl++T) c1 mA rfl Tryz.underlying39) ?_
 refine Sy.soleD 7 rfl (λQ2 hq2=>?_)
 refine Sy.callT (λw hw=>signed_any w0.inn hT g s m hm hh 0 r T z.1 y.1 z.2 y.2 d0 d1 w hw) (λv M hM=>?_)
 obtain ⟨rfl,rfl⟩:=hM
 rw [← hb]
 refine hq2 _ _ ?_
 refine Sy.soleD 8 rfl (λQ2 hq2=>?_)
 refine Sy.callT (λw hw=>result_any w0.inn _ b w hw) (λv M hM=>?_)
 obtain ⟨g1,g2,n1,rfl,rfl,hn1⟩:=hM
 refine hq2 _ _ ?_
 refine sa 9 rfl rfl<|sa 10 rfl rfl<|sa 11 rfl rfl<|sa 12 rfl rfl ?_
 refine sI ?_
 refine Sy.ret ?_
 exact Sy.retT2 _ rfl (.inl (show _=some (.slice (some ⟨g2,0,Option.none⟩) 1 1) by kernel_rfl)) (.inl (show _=some (.int .i64 0) by kernel_rfl)) (λ_ h=>RsR.st h) (RsR.ef (E:=envOf m hh) (by rw [hb]; unfold does; rw [hx]; rfl) (skp_no _ (by omega) (by omega)) hn1)
end Pg
end
section
namespace Pg
open Go.RowKit Sy
set_option maxRecDepth 100000
set_option maxHeartbeats 4000000
open Wr
theorem exec_toT {P:Program} {F:Slots} {o:Oper} (t:TypeId) (x kx:Operand) (A:Option Addr) (n cp k:Nat) (ht:P.underlying t=some (.slice (P.elem t))) (hs:∀ w,(sizeOf (P.elem t)).run P w=.ok 1 w) (ho:o.op=.slice t x none (some kx) none) (hx:evF F x=.slice A n cp) (hk:evF F kx=.int .i64 (k:Int)) (h:k≤cp) (w:World):(execOp (evF F) o).run P w=.ok (.value (sliced A 0 k cp 1)) w:=by
 have e:(Instr.sliceAt t (.slice A n cp) none (some (.int .i64 (k:Int))) none).run P w=.ok (sliced A 0 k cp 1) w:=by
  rw [run_sliceAt_slice w t _ _ _ _ ht,run_slice_h w t A n cp ht .i64 k (by omega) (by omega),hs,Result.andThen_ok,Int.toNat_natCast]
 unfold execOp
 simp only [ho,hx,hk,Option.map_some,Option.map_none,e,Sem.run_bind,Sem.run_pure,Result.andThen_ok]
theorem Arg.take {C D:Rdr} {A:Option Addr} {n cp k:Nat} {l:List (Value×Byt)} (h:Arg C D (.slice A n cp) l) (hk:k≤n):Arg C D (sliced A 0 k cp 1) (l.take k):=by
 obtain ⟨A',n',cp',e,h2,h3,h4,h5⟩:=h
 injection e with e1 e2 e3
 subst e1 e2 e3
 refine ⟨_,_,_,rfl,by rw [List.length_take]; omega,by omega,by omega,λhne=>?_⟩
 have hl:l≠[]:=λe=>hne (by rw [e,List.take_nil])
 obtain ⟨g,o,rfl,hq⟩:=h5 hl
 have hl0:0<l.length:=List.length_pos_iff.2 hl
 refine ⟨g,o,?_,λj z hz=>?_⟩
 ·rw [if_neg (by omega),Option.map_some,addr_off,Nat.zero_mul,Nat.add_zero]
 ·have hj:j<k:=by
   have:=(List.getElem?_eq_some_iff.1 hz).1
   rw [List.length_take] at this; omega
  rw [List.getElem?_take_of_lt hj] at hz
  exact hq j z hz
theorem shr_step {E:Env} {A B:List Byt} {i:Nat} {s k:Byt} (ha:A[i]? = some s) (hb:B[i]? = some k):shr E (A.drop i) (B.drop i)=if s=[] then shr E (A.drop (i+1)) (B.drop (i+1)) else if sgn E s k then (shr E (A.drop (i+1)) (B.drop (i+1))).map (·+1) else none:=by
 obtain ⟨h1,h2⟩:=List.getElem?_eq_some_iff.1 ha
 obtain ⟨h3,h4⟩:=List.getElem?_eq_some_iff.1 hb
 rw [List.drop_eq_getElem_cons h1,List.drop_eq_getElem_cons h3,h2,h4]
 rfl
theorem share_ef (hh:Nat) (m:Byt) (hm:m.length=32) (x:Opn) (hx:x.1.toNat=104):EfC TbS (envOf m hh) m x 95:=by
 intro w0 g s r T la l hT hok hsm hr hl hla w hw
 have mA:∀ b∈s.bl++T,b∈MS g s m (envOf m hh).h r 0 T:=λb hb=>List.mem_append_right _ hb
 have mT:∀ b∈T,b∈MS g s m (envOf m hh).h r 0 T:=λb hb=>List.mem_append_right _ (List.mem_append_right _ hb)
 refine Sy.enterT (args:=[ptr g,la]) hw Tryz.func95 rfl kL ?_
 refine sC ?_
 refine sP (.slice none 0 0)<|sP (.int .i64 0) ?_
 have hl2:x.2.length=2:=by
  have h1:okO x:=hok
  unfold okO follow at h1
  rw [if_neg (by omega),if_pos hx] at h1
  exact (Option.some.inj h1).symm
 obtain ⟨rA,rn,rc,rfl,r2,r3,r4,r5⟩:=hr
 obtain ⟨go,oo,rfl,rq⟩:=r5 (by intro e; rw [e] at hl2; cases hl2)
 obtain ⟨u0,u1,hu⟩:=len2 hl2
 have hu0:x.2[0]? = some u0:=by rw [hu]; rfl
 have hu1:x.2[1]? = some u1:=by rw [hu]; rfl
 have hc0:=u0.toNat_lt
 have hc1:=u1.toNat_lt
 obtain ⟨t,ht⟩:∃ t,t=u0.toNat:=⟨_,rfl⟩
 obtain ⟨q,hq⟩:∃ q,q=u1.toNat:=⟨_,rfl⟩
 have hnd:needs x=2*q:=by unfold needs; rw [hx,hu,hq]; rfl
 rw [hnd] at hl
 have hla0:=hla
 obtain ⟨A,n,cp,rfl,a1,a2,a3,a4⟩:=hla
 have hn:n=2*q:=by omega
 refine Sy.nil<|Sy.then_<|Sy.seq ?_
 refine Sy.regionD (λ_=>false) kR ?_
 refine sa 0 rfl rfl<|sa 1 rfl rfl<|sb 2 rfl (.pointer (some ⟨g,34,Option.none⟩))<|sD 3 rfl (.slice (some ⟨go,oo,Option.none⟩) rn rc) (Quiet.cell 0 g 34 62 39 _ _ _ rfl kR rfl Tryz.underlying39 rfl _ (mcs_r hm))<|sv 4 rfl (.pointer (some ⟨go,oo+0*1,Option.none⟩)) (exec_at 39 5 _ _ go oo rn rc 0 1 .i64 rfl rfl rfl Tryz.underlying39 kF (by omega))<|sD 5 rfl (bv u0) (cellC (R:=T) (rq 0 u0 hu0) mT rfl Tryz.underlying5)<|sv 6 rfl (.int .i64 ((t:Nat):Int)) (λw=>by rw [ht]; exact conv_8i w _ _ _ u0 rfl rfl)<|sa 7 rfl rfl<|sa 8 rfl rfl<|sb 9 rfl (.pointer (some ⟨g,34,Option.none⟩))<|sD 10 rfl (.slice (some ⟨go,oo,Option.none⟩) rn rc) (Quiet.cell 0 g 34 62 39 _ _ _ rfl kR rfl Tryz.underlying39 rfl _ (mcs_r hm))<|sv 11 rfl (.pointer (some ⟨go,oo+1*1,Option.none⟩)) (exec_at 39 5 _ _ go oo rn rc 1 1 .i64 rfl rfl rfl Tryz.underlying39 kF (by omega))<|sD 12 rfl (bv u1) (cellC (R:=T) (rq 1 u1 hu1) mT rfl Tryz.underlying5)<|sv 13 rfl (.int .i64 ((q:Nat):Int)) (λw=>by rw [hq]; exact conv_8i w _ _ _ u1 rfl rfl)<|sa 14 rfl rfl<|sa 15 rfl rfl ?_
 refine sI ?_
 refine sC ?_
 refine sP (.int .i64 0) ?_
 refine sG<|Sy.seq<|sC ?_
 have htk:=hla0.take (k:=q) (by omega)
 obtain ⟨B,n2,cp2,eB,b2,b3,b4,b5⟩:=htk
 have hn2:n2=q:=by rw [← b2,List.length_take]; omega
 subst hn2
 have hcm:cp<9223372036854775808:=by simp only [maxLen] at a3; omega
 have hcm2:cp2<9223372036854775808:=by simp only [maxLen] at b4; omega
 refine sp rfl<|sp rfl<|sS (.slice B n2 cp2) (by rw [← eB]; exact Quiet.pure (exec_toT 25 _ _ A n cp n2 Tryz.underlying25 kF rfl rfl rfl (by omega)))<|sP (.int .i64 (n2:Int))<|sP (.int .i64 0) ?_
 refine sG<|Sy.block ?_
 obtain ⟨lo,hlo⟩:∃ lo,lo=((l.take n2).map (·.2)):=⟨_,rfl⟩
 obtain ⟨ks,hks⟩:∃ ks,ks=((l.drop n2).map (·.2)):=⟨_,rfl⟩
 have hlol:lo.length=n2:=by rw [hlo,List.length_map,b2]
 have hksl:ks.length=n2:=by rw [hks,List.length_map,List.length_drop]; omega
 have hfin:∀ v:Bool,(match shr (envOf m hh) lo ks with | Option.none=>false | some c=>decide (t≤c))=v→does (envOf m hh) x (l.map (·.2))=(0,[rS v]):=λv hv=>by
  unfold does
  rw [hx]
  show (0,[rS (share (envOf m hh) (x.2.getD 0 0).toNat (x.2.getD 1 0).toNat (l.map (·.2)))])=_
  unfold share
  rw [hu]
  show (0,[rS (match shr (envOf m hh) ((l.map (·.2)).take u1.toNat) ((l.map (·.2)).drop u1.toNat) with | Option.none=>false | some c=>decide (u0.toNat≤c))])=_
  rw [← hq, ← ht, ← List.map_take, ← List.map_drop, ← hlo, ← hks,hv]
 refine Sy.loopT (Y:=Nat) n2 (λi c=>[(0,ptr g),(1,.slice A n cp),(6,.int .i64 ((t:Nat):Int)),(7,.int .i64 ((n2:Nat):Int)),(8,.int .i64 ((c:Nat):Int)),(27,.slice B n2 cp2),(28,.int .i64 (n2:Int)),(29,.int .i64 (i:Int))]) (λ_ _=>MS g s m (envOf m hh).h (.slice (some ⟨go,oo,Option.none⟩) rn rc) 0 T) (λi c=>c≤i∧shr (envOf m hh) lo ks=(shr (envOf m hh) (lo.drop i) (ks.drop i)).map (c+·)) 0 ⟨Nat.le_refl _,by
  rw [List.drop_zero,List.drop_zero]
  cases shr (envOf m hh) lo ks with
  | none=>rfl
  | some c=>show some c=some (0+c); rw [Nat.zero_add]⟩ (all_cons kR (all_cons kR (all_cons kR (all_cons kR (all_cons kR (all_cons kR (all_cons kR (all_cons kR all_nil)))))))) (λ_ h=>h) (λi c hi hy=>?_)
 obtain ⟨hy1,hy⟩:=hy
 refine sC ?_
 obtain ⟨b2,hb2⟩:∃ t_:Bool,t_=decide (i<n2):=⟨_,rfl⟩
 refine sS (.bool b2) (Quiet.pure (exec_int .lss _ _ _ .i64 _ _ _ rfl rfl rfl (int_lss _ _ _ _ _ (by rw [hb2]; exact decide_eq_decide.2 (by omega))))) ?_
 refine sG<|Sy.seq ?_
 cases b2
 case' false =>
  have l2:¬ i<n2:=of_decide_eq_false hb2.symm
  obtain rfl:i=n2:=by omega
  rw [List.drop_of_length_le (by omega),List.drop_of_length_le (by omega)] at hy
  refine sU<|Sy.exit<|Sy.then_exit<|Sy.then_exit<|Sy.in_exit<|Sy.then_<|sC ?_
  obtain ⟨b3,hb3⟩:∃ t_:Bool,t_=decide (t≤c):=⟨_,rfl⟩
  refine sp rfl<|sp rfl<|sS (.bool b3) (Quiet.pure (exec_int .geq _ _ _ .i64 _ _ _ rfl rfl rfl (int_geq _ _ _ _ _ (by rw [hb3]; exact decide_eq_decide.2 (by omega))))) ?_
  refine Sy.callT (λw hw=>result_any w0.inn _ b3 w hw) (λv M hM=>?_)
  obtain ⟨g1,g2,n1,rfl,rfl,hn1⟩:=hM
  refine sp rfl<|sp rfl<|sp rfl<|sp rfl ?_
  refine sG<|Sy.ret ?_
  exact Sy.retT2 _ rfl (.inl (show _=some (.slice (some ⟨g2,0,Option.none⟩) 1 1) by kernel_rfl)) (.inl (show _=some (.int .i64 0) by kernel_rfl)) (λ_ h=>RsR.st h) (RsR.ef (E:=envOf m hh) (hfin b3 (by rw [hy,hb3]; rfl)) (skp_no _ (by omega) (by omega)) hn1)
 have l2:i<n2:=of_decide_eq_true hb2.symm
 obtain ⟨z,hz⟩:∃ z,(l.take n2)[i]? = some z:=⟨_,List.getElem?_eq_getElem (by omega)⟩
 obtain ⟨y,hyy⟩:∃ y,l[n2+i]? = some y:=⟨_,List.getElem?_eq_getElem (by omega)⟩
 obtain ⟨gb,ob,rfl,bq⟩:=b5 (by intro e; rw [e] at hz; cases hz)
 obtain ⟨ga,oa,rfl,aq⟩:=a4 (by intro e; rw [e] at hyy; cases hyy)
 obtain ⟨c0,d0⟩:=bq i z hz
 obtain ⟨c1,d1⟩:=aq (n2+i) y hyy
 have hloi:lo[i]? = some z.2:=by rw [hlo,List.getElem?_map,hz]; rfl
 have hksi:ks[i]? = some y.2:=by rw [hks,List.getElem?_map,List.getElem?_drop,hyy]; rfl
 rw [shr_step hloi hksi] at hy
 obtain ⟨zA,zn,zc,ez,z2,z3,z4,z5⟩:=d0
 have d0:BytR (rdC w0 T) z.1 z.2:=⟨zA,zn,zc,ez,z2,z3,z4,z5⟩
 have hzm:zc<9223372036854775808:=by simp only [maxLen] at z4; omega
 refine sT<|Sy.skip<|Sy.then_<|Sy.seq<|Sy.block<|sC ?_
 refine sp rfl<|sS (.pointer (some ⟨gb,ob+i*1,Option.none⟩)) (Quiet.pure (exec_at 25 39 _ _ gb ob n2 cp2 i 1 .i64 rfl rfl rfl Tryz.underlying25 kF l2))<|sS (.slice zA zn zc) (by rw [← ez]; exact cellC (R:=s.bl++T) (show rdC w0 (s.bl++T) gb (ob+i*1) z.1 by rw [Nat.mul_one]; exact c0) mA rfl Tryz.underlying39)<|sp rfl<|sp rfl ?_
 refine sG<|Sy.seq<|sC ?_
 obtain ⟨b3,hb3⟩:∃ t_:Bool,t_=decide (zn=0):=⟨_,rfl⟩
 refine sp rfl<|sP (.int .i64 (zn:Int))<|sS (.bool b3) (Quiet.pure (exec_int .eql _ _ _ .i64 _ _ _ rfl rfl rfl (int_eql _ _ _ _ _ (by rw [hb3]; exact decide_eq_decide.2 (by omega))))) ?_
 refine sG ?_
 cases b3
 case' true =>
  have l3:zn=0:=of_decide_eq_true hb3.symm
  rw [if_pos (List.eq_nil_of_length_eq_zero (by omega))] at hy
  refine sT<|Sy.exit<|Sy.then_exit<|Sy.in_exit<|Sy.then_<|Sy.region ?_
  refine sS (.int .i64 ((i+1:Nat):Int)) (Quiet.pure (exec_int .add _ _ _ .i64 _ _ _ rfl rfl rfl (int_add _ _ _ _ _ ((wrap_i64 (by omega) (by omega)).trans (by omega)))))<|sp rfl ?_
  refine Sy.nil ?_
  exact Sy.againT c l2 ⟨by omega,hy⟩ (all_cons kR (all_cons kR (all_cons kR (all_cons kR (all_cons kR (all_cons kR (all_cons kR (all_cons kR all_nil)))))))) (λw h=>h)
 have l3:¬ zn=0:=of_decide_eq_false hb3.symm
 rw [if_neg (by intro e; rw [e] at z2; exact l3 z2.symm)] at hy
 refine sU<|Sy.skip<|Sy.then_<|Sy.seq<|sC ?_
 obtain ⟨b,hb⟩:∃ b,b=sgn (envOf m hh) z.2 y.2:=⟨_,rfl⟩
 refine sp rfl<|sp rfl<|sp rfl<|sp rfl<|sp rfl<|sS (.int .i64 ((n2+i:Nat):Int)) (Quiet.pure (exec_int .add _ _ _ .i64 _ _ _ rfl rfl rfl (int_add _ _ _ _ _ ((wrap_i64 (by omega) (by omega)).trans (by omega)))))<|sS (.pointer (some ⟨ga,oa+(n2+i)*1,Option.none⟩)) (Quiet.pure (exec_at 25 39 _ _ ga oa n cp (n2+i) 1 .i64 rfl rfl rfl Tryz.underlying25 kF (by omega)))<|sS y.1 (cellC (R:=s.bl++T) (show rdC w0 (s.bl++T) ga (oa+(n2+i)*1) y.1 by rw [Nat.mul_one]; exact c1) mA rfl Tryz.underlying39) ?_
 refine Sy.callT (args:=#[ptr g,.slice zA zn zc,y.1]) (λw hw=>by rw [← ez]; exact signed_any w0.inn hT g s m hm hh 0 (.slice (some ⟨go,oo,Option.none⟩) rn rc) T z.1 y.1 z.2 y.2 d0 d1 w hw) (λv M hM=>?_)
 obtain ⟨rfl,rfl⟩:=hM
 rw [← hb] at hy ⊢
 refine sP (.bool (!b)) ?_
 refine sG ?_
 cases b
 case' false =>
  rw [if_neg (by decide)] at hy
  refine sT<|sC ?_
  refine Sy.callT (λw hw=>result_any w0.inn _ false w hw) (λv M hM=>?_)
  obtain ⟨g1,g2,n1,rfl,rfl,hn1⟩:=hM
  refine sp rfl<|sp rfl<|sp rfl<|sp rfl ?_
  refine sG<|Sy.ret<|Sy.then_ret<|Sy.in_ret<|Sy.then_ret<|Sy.then_ret<|Sy.in_ret<|Sy.then_ret ?_
  exact Sy.retT2 _ rfl (.inl (show _=some (.slice (some ⟨g2,0,Option.none⟩) 1 1) by kernel_rfl)) (.inl (show _=some (.int .i64 0) by kernel_rfl)) (λ_ h=>RsR.st h) (RsR.ef (E:=envOf m hh) (hfin false (by rw [hy]; rfl)) (skp_no _ (by omega) (by omega)) hn1)
 rw [if_pos rfl] at hy
 refine sU<|Sy.skip<|Sy.then_<|Sy.region ?_
 refine sp rfl<|sS (.int .i64 ((c+1:Nat):Int)) (Quiet.pure (exec_int .add _ _ _ .i64 _ _ _ rfl rfl rfl (int_add _ _ _ _ _ ((wrap_i64 (by omega) (by omega)).trans (by omega)))))<|sp rfl ?_
 refine Sy.nil<|Sy.in_<|Sy.then_<|Sy.region ?_
 refine sS (.int .i64 ((i+1:Nat):Int)) (Quiet.pure (exec_int .add _ _ _ .i64 _ _ _ rfl rfl rfl (int_add _ _ _ _ _ ((wrap_i64 (by omega) (by omega)).trans (by omega)))))<|sp rfl ?_
 refine Sy.nil ?_
 exact Sy.againT (c+1) l2 ⟨by omega,by
  rw [hy]
  cases shr (envOf m hh) (lo.drop (i+1)) (ks.drop (i+1)) with
  | none=>rfl
  | some v=>show some (c+(v+1))=some (c+1+v); congr 1; omega⟩ (all_cons kR (all_cons kR (all_cons kR (all_cons kR (all_cons kR (all_cons kR (all_cons kR (all_cons kR all_nil)))))))) (λw h=>h)
theorem ef_all (hh:Nat) (hhl:hh<18446744073709551616) (m:Byt) (hm:m.length=32) (x:Opn) (hok:okO x):EfC TbS (envOf m hh) m x (fnOf x.1):=by
 by_cases h2:x.1.toNat=102
 ·rw [show fnOf x.1=93 by unfold fnOf; rw [h2]; rfl]
  exact hash_ef hh m hm x h2
 by_cases h3:x.1.toNat=103
 ·rw [show fnOf x.1=94 by unfold fnOf; rw [h3]; rfl]
  exact sig_ef hh m hm x h3
 by_cases h4:x.1.toNat=104
 ·rw [show fnOf x.1=95 by unfold fnOf; rw [h4]; rfl]
  exact share_ef hh m hm x h4
 exact ef_simple (envOf m hh) m hm hhl x hok h2 h3 h4
end Pg
end
section
namespace Pg
open Go.RowKit Sy
set_option maxRecDepth 100000
set_option maxHeartbeats 4000000
open Wr
theorem Arg.le {C D C' D':Rdr} {v:Value} {l:List (Value×Byt)} (h:Arg C D v l) (hc:Le C C') (hd:Le D D'):Arg C' D' v l:=by
 obtain ⟨A,n,cp,h1,h2,h3,h4,h5⟩:=h
 exact ⟨A,n,cp,h1,h2,h3,h4,λhne=>by
  obtain ⟨g,o,e,hq⟩:=h5 hne
  exact ⟨g,o,e,λj z hz=>⟨hd _ _ _ (hq j z hz).1,(hq j z hz).2.le hc⟩⟩⟩
end Pg
end
section
namespace Pg
open Go.RowKit Sy
set_option maxRecDepth 100000
set_option maxHeartbeats 4000000
open Wr
end Pg
end
section
namespace Pg
open Go.RowKit Sy
set_option maxRecDepth 100000
set_option maxHeartbeats 4000000
open Wr
section
variable {P:Program} {w0:Base} {n:Nat} {Q:Exit→Act→World→Prop} {F:Slots} {L:Blocks}
theorem joinX {c:Code} {T:Type} (FF:T→Slots) (LL:T→Blocks) (H:T→Prop) (h:∀ x,H x→X w0 n Q (FF x) (LL x) .normal) (k:(∀ x,H x→X w0 n Q (FF x) (LL x) .normal)→wpC P w0 n Q F L c):wpC P w0 n Q F L c:=k h
theorem leafX {T:Type} {FF:T→Slots} {LL:T→Blocks} {H:T→Prop} (h:∀ x,H x→X w0 n Q (FF x) (LL x) .normal) (x:T) (hx:H x) (hF:∀ p∈FF x,F.lookup p.1=some p.2) (hL:∀ w,St w0 w L→St w0 w (LL x)):X w0 n Q F L .normal:=λa w ha hw=>h x hx a w (ha.all hF) (hL w hw)
end
end Pg
end
section
namespace Pg
open Go.RowKit Sy
set_option maxRecDepth 100000
set_option maxHeartbeats 4000000
open Wr
theorem run_get (h:Nat) (hh:h<18446744073709551616) (m:Byt) (hm:m.length=32) (w:World) (pv wv:Value) (p:Byt) (zs:List (Value×Byt)) (hp:BytR (rdW w) pv p) (hz:Arg (rdW w) (rdW w) wv zs) (ht:TbS w):Calls Tryz.prog 11 #[pv,wv,.agg (m.map bv).toArray,.int .u64 ((h:Nat):Int)] w (Gets w (.int .i64 ((run (envOf m h) p (zs.map (·.2)):Nat):Int))) :=
 (run_any (Tb:=TbS) (envOf m h) m hm (show h<18446744073709551616 from hh) (Base.of w) ht [] [] (λ_ h=>h) pv wv p zs (hp.le rdW_base) (hz.le rdW_base rdW_base) (λx hx=>ef_all h hh m hm x (parse_ok p x hx)) w (St.start w)).mono λe w' he=>by
  obtain ⟨v,M,rfl,⟨rfl,rfl⟩,hst⟩:=he
  exact ⟨rfl,hst.below⟩
theorem row_arg {w0:Base} {R:Blocks} {y:Slc} {zs:List (Value×Byt)} (hy:y.Is 39 1 (zs.map λz=>[z.1])) (hb:∀ z∈zs,BytR (rdC w0 R) z.1 z.2) (hR:∀ b∈y.bl,b∈R) (hsm:∀ z∈zs,z.2.length≤256∨True):Arg (rdC w0 R) (rdC w0 R) y.v zs:=by
 rcases hy.row with ⟨e1,e2⟩ | ⟨g,cap,rr,e2,h1,h2,h3⟩
 ·obtain rfl:zs=[]:=List.map_eq_nil_iff.1 e1
  exact ⟨none,0,0,by rw [e2],rfl,Nat.le_refl _,Nat.zero_le _,λh=>(h rfl).elim⟩
 ·rw [List.length_map] at h1 h2
  refine ⟨some ⟨g,0,none⟩,zs.length,cap,by rw [e2,List.length_map],rfl,h2,h3,λ_=>⟨g,0,rfl,λj z hz=>⟨.inr ⟨39,_,hR _ (by rw [e2]; exact List.mem_singleton.2 rfl),?_⟩,hb z (List.mem_of_getElem? hz)⟩⟩⟩
  have hf:∀ l:List (Value×Byt),(l.map λz=>[z.1]).flatten=l.map (·.1):=λl=>by
   induction l with
   | nil=>rfl
   | cons a l ih=>show a.1::(l.map λz=>[z.1]).flatten=_; rw [ih]; rfl
  rw [hf,Nat.zero_add,List.getElem?_toArray,List.getElem?_append_left (by rw [List.length_map]; exact (List.getElem?_eq_some_iff.1 hz).1),List.getElem?_map,hz]
  rfl
end Pg
end
section
namespace Nt
theorem pr_44706919:Pr 44706919:=small_prime (b:=6687) (by decide) (by decide) (by decide +kernel)
theorem pr_120233:Pr 120233:=small_prime (b:=347) (by decide) (by decide) (by decide +kernel)
theorem pr_545358713:Pr 545358713:=small_prime (b:=23354) (by decide) (by decide) (by decide +kernel)
theorem pr_305873:Pr 305873:=small_prime (b:=554) (by decide) (by decide) (by decide +kernel)
theorem pr_293:Pr 293:=small_prime (b:=18) (by decide) (by decide) (by decide +kernel)
theorem pr_n1:Pr 174723607534414371449:=by
 refine pock (F:=44706919*120233) (by decide) (λr hr hrN=>?_) (by decide)
 have h0:=pock_pm 68 2 (by decide) pr_44706919 (by decide) (by decide +kernel) (by decide +kernel) (by decide) r hr hrN
 have h1:=pock_pm 68 2 (by decide) pr_120233 (by decide) (by decide +kernel) (by decide +kernel) (by decide) r hr hrN
 exact Nat.Coprime.mul_dvd_of_dvd_of_dvd (by decide) h0 h1
theorem pr_n3:Pr 29047611873442575647497758179:=by
 refine pock (F:=545358713*(305873*293)) (by decide) (λr hr hrN=>?_) (by decide)
 have h0:=pock_pm 95 2 (by decide) pr_545358713 (by decide) (by decide +kernel) (by decide +kernel) (by decide) r hr hrN
 have h1:=pock_pm 95 2 (by decide) pr_305873 (by decide) (by decide +kernel) (by decide +kernel) (by decide) r hr hrN
 have h2:=pock_pm 95 2 (by decide) pr_293 (by decide) (by decide +kernel) (by decide +kernel) (by decide) r hr hrN
 exact Nat.Coprime.mul_dvd_of_dvd_of_dvd (by decide) h0 (Nat.Coprime.mul_dvd_of_dvd_of_dvd (by decide) h1 h2)
theorem pr_n2:Pr 341948486974166000522343609283189 :=
 pock (F:=29047611873442575647497758179) (by decide) (λr hr hrN=>pock_pm 109 2 (by decide) pr_n3 (by decide) (by decide +kernel) (by decide +kernel) (by decide) r hr hrN) (by decide)
theorem pr_n:Pr 115792089237316195423570985008687907852837564279074904382605163141518161494337:=by
 refine pock (F:=174723607534414371449*341948486974166000522343609283189) (by decide) (λr hr hrN=>?_) (by decide)
 have h0:=pock_pm 256 2 (by decide) pr_n1 (by decide) (by decide +kernel) (by decide +kernel) (by decide) r hr hrN
 have h1:=pock_pm 256 2 (by decide) pr_n2 (by decide) (by decide +kernel) (by decide +kernel) (by decide) r hr hrN
 exact Nat.Coprime.mul_dvd_of_dvd_of_dvd (by decide) h0 h1
end Nt
end
section
namespace Cu
open Go.RowKit
def fc {α:Type} (x:Nat) (f:Nat→α):α:=match x with
 | 0=>f 0
 | n+1=>f (n+1)
theorem fc_eq {α:Type} (x:Nat) (f:Nat→α):fc x f=f x:=by cases x <;> rfl
def ml (a b:Nat):Nat:=a*b%pM
def sb (a b:Nat):Nat:=(pM - b+a)%pM
def ad (a b:Nat):Nat:=(a+b)%pM
def dbK {α:Type} (x y z:Nat) (k:Nat→Nat→Nat→α):α :=
 fc (ml (ml x x) 3) λu=>fc (ml (ml x (ml y y)) 4) λq=>fc (sb (ml u u) (ad q q)) λX=>fc (sb (ml u (sb q X)) (ml (ml (ml y y) (ml y y)) 8)) λY=>fc (ml (ml y z) 2) λZ=>k X Y Z
theorem dbK_eq {α:Type} (a:J) (k:Nat→Nat→Nat→α):dbK a.x.val a.y.val a.z.val k=k (dblJ a).x.val (dblJ a).y.val (dblJ a).z.val:=by
 unfold dbK
 simp only [fc_eq]
 rfl
def bJ:J:=⟨gx,gy,1⟩
def adK {α:Type} (x y z:Nat) (k:Nat→Nat→Nat→α):α :=
 cond (Nat.beq z 0) (k gx.val gy.val 1)<|fc (sb (ml gx.val (ml z z)) x) λc=>fc (sb (ml gy.val (ml (ml z z) z)) y) λr =>
 cond (Nat.beq c 0 && Nat.beq r 0) (dbK x y z k)<|fc (ml (ml c c) c) λd=>fc (ml x (ml c c)) λe =>
 fc (sb (sb (ml r r) d) (ad e e)) λX=>fc (sb (ml r (sb e X)) (ml y d)) λY=>fc (ml z c) λZ=>k X Y Z
theorem one_ne:(1:Fp)≠0:=by decide +kernel
theorem uJ_b (a:J):uJ a bJ=a.x:=by
 show a.x*(1*1)=a.x
 grobner
theorem vJ_b (a:J):vJ a bJ=a.y:=by
 show a.y*(1*1*1)=a.y
 grobner
theorem zero_val (a:Fp):Nat.beq a.val 0=true↔a=0:=by
 rw [Nat.beq_eq]
 exact ⟨λh=>Fin.ext h,λh=>by rw [h]; rfl⟩
theorem adK_eq {α:Type} (a:J) (k:Nat→Nat→Nat→α):adK a.x.val a.y.val a.z.val k=k (addJ a bJ).x.val (addJ a bJ).y.val (addJ a bJ).z.val:=by
 unfold adK
 by_cases h:a.z=0
 ·rw [(zero_val _).2 h,addJ_1 h]
  rfl
 ·rw [show Nat.beq a.z.val 0=false from by cases e:Nat.beq a.z.val 0 with | false=>rfl | true=>exact absurd ((zero_val _).1 e) h]
  simp only [cond_false,fc_eq]
  have hc:cJ a bJ=gx*(a.z*a.z) - a.x:=by unfold cJ; rw [uJ_b]; rfl
  have hr:rJ a bJ=gy*(a.z*a.z*a.z) - a.y:=by unfold rJ; rw [vJ_b]; rfl
  have ec:sb (ml gx.val (ml a.z.val a.z.val)) a.x.val=(cJ a bJ).val:=by rw [hc]; rfl
  have er:sb (ml gy.val (ml (ml a.z.val a.z.val) a.z.val)) a.y.val=(rJ a bJ).val:=by rw [hr]; rfl
  rw [ec,er]
  by_cases hz:cJ a bJ=0∧rJ a bJ=0
  ·rw [(zero_val _).2 hz.1,(zero_val _).2 hz.2,addJ_3 h one_ne hz.1 hz.2]
   exact dbK_eq a k
  ·have e:(Nat.beq (cJ a bJ).val 0 && Nat.beq (rJ a bJ).val 0)=false:=by
    cases q:(Nat.beq (cJ a bJ).val 0 && Nat.beq (rJ a bJ).val 0) with
    | false=>rfl
    | true =>
     rw [Bool.and_eq_true] at q
     exact absurd ⟨(zero_val _).1 q.1,(zero_val _).1 q.2⟩ hz
   rw [e,addJ_4 h one_ne hz]
   simp only [cond_false]
   have s1:szJ a bJ=a.z*cJ a bJ:=by
    show a.z*1*cJ a bJ=_
    grobner
   unfold sxJ syJ sxJ
   rw [s1,uJ_b,vJ_b]
   rfl
def gK {α:Type} (m:Nat):Nat→Nat→Nat→Nat→(Nat→Nat→Nat→α)→α
 | 0,x,y,z,k=>k x y z
 | i+1,x,y,z,k=>dbK x y z λx y z=>cond (Nat.beq (m / 2 ^ i%2) 1) (adK x y z λx y z=>gK m i x y z k) (gK m i x y z k)
theorem bJ_rep:Ec.Rep bJ bP:=by
 show (1:Fp)≠0∧gx=gx*(1*1)∧gy=gy*(1*1*1)
 exact ⟨one_ne,by grobner,by grobner⟩
theorem gK_rep {α:Type} (m:Nat) (k:Nat→Nat→Nat→α):∀ (i:Nat) (a:J) (t:Nat),Ec.Rep a (Ec.nm finv t bP)→∃ a':J,gK m i a.x.val a.y.val a.z.val k=k a'.x.val a'.y.val a'.z.val∧Ec.Rep a' (Ec.nm finv (t*2 ^ i+m%2 ^ i) bP)
 | 0,a,t,h=>⟨a,rfl,by rw [Nat.pow_zero,Nat.mul_one,Nat.mod_one,Nat.add_zero]; exact h⟩
 | i+1,a,t,h=>by
  have o:=bP_on.nm fld t
  have h2:Ec.Rep (dblJ a) (Ec.nm finv (t+t) bP):=by
   rw [Ec.nm_add fld bP_on]
   exact dblJ_rep o h
  show ∃ a',dbK _ _ _ _=_∧_
  rw [dbK_eq,Nat.mod_pow_succ,Nat.pow_succ]
  by_cases hb:m / 2 ^ i%2=1
  ·rw [show Nat.beq (m / 2 ^ i%2) 1=true from by rw [hb]; rfl,cond_true,adK_eq]
   have h3:Ec.Rep (addJ (dblJ a) bJ) (Ec.nm finv (t+t+1) bP):=by
    rw [Ec.nm_add fld bP_on,Ec.nm_one]
    exact addJ_rep (bP_on.nm fld _) bP_on h2 bJ_rep
   obtain ⟨a',e,r⟩:=gK_rep m k i _ _ h3
   refine ⟨a',e,?_⟩
   rw [show (t+t+1)*2 ^ i+m%2 ^ i=t*(2 ^ i*2)+(m%2 ^ i+2 ^ i*(m / 2 ^ i%2)) from by rw [hb,Nat.mul_one,Nat.add_mul,Nat.one_mul,Nat.add_mul, ← Nat.mul_assoc,Nat.mul_two]; omega] at r
   exact r
  ·have h0:m / 2 ^ i%2=0:=by omega
   rw [h0]
   show ∃ a',gK m i _ _ _ k=_∧_
   obtain ⟨a',e,r⟩:=gK_rep m k i _ _ h2
   refine ⟨a',e,?_⟩
   rw [show (t+t)*2 ^ i+m%2 ^ i=t*(2 ^ i*2)+(m%2 ^ i+2 ^ i*0) from by rw [Nat.mul_zero,Nat.add_mul, ← Nat.mul_assoc,Nat.mul_two]; omega] at r
   exact r
def oJ:J:=⟨0,0,0⟩
theorem oJ_rep:Ec.Rep oJ (Ec.nm finv 0 bP):=rfl
def nN:Nat:=115792089237316195423570985008687907852837564279074904382605163141518161494337
set_option maxRecDepth 100000 in
theorem nN_big:nN%2 ^ 256=nN:=by decide +kernel
set_option maxRecDepth 100000 in
theorem chain:gK nN 256 0 0 0 (λ_ _ z=>z)=0:=by decide +kernel
theorem gK_none {m:Nat} (hm:m%2 ^ 256=m) (h:gK m 256 0 0 0 (λ_ _ z=>z)=0):Ec.nm finv m bP=none:=by
 obtain ⟨a,e,r⟩:=gK_rep m (λ_ _ z=>z) 256 oJ 0 oJ_rep
 rw [Nat.zero_mul,Nat.zero_add,hm] at r
 have e':gK m 256 0 0 0 (λ_ _ z=>z)=a.z.val:=e
 rw [h] at e'
 have hz:a.z=0:=Fin.ext e'.symm
 revert r
 cases Ec.nm finv m bP with
 | none=>exact λ_=>rfl
 | some P =>
  obtain ⟨X,Y⟩:=P
  exact λr=>absurd hz r.1
theorem n_base:Ec.nm finv nN bP=none:=gK_none nN_big chain
theorem prime_div (q:Nat) (hp:Nt.Pr q) (h1:¬ q=0) (d:Nat) (h:d ∣ q):d=1∨d=q:=by
 rcases Nat.lt_or_ge d q with hlt | hge
 ·left
  have h0:0<d:=by
   rcases Nat.eq_zero_or_pos d with rfl | h0
   ·exact absurd (Nat.eq_zero_of_zero_dvd h) h1
   ·exact h0
  have:=hp.2 d h0 hlt
  rwa [Nat.gcd_eq_left h] at this
 ·right
  exact Nat.le_antisymm (Nat.le_of_dvd (by omega) h) hge
set_option maxRecDepth 100000 in
theorem prime_nN:Nt.Pr nN:=Nt.pr_n
theorem n_prime:∀ d,d ∣ nN→d=1∨d=nN:=prime_div nN prime_nN (by decide +kernel)
theorem n_any {P:Pt} (hP:Ec.On P):Ec.nm finv nN P=none :=
 Ec.all_order fld (by decide +kernel) bP_on (by unfold bP; exact λh=>by cases h) n_base n_prime (by decide +kernel) hP
theorem nm_modN {P:Pt} (hP:Ec.On P) (k:Nat):Ec.nm finv (k%nN) P=Ec.nm finv k P:=Ec.nm_mod fld hP (n_any hP) k
end Cu
end
section
namespace Cu
open Go.RowKit Sy
def evE (k:Nat):Pt:=match evP k with
 | none=>none
 | some (x,y)=>if y.val%2=1 then some (x, -y) else some (x,y)
theorem nN_pM:nN=Sc.pM:=by decide +kernel
theorem nm_p {P:Pt} (hP:Ec.On P) (k:Nat):Ec.nm finv (k%Sc.pM) P=Ec.nm finv k P:=by
 have h:=nm_modN hP k
 rwa [nN_pM] at h
theorem nm_negP {P:Pt} (hP:Ec.On P) (k:Nat):Ec.nm finv (Sc.negP k%Sc.pM) P=Ec.neg (Ec.nm finv (k%Sc.pM) P):=by
 have hlt:k%Sc.pM<Sc.pM:=Sc.mod_lt_p k
 have e1:Ec.nm finv (Sc.negP k%Sc.pM) P=Ec.nm finv (Sc.pM - k%Sc.pM) P:=by
  unfold Sc.negP
  rw [nm_p hP,nm_p hP]
 have e2:Ec.add finv (Ec.nm finv (k%Sc.pM) P) (Ec.nm finv (Sc.pM - k%Sc.pM) P)=none:=by
  rw [← Ec.nm_add fld hP,show k%Sc.pM+(Sc.pM - k%Sc.pM)=Sc.pM by omega, ← nm_p hP,Nat.mod_self]
  rfl
 have o1:=hP.nm fld (k%Sc.pM)
 have o2:=hP.nm fld (Sc.pM - k%Sc.pM)
 rw [e1]
 have e3:=congrArg (Ec.add finv (Ec.neg (Ec.nm finv (k%Sc.pM) P))) e2
 rw [← Ec.assoc fld o1.neg o1 o2,Ec.neg_add,Ec.zero_add,Ec.add_zero] at e3
 exact e3
theorem evE_is (k:Nat):Ec.nm finv (evD k%Sc.pM) bP=evE k:=by
 unfold evD evE
 rcases h:evP k with _ | ⟨x,y⟩
 ·rfl
 ·show Ec.nm finv ((if y.val%2=1 then Sc.negP k else k)%Sc.pM) bP=if y.val%2=1 then some (x, -y) else some (x,y)
  by_cases hy:y.val%2=1
  ·rw [if_pos hy,if_pos hy,nm_negP bP_on]
   have h':Ec.nm finv (k%Sc.pM) bP=some (x,y):=h
   rw [h']
   rfl
  ·rw [if_neg hy,if_neg hy]
   exact h
theorem evE_lift {k:Nat} (h:(evP k).isSome=true):liftP (evX (evP k))=evE k∧liftB (evX (evP k))=true:=by
 have ho:=evP_on k
 unfold evE
 rcases e:evP k with _ | ⟨x,y⟩
 ·rw [e] at h; cases h
 ·rw [e] at ho
  have hl:=lift_x x y ho
  refine ⟨hl,?_⟩
  cases hb:liftB (bytesS x.val) with
  | true=>exact hb
  | false =>
   rw [lift_no hb] at hl
   split at hl <;> cases hl
theorem evE_enc {k:Nat} (h:(evP k).isSome=true):encS (evE k)=2::evX (evP k):=by
 have ho:=evP_on k
 unfold evE
 rcases e:evP k with _ | ⟨x,y⟩
 ·rw [e] at h; cases h
 ·rw [e] at ho
  show encS (if y.val%2=1 then some (x, -y) else some (x,y))=2::bytesS x.val
  by_cases hy:y.val%2=1
  ·rw [if_pos hy]
   have hn:=val_neg' y (no_two x y ho)
   show (if (-y).val%2=1 then (3:UInt8) else 2)::bytesS x.val=_
   rw [if_neg (by omega)]
  ·rw [if_neg hy]
   show (if y.val%2=1 then (3:UInt8) else 2)::bytesS x.val=_
   rw [if_neg hy]
theorem sig_first (d:Nat) (key m:List UInt8) (k:Nat):((sigS d key m k).drop 0).take 32=evX (evP k):=by
 unfold sigS
 rw [List.drop_zero,List.take_append_of_le_length (by rw [evX_length]; exact Nat.le_refl _),List.take_of_length_le (by rw [evX_length]; exact Nat.le_refl _)]
theorem sig_last (d:Nat) (key m:List UInt8) (k:Nat):((sigS d key m k).drop 32).take 32=bytesS (ansS d key m k%Sc.pM):=by
 unfold sigS
 rw [List.drop_append_of_le_length (by rw [evX_length]; exact Nat.le_refl _),List.drop_of_length_le (by rw [evX_length]; exact Nat.le_refl _),List.nil_append,List.take_of_length_le (by rw [bytesS_length]; exact Nat.le_refl _)]
theorem readS_bytes (z:Nat):Sc.readS (bytesS (z%Sc.pM))=(z%Sc.pM,true):=by
 unfold Sc.readS
 rw [valB_bytesS _ (Sc.mod_lt z),if_pos (Sc.mod_lt_p z)]
theorem rPt_sig (sec k e:Nat) {a b:Nat} {i:Bool} (hd:dec a b i=evE sec):rPt (Sc.addP (evD k) (Sc.mulP e (evD sec))%Sc.pM) (Sc.negP e) a b i=evE k:=by
 have oB:Ec.On bP:=bP_on
 have oE:Ec.On (evE sec):=by rw [← evE_is]; exact oB.nm fld _
 have oK:Ec.On (evE k):=by rw [← evE_is]; exact oB.nm fld _
 unfold rPt
 rw [hd,nm_negP oE]
 have e1:Ec.nm finv (Sc.addP (evD k) (Sc.mulP e (evD sec))%Sc.pM%Sc.pM) bP=Ec.add finv (evE k) (Ec.nm finv (e%Sc.pM) (evE sec)):=by
  rw [nm_p oB,nm_p oB]
  unfold Sc.addP Sc.mulP
  rw [nm_p oB,Ec.nm_add fld oB,nm_p oB,Ec.nm_mul fld oB,nm_p oE, ← evE_is k, ← evE_is sec,nm_p oB,nm_p oB]
 rw [e1]
 have o1:=oE.nm fld (e%Sc.pM)
 rw [Ec.assoc fld oK o1 o1.neg,Ec.add_neg,Ec.add_zero]
theorem verB_gen {key m s X Zb:List UInt8} {P E:Pt} {z e:Nat} (he:chalS X key m=e) (h1:liftB key=true) (h2:liftP key=P) (h3:(s.drop 0).take 32=X) (h4:(s.drop 32).take 32=Zb) (h5:(Sc.readS Zb).1=z) (h6:(Sc.readS Zb).2=true)
  (h7:rPt z (Sc.negP e) (pX P) (pY P) (pI P)=E) (h8:encS E=2::X) (h9:X.length=32):verB key m s=true:=by
 unfold verB ansB
 rw [h3,he,h1,h2,h4,h6,h5,h7,h8]
 have h10:(((2:UInt8)::X).drop 1).take 32=X:=by
  rw [List.drop_succ_cons,List.drop_zero,List.take_of_length_le (by rw [h9]; exact Nat.le_refl _)]
 rw [h10]
 simp
theorem verB_sig (sec:Nat) (m:List UInt8) (h:signB sec m=true):verB (evX (evP sec)) m (signL sec m)=true:=by
 have hs:=h
 unfold signB at hs
 rw [Bool.and_eq_true] at hs
 obtain ⟨h1,h2⟩:=hs
 obtain ⟨l1,l2⟩:=evE_lift h1
 have hd:dec (pX (evE sec)) (pY (evE sec)) (pI (evE sec))=evE sec:=dec_parts (by rw [← evE_is]; exact bP_on.nm fld _)
 have e1:signL sec m=sigS (evD sec) (evX (evP sec)) m (nonS sec m):=by
  unfold signL
  rw [if_pos h]
 rw [e1]
 generalize nonS sec m=k at h2 ⊢
 have hr:=readS_bytes (ansS (evD sec) (evX (evP sec)) m k)
 exact verB_gen (e:=chalS (evX (evP k)) (evX (evP sec)) m) rfl l2 l1 (sig_first _ _ _ _) (sig_last _ _ _ _) (congrArg Prod.fst hr) (congrArg Prod.snd hr) (rPt_sig sec k _ hd) (evE_enc h2) (evX_length _)
end Cu
end
section
namespace Pg
open Go.RowKit Sy
set_option maxRecDepth 100000
set_option maxHeartbeats 4000000
open Wr
theorem st_push {E:Env} {c:UInt8} {b:Byt} {st:List Byt} (hc:c.toNat≤64) (hl:st.length<32):stE E (c,b) st=0∧stS E (c,b) st=st++[b]∧stK (c,b) st=0:=by
 have hn:needs (c,b)=0:=by unfold needs; rw [if_pos hc]
 have hd:∀ l,does E (c,b) l=(0,[b]):=λl=>does_push l hc
 refine ⟨?_,?_,?_⟩
 ·unfold stE
  rw [hn,hd,if_neg (Nat.not_lt_zero _),if_neg (λh=>h rfl),Nat.sub_zero,List.take_length,if_neg (by rw [List.length_append]; simp; omega)]
 ·unfold stS
  rw [hn,hd,Nat.sub_zero,List.take_length]
 ·unfold stK
  exact skp_no _ (by dsimp only; omega) (by dsimp only; omega)
theorem exec_end (E:Env) (b:Bool):exec E [] [rS b] 0=if b then 0 else 133:=by cases b <;> rfl
theorem sgn_env (m:Byt) (h:Nat) {s k:Byt} (hk:k.length=32) (hs:s.length=64):sgn (envOf m h) s k=Cu.verB k m s:=by
 unfold sgn
 rw [decide_eq_true hk,decide_eq_true hs]
 rfl
theorem sig_len (sec:Nat) (m:Byt):(Cu.signL sec m).length=64:=by
 unfold Cu.signL
 split
 ·exact Cu.sigS_length _ _ _ _
 ·rfl
theorem text13_get (w:World) (d:Byt) (hd:d.length=32):Calls Tryz.prog 7 #[.agg (d.map bv).toArray] w (GetsN w (PyR d)):=(gets_of (text13_any (Base.of w) [] d hd w (St.start w))).mono λe w' he=>GetsN.mono (λ_ _ h=>PyR.of h) he
theorem run_val (h:Nat) (hh:h<18446744073709551616) (m:Byt) (hm:m.length=32) (w:World) (pv wv:Value) (p:Byt) (zs:List (Value×Byt)) (hp:BytR (rdW w) pv p) (hz:Arg (rdW w) (rdW w) wv zs) (ht:TbS w) (e:Nat) (he:run (envOf m h) p (zs.map (·.2))=e):Calls Tryz.prog 11 #[pv,wv,.agg (m.map bv).toArray,.int .u64 ((h:Nat):Int)] w (Gets w (.int .i64 ((e:Nat):Int))):=by
 rw [← he]
 exact run_get h hh m hm w pv wv p zs hp hz ht
end Pg
end
section
namespace Pg
open Go.RowKit Sy
set_option maxRecDepth 100000
set_option maxHeartbeats 4000000
open Wr
theorem par_keys2 (a b:UInt8):∀ l:List Byt,(∀ k∈l,k.length=32)→par (keysB l++[104,a,b]) []=(0,l.map (λk=>((32:UInt8),k))++[(104,[a,b])])
 | [],_=>by
  have e:=par_go (c:=104) (r:=[a,b]) (o:=[]) (o':=[]) (k:=2) rfl (by simp) rfl
  show par [104,a,b] []=_
  rw [e]
  rfl
 | k::l,h=>by
  have hk:=h k (List.mem_cons_self ..)
  have e1:keysB (k::l)++[104,a,b]=32::(k++(keysB l++[104,a,b])):=by
   show ((32::k)++keysB l)++[104,a,b]=_
   rw [List.append_assoc]; rfl
  have e:=par_go (c:=32) (r:=k++(keysB l++[104,a,b])) (o:=[]) (o':=[]) (k:=32) rfl (by rw [List.length_append]; omega) rfl
  have d1:(k++(keysB l++[104,a,b])).take 32=k:=by rw [← hk,List.take_left]
  have d2:(k++(keysB l++[104,a,b])).drop 32=keysB l++[104,a,b]:=by rw [← hk,List.drop_left]
  have ih:=par_keys2 a b l λx hx=>h x (List.mem_cons_of_mem _ hx)
  rw [e1,e,d1,d2,ih]
  rfl
theorem exec_keys (E:Env) (X:List Opn):∀ (l st:List Byt),(st++l).length≤32→exec E (l.map (λk=>((32:UInt8),k))++X) st 0=exec E X (st++l) 0
 | [],st,_=>by rw [List.append_nil]; rfl
 | k::l,st,h=>by
  have hl:st.length<32:=by rw [List.length_append,List.length_cons] at h; omega
  obtain ⟨p1,p2,p3⟩:=st_push (E:=E) (c:=32) (b:=k) (st:=st) (by decide) hl
  show exec E ((32,k)::(l.map (λk=>((32:UInt8),k))++X)) st 0=_
  rw [exec_go,p1,if_neg (λh=>h rfl),p2,p3,exec_keys E X l (st++[k]) (by rw [List.append_assoc]; exact h),List.append_assoc]
  rfl
def shrV (E:Env) (t:Nat) (ws ks:List Byt):Bool:=match shr E ws ks with | none=>false | some m=>decide (t≤m)
theorem run_share (E:Env) {T:Int} {ks ws:List Byt} (hk:∀ k∈ks,k.length=32) (ho:okSh T ks.length=true) (hw:ws.length=ks.length) (hs:∀ b∈ws,b.length≤256):run E (shareB T ks) ws=if shrV E T.toNat ws ks then 0 else 133:=by
 have ho':=ho
 unfold okSh at ho'
 simp only [Bool.and_eq_true,decide_eq_true_eq] at ho'
 have hn:ks.length≤7:=by omega
 have e:parse (shareB T ks)=par (shareB T ks) []:=by
  unfold parse shareB
  rw [if_neg (by rw [List.length_append,keysB_len hk]; simp; omega)]; rfl
 have e2:parse (shareB T ks)=(0,ks.map (λk=>((32:UInt8),k))++[(104,[UInt8.ofNat T.toNat,UInt8.ofNat ks.length])]):=by
  rw [e]; exact par_keys2 _ _ ks hk
 have hf:fits ws=true:=by
  unfold fits
  rw [Bool.and_eq_true,decide_eq_true_eq,List.all_eq_true]
  exact ⟨by omega,λb hb=>decide_eq_true (hs b hb)⟩
 unfold run
 rw [e2,if_neg (λh=>h rfl),if_pos hf,exec_keys E _ ks ws (by rw [List.length_append]; omega),exec_go]
 have a1:(UInt8.ofNat T.toNat).toNat=T.toNat:=by rw [UInt8.toNat_ofNat']; omega
 have a2:(UInt8.ofNat ks.length).toNat=ks.length:=by rw [UInt8.toNat_ofNat']; omega
 have hne:needs ((104:UInt8),[UInt8.ofNat T.toNat,UInt8.ofNat ks.length])=2*ks.length:=by
  show 2*(UInt8.ofNat ks.length).toNat=_
  rw [a2]
 have hl:(ws++ks).length=2*ks.length:=by rw [List.length_append]; omega
 have hd:does E ((104:UInt8),[UInt8.ofNat T.toNat,UInt8.ofNat ks.length]) (ws++ks)=(0,[rS (shrV E T.toNat ws ks)]):=by
  show (0,[rS (share E (UInt8.ofNat T.toNat).toNat (UInt8.ofNat ks.length).toNat (ws++ks))])=_
  rw [a1,a2]
  have e9:share E T.toNat ks.length (ws++ks)=shrV E T.toNat ws ks:=by
   unfold share shrV
   rw [← hw,List.take_left,List.drop_left]
   cases shr E ws ks <;> rfl
  rw [e9]
 have s1:stE E ((104:UInt8),[UInt8.ofNat T.toNat,UInt8.ofNat ks.length]) (ws++ks)=0:=by
  unfold stE
  rw [hne,hl,if_neg (by omega),Nat.sub_self,List.drop_zero,hd,if_neg (λh=>h rfl),List.take_zero,List.nil_append,if_neg (by simp)]
 have s2:stS E ((104:UInt8),[UInt8.ofNat T.toNat,UInt8.ofNat ks.length]) (ws++ks)=[rS (shrV E T.toNat ws ks)]:=by
  unfold stS
  rw [hne,hl,Nat.sub_self,List.drop_zero,hd,List.take_zero,List.nil_append]
 have s3:stK ((104:UInt8),[UInt8.ofNat T.toNat,UInt8.ofNat ks.length]) (ws++ks)=0:=by
  unfold stK
  exact skp_no _ (by dsimp only; decide) (by dsimp only; decide)
 rw [s1,if_neg (λh=>h rfl),s2,s3]
 exact exec_end E _
def cntS (ws:List Byt):Nat:=(ws.filter λs=>decide (s≠[])).length
theorem shr_all (E:Env):∀ ws ks:List Byt,ws.length=ks.length→(∀ (i:Nat) (s k:Byt),ws[i]? = some s→ks[i]? = some k→s=[]∨sgn E s k=true)→shr E ws ks=some (cntS ws)
 | [],[],_,_=>rfl
 | [],_::_,h,_=>by cases h
 | _::_,[],h,_=>by cases h
 | s::ws,k::ks,h,hg=>by
  have ih:=shr_all E ws ks (by simpa using h) λi a b ha hb=>hg (i+1) a b ha hb
  unfold shr
  rcases hg 0 s k rfl rfl with rfl | hv
  ·rw [if_pos rfl,ih]; rfl
  ·by_cases hs:s=[]
   ·subst hs
    rw [if_pos rfl,ih]; rfl
   ·rw [if_neg hs,if_pos hv,ih]
    unfold cntS
    rw [List.filter_cons,if_pos (decide_eq_true hs)]; rfl
theorem shr_get (E:Env):∀ (ws ks:List Byt) (m:Nat),shr E ws ks=some m→∀ (i:Nat) (s k:Byt),ws[i]? = some s→ks[i]? = some k→s≠[]→sgn E s k=true
 | [],_,_,_,_,_,_,h,_,_=>by cases h
 | _::_,[],_,_,_,_,_,_,h,_=>by cases h
 | s::ws,k::ks,m,h,i,a,b,ha,hb,hne=>by
  unfold shr at h
  by_cases hs:s=[]
  ·rw [if_pos hs] at h
   match i,ha,hb with
   | 0,ha,_=>cases ha; exact (hne hs).elim
   | i+1,ha,hb=>exact shr_get E ws ks m h i a b ha hb hne
  ·rw [if_neg hs] at h
   by_cases hv:sgn E s k=true
   ·rw [if_pos hv] at h
    match i,ha,hb with
    | 0,ha,hb=>cases ha; cases hb; exact hv
    | i+1,ha,hb =>
     cases hq:shr E ws ks with
     | none=>rw [hq] at h; cases h
     | some q=>exact shr_get E ws ks q hq i a b ha hb hne
   ·rw [if_neg hv] at h; cases h
theorem cntS_snoc (ws:List Byt) (s:Byt):cntS (ws++[s])=cntS ws+if s=[] then 0 else 1:=by
 unfold cntS
 rw [List.filter_append,List.length_append]
 by_cases h:s=[]
 ·subst h; rfl
 ·rw [if_neg h]
  have:List.filter (λs=>decide (s≠[])) [s]=[s]:=by rw [List.filter_cons,if_pos (decide_eq_true h)]; rfl
  rw [this]; rfl
theorem shrV_get {E:Env} {t:Nat} {ws ks:List Byt} (h:shrV E t ws ks=true) {i:Nat} {s k:Byt} (hs:ws[i]? = some s) (hk:ks[i]? = some k) (hne:s≠[]):sgn E s k=true:=by
 unfold shrV at h
 cases hq:shr E ws ks with
 | none=>rw [hq] at h; cases h
 | some m=>exact shr_get E ws ks m hq i s k hs hk hne
end Pg
end
section
namespace Pg
set_option maxRecDepth 100000
set_option maxHeartbeats 4000000
open Go.ChangeShapes Go.WideShapes Go.ChangeAt Go.RowKit Go.Deep
theorem arg_z {t:TypeId} (ht:Tryz.prog.underlying t=some (.int .i64)) {H:Type} {enc:TypeId×Value→H} {W:World} {r:Reach} {b0:Nat} {v:Value} {d:DataW H} {ps:List MemPlace} (hval:Value.okWide Tryz.prog W r b0 t v) (hT:DataW.Trod enc Tryz.prog W 0 (λ_=>true) true t v d ps):∃ z:Int,v=.int .i64 z ∧ -9223372036854775808≤z∧z<9223372036854775808:=by
 obtain ⟨z,rfl⟩:=okWide_int ht hval
 obtain ⟨fuel,hf⟩:=hT
 obtain ⟨z',e,_,hw⟩:=DataW.trod_int ht (show DataW.trod enc Tryz.prog W 0 (λ_=>true) true fuel t [.int .i64 z]=some (d,ps) by simpa [Value.cells] using hf)
 have e2:=List.head_eq_of_cons_eq e
 injection e2 with _ e2
 subst e2
 simp [Lit.wf,IntKind.bits,IntKind.signed,IntKind.min,IntKind.max] at hw
 exact ⟨z,rfl,by omega,by omega⟩
end Pg
end
section
namespace Pg
open Go.ChangeShapes Go.WideShapes Go.ChangeAt Go.RowKit Go.Deep
set_option maxRecDepth 100000
set_option maxHeartbeats 4000000
end Pg
end
section
namespace Pg
open Go.RowKit Sy
set_option maxRecDepth 100000
set_option maxHeartbeats 4000000
open Wr
noncomputable def infKy:TypeInfo:=(Tryz.prog.info? 31).getD default
theorem info_ky:Tryz.prog.info? 31=some infKy:=by kernel_rfl
def repS (C:Rdr) (cs:List Value) (n:Nat):Prop:=cs=(fcs n).toList∧n<Cu.K4
def repBl (_:Rdr) (cs:List Value) (b:Bool):Prop:=cs=[.bool b]
theorem keys_lst {w0:Base} {R:Blocks} {y:Slc} {ks:List Byt} (hy:y.Is 31 32 (ks.map λk=>k.map bv)) (hk:∀ k∈ks,k.length=32) (hR:∀ b∈y.bl,b∈R):LstR (rdC w0 R) 32 (repN 32) y.v ks:=by
 rcases hy.row with ⟨e1,e2⟩ | ⟨g,cap,sp,e2,h1,h2,h3⟩
 ·obtain rfl:ks=[]:=List.map_eq_nil_iff.1 e1
  exact ⟨none,0,0,by rw [e2],rfl,Nat.le_refl _,Nat.zero_le _,λh=>(h rfl).elim⟩
 ·rw [List.length_map] at h1 h2
  refine ⟨some ⟨g,0,none⟩,ks.length,cap,by rw [e2,List.length_map],rfl,h2,h3,λ_=>⟨g,0,rfl,λj k hj=>?_⟩⟩
  have hkl:=hk k (List.mem_of_getElem? hj)
  refine ⟨k.map bv,by rw [List.length_map,hkl],(λu hu=>by obtain ⟨z,_,rfl⟩:=List.mem_map.1 hu; rfl),⟨rfl,hkl⟩,λi u hu=>.inr ⟨31,_,hR _ (by rw [e2]; exact List.mem_singleton.2 rfl),?_⟩⟩
  have q:=flat_at' sp hy.len j (k.map bv) (by rw [List.getElem?_map,hj]; rfl)
  have hi:i<32:=by rw [← hkl, ← List.length_map (f:=bv)]; exact (List.getElem?_eq_some_iff.1 hu).1
  rw [← q,List.getElem?_take_of_lt hi,List.getElem?_drop] at hu
  rw [List.getElem?_toArray,Nat.zero_add]
  exact hu
def EOk (e:Slc×Byt):Prop:=e=(nilS,[])∨(BS e.1 e.2∧e.2.length=64)
def eB (es:List (Slc×Byt)):Blocks:=es.flatMap λe=>e.1.bl
theorem EOk.byt {w0:Base} {R:Blocks} {e:Slc×Byt} (h:EOk e) (hR:∀ b∈e.1.bl,b∈R):BytR (rdC w0 R) e.1.v e.2:=by
 rcases h with rfl | ⟨h,_⟩
 ·exact ⟨none,0,0,rfl,rfl,Nat.le_refl _,Nat.zero_le _,λh=>(h rfl).elim⟩
 ·exact (Slc_byt h).le λg o v q=>by
   obtain ⟨t,cs,hm,hc⟩:=q
   exact .inr ⟨t,cs,hR _ hm,hc⟩
theorem eB_mem {es:List (Slc×Byt)} {e:Slc×Byt} (h:e∈es):∀ b∈e.1.bl,b∈eB es:=λb hb=>List.mem_flatMap.2 ⟨e,h,hb⟩
theorem es_arg {w0:Base} {R:Blocks} {y:Slc} {es:List (Slc×Byt)} (hy:y.Is 39 1 (es.map λe=>[e.1.v])) (he:∀ e∈es,EOk e) (hR:∀ b∈y.bl,b∈R) (hE:∀ b∈eB es,b∈R):Arg (rdC w0 R) (rdC w0 R) y.v (es.map λe=>(e.1.v,e.2)) :=
 row_arg (by rw [List.map_map]; exact hy) (λz hz=>by
  obtain ⟨e,h,rfl⟩:=List.mem_map.1 hz
  exact (he e h).byt λb hb=>hE b (eB_mem h b hb)) hR (λ_ _=>.inr trivial)
theorem fill_1 {place:Nat→Option (Nat×Nat)} {cs:Array Value} {v:Value} (hp:place 0=some (0,1)) (hv:v.cells=#[v]) (hs:cs.size=1):Instr.fill place cs [(0,v)]=some #[v]:=by
 obtain ⟨a,rfl⟩:∃ a,cs=#[a]:=Array.size_eq_one_iff.1 hs
 unfold Instr.fill
 rw [hp]
 simp only [hv,List.size_toArray,List.length_singleton,Nat.zero_add,ne_eq,not_true_eq_false,decide_false,Bool.false_or]
 rw [if_neg (by simp)]
 unfold Instr.fill
 rfl
theorem makes_one1 {P:Program} {F:Slots} {o:Oper} (t e:TypeId) (ie:TypeInfo) (z:Value) (x:Operand) (v:Value) (ho:o.op=.buildSlice t 1 #[(0,x)]) (hx:evF F x=v) (hv:v.cells=#[v]) (ht:P.underlying t=some (.slice e)) (hi:P.info? e=some ie) (hz:ie.zero=some z) (hs:ie.size=1) :
  Makes P F o e #[v] (λg=>.slice (some ⟨g,0,none⟩) 1 1):=λw=>by
 have hr:=run_buildSlice (P:=P) w t e 1 #[(0,v)] #[v] ie z ht hi hz (by omega) (by omega) (fill_1 (by simp [hs]) hv (by simp [hs]))
 unfold execOp
 simp only [ho,Sem.run_bind,List.map_toArray,List.map_cons,List.map_nil,hx,hr,Result.andThen_ok,Sem.run_pure]
structure YS where
 y7:Slc
 y8:Slc
 ks:List Byt
 es:List (Slc×Byt)
 m:Nat
structure HS (msg:Byt) (i:Nat) (y:YS):Prop where
 r7:y.y7.Is 31 32 (y.ks.map λk=>k.map bv)
 r8:y.y8.Is 39 1 (y.es.map λe=>[e.1.v])
 n7:y.ks.length=i
 n8:y.es.length=i
 kl:∀ k∈y.ks,k.length=32
 ok:∀ e∈y.es,EOk e
 mc:y.m=cntS (y.es.map (·.2))
 vr:∀ (j:Nat) (e:Slc×Byt) (k:Byt),y.es[j]? = some e→y.ks[j]? = some k→e.2=[]∨Cu.verB k msg e.2=true
theorem HS.snoc {msg:Byt} {i:Nat} {y:YS} (h:HS msg i y) {a b:Slc} {k:Byt} {e:Slc×Byt} (h7:a.Is 31 32 ((y.ks.map λk=>k.map bv)++[k.map bv])) (h8:b.Is 39 1 ((y.es.map λe=>[e.1.v])++[[e.1.v]])) (hk:k.length=32) (he:EOk e) (hv:e.2=[]∨Cu.verB k msg e.2=true) {m:Nat} (hm:m=y.m+if e.2=[] then 0 else 1):HS msg (i+1) ⟨a,b,y.ks++[k],y.es++[e],m⟩ where
 mc:=by show m=cntS ((y.es++[e]).map (·.2)); rw [hm,h.mc,List.map_append]; exact (cntS_snoc _ _).symm
 r7:=by show a.Is _ 32 ((y.ks++[k]).map _); rw [List.map_append]; exact h7
 r8:=by show b.Is _ 1 ((y.es++[e]).map _); rw [List.map_append]; exact h8
 n7:=by show (y.ks++[k]).length=_; rw [List.length_append,h.n7]; rfl
 n8:=by show (y.es++[e]).length=_; rw [List.length_append,h.n8]; rfl
 kl:=λz hz=>by
  rcases List.mem_append.1 hz with hz | hz
  ·exact h.kl z hz
  ·rw [List.mem_singleton.1 hz]; exact hk
 ok:=λz hz=>by
  rcases List.mem_append.1 hz with hz | hz
  ·exact h.ok z hz
  ·rw [List.mem_singleton.1 hz]; exact he
 vr:=λj z q hz hq=>by
  have hj:j<i+1:=by
   have:=(List.getElem?_eq_some_iff.1 hz).1
   rw [List.length_append,h.n8] at this; exact this
  rcases Nat.lt_or_eq_of_le (Nat.le_of_lt_succ hj) with hj | rfl
  ·rw [List.getElem?_append_left (by rw [h.n8]; exact hj)] at hz
   rw [List.getElem?_append_left (by rw [h.n7]; exact hj)] at hq
   exact h.vr j z q hz hq
  ·rw [List.getElem?_append_right (by rw [h.n8]; exact Nat.le_refl _),h.n8,Nat.sub_self] at hz
   rw [List.getElem?_append_right (by rw [h.n7]; exact Nat.le_refl _),h.n7,Nat.sub_self] at hq
   cases hz; cases hq; exact hv
theorem eB_snoc (es:List (Slc×Byt)) (e:Slc×Byt):eB (es++[e])=eB es++e.1.bl:=by
 unfold eB
 rw [List.flatMap_append,List.flatMap_singleton]
theorem byt_full {y:Slc} {b:Byt} {n:Nat} (h:BS y b) (hn:b.length=n) (h0:n≠0):∃ g cap rr,y=⟨.slice (some ⟨g,0,none⟩) n cap,[(g,5,(b.map bv++rr).toArray)]⟩∧rr.length+n=cap∧cap≤maxLen:=by
 rcases h.row with ⟨e,_⟩ | ⟨g,cap,rr,rfl,h1,h2,h3⟩
 ·have:=congrArg List.length e
  rw [byL_len,hn] at this
  exact (h0 this).elim
 ·rw [byL_flat,byL_len,hn]
  rw [byL_len,hn] at h1
  exact ⟨g,cap,rr,rfl,by omega,h3⟩
theorem byt_mk {g n cap:Nat} {b:Byt} {rr:List Value} (hn:b.length=n) (hs:rr.length+n=cap) (hm:cap≤maxLen):BS ⟨.slice (some ⟨g,0,none⟩) n cap,[(g,5,(b.map bv++rr).toArray)]⟩ b :=
 Slc.Is.mk' (byL_one b) (byL_oneC b) (by rw [byL_len,hn]) (by rw [byL_flat,Nat.mul_one,List.take_left' (by rw [List.length_map,hn])]) (by rw [List.length_append,List.length_map]; omega) (by omega) hm
theorem set_row {b:Byt} {rr:List Value} {k:Nat} (h:k<b.length) (u:UInt8):(b.map bv++rr).toArray.setIfInBounds k (bv u)=((b.set k u).map bv++rr).toArray:=by
 rw [List.setIfInBounds_toArray,List.set_append_left _ _ (by rw [List.length_map]; exact h),List.map_set]
theorem xor_one (u:UInt8):IntKind.u8.wrap ((BitVec.ofInt 8 ((u.toNat:Nat):Int) ^^^ BitVec.ofInt 8 1).toNat:Int)=(((u ^^^ 1).toNat:Nat):Int):=by
 have hu:=u.toNat_lt
 have e:BitVec.ofInt 8 ((u.toNat:Nat):Int)=u.toBitVec:=BitVec.eq_of_toNat_eq (by
  rw [BitVec.toNat_ofInt]
  show (((u.toNat:Nat):Int)%256).toNat=u.toNat
  omega)
 have h:(u.toBitVec ^^^ BitVec.ofInt 8 1).toNat=(u ^^^ 1).toNat:=rfl
 have hv:=(u ^^^ 1).toNat_lt
 rw [e,h]
 exact wrap_u8 (by omega) (by omega)
theorem eB_mid (a b:List (Slc×Byt)) (e:Slc×Byt):eB (a++e::b)=eB a++(e.1.bl++eB b):=by
 unfold eB
 rw [List.flatMap_append,List.flatMap_cons]
theorem mid_of {α:Type} {l:List α} {k:Nat} {e:α} (h:l[k]? = some e):∃ a b,l=a++e::b∧a.length=k:=by
 obtain ⟨hk,rfl⟩:=List.getElem?_eq_some_iff.1 h
 refine ⟨l.take k,l.drop (k+1),?_,by rw [List.length_take]; omega⟩
 rw [← List.drop_eq_getElem_cons hk,List.take_append_drop]
theorem es_small {msg:Byt} {i:Nat} {y:YS} (h:HS msg i y):∀ b∈y.es.map (·.2),b.length≤256:=λb hb=>by
 obtain ⟨e,he,rfl⟩:=List.mem_map.1 hb
 rcases h.ok e he with rfl | ⟨_,h2⟩
 ·exact Nat.zero_le _
 ·omega
theorem run_es {msg:Byt} {i:Nat} {y:YS} (h:HS msg i y) {T:Int} (ho:okSh T y.ks.length=true):run (envOf msg 0) (shareB T y.ks) (y.es.map (·.2))=if decide (T≤((y.m:Nat):Int)) then 0 else 133:=by
 have hw:(y.es.map (·.2)).length=y.ks.length:=by rw [List.length_map,h.n8,h.n7]
 rw [run_share (envOf msg 0) h.kl ho hw (es_small h)]
 have e:=shr_all (envOf msg 0) (y.es.map (·.2)) y.ks hw λi s k hs hk=>by
  rw [List.getElem?_map] at hs
  cases he:y.es[i]? with
  | none=>rw [he] at hs; cases hs
  | some e =>
   rw [he] at hs
   obtain rfl:e.2=s:=Option.some.inj hs
   rcases h.vr i e k he hk with h0 | hv
   ·exact .inl h0
   ·rcases h.ok e (List.mem_of_getElem? he) with rfl | ⟨_,h2⟩
    ·exact .inl rfl
    ·exact .inr (by rw [sgn_env msg 0 (h.kl k (List.mem_of_getElem? hk)) h2]; exact hv)
 have e2:shrV (envOf msg 0) T.toNat (y.es.map (·.2)) y.ks=decide (T≤((y.m:Nat):Int)):=by
  unfold shrV
  rw [e,h.mc]
  unfold okSh at ho
  simp only [Bool.and_eq_true,decide_eq_true_eq] at ho
  exact decide_eq_decide.2 (by omega)
 rw [e2]
theorem run_turned {msg:Byt} {i:Nat} {y:YS} (h:HS msg i y) {T:Int} (ho:okSh T y.ks.length=true) {ws:List Byt} (hw:ws.length=y.ks.length) (hs:∀ b∈ws,b.length≤256) {j:Nat} {S k:Byt} (hj:ws[j]? = some S) (hk:y.ks[j]? = some k) (hS:S.length=64):run (envOf msg 0) (shareB T y.ks) ws=133∨Cu.verB k msg S=true:=by
 rw [run_share (envOf msg 0) h.kl ho hw hs]
 cases hv:shrV (envOf msg 0) T.toNat ws y.ks with
 | false=>exact .inl rfl
 | true =>
  have q:=shrV_get hv hj hk (by intro e; rw [e] at hS; cases hS)
  rw [sgn_env msg 0 (h.kl k (List.mem_of_getElem? hk)) hS] at q
  exact .inr q
theorem byt_nilS:BS nilS []:=Slc.Is.nil _ _
end Pg
end
section
namespace Cu
open Go.ChangeShapes Go.WideShapes Go.ChangeAt Go.RowKit Go.Deep
theorem words_trod {H:Type} {enc:TypeId×Value→H} {P:Program} {W:World} {b:Nat} {sp:Nat→Bool} {held:Bool} {fuel:Nat} {t q:TypeId} {c0 c1 c2 c3:Value} {x:DataW H×List MemPlace} (ht:P.underlying t=some (.array 4 q)) (hq:P.underlying q=some (.int .u64)) (hcq:P.cellsOf q=1)
  (hf:DataW.trod enc P W b sp held fuel t [c0,c1,c2,c3]=some x):∃ n:Nat,n<K4∧[c0,c1,c2,c3]=fws n:=by
 obtain ⟨y0,y1,y2,y3,m,_,g0,g1,g2,g3⟩:=trod_array4 ht hcq hf
 obtain ⟨z0,e0,_,w0⟩:=DataW.trod_int hq g0
 obtain ⟨z1,e1,_,w1⟩:=DataW.trod_int hq g1
 obtain ⟨z2,e2,_,w2⟩:=DataW.trod_int hq g2
 obtain ⟨z3,e3,_,w3⟩:=DataW.trod_int hq g3
 obtain ⟨a,rfl,ha⟩:=u64_wf w0
 obtain ⟨b,rfl,hb⟩:=u64_wf w1
 obtain ⟨c,rfl,hc⟩:=u64_wf w2
 obtain ⟨e,rfl,he⟩:=u64_wf w3
 simp only [List.cons.injEq,and_true] at e0 e1 e2 e3
 subst e0 e1 e2 e3
 refine ⟨_,fv_lt a b c e ha hb hc he,?_⟩
 have h:=fv_mk a b c e ha hb hc he
 rw [fv_fws] at h
 injection h with h
 exact congrArg Array.toList h
end Cu
end
section
namespace Pg
open Go.RowKit Sy
set_option maxRecDepth 100000
set_option maxHeartbeats 4000000
open Wr
theorem opn_scl:Opng 30 4 repS (λ_=>0):=⟨λ{H enc W fuel cs x} hl hf=>by
 match cs,hl with
 | [c0,c1,c2,c3],_ =>
  obtain ⟨n,h1,h2⟩:=Cu.words_trod Tryz.underlying30 Tryz.underlying28 (by kernel_rfl) hf
  refine ⟨n,⟨h2,h1⟩,λu hu=>?_,bulk_pos _⟩
  rw [h2] at hu
  simp only [Cu.fws,List.mem_cons,List.not_mem_nil,or_false] at hu
  rcases hu with rfl | rfl | rfl | rfl <;> rfl⟩
theorem opn_bl:Opng 4 1 repBl (λ_=>0):=(opn_b Tryz.underlying4).as λC cs z h=>⟨z,h,Nat.le_refl _⟩
theorem opn_scs:Opng 22 1 (repL 4 repS) (λl=>l.length+(l.map λ_=>0).sum):=opn_l Tryz.underlying22 (by kernel_rfl) (by decide) opn_scl
theorem opn_bls:Opng 23 1 (repL 1 repBl) (λl=>l.length+(l.map λ_=>0).sum):=opn_l Tryz.underlying23 (by kernel_rfl) (by decide) opn_bl
end Pg
end
end Go.Proofs.YtgggdbjakcpanabGreatDoor
