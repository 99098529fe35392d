/-
  Texts of ours, put together: CrvO, ScSpec, ScLow, FeB32, FeRead, RefSqrt, RootNum, CrvD, CrvP, CrvQ, EcW, CrvR, SymF, SymG, CrvS, CrvT, CrvU, ScRefN.
-/
import Derived.Test.YtlooclodlpcglaaGreatDoorBV3
set_option linter.unusedVariables false
set_option linter.unusedSimpArgs false
namespace Go.Proofs.YtlooclodlpcglaaGreatDoor
section
namespace Cu
open Go.RowKit Sy
set_option maxRecDepth 100000
set_option maxHeartbeats 4000000
def BU (a:J):J:=if a.z=0 then a else A9 a
theorem J7 {a:J} {P:Pt} (hP:Ec.On P) (h:Ec.Rep a P):Ec.Rep (BU a) (Ec.add Ac P P):=by
 unfold BU
 by_cases k:a.z=0
 ·rw [if_pos k]
  rcases P with _ | ⟨X,Y⟩
  ·exact k
  ·exact absurd k h.1
 ·rw [if_neg k]; exact Es hP h
def hR (a:J) (x:Fp):Fp:=x*(a.z*a.z) - a.x
def rR (a:J) (y:Fp):Fp:=y*(a.z*a.z*a.z) - a.y
def pxR (a:J) (x y:Fp):Fp:=rR a y*rR a y - hR a x*hR a x*hR a x - (a.x*(hR a x*hR a x)+a.x*(hR a x*hR a x))
def pyR (a:J) (x y:Fp):Fp:=rR a y*(a.x*(hR a x*hR a x) - pxR a x y) - a.y*(hR a x*hR a x*hR a x)
def BD (a:J) (x y:Fp):J:=if a.z=0 then ⟨x,y,1⟩ else if x*(a.z*a.z)=a.x then (if y*(a.z*a.z*a.z)=a.y then BU a else ⟨0,0,0⟩) else ⟨pxR a x y,pyR a x y,a.z*hR a x⟩
theorem Me {a:J} {P:Pt} {x y:Fp} (hP:Ec.On P) (hQ:y*y=x*x*x+7) (h:Ec.Rep a P):Ec.Rep (BD a x y) (Ec.add Ac P (some (x,y))):=by
 rcases P with _ | ⟨X,Y⟩
 ·unfold BD
  rw [if_pos (show a.z=0 from h),Ec.zero_add]
  exact GE (some (x,y))
 obtain ⟨h0,h1,h2⟩:=h
 unfold BD
 rw [if_neg h0]
 have hZZ:=fld.ne_mul h0 h0
 have hZZZ:=fld.ne_mul hZZ h0
 by_cases e1:x*(a.z*a.z)=a.x
 ·rw [if_pos e1]
  have ex:x=X:=fld.cancel hZZ (by rw [h1] at e1; clear h1 h2 hP hQ; grobner)
  subst ex
  by_cases e2:y*(a.z*a.z*a.z)=a.y
  ·rw [if_pos e2]
   have ey:y=Y:=fld.cancel hZZZ (by rw [h2] at e2; clear h1 h2 hP hQ e1; grobner)
   subst ey
   exact J7 hP ⟨h0,h1,h2⟩
  ·rw [if_neg e2]
   have hne:Y≠y:=λq=>e2 (by rw [← q,h2])
   have hs:Y+y=0:=Classical.byContradiction λt=>Ec.off fld hP hQ (λq=>hne q.2) (λq=>t q.2) rfl
   have ea:Ec.add Ac (some (x,Y)) (some (x,y))=none:=if_pos ⟨rfl,hs⟩
   rw [ea]
   rfl
 ·rw [if_neg e1]
  exact Ec.ad fld (Z:=a.z) (u:=a.x) (v:=a.y) (c:=hR a x) (r:=rR a y) hP hQ h0 h1 h2 rfl rfl (λq=>e1 (by have:=q.1; unfold hR at this; clear q h1 h2 hP hQ; grobner)) rfl rfl rfl
theorem PP {a:J} {x y:Fp} (h:a.z=0):BD a x y=⟨x,y,1⟩:=if_pos h
theorem PO {a:J} {x y:Fp} (h:a.z≠0) (k:x*(a.z*a.z)=a.x) (m:y*(a.z*a.z*a.z)=a.y):BD a x y=BU a:=by unfold BD; rw [if_neg h,if_pos k,if_pos m]
theorem PN {a:J} {x y:Fp} (h:a.z≠0) (k:x*(a.z*a.z)=a.x) (m:y*(a.z*a.z*a.z)≠a.y):BD a x y=⟨0,0,0⟩:=by unfold BD; rw [if_neg h,if_pos k,if_neg m]
theorem PM {a:J} {x y:Fp} (h:a.z≠0) (k:x*(a.z*a.z)≠a.x):BD a x y=⟨pxR a x y,pyR a x y,a.z*hR a x⟩:=by unfold BD; rw [if_neg h,if_neg k]
theorem Dm (w:World) (a:J):Calls Tryz.prog 63 #[tv a.x.val a.y.val a.z.val] w (Gets w (tv (BU a).x.val (BU a).y.val (BU a).z.val)):=by
 refine Sy.enter (args:=[tv a.x.val a.y.val a.z.val]) Tryz.func63 rfl kL ?_
 refine sC ?_
 refine sM 107 (tcs a.x.val a.y.val a.z.val) (λg0=>?_)
 refine sM 107 (tcs 0 0 0) (λg1=>?_)
 refine sG<|Sy.seq<|sC ?_
 refine sP (.pointer (some ⟨g0,8,none⟩))<|sS (fv a.z.val) (qL 0 g0 8 4 107 98 (tcs a.x.val a.y.val a.z.val) rfl Tryz.underlying98)<|sP (fv 0) ?_
 obtain ⟨b1,hb1⟩:∃ z:Bool,z=decide (a.z.val=0):=⟨_,rfl⟩
 refine sS (.bool b1) (Quiet.pure (λw=>by rw [hb1]; exact C6 w _ _ _ _ _ _ rfl rfl rfl lK lK)) ?_
 refine sG ?_
 cases b1
 ·have eb1:a.z≠(0:Fp):=λe=>of_decide_eq_false hb1.symm (congrArg Fin.val e)
  refine sU<|Sy.skip<|sB ?_
  refine sP (.pointer (some ⟨g0,0,none⟩))<|sS (fv a.x.val) (qL 0 g0 0 4 107 98 (tcs a.x.val a.y.val a.z.val) rfl Tryz.underlying98)<|sP (.pointer (some ⟨g0,0,none⟩))<|sS (fv a.x.val) (qL 0 g0 0 4 107 98 (tcs a.x.val a.y.val a.z.val) rfl Tryz.underlying98) ?_
  obtain ⟨z1,hz1⟩:∃ z:Fp,z=a.x*a.x:=⟨_,rfl⟩
  refine sS (fv z1.val) (qF 68 #[fv a.x.val,fv a.x.val] (λw=>by rw [hz1]; exact Aw w a.x a.x)) ?_
  refine sM 98 (fcs 0) (λg2=>?_)
  refine sW 2 g2 98 (fcs 0) (fcs z1.val) (wS 0 98 (fcs z1.val) rfl) ?_
  refine sA ?_
  refine sP (.pointer (some ⟨g0,4,none⟩))<|sS (fv a.y.val) (qL 0 g0 4 4 107 98 (tcs a.x.val a.y.val a.z.val) rfl Tryz.underlying98)<|sP (.pointer (some ⟨g0,4,none⟩))<|sS (fv a.y.val) (qL 0 g0 4 4 107 98 (tcs a.x.val a.y.val a.z.val) rfl Tryz.underlying98) ?_
  obtain ⟨z2,hz2⟩:∃ z:Fp,z=a.y*a.y:=⟨_,rfl⟩
  refine sS (fv z2.val) (qF 68 #[fv a.y.val,fv a.y.val] (λw=>by rw [hz2]; exact Aw w a.y a.y)) ?_
  refine sM 98 (fcs 0) (λg3=>?_)
  refine sW 3 g3 98 (fcs 0) (fcs z2.val) (wS 0 98 (fcs z2.val) rfl) ?_
  refine sA ?_
  refine sS (fv z2.val) (qL 3 g3 0 4 98 98 (fcs z2.val) rfl Tryz.underlying98)<|sS (fv z2.val) (qL 3 g3 0 4 98 98 (fcs z2.val) rfl Tryz.underlying98) ?_
  obtain ⟨z3,hz3⟩:∃ z:Fp,z=z2*z2:=⟨_,rfl⟩
  refine sS (fv z3.val) (qF 68 #[fv z2.val,fv z2.val] (λw=>by rw [hz3]; exact Aw w z2 z2)) ?_
  refine sM 98 (fcs 0) (λg4=>?_)
  refine sW 4 g4 98 (fcs 0) (fcs z3.val) (wS 0 98 (fcs z3.val) rfl) ?_
  refine sA ?_
  refine sP (.pointer (some ⟨g0,0,none⟩))<|sS (fv a.x.val) (qL 0 g0 0 4 107 98 (tcs a.x.val a.y.val a.z.val) rfl Tryz.underlying98)<|sS (fv z2.val) (qL 3 g3 0 4 98 98 (fcs z2.val) rfl Tryz.underlying98) ?_
  obtain ⟨z4,hz4⟩:∃ z:Fp,z=a.x*z2:=⟨_,rfl⟩
  refine sS (fv z4.val) (qF 68 #[fv a.x.val,fv z2.val] (λw=>by rw [hz4]; exact Aw w a.x z2)) ?_
  refine sM 98 (fcs 0) (λg5=>?_)
  refine sW 5 g5 98 (fcs 0) (fcs z4.val) (wS 0 98 (fcs z4.val) rfl) ?_
  refine sH (λj=>j == 7) ?_
  refine sD 0 rfl (fv z4.val) (qL 5 g5 0 4 98 98 (fcs z4.val) rfl Tryz.underlying98)<|sD 1 rfl (fv z4.val) (qL 5 g5 0 4 98 98 (fcs z4.val) rfl Tryz.underlying98) ?_
  obtain ⟨z5,hz5⟩:∃ z:Fp,z=z4+z4:=⟨_,rfl⟩
  refine sD 2 rfl (fv z5.val) (qF 121 #[fv z4.val,fv z4.val] (λw=>by rw [hz5]; exact CA w z4 z4))<|sD 3 rfl (fv z4.val) (qL 5 g5 0 4 98 98 (fcs z4.val) rfl Tryz.underlying98)<|sD 4 rfl (fv z4.val) (qL 5 g5 0 4 98 98 (fcs z4.val) rfl Tryz.underlying98) ?_
  obtain ⟨z6,hz6⟩:∃ z:Fp,z=z4+z4:=⟨_,rfl⟩
  refine sD 5 rfl (fv z6.val) (qF 121 #[fv z4.val,fv z4.val] (λw=>by rw [hz6]; exact CA w z4 z4)) ?_
  obtain ⟨z7,hz7⟩:∃ z:Fp,z=z5+z6:=⟨_,rfl⟩
  refine sD 6 rfl (fv z7.val) (qF 121 #[fv z5.val,fv z6.val] (λw=>by rw [hz7]; exact CA w z5 z6))<|sX 7 rfl 5 g5 98 (fcs z4.val) (fcs z7.val) (wS 0 98 (fcs z7.val) rfl) ?_
  refine sE ?_
  refine sR (λj=>j == 6) ?_
  refine sD 0 rfl (fv z1.val) (qL 2 g2 0 4 98 98 (fcs z1.val) rfl Tryz.underlying98)<|sD 1 rfl (fv z1.val) (qL 2 g2 0 4 98 98 (fcs z1.val) rfl Tryz.underlying98)<|sD 2 rfl (fv z1.val) (qL 2 g2 0 4 98 98 (fcs z1.val) rfl Tryz.underlying98) ?_
  obtain ⟨z8,hz8⟩:∃ z:Fp,z=z1+z1:=⟨_,rfl⟩
  refine sD 3 rfl (fv z8.val) (qF 121 #[fv z1.val,fv z1.val] (λw=>by rw [hz8]; exact CA w z1 z1)) ?_
  obtain ⟨z9,hz9⟩:∃ z:Fp,z=z1+z8:=⟨_,rfl⟩
  refine sD 4 rfl (fv z9.val) (qF 121 #[fv z1.val,fv z8.val] (λw=>by rw [hz9]; exact CA w z1 z8)) ?_
  refine sO 5 rfl 98 (fcs 0) (λg6=>?_)
  refine sX 6 rfl 6 g6 98 (fcs 0) (fcs z9.val) (wS 0 98 (fcs z9.val) rfl) ?_
  refine sE ?_
  refine sR (λj=>j == 8) ?_
  refine sD 0 rfl (fv z9.val) (qL 6 g6 0 4 98 98 (fcs z9.val) rfl Tryz.underlying98)<|sD 1 rfl (fv z9.val) (qL 6 g6 0 4 98 98 (fcs z9.val) rfl Tryz.underlying98) ?_
  obtain ⟨z10,hz10⟩:∃ z:Fp,z=z9*z9:=⟨_,rfl⟩
  refine sD 2 rfl (fv z10.val) (qF 68 #[fv z9.val,fv z9.val] (λw=>by rw [hz10]; exact Aw w z9 z9))<|sD 3 rfl (fv z7.val) (qL 5 g5 0 4 98 98 (fcs z7.val) rfl Tryz.underlying98)<|sD 4 rfl (fv z7.val) (qL 5 g5 0 4 98 98 (fcs z7.val) rfl Tryz.underlying98) ?_
  obtain ⟨z11,hz11⟩:∃ z:Fp,z=z7+z7:=⟨_,rfl⟩
  refine sD 5 rfl (fv z11.val) (qF 121 #[fv z7.val,fv z7.val] (λw=>by rw [hz11]; exact CA w z7 z7)) ?_
  obtain ⟨z12,hz12⟩:∃ z:Fp,z=z10 - z11:=⟨_,rfl⟩
  refine sD 6 rfl (fv z12.val) (qF 122 #[fv z10.val,fv z11.val] (λw=>by rw [hz12]; exact Ba w z10 z11)) ?_
  refine sO 7 rfl 98 (fcs 0) (λg7=>?_)
  refine sX 8 rfl 7 g7 98 (fcs 0) (fcs z12.val) (wS 0 98 (fcs z12.val) rfl) ?_
  refine sE ?_
  refine sB ?_
  refine sS (fv z3.val) (qL 4 g4 0 4 98 98 (fcs z3.val) rfl Tryz.underlying98)<|sS (fv z3.val) (qL 4 g4 0 4 98 98 (fcs z3.val) rfl Tryz.underlying98) ?_
  obtain ⟨z13,hz13⟩:∃ z:Fp,z=z3+z3:=⟨_,rfl⟩
  refine sS (fv z13.val) (qF 121 #[fv z3.val,fv z3.val] (λw=>by rw [hz13]; exact CA w z3 z3))<|sW 4 g4 98 (fcs z3.val) (fcs z13.val) (wS 0 98 (fcs z13.val) rfl) ?_
  refine sA ?_
  refine sS (fv z13.val) (qL 4 g4 0 4 98 98 (fcs z13.val) rfl Tryz.underlying98)<|sS (fv z13.val) (qL 4 g4 0 4 98 98 (fcs z13.val) rfl Tryz.underlying98) ?_
  obtain ⟨z14,hz14⟩:∃ z:Fp,z=z13+z13:=⟨_,rfl⟩
  refine sS (fv z14.val) (qF 121 #[fv z13.val,fv z13.val] (λw=>by rw [hz14]; exact CA w z13 z13))<|sW 4 g4 98 (fcs z13.val) (fcs z14.val) (wS 0 98 (fcs z14.val) rfl) ?_
  refine sA ?_
  refine sS (fv z14.val) (qL 4 g4 0 4 98 98 (fcs z14.val) rfl Tryz.underlying98)<|sS (fv z14.val) (qL 4 g4 0 4 98 98 (fcs z14.val) rfl Tryz.underlying98) ?_
  obtain ⟨z15,hz15⟩:∃ z:Fp,z=z14+z14:=⟨_,rfl⟩
  refine sS (fv z15.val) (qF 121 #[fv z14.val,fv z14.val] (λw=>by rw [hz15]; exact CA w z14 z14))<|sW 4 g4 98 (fcs z14.val) (fcs z15.val) (wS 0 98 (fcs z15.val) rfl) ?_
  refine sH (λj=>j == 8) ?_
  refine sD 0 rfl (fv z9.val) (qL 6 g6 0 4 98 98 (fcs z9.val) rfl Tryz.underlying98)<|sD 1 rfl (fv z7.val) (qL 5 g5 0 4 98 98 (fcs z7.val) rfl Tryz.underlying98)<|sD 2 rfl (fv z12.val) (qL 7 g7 0 4 98 98 (fcs z12.val) rfl Tryz.underlying98) ?_
  obtain ⟨z16,hz16⟩:∃ z:Fp,z=z7 - z12:=⟨_,rfl⟩
  refine sD 3 rfl (fv z16.val) (qF 122 #[fv z7.val,fv z12.val] (λw=>by rw [hz16]; exact Ba w z7 z12)) ?_
  obtain ⟨z17,hz17⟩:∃ z:Fp,z=z9*z16:=⟨_,rfl⟩
  refine sD 4 rfl (fv z17.val) (qF 68 #[fv z9.val,fv z16.val] (λw=>by rw [hz17]; exact Aw w z9 z16))<|sD 5 rfl (fv z15.val) (qL 4 g4 0 4 98 98 (fcs z15.val) rfl Tryz.underlying98) ?_
  obtain ⟨z18,hz18⟩:∃ z:Fp,z=z17 - z15:=⟨_,rfl⟩
  refine sD 6 rfl (fv z18.val) (qF 122 #[fv z17.val,fv z15.val] (λw=>by rw [hz18]; exact Ba w z17 z15)) ?_
  refine sO 7 rfl 98 (fcs 0) (λg8=>?_)
  refine sX 8 rfl 8 g8 98 (fcs 0) (fcs z18.val) (wS 0 98 (fcs z18.val) rfl) ?_
  refine sE ?_
  refine sB ?_
  refine sP (.pointer (some ⟨g0,4,none⟩))<|sS (fv a.y.val) (qL 0 g0 4 4 107 98 (tcs a.x.val a.y.val a.z.val) rfl Tryz.underlying98)<|sP (.pointer (some ⟨g0,8,none⟩))<|sS (fv a.z.val) (qL 0 g0 8 4 107 98 (tcs a.x.val a.y.val a.z.val) rfl Tryz.underlying98) ?_
  obtain ⟨z19,hz19⟩:∃ z:Fp,z=a.y*a.z:=⟨_,rfl⟩
  refine sS (fv z19.val) (qF 68 #[fv a.y.val,fv a.z.val] (λw=>by rw [hz19]; exact Aw w a.y a.z)) ?_
  refine sM 98 (fcs 0) (λg9=>?_)
  refine sW 9 g9 98 (fcs 0) (fcs z19.val) (wS 0 98 (fcs z19.val) rfl) ?_
  refine sH (λj=>j == 6) ?_
  refine sD 0 rfl (fv z12.val) (qL 7 g7 0 4 98 98 (fcs z12.val) rfl Tryz.underlying98)<|sD 1 rfl (fv z18.val) (qL 8 g8 0 4 98 98 (fcs z18.val) rfl Tryz.underlying98)<|sD 2 rfl (fv z19.val) (qL 9 g9 0 4 98 98 (fcs z19.val) rfl Tryz.underlying98)<|sD 3 rfl (fv z19.val) (qL 9 g9 0 4 98 98 (fcs z19.val) rfl Tryz.underlying98) ?_
  obtain ⟨z20,hz20⟩:∃ z:Fp,z=z19+z19:=⟨_,rfl⟩
  refine sD 4 rfl (fv z20.val) (qF 121 #[fv z19.val,fv z19.val] (λw=>by rw [hz20]; exact CA w z19 z19))<|sZ 5 rfl (tv z12.val z18.val z20.val)<|sX 6 rfl 1 g1 107 (tcs 0 0 0) (tcs z12.val z18.val z20.val) (wS 0 107 (tcs z12.val z18.val z20.val) rfl) ?_
  refine sI ?_
  refine Sy.ret ?_
  rw [show (tv (BU a).x.val (BU a).y.val (BU a).z.val:Value)=tv z12.val z18.val z20.val from by
   unfold BU; rw [if_neg eb1]
   have k0:(A9 a).x=z12:=by
    simp only [A9,pxR,pyR,hR,rR]
    simp only [hz12,hz11,hz10,hz9,hz8,hz7,hz6,hz5,hz4,hz2,hz1]
    grobner
   have k1:(A9 a).y=z18:=by
    simp only [A9,pxR,pyR,hR,rR]
    simp only [hz18,hz17,hz16,hz15,hz14,hz13,hz12,hz11,hz10,hz9,hz8,hz7,hz6,hz5,hz4,hz3,hz2,hz1]
    grobner
   have k2:(A9 a).z=z20:=by
    simp only [A9,pxR,pyR,hR,rR]
    simp only [hz20,hz19]
    grobner
   simp only [k0,k1,k2]]
  exact rC (v:=tv z12.val z18.val z20.val) 107 g1 1 (tcs z12.val z18.val z20.val) rfl Tryz.underlying107
 ·have eb1:a.z=(0:Fp):=Fin.ext (of_decide_eq_true hb1.symm)
  refine sT<|sC ?_
  refine sS (tv a.x.val a.y.val a.z.val) (qL 0 g0 0 12 107 107 (tcs a.x.val a.y.val a.z.val) rfl Tryz.underlying107)<|sW 1 g1 107 (tcs 0 0 0) (tcs a.x.val a.y.val a.z.val) (wS 0 107 (tcs a.x.val a.y.val a.z.val) rfl) ?_
  refine sG<|Sy.ret<|Sy.then_ret ?_
  rw [show (tv (BU a).x.val (BU a).y.val (BU a).z.val:Value)=tv a.x.val a.y.val a.z.val from by unfold BU; rw [if_pos eb1]]
  exact rC (v:=tv a.x.val a.y.val a.z.val) 107 g1 1 (tcs a.x.val a.y.val a.z.val) rfl Tryz.underlying107
theorem Fu (w:World) (a:J) (x y:Fp):Calls Tryz.prog 64 #[tv a.x.val a.y.val a.z.val,fv x.val,fv y.val] w (Gets w (tv (BD a x y).x.val (BD a x y).y.val (BD a x y).z.val)):=by
 refine Sy.enter (args:=[tv a.x.val a.y.val a.z.val,fv x.val,fv y.val]) Tryz.func64 rfl kL ?_
 refine sC ?_
 refine sM 107 (tcs a.x.val a.y.val a.z.val) (λg0=>?_)
 refine sM 98 (fcs x.val) (λg1=>?_)
 refine sM 98 (fcs y.val) (λg2=>?_)
 refine sM 107 (tcs 0 0 0) (λg3=>?_)
 refine sG<|Sy.seq<|sC ?_
 refine sP (.pointer (some ⟨g0,8,none⟩))<|sS (fv a.z.val) (qL 0 g0 8 4 107 98 (tcs a.x.val a.y.val a.z.val) rfl Tryz.underlying98)<|sP (fv 0) ?_
 obtain ⟨b1,hb1⟩:∃ z:Bool,z=decide (a.z.val=0):=⟨_,rfl⟩
 refine sS (.bool b1) (Quiet.pure (λw=>by rw [hb1]; exact C6 w _ _ _ _ _ _ rfl rfl rfl lK lK)) ?_
 refine sG ?_
 cases b1
 ·have eb1:a.z≠(0:Fp):=λe=>of_decide_eq_false hb1.symm (congrArg Fin.val e)
  refine sU<|Sy.skip<|sB ?_
  refine sP (.pointer (some ⟨g0,8,none⟩))<|sS (fv a.z.val) (qL 0 g0 8 4 107 98 (tcs a.x.val a.y.val a.z.val) rfl Tryz.underlying98)<|sP (.pointer (some ⟨g0,8,none⟩))<|sS (fv a.z.val) (qL 0 g0 8 4 107 98 (tcs a.x.val a.y.val a.z.val) rfl Tryz.underlying98) ?_
  obtain ⟨z1,hz1⟩:∃ z:Fp,z=a.z*a.z:=⟨_,rfl⟩
  refine sS (fv z1.val) (qF 68 #[fv a.z.val,fv a.z.val] (λw=>by rw [hz1]; exact Aw w a.z a.z)) ?_
  refine sM 98 (fcs 0) (λg4=>?_)
  refine sW 4 g4 98 (fcs 0) (fcs z1.val) (wS 0 98 (fcs z1.val) rfl) ?_
  refine sA ?_
  refine sS (fv x.val) (qL 1 g1 0 4 98 98 (fcs x.val) rfl Tryz.underlying98)<|sS (fv z1.val) (qL 4 g4 0 4 98 98 (fcs z1.val) rfl Tryz.underlying98) ?_
  obtain ⟨z2,hz2⟩:∃ z:Fp,z=x*z1:=⟨_,rfl⟩
  refine sS (fv z2.val) (qF 68 #[fv x.val,fv z1.val] (λw=>by rw [hz2]; exact Aw w x z1)) ?_
  refine sM 98 (fcs 0) (λg5=>?_)
  refine sW 5 g5 98 (fcs 0) (fcs z2.val) (wS 0 98 (fcs z2.val) rfl) ?_
  refine sH (λj=>j == 7) ?_
  refine sD 0 rfl (fv y.val) (qL 2 g2 0 4 98 98 (fcs y.val) rfl Tryz.underlying98)<|sD 1 rfl (fv z1.val) (qL 4 g4 0 4 98 98 (fcs z1.val) rfl Tryz.underlying98)<|sZ 2 rfl (.pointer (some ⟨g0,8,none⟩))<|sD 3 rfl (fv a.z.val) (qL 0 g0 8 4 107 98 (tcs a.x.val a.y.val a.z.val) rfl Tryz.underlying98) ?_
  obtain ⟨z3,hz3⟩:∃ z:Fp,z=z1*a.z:=⟨_,rfl⟩
  refine sD 4 rfl (fv z3.val) (qF 68 #[fv z1.val,fv a.z.val] (λw=>by rw [hz3]; exact Aw w z1 a.z)) ?_
  obtain ⟨z4,hz4⟩:∃ z:Fp,z=y*z3:=⟨_,rfl⟩
  refine sD 5 rfl (fv z4.val) (qF 68 #[fv y.val,fv z3.val] (λw=>by rw [hz4]; exact Aw w y z3)) ?_
  refine sO 6 rfl 98 (fcs 0) (λg6=>?_)
  refine sX 7 rfl 6 g6 98 (fcs 0) (fcs z4.val) (wS 0 98 (fcs z4.val) rfl) ?_
  refine sI ?_
  refine Sy.seq<|sC ?_
  refine sS (fv z2.val) (qL 5 g5 0 4 98 98 (fcs z2.val) rfl Tryz.underlying98)<|sP (.pointer (some ⟨g0,0,none⟩))<|sS (fv a.x.val) (qL 0 g0 0 4 107 98 (tcs a.x.val a.y.val a.z.val) rfl Tryz.underlying98) ?_
  obtain ⟨b2,hb2⟩:∃ z:Bool,z=decide (z2.val=a.x.val):=⟨_,rfl⟩
  refine sS (.bool b2) (Quiet.pure (λw=>by rw [hb2]; exact C6 w _ _ _ _ _ _ rfl rfl rfl lK lK)) ?_
  refine sG ?_
  cases b2
  ·have eb2:z2≠a.x:=λe=>of_decide_eq_false hb2.symm (congrArg Fin.val e)
   refine sU<|Sy.skip<|sB ?_
   refine sS (fv z2.val) (qL 5 g5 0 4 98 98 (fcs z2.val) rfl Tryz.underlying98)<|sP (.pointer (some ⟨g0,0,none⟩))<|sS (fv a.x.val) (qL 0 g0 0 4 107 98 (tcs a.x.val a.y.val a.z.val) rfl Tryz.underlying98) ?_
   obtain ⟨z5,hz5⟩:∃ z:Fp,z=z2 - a.x:=⟨_,rfl⟩
   refine sS (fv z5.val) (qF 122 #[fv z2.val,fv a.x.val] (λw=>by rw [hz5]; exact Ba w z2 a.x)) ?_
   refine sM 98 (fcs 0) (λg7=>?_)
   refine sW 7 g7 98 (fcs 0) (fcs z5.val) (wS 0 98 (fcs z5.val) rfl) ?_
   refine sA ?_
   refine sS (fv z4.val) (qL 6 g6 0 4 98 98 (fcs z4.val) rfl Tryz.underlying98)<|sP (.pointer (some ⟨g0,4,none⟩))<|sS (fv a.y.val) (qL 0 g0 4 4 107 98 (tcs a.x.val a.y.val a.z.val) rfl Tryz.underlying98) ?_
   obtain ⟨z6,hz6⟩:∃ z:Fp,z=z4 - a.y:=⟨_,rfl⟩
   refine sS (fv z6.val) (qF 122 #[fv z4.val,fv a.y.val] (λw=>by rw [hz6]; exact Ba w z4 a.y)) ?_
   refine sM 98 (fcs 0) (λg8=>?_)
   refine sW 8 g8 98 (fcs 0) (fcs z6.val) (wS 0 98 (fcs z6.val) rfl) ?_
   refine sA ?_
   refine sS (fv z5.val) (qL 7 g7 0 4 98 98 (fcs z5.val) rfl Tryz.underlying98)<|sS (fv z5.val) (qL 7 g7 0 4 98 98 (fcs z5.val) rfl Tryz.underlying98) ?_
   obtain ⟨z7,hz7⟩:∃ z:Fp,z=z5*z5:=⟨_,rfl⟩
   refine sS (fv z7.val) (qF 68 #[fv z5.val,fv z5.val] (λw=>by rw [hz7]; exact Aw w z5 z5)) ?_
   refine sM 98 (fcs 0) (λg9=>?_)
   refine sW 9 g9 98 (fcs 0) (fcs z7.val) (wS 0 98 (fcs z7.val) rfl) ?_
   refine sA ?_
   refine sS (fv z5.val) (qL 7 g7 0 4 98 98 (fcs z5.val) rfl Tryz.underlying98)<|sS (fv z7.val) (qL 9 g9 0 4 98 98 (fcs z7.val) rfl Tryz.underlying98) ?_
   obtain ⟨z8,hz8⟩:∃ z:Fp,z=z5*z7:=⟨_,rfl⟩
   refine sS (fv z8.val) (qF 68 #[fv z5.val,fv z7.val] (λw=>by rw [hz8]; exact Aw w z5 z7)) ?_
   refine sM 98 (fcs 0) (λg10=>?_)
   refine sW 10 g10 98 (fcs 0) (fcs z8.val) (wS 0 98 (fcs z8.val) rfl) ?_
   refine sA ?_
   refine sP (.pointer (some ⟨g0,0,none⟩))<|sS (fv a.x.val) (qL 0 g0 0 4 107 98 (tcs a.x.val a.y.val a.z.val) rfl Tryz.underlying98)<|sS (fv z7.val) (qL 9 g9 0 4 98 98 (fcs z7.val) rfl Tryz.underlying98) ?_
   obtain ⟨z9,hz9⟩:∃ z:Fp,z=a.x*z7:=⟨_,rfl⟩
   refine sS (fv z9.val) (qF 68 #[fv a.x.val,fv z7.val] (λw=>by rw [hz9]; exact Aw w a.x z7)) ?_
   refine sM 98 (fcs 0) (λg11=>?_)
   refine sW 11 g11 98 (fcs 0) (fcs z9.val) (wS 0 98 (fcs z9.val) rfl) ?_
   refine sH (λj=>j == 10) ?_
   refine sD 0 rfl (fv z6.val) (qL 8 g8 0 4 98 98 (fcs z6.val) rfl Tryz.underlying98)<|sD 1 rfl (fv z6.val) (qL 8 g8 0 4 98 98 (fcs z6.val) rfl Tryz.underlying98) ?_
   obtain ⟨z10,hz10⟩:∃ z:Fp,z=z6*z6:=⟨_,rfl⟩
   refine sD 2 rfl (fv z10.val) (qF 68 #[fv z6.val,fv z6.val] (λw=>by rw [hz10]; exact Aw w z6 z6))<|sD 3 rfl (fv z8.val) (qL 10 g10 0 4 98 98 (fcs z8.val) rfl Tryz.underlying98) ?_
   obtain ⟨z11,hz11⟩:∃ z:Fp,z=z10 - z8:=⟨_,rfl⟩
   refine sD 4 rfl (fv z11.val) (qF 122 #[fv z10.val,fv z8.val] (λw=>by rw [hz11]; exact Ba w z10 z8))<|sD 5 rfl (fv z9.val) (qL 11 g11 0 4 98 98 (fcs z9.val) rfl Tryz.underlying98)<|sD 6 rfl (fv z9.val) (qL 11 g11 0 4 98 98 (fcs z9.val) rfl Tryz.underlying98) ?_
   obtain ⟨z12,hz12⟩:∃ z:Fp,z=z9+z9:=⟨_,rfl⟩
   refine sD 7 rfl (fv z12.val) (qF 121 #[fv z9.val,fv z9.val] (λw=>by rw [hz12]; exact CA w z9 z9)) ?_
   obtain ⟨z13,hz13⟩:∃ z:Fp,z=z11 - z12:=⟨_,rfl⟩
   refine sD 8 rfl (fv z13.val) (qF 122 #[fv z11.val,fv z12.val] (λw=>by rw [hz13]; exact Ba w z11 z12)) ?_
   refine sO 9 rfl 98 (fcs 0) (λg12=>?_)
   refine sX 10 rfl 12 g12 98 (fcs 0) (fcs z13.val) (wS 0 98 (fcs z13.val) rfl) ?_
   refine sE ?_
   refine sR (λj=>j == 16) ?_
   refine sD 0 rfl (fv z13.val) (qL 12 g12 0 4 98 98 (fcs z13.val) rfl Tryz.underlying98)<|sD 1 rfl (fv z6.val) (qL 8 g8 0 4 98 98 (fcs z6.val) rfl Tryz.underlying98)<|sD 2 rfl (fv z9.val) (qL 11 g11 0 4 98 98 (fcs z9.val) rfl Tryz.underlying98)<|sD 3 rfl (fv z13.val) (qL 12 g12 0 4 98 98 (fcs z13.val) rfl Tryz.underlying98) ?_
   obtain ⟨z14,hz14⟩:∃ z:Fp,z=z9 - z13:=⟨_,rfl⟩
   refine sD 4 rfl (fv z14.val) (qF 122 #[fv z9.val,fv z13.val] (λw=>by rw [hz14]; exact Ba w z9 z13)) ?_
   obtain ⟨z15,hz15⟩:∃ z:Fp,z=z6*z14:=⟨_,rfl⟩
   refine sD 5 rfl (fv z15.val) (qF 68 #[fv z6.val,fv z14.val] (λw=>by rw [hz15]; exact Aw w z6 z14))<|sZ 6 rfl (.pointer (some ⟨g0,4,none⟩))<|sD 7 rfl (fv a.y.val) (qL 0 g0 4 4 107 98 (tcs a.x.val a.y.val a.z.val) rfl Tryz.underlying98)<|sD 8 rfl (fv z8.val) (qL 10 g10 0 4 98 98 (fcs z8.val) rfl Tryz.underlying98) ?_
   obtain ⟨z16,hz16⟩:∃ z:Fp,z=a.y*z8:=⟨_,rfl⟩
   refine sD 9 rfl (fv z16.val) (qF 68 #[fv a.y.val,fv z8.val] (λw=>by rw [hz16]; exact Aw w a.y z8)) ?_
   obtain ⟨z17,hz17⟩:∃ z:Fp,z=z15 - z16:=⟨_,rfl⟩
   refine sD 10 rfl (fv z17.val) (qF 122 #[fv z15.val,fv z16.val] (λw=>by rw [hz17]; exact Ba w z15 z16))<|sD 11 rfl (fv z5.val) (qL 7 g7 0 4 98 98 (fcs z5.val) rfl Tryz.underlying98)<|sZ 12 rfl (.pointer (some ⟨g0,8,none⟩))<|sD 13 rfl (fv a.z.val) (qL 0 g0 8 4 107 98 (tcs a.x.val a.y.val a.z.val) rfl Tryz.underlying98) ?_
   obtain ⟨z18,hz18⟩:∃ z:Fp,z=z5*a.z:=⟨_,rfl⟩
   refine sD 14 rfl (fv z18.val) (qF 68 #[fv z5.val,fv a.z.val] (λw=>by rw [hz18]; exact Aw w z5 a.z))<|sZ 15 rfl (tv z13.val z17.val z18.val)<|sX 16 rfl 3 g3 107 (tcs 0 0 0) (tcs z13.val z17.val z18.val) (wS 0 107 (tcs z13.val z17.val z18.val) rfl) ?_
   refine sI ?_
   refine Sy.ret ?_
   rw [show (tv (BD a x y).x.val (BD a x y).y.val (BD a x y).z.val:Value)=tv z13.val z17.val z18.val from by
    rw [PM eb1 (by have q:=eb2; simp only [hz2,hz1] at q; exact q)]; simp only
    have k0:pxR a x y=z13:=by
     simp only [A9,pxR,pyR,hR,rR]
     simp only [hz13,hz12,hz11,hz10,hz9,hz8,hz7,hz6,hz5,hz4,hz3,hz2,hz1]
     grobner
    have k1:pyR a x y=z17:=by
     simp only [A9,pxR,pyR,hR,rR]
     simp only [hz17,hz16,hz15,hz14,hz13,hz12,hz11,hz10,hz9,hz8,hz7,hz6,hz5,hz4,hz3,hz2,hz1]
     grobner
    have k2:a.z*hR a x=z18:=by
     simp only [A9,pxR,pyR,hR,rR]
     simp only [hz18,hz5,hz2,hz1]
     grobner
    simp only [k0,k1,k2]]
   exact rC (v:=tv z13.val z17.val z18.val) 107 g3 3 (tcs z13.val z17.val z18.val) rfl Tryz.underlying107
  ·have eb2:z2=a.x:=Fin.ext (of_decide_eq_true hb2.symm)
   refine sT<|Sy.seq<|sC ?_
   refine sS (fv z4.val) (qL 6 g6 0 4 98 98 (fcs z4.val) rfl Tryz.underlying98)<|sP (.pointer (some ⟨g0,4,none⟩))<|sS (fv a.y.val) (qL 0 g0 4 4 107 98 (tcs a.x.val a.y.val a.z.val) rfl Tryz.underlying98) ?_
   obtain ⟨b3,hb3⟩:∃ z:Bool,z=decide (z4.val=a.y.val):=⟨_,rfl⟩
   refine sS (.bool b3) (Quiet.pure (λw=>by rw [hb3]; exact C6 w _ _ _ _ _ _ rfl rfl rfl lK lK)) ?_
   refine sG ?_
   cases b3
   ·have eb3:z4≠a.y:=λe=>of_decide_eq_false hb3.symm (congrArg Fin.val e)
    refine sU<|Sy.skip<|sB ?_
    refine sP (tv 0 0 0)<|sW 3 g3 107 (tcs 0 0 0) (tcs 0 0 0) (wS 0 107 (tcs 0 0 0) rfl) ?_
    refine sG<|Sy.ret<|Sy.then_ret ?_
    rw [show (tv (BD a x y).x.val (BD a x y).y.val (BD a x y).z.val:Value)=tv 0 0 0 from by rw [PN eb1 (by have q:=eb2; simp only [hz2,hz1] at q; exact q) (by have q:=eb3; simp only [hz4,hz3,hz1] at q; exact q)]; rfl]
    exact rC (v:=tv 0 0 0) 107 g3 3 (tcs 0 0 0) rfl Tryz.underlying107
   ·have eb3:z4=a.y:=Fin.ext (of_decide_eq_true hb3.symm)
    refine sT<|sC ?_
    refine sS (tv a.x.val a.y.val a.z.val) (qL 0 g0 0 12 107 107 (tcs a.x.val a.y.val a.z.val) rfl Tryz.underlying107)<|sS (tv ((BU a).x.val) ((BU a).y.val) ((BU a).z.val)) (qF 63 #[tv a.x.val a.y.val a.z.val] (λw=>Dm w a))<|sW 3 g3 107 (tcs 0 0 0) (tcs ((BU a).x.val) ((BU a).y.val) ((BU a).z.val)) (wS 0 107 (tcs ((BU a).x.val) ((BU a).y.val) ((BU a).z.val)) rfl) ?_
    refine sG<|Sy.ret<|Sy.then_ret<|Sy.then_ret ?_
    rw [show (tv (BD a x y).x.val (BD a x y).y.val (BD a x y).z.val:Value)=tv ((BU a).x.val) ((BU a).y.val) ((BU a).z.val) from by rw [PO eb1 (by have q:=eb2; simp only [hz2,hz1] at q; exact q) (by have q:=eb3; simp only [hz4,hz3,hz1] at q; exact q)]]
    exact rC (v:=tv ((BU a).x.val) ((BU a).y.val) ((BU a).z.val)) 107 g3 3 (tcs ((BU a).x.val) ((BU a).y.val) ((BU a).z.val)) rfl Tryz.underlying107
 ·have eb1:a.z=(0:Fp):=Fin.ext (of_decide_eq_true hb1.symm)
  refine sT<|Sy.seq ?_
  refine Sy.regionD (λj=>j == 4) kR ?_
  refine sD 0 rfl (fv x.val) (qL 1 g1 0 4 98 98 (fcs x.val) rfl Tryz.underlying98)<|sD 1 rfl (fv y.val) (qL 2 g2 0 4 98 98 (fcs y.val) rfl Tryz.underlying98) ?_
  obtain ⟨z19,hz19⟩:∃ z:Fp,z=(1:Fp):=⟨_,rfl⟩
  refine sD 2 rfl (fv z19.val) (qF 123 #[.int .u64 1] (λw=>by rw [hz19]; exact Lb w 1 (by decide)))<|sZ 3 rfl (tv x.val y.val z19.val)<|sX 4 rfl 3 g3 107 (tcs 0 0 0) (tcs x.val y.val z19.val) (wS 0 107 (tcs x.val y.val z19.val) rfl) ?_
  refine sI ?_
  refine Sy.ret<|Sy.then_ret ?_
  rw [show (tv (BD a x y).x.val (BD a x y).y.val (BD a x y).z.val:Value)=tv x.val y.val z19.val from by rw [PP eb1]; simp only [hz19]]
  exact rC (v:=tv x.val y.val z19.val) 107 g3 3 (tcs x.val y.val z19.val) rfl Tryz.underlying107
end Cu
end
section
namespace Sc
open Go.RowKit
def pM:Nat:=115792089237316195423570985008687907852837564279074904382605163141518161494337
theorem DE:pM=115792089237316195423570985008687907852837564279074904382605163141518161494337:=rfl
theorem mod_lt (n:Nat):n%pM<(2^256):=by have:=Nat.mod_lt n (show 0<pM by decide); rw [DE] at this ⊢; omega
theorem mod_lt_p (n:Nat):n%pM<pM:=Nat.mod_lt n (by decide)
def Cy (x y:Nat):Nat:=(x+y)%pM
def negP (x:Nat):Nat:=(pM - x%pM)%pM
def subP (x y:Nat):Nat:=(x+(pM - y%pM))%pM
def mulP (x y:Nat):Nat:=x*y%pM
theorem MD (x y:Nat):Cy x y<(2^256):=mod_lt _
theorem Fy (x:Nat):negP x<(2^256):=mod_lt _
theorem subP_lt (x y:Nat):subP x y<(2^256):=mod_lt _
theorem F0 (x y:Nat):mulP x y<(2^256):=mod_lt _
theorem Ei (x:Nat) (hx:x<(2^256)):x%pM=if x+432420386565659656852420866394968145599<(2^256) then x else x+432420386565659656852420866394968145599 - (2^256):=by
 rw [DE]
 by_cases h:x+432420386565659656852420866394968145599<(2^256)
 ·rw [if_pos h]; exact Nat.mod_eq_of_lt (by omega)
 ·rw [if_neg h,Nat.mod_eq_sub_mod (by omega),Nat.mod_eq_of_lt (by omega)]
  omega
theorem C4 {x z k:Nat} (h:z+115792089237316195423570985008687907852837564279074904382605163141518161494337*k=x):z%pM=x%pM:=by
 rw [← h,DE,Nat.add_mul_mod_self_left]
end Sc
end
section
namespace Sc
open Go.RowKit Go.Lib
theorem Mf (w:World):Calls Tryz.prog 213 #[] w λe w'=>e=.returned (fv 115792089237316195423570985008687907852837564279074904382605163141518161494337)∧Below w.heap.size w w':=by
 go_enter Tryz.func213,Tryz.ntmps213
 go_wp2
 exact bodyPost_ret (results_cell_row rfl _ _ w.heap.size _ _ (0,0) _ rfl (heap_alloc_new w _) Tryz.underlying46 rfl (by kernel_rfl)) rfl ⟨rfl,(Below.refl _ _).alloc (Nat.le_refl _) _⟩
set_option maxHeartbeats 8000000 in
set_option maxRecDepth 100000 in
theorem E_ (w:World) (x y:Nat) (hx:x<(2^256)) (hy:y<(2^256)):Calls Tryz.prog 212 #[fv x,fv y] w λe w'=>(∃ s k:Nat,s<(2^256)∧k≤1∧s+y=x+(2^256)*k∧e=.returned (.tuple #[fv s,.int .u64 (k:Int)]))∧Below w.heap.size w w':=by
 obtain ⟨x0,x1,x2,x3,a0,a1,a2,a3,ex,fx⟩:=Ag x hx
 obtain ⟨y0,y1,y2,y3,b0,b1,b2,b3,ey,fy⟩:=Ag y hy
 rw [fx,fy]
 obtain ⟨s0,c0,d0,k0,e0,r0⟩:=Zn x0 y0 a0 b0
 obtain ⟨s1,c1,d1,k1,e1,r1⟩:=Cg x1 y1 c0 a1 b1 k0
 obtain ⟨s2,c2,d2,k2,e2,r2⟩:=Cg x2 y2 c1 a2 b2 k1
 obtain ⟨s3,c3,d3,k3,e3,r3⟩:=Cg x3 y3 c2 a3 b3 k2
 have fin:s0+18446744073709551616*s1+340282366920938463463374607431768211456*s2+6277101735386680763835789423207666416102355444464034512896*s3+y=x+(2^256)*c3:=by omega
 have hs:=Lib.hid (Cc s0 s1 s2 s3 d0 d1 d2 d3)
 have hlt:=Lib.hid (Jp s0 s1 s2 s3 d0 d1 d2 d3)
 have HF:=Lib.hid fin
 have HK:=Lib.hid k3
 clear ex ey fx fy e0 e1 e2 e3 a0 a1 a2 a3 b0 b1 b2 b3 d0 d1 d2 d3 k0 k1 k2 k3 fin hx hy
 go_enter Tryz.func212,Tryz.ntmps212
 go_wp2_with fail
 go_loopw [5,7] (λbo i wr=>Below w.heap.size w wr∧Blk wr w.heap.size 46 #[.int .u64 (x0:Int),.int .u64 (x1:Int),.int .u64 (x2:Int),.int .u64 (x3:Int)]∧Blk wr (w.heap.size+1) 46 #[.int .u64 (y0:Int),.int .u64 (y1:Int),.int .u64 (y2:Int),.int .u64 (y3:Int)]∧Hid ((i=.int .i64 0∧bo=.int .u64 0∧Blk wr (w.heap.size+2) 46 #[.int .u64 0,.int .u64 0,.int .u64 0,.int .u64 0])∨(i=.int .i64 1∧bo=.int .u64 (c0:Int)∧Blk wr (w.heap.size+2) 46 #[.int .u64 (s0:Int),.int .u64 0,.int .u64 0,.int .u64 0])∨(i=.int .i64 2∧bo=.int .u64 (c1:Int)∧Blk wr (w.heap.size+2) 46 #[.int .u64 (s0:Int),.int .u64 (s1:Int),.int .u64 0,.int .u64 0])∨(i=.int .i64 3∧bo=.int .u64 (c2:Int)∧Blk wr (w.heap.size+2) 46 #[.int .u64 (s0:Int),.int .u64 (s1:Int),.int .u64 (s2:Int),.int .u64 0])∨(i=.int .i64 4∧bo=.int .u64 (c3:Int)∧Blk wr (w.heap.size+2) 46 #[.int .u64 (s0:Int),.int .u64 (s1:Int),.int .u64 (s2:Int),.int .u64 (s3:Int)]))) (λ_ i _=>4 - (intOf i).toNat)
 case atStart=>exact ⟨AW w _ _ _,((Blk.new w _ _).alloc _).alloc _,(Aa w _ _ _).alloc _,Lib.hid (.inl ⟨rfl,rfl,Ah w _ _ _ _⟩)⟩
 case round =>
  obtain ⟨hb,BX,BY,HI⟩:=hrel
  have lX:=BX.lt
  have lY:=BY.lt
  rcases HI.out with ⟨rfl,rfl,BW⟩ | ⟨rfl,rfl,BW⟩ | ⟨rfl,rfl,BW⟩ | ⟨rfl,rfl,BW⟩ | ⟨rfl,rfl,BW⟩
  ·clear HI
   have px:wr.cell? ⟨w.heap.size,0,none⟩=some (.int .u64 (x0:Int)):=BX.cell 0
   have py:wr.cell? ⟨w.heap.size+1,0,none⟩=some (.int .u64 (y0:Int)):=BY.cell 0
   go_wp2
   refine wp_region_G (λj=>j == 13) (by kernel_rfl) ?_
   try simp only [Act.put]
   refine tk 0 rfl ?_
   try simp only [Act.put,aA,aZ,aS]
   refine tk 1 rfl ?_
   try simp only [Act.put,aA,aZ,aS]
   refine tk 2 rfl ?_
   try simp only [Act.put,aA,aZ,aS]
   refine tkw 3 rfl (YieldsG.pure (v:=.int .u64 (x0:Int)) (by rfl) (λw9 h9=>by have hz:=(Below.cell (p:=⟨w.heap.size,0,none⟩) h9 lX).trans px; go_simp; first | done | simp [hz])) ?_
   try simp only [Act.put,aA,aZ,aS]
   refine tk 4 rfl ?_
   try simp only [Act.put,aA,aZ,aS]
   refine tk 5 rfl ?_
   try simp only [Act.put,aA,aZ,aS]
   refine tkw 6 rfl (YieldsG.pure (v:=.int .u64 (y0:Int)) (by rfl) (λw9 h9=>by have hz:=(Below.cell (p:=⟨w.heap.size+1,0,none⟩) h9 lY).trans py; go_simp; first | done | simp [hz])) ?_
   try simp only [Act.put,aA,aZ,aS]
   refine tk 7 rfl ?_
   try simp only [Act.put,aA,aZ,aS]
   refine tkw 8 rfl (YieldsG.pure (v:=.tuple #[.int .u64 (s0:Int),.int .u64 (c0:Int)]) (by rfl) (λw9 h9=>by go_simp)) ?_
   try simp only [Act.put,aA,aZ,aS]
   refine tk 9 rfl ?_
   try simp only [Act.put,aA,aZ,aS]
   refine tk 10 rfl ?_
   try simp only [Act.put,aA,aZ,aS]
   refine AX 11 rfl (by kernel_rfl) (λ_ _ _ h=>h) (λ_=>YieldsG.pure (by rfl) (λw9 _=>by go_simp; try with_reducible rfl)) ?_
   try simp only [Act.put,aA,aZ,aS]
   refine tk 12 rfl ?_
   try simp only [Act.put,aA,aZ,aS]
   refine wpAnyG_sole 13 rfl (by kernel_rfl) (by rfl) (λu hu K hK=>?_)
   have BX:=Gr.blk hu BX
   have BY:=Gr.blk hu BY
   have BW:=Gr.blk hu BW
   have hb:=Below.gr hb hu
   have pc:u.cell? ⟨w.heap.size+2,0,none⟩=some (.int .u64 0):=BW.cell 0
   have pf:=BW.frozen 0
   clear hu px py
   go_simp
   refine hK _ _ (λe=>by cases e) ?_
   clear hK K
   have hb:=hb.setCell (p:=⟨w.heap.size+2,0,none⟩) (by show w.heap.size≤w.heap.size+2; omega) (.int .u64 (s0:Int))
   have BX:=BX.far (p:=⟨w.heap.size+2,0,none⟩) (by show w.heap.size≠w.heap.size+2; omega) (.int .u64 (s0:Int))
   have BY:=BY.far (p:=⟨w.heap.size+2,0,none⟩) (by show w.heap.size+1≠w.heap.size+2; omega) (.int .u64 (s0:Int))
   have BW:=BW.set_ 0 (.int .u64 (s0:Int))
   refine AX 14 rfl (by kernel_rfl) (λ_ _ _ h=>h) (λ_=>YieldsG.pure (by rfl) (λw9 _=>by go_simp; try with_reducible rfl)) ?_
   try simp only [Act.put,aA,aZ,aS]
   refine wpAnyG_done (by kernel_rfl) (λv hv=>?_)
   have hb:=Below.gr hb hv
   have BX:=Gr.blk hv BX
   have BY:=Gr.blk hv BY
   have BW:=Gr.blk hv BW
   clear hv pc pf
   go_wp2
   refine ⟨⟨hb,BX,BY,Lib.hid (.inr (.inl (⟨rfl,rfl,BW⟩)))⟩,by decide⟩
  ·clear HI
   have px:wr.cell? ⟨w.heap.size,1,none⟩=some (.int .u64 (x1:Int)):=BX.cell 1
   have py:wr.cell? ⟨w.heap.size+1,1,none⟩=some (.int .u64 (y1:Int)):=BY.cell 1
   go_wp2
   refine wp_region_G (λj=>j == 13) (by kernel_rfl) ?_
   try simp only [Act.put]
   refine tk 0 rfl ?_
   try simp only [Act.put,aA,aZ,aS]
   refine tk 1 rfl ?_
   try simp only [Act.put,aA,aZ,aS]
   refine tk 2 rfl ?_
   try simp only [Act.put,aA,aZ,aS]
   refine tkw 3 rfl (YieldsG.pure (v:=.int .u64 (x1:Int)) (by rfl) (λw9 h9=>by have hz:=(Below.cell (p:=⟨w.heap.size,1,none⟩) h9 lX).trans px; go_simp; first | done | simp [hz])) ?_
   try simp only [Act.put,aA,aZ,aS]
   refine tk 4 rfl ?_
   try simp only [Act.put,aA,aZ,aS]
   refine tk 5 rfl ?_
   try simp only [Act.put,aA,aZ,aS]
   refine tkw 6 rfl (YieldsG.pure (v:=.int .u64 (y1:Int)) (by rfl) (λw9 h9=>by have hz:=(Below.cell (p:=⟨w.heap.size+1,1,none⟩) h9 lY).trans py; go_simp; first | done | simp [hz])) ?_
   try simp only [Act.put,aA,aZ,aS]
   refine tk 7 rfl ?_
   try simp only [Act.put,aA,aZ,aS]
   refine tkw 8 rfl (YieldsG.pure (v:=.tuple #[.int .u64 (s1:Int),.int .u64 (c1:Int)]) (by rfl) (λw9 h9=>by go_simp)) ?_
   try simp only [Act.put,aA,aZ,aS]
   refine tk 9 rfl ?_
   try simp only [Act.put,aA,aZ,aS]
   refine tk 10 rfl ?_
   try simp only [Act.put,aA,aZ,aS]
   refine AX 11 rfl (by kernel_rfl) (λ_ _ _ h=>h) (λ_=>YieldsG.pure (by rfl) (λw9 _=>by go_simp; try with_reducible rfl)) ?_
   try simp only [Act.put,aA,aZ,aS]
   refine tk 12 rfl ?_
   try simp only [Act.put,aA,aZ,aS]
   refine wpAnyG_sole 13 rfl (by kernel_rfl) (by rfl) (λu hu K hK=>?_)
   have BX:=Gr.blk hu BX
   have BY:=Gr.blk hu BY
   have BW:=Gr.blk hu BW
   have hb:=Below.gr hb hu
   have pc:u.cell? ⟨w.heap.size+2,1,none⟩=some (.int .u64 0):=BW.cell 1
   have pf:=BW.frozen 1
   clear hu px py
   go_simp
   refine hK _ _ (λe=>by cases e) ?_
   clear hK K
   have hb:=hb.setCell (p:=⟨w.heap.size+2,1,none⟩) (by show w.heap.size≤w.heap.size+2; omega) (.int .u64 (s1:Int))
   have BX:=BX.far (p:=⟨w.heap.size+2,1,none⟩) (by show w.heap.size≠w.heap.size+2; omega) (.int .u64 (s1:Int))
   have BY:=BY.far (p:=⟨w.heap.size+2,1,none⟩) (by show w.heap.size+1≠w.heap.size+2; omega) (.int .u64 (s1:Int))
   have BW:=BW.set_ 1 (.int .u64 (s1:Int))
   refine AX 14 rfl (by kernel_rfl) (λ_ _ _ h=>h) (λ_=>YieldsG.pure (by rfl) (λw9 _=>by go_simp; try with_reducible rfl)) ?_
   try simp only [Act.put,aA,aZ,aS]
   refine wpAnyG_done (by kernel_rfl) (λv hv=>?_)
   have hb:=Below.gr hb hv
   have BX:=Gr.blk hv BX
   have BY:=Gr.blk hv BY
   have BW:=Gr.blk hv BW
   clear hv pc pf
   go_wp2
   refine ⟨⟨hb,BX,BY,Lib.hid (.inr (.inr (.inl (⟨rfl,rfl,BW⟩))))⟩,by decide⟩
  ·clear HI
   have px:wr.cell? ⟨w.heap.size,2,none⟩=some (.int .u64 (x2:Int)):=BX.cell 2
   have py:wr.cell? ⟨w.heap.size+1,2,none⟩=some (.int .u64 (y2:Int)):=BY.cell 2
   go_wp2
   refine wp_region_G (λj=>j == 13) (by kernel_rfl) ?_
   try simp only [Act.put]
   refine tk 0 rfl ?_
   try simp only [Act.put,aA,aZ,aS]
   refine tk 1 rfl ?_
   try simp only [Act.put,aA,aZ,aS]
   refine tk 2 rfl ?_
   try simp only [Act.put,aA,aZ,aS]
   refine tkw 3 rfl (YieldsG.pure (v:=.int .u64 (x2:Int)) (by rfl) (λw9 h9=>by have hz:=(Below.cell (p:=⟨w.heap.size,2,none⟩) h9 lX).trans px; go_simp; first | done | simp [hz])) ?_
   try simp only [Act.put,aA,aZ,aS]
   refine tk 4 rfl ?_
   try simp only [Act.put,aA,aZ,aS]
   refine tk 5 rfl ?_
   try simp only [Act.put,aA,aZ,aS]
   refine tkw 6 rfl (YieldsG.pure (v:=.int .u64 (y2:Int)) (by rfl) (λw9 h9=>by have hz:=(Below.cell (p:=⟨w.heap.size+1,2,none⟩) h9 lY).trans py; go_simp; first | done | simp [hz])) ?_
   try simp only [Act.put,aA,aZ,aS]
   refine tk 7 rfl ?_
   try simp only [Act.put,aA,aZ,aS]
   refine tkw 8 rfl (YieldsG.pure (v:=.tuple #[.int .u64 (s2:Int),.int .u64 (c2:Int)]) (by rfl) (λw9 h9=>by go_simp)) ?_
   try simp only [Act.put,aA,aZ,aS]
   refine tk 9 rfl ?_
   try simp only [Act.put,aA,aZ,aS]
   refine tk 10 rfl ?_
   try simp only [Act.put,aA,aZ,aS]
   refine AX 11 rfl (by kernel_rfl) (λ_ _ _ h=>h) (λ_=>YieldsG.pure (by rfl) (λw9 _=>by go_simp; try with_reducible rfl)) ?_
   try simp only [Act.put,aA,aZ,aS]
   refine tk 12 rfl ?_
   try simp only [Act.put,aA,aZ,aS]
   refine wpAnyG_sole 13 rfl (by kernel_rfl) (by rfl) (λu hu K hK=>?_)
   have BX:=Gr.blk hu BX
   have BY:=Gr.blk hu BY
   have BW:=Gr.blk hu BW
   have hb:=Below.gr hb hu
   have pc:u.cell? ⟨w.heap.size+2,2,none⟩=some (.int .u64 0):=BW.cell 2
   have pf:=BW.frozen 2
   clear hu px py
   go_simp
   refine hK _ _ (λe=>by cases e) ?_
   clear hK K
   have hb:=hb.setCell (p:=⟨w.heap.size+2,2,none⟩) (by show w.heap.size≤w.heap.size+2; omega) (.int .u64 (s2:Int))
   have BX:=BX.far (p:=⟨w.heap.size+2,2,none⟩) (by show w.heap.size≠w.heap.size+2; omega) (.int .u64 (s2:Int))
   have BY:=BY.far (p:=⟨w.heap.size+2,2,none⟩) (by show w.heap.size+1≠w.heap.size+2; omega) (.int .u64 (s2:Int))
   have BW:=BW.set_ 2 (.int .u64 (s2:Int))
   refine AX 14 rfl (by kernel_rfl) (λ_ _ _ h=>h) (λ_=>YieldsG.pure (by rfl) (λw9 _=>by go_simp; try with_reducible rfl)) ?_
   try simp only [Act.put,aA,aZ,aS]
   refine wpAnyG_done (by kernel_rfl) (λv hv=>?_)
   have hb:=Below.gr hb hv
   have BX:=Gr.blk hv BX
   have BY:=Gr.blk hv BY
   have BW:=Gr.blk hv BW
   clear hv pc pf
   go_wp2
   refine ⟨⟨hb,BX,BY,Lib.hid (.inr (.inr (.inr (.inl (⟨rfl,rfl,BW⟩)))))⟩,by decide⟩
  ·clear HI
   have px:wr.cell? ⟨w.heap.size,3,none⟩=some (.int .u64 (x3:Int)):=BX.cell 3
   have py:wr.cell? ⟨w.heap.size+1,3,none⟩=some (.int .u64 (y3:Int)):=BY.cell 3
   go_wp2
   refine wp_region_G (λj=>j == 13) (by kernel_rfl) ?_
   try simp only [Act.put]
   refine tk 0 rfl ?_
   try simp only [Act.put,aA,aZ,aS]
   refine tk 1 rfl ?_
   try simp only [Act.put,aA,aZ,aS]
   refine tk 2 rfl ?_
   try simp only [Act.put,aA,aZ,aS]
   refine tkw 3 rfl (YieldsG.pure (v:=.int .u64 (x3:Int)) (by rfl) (λw9 h9=>by have hz:=(Below.cell (p:=⟨w.heap.size,3,none⟩) h9 lX).trans px; go_simp; first | done | simp [hz])) ?_
   try simp only [Act.put,aA,aZ,aS]
   refine tk 4 rfl ?_
   try simp only [Act.put,aA,aZ,aS]
   refine tk 5 rfl ?_
   try simp only [Act.put,aA,aZ,aS]
   refine tkw 6 rfl (YieldsG.pure (v:=.int .u64 (y3:Int)) (by rfl) (λw9 h9=>by have hz:=(Below.cell (p:=⟨w.heap.size+1,3,none⟩) h9 lY).trans py; go_simp; first | done | simp [hz])) ?_
   try simp only [Act.put,aA,aZ,aS]
   refine tk 7 rfl ?_
   try simp only [Act.put,aA,aZ,aS]
   refine tkw 8 rfl (YieldsG.pure (v:=.tuple #[.int .u64 (s3:Int),.int .u64 (c3:Int)]) (by rfl) (λw9 h9=>by go_simp)) ?_
   try simp only [Act.put,aA,aZ,aS]
   refine tk 9 rfl ?_
   try simp only [Act.put,aA,aZ,aS]
   refine tk 10 rfl ?_
   try simp only [Act.put,aA,aZ,aS]
   refine AX 11 rfl (by kernel_rfl) (λ_ _ _ h=>h) (λ_=>YieldsG.pure (by rfl) (λw9 _=>by go_simp; try with_reducible rfl)) ?_
   try simp only [Act.put,aA,aZ,aS]
   refine tk 12 rfl ?_
   try simp only [Act.put,aA,aZ,aS]
   refine wpAnyG_sole 13 rfl (by kernel_rfl) (by rfl) (λu hu K hK=>?_)
   have BX:=Gr.blk hu BX
   have BY:=Gr.blk hu BY
   have BW:=Gr.blk hu BW
   have hb:=Below.gr hb hu
   have pc:u.cell? ⟨w.heap.size+2,3,none⟩=some (.int .u64 0):=BW.cell 3
   have pf:=BW.frozen 3
   clear hu px py
   go_simp
   refine hK _ _ (λe=>by cases e) ?_
   clear hK K
   have hb:=hb.setCell (p:=⟨w.heap.size+2,3,none⟩) (by show w.heap.size≤w.heap.size+2; omega) (.int .u64 (s3:Int))
   have BX:=BX.far (p:=⟨w.heap.size+2,3,none⟩) (by show w.heap.size≠w.heap.size+2; omega) (.int .u64 (s3:Int))
   have BY:=BY.far (p:=⟨w.heap.size+2,3,none⟩) (by show w.heap.size+1≠w.heap.size+2; omega) (.int .u64 (s3:Int))
   have BW:=BW.set_ 3 (.int .u64 (s3:Int))
   refine AX 14 rfl (by kernel_rfl) (λ_ _ _ h=>h) (λ_=>YieldsG.pure (by rfl) (λw9 _=>by go_simp; try with_reducible rfl)) ?_
   try simp only [Act.put,aA,aZ,aS]
   refine wpAnyG_done (by kernel_rfl) (λv hv=>?_)
   have hb:=Below.gr hb hv
   have BX:=Gr.blk hv BX
   have BY:=Gr.blk hv BY
   have BW:=Gr.blk hv BW
   clear hv pc pf
   go_wp2
   refine ⟨⟨hb,BX,BY,Lib.hid (.inr (.inr (.inr (.inr (⟨rfl,rfl,BW⟩)))))⟩,by decide⟩
  ·clear HI
   obtain ⟨s,hsd⟩:∃ s,s=s0+18446744073709551616*s1+340282366920938463463374607431768211456*s2+6277101735386680763835789423207666416102355444464034512896*s3:=⟨_,rfl⟩
   have hf:=hs.out
   have hl:=hlt.out
   have hn:=HF.out
   rw [← hsd] at hf hl hn
   have BS:=BW.eq_ (A_ hf.symm).symm
   have HS:=Lib.hid (And.intro hl hn)
   clear hf hl hn hsd
   go_wp2_with (first | ((with_reducible refine AD (d:=some 24) ?_); refine AA rfl _ _ rfl (w.heap.size+2) rfl (s) _ _ _ (BS) (AL s) Tryz.underlying46 rfl (by kernel_rfl) ?_) | ((with_reducible refine AF ?_); refine AB rfl _ _ _ rfl (w.heap.size+2) (fcs (s)) rfl rfl _ _ (BS) (by kernel_rfl) (by rfl) (AG _) ?_; intro w9 hL9 hB9 hK9))
   exact bodyPost_ret (CI rfl _ _ (w.heap.size+2) _ _ _ _ rfl hL9 rfl Tryz.underlying46 rfl (by kernel_rfl)) rfl ⟨⟨s,c3,HS.out.1,HK.out,HS.out.2,rfl⟩,hb.trans (hB9 _ (by omega))⟩
theorem Dt (w:World) (x y s k:Nat) (hx:x<(2^256)) (hy:y<(2^256)) (hs:s<(2^256)) (he:s+y=x+(2^256)*k) :
  Calls Tryz.prog 212 #[fv x,fv y] w λe w'=>e=.returned (.tuple #[fv s,.int .u64 (k:Int)])∧Below w.heap.size w w':=by
 refine (E_ w x y hx hy).mono ?_
 rintro e w' ⟨⟨s',k',hs',hk',he',rfl⟩,hb⟩
 obtain rfl:k'=k:=by omega
 obtain rfl:s'=s:=by omega
 exact ⟨rfl,hb⟩
theorem GY (w:World) (p:Nat) (hp:p=115792089237316195423570985008687907852837564279074904382605163141518161494337):Calls Tryz.prog 213 #[] w λe w'=>e=.returned (fv p)∧Below w.heap.size w w':=by
 subst hp; exact Mf w
set_option maxHeartbeats 2000000 in
set_option maxRecDepth 100000 in
theorem Hs (w:World) (x k z:Nat) (dk:Int) (hdk:dk=(k:Int)) (hx:x<(2^256)) (hk:k≤1) (h2:x+(2^256)*k<115792089237316195423570985008687907852837564279074904382605163141518161494337+115792089237316195423570985008687907852837564279074904382605163141518161494337) (hz:z=(x+(2^256)*k)%pM):Calls Tryz.prog 174 #[fv x,.int .u64 dk] w λe w'=>e=.returned (fv z)∧Below w.heap.size w w':=by
 subst hdk
 obtain ⟨p,hp⟩:∃ p,p=115792089237316195423570985008687907852837564279074904382605163141518161494337:=⟨_,rfl⟩
 rw [DE, ← hp] at hz
 rw [← hp] at h2
 have hpl:p<(2^256):=by omega
 obtain ⟨s,b,hs,hb,he⟩:∃ s b:Nat,s<(2^256)∧b≤1∧s+p=x+(2^256)*b:=by
  by_cases h:p≤x
  ·exact ⟨x - p,0,by omega,by omega,by omega⟩
  ·exact ⟨x+(2^256) - p,1,by omega,by omega,by omega⟩
 have cm:=λw=>Dt w x p s b hx hpl hs he
 have co:=λw=>GY w p hp
 have t1:b>k→z=x:=λh=>by
  obtain rfl:k=0:=by omega
  rw [hz,Nat.mod_eq_of_lt (by omega)]; omega
 have t2:¬ b>k→z=s:=λh=>by
  rw [hz,Nat.mod_eq_sub_mod (by omega),Nat.mod_eq_of_lt (by omega)]
  rcases (show k=0∨k=1 by omega) with rfl | rfl <;> omega
 obtain ⟨x0,x1,x2,x3,fx⟩:=AZ x hx
 have FX:=Lib.hid fx
 rw [fx]
 clear fx hx hz hp h2 hpl hs hb he hk
 go_enter Tryz.func174,Tryz.ntmps174
 go_wp2
 refine wp_region_G (λj=>j == 7) (by kernel_rfl) ?_
 try simp only [Act.put]
 refine tkw 0 rfl (YieldsG.loadF (by rfl) _ _ rfl (w.heap.size) rfl (x) _ _ ((Blk.new w _ _).alloc _) (FX.out) Tryz.underlying46 rfl (by kernel_rfl)) ?_
 try simp only [Act.put,aA,aZ,aS]
 refine tkw 1 rfl (YieldsG.call (v:=fv p) (by rfl) 213 _ (λw9=>by go_simp; try (first | with_reducible rfl | rfl)) (λw9 h9=>co w9)) ?_
 try simp only [Act.put,aA,aZ,aS]
 refine tkw 2 rfl (YieldsG.call (v:=.tuple #[fv s,.int .u64 (b:Int)]) (by rfl) 212 _ (λw9=>by go_simp; try (first | with_reducible rfl | rfl)) (λw9 h9=>cm w9)) ?_
 try simp only [Act.put,aA,aZ,aS]
 refine tk 3 rfl ?_
 try simp only [Act.put,aA,aZ,aS]
 refine tk 4 rfl ?_
 try simp only [Act.put,aA,aZ,aS]
 refine AX 5 rfl (by kernel_rfl) (λ_ _ _ h=>h) (λ_=>YieldsG.pure (by rfl) (λw9 _=>by go_simp; try with_reducible rfl)) ?_
 try simp only [Act.put,aA,aZ,aS]
 refine wpAnyG_sole 6 rfl (by kernel_rfl) (by rfl) (λw3 h3 K hK=>?_)
 go_simp
 refine hK _ _ (λ_=>gr_alloc _ _) ?_
 clear hK K
 try simp only [Act.put,aA,aZ,aS]
 refine An 7 rfl (by kernel_rfl) (by rfl) _ _ _ rfl (w3.heap.size) (fcs (s)) rfl rfl _ _ (Blk.new w3 _ _) (by kernel_rfl) (by rfl) (AG _) rfl (λw6 h6 w7 hB7 hL7=>?_)
 try simp only [Act.put]
 refine AX 8 rfl (by kernel_rfl) (λ_ _ _ h=>h) (λ_=>YieldsG.pure (by rfl) (λw9 _=>by go_simp; try with_reducible rfl)) ?_
 try simp only [Act.put,aA,aZ,aS]
 refine wpAnyG_done (by kernel_rfl) (λw8 h8=>?_)
 have BS:=Gr.blk h8 hL7
 have hsz:w.heap.size+2≤w3.heap.size:=by have:=h3.size; simp at this; omega
 have BX:Blk w8 w.heap.size 46 _:=Gr.blk h8 (Blk.below (B:=w3.heap.size) (Gr.blk h6 (Blk.alloc (Gr.blk h3 ((Blk.new w _ _).alloc _)) _)) (hB7 _ (Nat.le_refl _)) (by omega))
 have BR:Blk w8 (w.heap.size+1) 46 _:=Gr.blk h8 (Blk.below (B:=w3.heap.size) (Gr.blk h6 (Blk.alloc (Gr.blk h3 (Aa w _ _ _)) _)) (hB7 _ (Nat.le_refl _)) (by omega))
 have hB:Below w.heap.size w w8:=Below.gr ((Below.gr ((Below.gr (Ad w _ _) h3).alloc (by omega) _) h6).trans (hB7 _ (by omega))) h8
 clear h3 h6 hB7 hL7 h8 cm co
 by_cases hbk:b>k
 ·have HZ:=Lib.hid (t1 hbk)
  have p0:(b:Int)>(k:Int):=by omega
  clear t1 t2 hbk
  go_wp2_with (first | ((with_reducible refine AD (d:=some 16) ?_); refine AA rfl _ _ rfl (w.heap.size) rfl (x) _ _ _ (BX) (FX.out) Tryz.underlying46 rfl (by kernel_rfl) ?_) | ((with_reducible refine AF ?_); refine AB rfl _ _ _ rfl (w.heap.size+1) (fcs (x)) rfl rfl _ _ (BR) (by kernel_rfl) (by rfl) (AG _) ?_; intro w9 hL9 hB9 hK9))
  exact bodyPost_ret (results_cell_row rfl _ _ (w.heap.size+1) _ _ (0,0) _ rfl hL9 Tryz.underlying46 rfl (by kernel_rfl)) rfl ⟨by rw [HZ.out]; rfl,hB.trans (hB9 _ (by omega))⟩
 ·have HZ:=Lib.hid (t2 hbk)
  have p0:¬ (b:Int)>(k:Int):=by omega
  clear t1 t2 hbk
  go_wp2_with (first | ((with_reducible refine AD (d:=some 17) ?_); refine AA rfl _ _ rfl (w3.heap.size) rfl (s) _ _ _ (BS) (AL s) Tryz.underlying46 rfl (by kernel_rfl) ?_) | ((with_reducible refine AF ?_); refine AB rfl _ _ _ rfl (w.heap.size+1) (fcs (s)) rfl rfl _ _ (BR) (by kernel_rfl) (by rfl) (AG _) ?_; intro w9 hL9 hB9 hK9))
  exact bodyPost_ret (results_cell_row rfl _ _ (w.heap.size+1) _ _ (0,0) _ rfl hL9 Tryz.underlying46 rfl (by kernel_rfl)) rfl ⟨by rw [HZ.out]; rfl,hB.trans (hB9 _ (by omega))⟩
set_option maxHeartbeats 1000000 in
theorem norm_any (w:World) (x:Nat) (hx:x<(2^256)):Calls Tryz.prog 116 #[fv x] w λe w'=>e=.returned (fv (x%pM))∧Below w.heap.size w w':=by
 obtain ⟨z,hz⟩:∃ z,z=x%pM:=⟨_,rfl⟩
 have cr:=λw=>Hs w x 0 z 0 rfl hx (by omega) (by omega) (by rw [hz]; rfl)
 obtain ⟨x0,x1,x2,x3,fx⟩:=AZ x hx
 have FX:=Lib.hid fx
 rw [fx] at cr ⊢
 rw [← hz]
 clear fx hx hz
 go_enter Tryz.func116,Tryz.ntmps116
 go_wp2_with fail
 refine (cr _).mono ?_
 rintro e w1 ⟨rfl,hb1⟩
 have hg:=Below.gr (Ad w _ _) hb1
 have hR:Blk w1 (w.heap.size+1) 46 _:=Gr.blk hb1 (Aa w _ _ _)
 go_wp2_with (first | ((with_reducible refine AF ?_); refine AB rfl _ _ _ rfl (w.heap.size+1) (fcs (z)) rfl rfl _ _ (hR) (by kernel_rfl) (by rfl) (AG _) ?_; intro w4 hL hB4 hK4))
 exact bodyPost_ret (results_cell_row rfl _ _ (w.heap.size+1) _ _ (0,0) _ rfl hL Tryz.underlying46 rfl (by kernel_rfl)) rfl ⟨rfl,hg.trans (hB4 _ (by omega))⟩
set_option maxHeartbeats 8000000 in
set_option maxRecDepth 100000 in
theorem bytes_any (w:World) (x:Nat) (hx:x<(2^256)):Calls Tryz.prog 78 #[fv x] w λe w'=>e=.returned (.agg ((Ae (x%pM)).map bv).toArray)∧Below w.heap.size w w':=by
 obtain ⟨z,hz⟩:∃ z,z=x%pM:=⟨_,rfl⟩
 have hzl:z<(2^256):=by rw [hz]; exact mod_lt x
 have cn:∀ w,Calls Tryz.prog 116 #[fv x] w λe w'=>e=.returned (fv z)∧Below w.heap.size w w':=by
  intro w; rw [hz]; exact norm_any w x hx
 rw [← hz]
 obtain ⟨z0,z1,z2,z3,a0,a1,a2,a3,ez,fz⟩:=Ag z hzl
 have HZ:=Lib.hid (And.intro a0 (And.intro a1 (And.intro a2 (And.intro a3 ez))))
 have FZ:=Lib.hid fz
 obtain ⟨x0,x1,x2,x3,fx⟩:=AZ x hx
 rw [fx] at cn ⊢
 clear fx fz hz hzl a0 a1 a2 a3 ez hx
 have hZB:Hid ((List.replicate 32 (Value.int .u8 0)).toArray=((Cq z 0).map bv).toArray):=Lib.hid (by simp [Cq,E',bv])
 go_enter Tryz.func78,Tryz.ntmps78
 go_wp2_with fail
 refine (cn _).mono ?_
 rintro e w1 ⟨rfl,hb⟩
 have BR:Blk w1 (w.heap.size+1) 22 _:=Gr.blk hb (Blk.alloc (Aa w _ _ _) _)
 have BB:Blk w1 (w.heap.size+2) 22 ((Cq z 0).map bv).toArray:=Blk.eq_ (Gr.blk hb (Ah w _ _ _ _)) hZB.out
 have hB:=Below.gr (AW w _ _ _) hb
 have sz:=BB.lt
 clear hb cn
 go_wp2_with (first | ((with_reducible refine AF ?_); refine AB rfl _ _ _ rfl (w1.heap.size) (fcs (z)) rfl rfl _ _ (Blk.new w1 _ _) (by kernel_rfl) (by rfl) (AG _) ?_; intro w2 hL2 hB2 hK2; have CR:=hK2 _ (by omega) _ _ (BR.alloc _); have CB:=hK2 _ (by omega) _ _ (BB.alloc _); have hC:=(hB.alloc (by omega) _).trans (hB2 _ (by omega))))
 go_loopw [8] (λi wr=>∃ k:Nat,k≤32∧i=.int .i64 (k:Int)∧Below w.heap.size w wr∧Blk wr (w.heap.size+2) 22 ((Cq z k).map bv).toArray∧Blk wr w1.heap.size 46 #[.int .u64 (z0:Int),.int .u64 (z1:Int),.int .u64 (z2:Int),.int .u64 (z3:Int)]∧Blk wr (w.heap.size+1) 22 (List.replicate 32 (Value.int .u8 0)).toArray) (λi _=>32 - (intOf i).toNat)
 case atStart=>exact ⟨0,by omega,rfl,hC,CB,hL2.eq_ (A_ FZ.out),CR⟩
 case round =>
  obtain ⟨k,hk,rfl,hb,hP,hN,hR⟩:=hrel
  by_cases hlt:k<32
  ·have ce:∀ j,j<32→∃ v,wr.cell? ⟨w.heap.size+1+1,j,none⟩=some v:=λj hj=>⟨_,(hP.cell j).trans (Array.getElem?_eq_getElem (by simp [Em z k hk]; exact hj))⟩
   obtain ⟨v,hv⟩:=ce (31 - k) (by omega)
   have ff:=hP.frozen (31 - k)
   have q0:wr.cell? ⟨w1.heap.size,0,none⟩=some (.int .u64 (z0:Int)):=hN.cell 0
   have q1:wr.cell? ⟨w1.heap.size,1,none⟩=some (.int .u64 (z1:Int)):=hN.cell 1
   have q2:wr.cell? ⟨w1.heap.size,2,none⟩=some (.int .u64 (z2:Int)):=hN.cell 2
   have q3:wr.cell? ⟨w1.heap.size,3,none⟩=some (.int .u64 (z3:Int)):=hN.cell 3
   have hPn:=hP.set_ (31 - k) (bv (CQ z k))
   rw [Hx z k hlt] at hPn
   have HP:=Lib.hid hPn
   clear hPn ce
   have HR:=Lib.hid (And.intro hb (And.intro hN hR))
   clear hb hP hN hR hk
   have hsz:w.heap.size+2<w1.heap.size:=sz
   rcases (show k=0∨k=1∨k=2∨k=3∨k=4∨k=5∨k=6∨k=7∨k=8∨k=9∨k=10∨k=11∨k=12∨k=13∨k=14∨k=15∨k=16∨k=17∨k=18∨k=19∨k=20∨k=21∨k=22∨k=23∨k=24∨k=25∨k=26∨k=27∨k=28∨k=29∨k=30∨k=31 by omega) with rfl | rfl | rfl | rfl | rfl | rfl | rfl | rfl | rfl | rfl | rfl | rfl | rfl | rfl | rfl | rfl | rfl | rfl | rfl | rfl | rfl | rfl | rfl | rfl | rfl | rfl | rfl | rfl | rfl | rfl | rfl | rfl
   all_goals
    go_wp2
    obtain ⟨a0,a1,a2,a3,ez⟩:=HZ.out
    refine ⟨⟨_,by decide,rfl,HR.out.1.setCell (by show w.heap.size≤w.heap.size+1+1; omega) _,HP.out.val (by rw [KC]; congr 1; omega),HR.out.2.1.far (by show w1.heap.size≠w.heap.size+1+1; omega) _,HR.out.2.2.far (by show w.heap.size+1≠w.heap.size+1+1; omega) _⟩,by simp [intOf]⟩
  ·have p1:¬ (k:Int)<32:=by omega
   obtain rfl:k=32:=by omega
   rw [GX] at hP
   have HI:=Lib.hid (AN z)
   have HL:=Lib.hid hP
   have HR:=Lib.hid hR
   clear hN hP hR
   go_wp2_with (first | ((with_reducible refine AD (d:=some 24) ?_); refine Al rfl _ _ rfl (w.heap.size+2) rfl _ _ _ HL.out Tryz.underlying22 rfl (Cd HI.out) ?_) | ((with_reducible refine AF ?_); refine AB rfl _ _ _ rfl (w.heap.size+1) ((Ae z).map bv).toArray rfl rfl _ _ HR.out (Cd HI.out) (by simp [HI.out]) (L9 _) ?_; intro w9 hL9 hB9 hK9))
   exact bodyPost_ret (results_cell_row rfl _ _ (w.heap.size+1) _ _ (0,0) _ rfl hL9 Tryz.underlying22 rfl (Cd HI.out)) rfl ⟨rfl,hb.trans (hB9 _ (by omega))⟩
end Sc
end
section
section
open Go.RowKit Go.Lib
set_option maxHeartbeats 8000000 in
set_option maxRecDepth 100000 in
theorem bytes_any (w:World) (x:Nat) (hx:x<(2^256)):Calls Tryz.prog 207 #[fv x] w λe w'=>e=.returned (.agg ((Ae (x%pM)).map bv).toArray)∧Below w.heap.size w w':=by
 obtain ⟨z,hz⟩:∃ z,z=x%pM:=⟨_,rfl⟩
 have hzl:z<(2^256):=by rw [hz]; exact mod_lt x
 have cn:∀ w,Calls Tryz.prog 204 #[fv x] w λe w'=>e=.returned (fv z)∧Below w.heap.size w w':=by
  intro w; rw [hz]; exact norm_any w x hx
 rw [← hz]
 obtain ⟨z0,z1,z2,z3,a0,a1,a2,a3,ez,fz⟩:=Ag z hzl
 have HZ:=Lib.hid (And.intro a0 (And.intro a1 (And.intro a2 (And.intro a3 ez))))
 have FZ:=Lib.hid fz
 obtain ⟨x0,x1,x2,x3,fx⟩:=AZ x hx
 rw [fx] at cn ⊢
 clear fx fz hz hzl a0 a1 a2 a3 ez hx
 have hZB:Hid ((List.replicate 32 (Value.int .u8 0)).toArray=((Cq z 0).map bv).toArray):=Lib.hid (by simp [Cq,E',bv])
 go_enter Tryz.func207,Tryz.ntmps207
 go_wp2_with fail
 refine (cn _).mono ?_
 rintro e w1 ⟨rfl,hb⟩
 have BR:Blk w1 (w.heap.size+1) 22 _:=Gr.blk hb (Blk.alloc (Aa w _ _ _) _)
 have BB:Blk w1 (w.heap.size+2) 22 ((Cq z 0).map bv).toArray:=Blk.eq_ (Gr.blk hb (Ah w _ _ _ _)) hZB.out
 have hB:=Below.gr (AW w _ _ _) hb
 have sz:=BB.lt
 clear hb cn
 go_wp2_with (first | ((with_reducible refine AF ?_); refine AB rfl _ _ _ rfl (w1.heap.size) (fcs (z)) rfl rfl _ _ (Blk.new w1 _ _) (by kernel_rfl) (by rfl) (AG _) ?_; intro w2 hL2 hB2 hK2; have CR:=hK2 _ (by omega) _ _ (BR.alloc _); have CB:=hK2 _ (by omega) _ _ (BB.alloc _); have hC:=(hB.alloc (by omega) _).trans (hB2 _ (by omega))))
 go_loopw [8] (λi wr=>∃ k:Nat,k≤32∧i=.int .i64 (k:Int)∧Below w.heap.size w wr∧Blk wr (w.heap.size+2) 22 ((Cq z k).map bv).toArray∧Blk wr w1.heap.size 50 #[.int .u64 (z0:Int),.int .u64 (z1:Int),.int .u64 (z2:Int),.int .u64 (z3:Int)]∧Blk wr (w.heap.size+1) 22 (List.replicate 32 (Value.int .u8 0)).toArray) (λi _=>32 - (intOf i).toNat)
 case atStart=>exact ⟨0,by omega,rfl,hC,CB,hL2.eq_ (A_ FZ.out),CR⟩
 case round =>
  obtain ⟨k,hk,rfl,hb,hP,hN,hR⟩:=hrel
  by_cases hlt:k<32
  ·have ce:∀ j,j<32→∃ v,wr.cell? ⟨w.heap.size+1+1,j,none⟩=some v:=λj hj=>⟨_,(hP.cell j).trans (Array.getElem?_eq_getElem (by simp [Em z k hk]; exact hj))⟩
   obtain ⟨v,hv⟩:=ce (31 - k) (by omega)
   have ff:=hP.frozen (31 - k)
   have q0:wr.cell? ⟨w1.heap.size,0,none⟩=some (.int .u64 (z0:Int)):=hN.cell 0
   have q1:wr.cell? ⟨w1.heap.size,1,none⟩=some (.int .u64 (z1:Int)):=hN.cell 1
   have q2:wr.cell? ⟨w1.heap.size,2,none⟩=some (.int .u64 (z2:Int)):=hN.cell 2
   have q3:wr.cell? ⟨w1.heap.size,3,none⟩=some (.int .u64 (z3:Int)):=hN.cell 3
   have hPn:=hP.set_ (31 - k) (bv (CQ z k))
   rw [Hx z k hlt] at hPn
   have HP:=Lib.hid hPn
   clear hPn ce
   have HR:=Lib.hid (And.intro hb (And.intro hN hR))
   clear hb hP hN hR hk
   have hsz:w.heap.size+2<w1.heap.size:=sz
   rcases (show k=0∨k=1∨k=2∨k=3∨k=4∨k=5∨k=6∨k=7∨k=8∨k=9∨k=10∨k=11∨k=12∨k=13∨k=14∨k=15∨k=16∨k=17∨k=18∨k=19∨k=20∨k=21∨k=22∨k=23∨k=24∨k=25∨k=26∨k=27∨k=28∨k=29∨k=30∨k=31 by omega) with rfl | rfl | rfl | rfl | rfl | rfl | rfl | rfl | rfl | rfl | rfl | rfl | rfl | rfl | rfl | rfl | rfl | rfl | rfl | rfl | rfl | rfl | rfl | rfl | rfl | rfl | rfl | rfl | rfl | rfl | rfl | rfl
   all_goals
    go_wp2
    obtain ⟨a0,a1,a2,a3,ez⟩:=HZ.out
    refine ⟨⟨_,by decide,rfl,HR.out.1.setCell (by show w.heap.size≤w.heap.size+1+1; omega) _,HP.out.val (by rw [KC]; congr 1; omega),HR.out.2.1.far (by show w1.heap.size≠w.heap.size+1+1; omega) _,HR.out.2.2.far (by show w.heap.size+1≠w.heap.size+1+1; omega) _⟩,by simp [intOf]⟩
  ·have p1:¬ (k:Int)<32:=by omega
   obtain rfl:k=32:=by omega
   rw [GX] at hP
   have HI:=Lib.hid (AN z)
   have HL:=Lib.hid hP
   have HR:=Lib.hid hR
   clear hN hP hR
   go_wp2_with (first | ((with_reducible refine AD (d:=some 24) ?_); refine Al rfl _ _ rfl (w.heap.size+2) rfl _ _ _ HL.out Tryz.underlying22 rfl (Cd HI.out) ?_) | ((with_reducible refine AF ?_); refine AB rfl _ _ _ rfl (w.heap.size+1) ((Ae z).map bv).toArray rfl rfl _ _ HR.out (Cd HI.out) (by simp [HI.out]) (L9 _) ?_; intro w9 hL9 hB9 hK9))
   exact bodyPost_ret (results_cell_row rfl _ _ (w.heap.size+1) _ _ (0,0) _ rfl hL9 Tryz.underlying22 rfl (Cd HI.out)) rfl ⟨rfl,hb.trans (hB9 _ (by omega))⟩
end
end
section
section
open Go.RowKit Go.Lib
end
end
section
section
open Go.RowKit Go.Lib
end
end
section
section
open Go.RowKit Go.Lib
end
end
section
namespace Cu
open Go.RowKit Sy
set_option maxRecDepth 100000
set_option maxHeartbeats 4000000
theorem A2 (l:List UInt8) {n:Nat} (hl:l.length=n):Value.agg (((l.map bv).toArray.toList.drop 0).take n).toArray=.agg (l.map bv).toArray:=by
 rw [List.drop_zero,List.take_of_length_le (by simp; omega)]
theorem BF (l:List UInt8) {n:Nat} (hl:l.length=n):0+n≤(l.map bv).toArray.size:=by simp; omega
theorem Q8 (l:List UInt8) {n:Nat} (hl:l.length=n) (k:Nat) (hk:k<n):(l.map bv).toArray[k]? = some (bv (l.getD k 0)):=by
 have:k<l.length:=by omega
 simp [List.getD,this]
noncomputable def R4:TypeInfo:=(Tryz.prog.info? 5).getD default
theorem Lx:Tryz.prog.info? 5=some R4:=by kernel_rfl
end Cu
end
section
namespace Cu
open Go.RowKit Sy
set_option maxRecDepth 100000
set_option maxHeartbeats 4000000
def dg (m j:Nat):Nat:=m / 16 ^ (63 - j)%16
def dgA (m j:Nat):List Value:=[.int .u8 ((dg m j:Nat):Int)]
theorem Bm (m:Nat):∀ j,(dgA m j).length=1:=λ_=>rfl
theorem KB (m k:Nat) (hk:k<32):((Ae m).getD k 0).toNat=m / 2 ^ (8*(31 - k))%256:=by
 have h:∀ n j,j<n→(E' m n).getD j 0=CQ m (n - 1 - j):=by
  intro n
  induction n with
  | zero=>intro j hj; omega
  | succ n ih =>
   intro j hj
   cases j with
   | zero=>rfl
   | succ j =>
    show (E' m n).getD j 0=_
    rw [ih j (by omega)]
    congr 1
    omega
 unfold Ae
 rw [h 32 k hk,show 32 - 1 - k=31 - k by omega]
 unfold CQ
 rw [UInt8.toNat_ofNat']
 omega
theorem p16 (k:Nat):(2:Nat) ^ (8*k)=16 ^ (2*k):=by
 rw [show 8*k=4*(2*k) by omega,Nat.pow_mul]
theorem SF (m k:Nat) (hk:k<32):((Ae m).getD k 0).toNat / 16=dg m (2*k):=by
 rw [KB m k hk,p16]
 unfold dg
 rw [show 63 - 2*k=2*(31 - k)+1 by omega,Nat.pow_succ, ← Nat.div_div_eq_div_mul]
 omega
theorem SE (m k:Nat) (hk:k<32):((Ae m).getD k 0).toNat%16=dg m (2*k+1):=by
 rw [KB m k hk,p16]
 unfold dg
 rw [show 63 - (2*k+1)=2*(31 - k) by omega]
 omega
theorem Py (F:AU) (o:Oper) (t:TypeId) (x y:Operand) {yt:TypeId} (b:UInt8) (d:Nat) (ho:o.op=.binOp .shr t x y yt) (hx:evF F x=bv b) (hy:evF F y=.int .u64 4) (h:b.toNat / 16=d) (w:World):(execOp (evF F) o).run Tryz.prog w=.ok (.value (.int .u8 ((d:Nat):Int))) w :=
 AC .shr t x y .u8 (b.toNat:Int) 4 _ ho hx hy (Pn t .u8 .u64 _ _ _ (by decide) (by
  show Int.fdiv (b.toNat:Int) ((16:Nat):Int)=_
  rw [← h,Int.fdiv_eq_ediv_of_nonneg _ (by omega)]
  omega)) w
theorem SI:∀ n:Fin 256,IntKind.u8.wrap ((BitVec.ofInt 8 ((n.val:Nat):Int) &&& BitVec.ofInt 8 15).toNat:Int)=((n.val%16:Nat):Int):=by decide +kernel
theorem Px (F:AU) (o:Oper) (t:TypeId) (x y:Operand) {yt:TypeId} (b:UInt8) (d:Nat) (ho:o.op=.binOp .and t x y yt) (hx:evF F x=bv b) (hy:evF F y=.int .u8 15) (h:b.toNat%16=d) (w:World):(execOp (evF F) o).run Tryz.prog w=.ok (.value (.int .u8 ((d:Nat):Int))) w :=
 AC .and t x y .u8 (b.toNat:Int) 15 _ ho hx hy (Iw t .u8 _ _ _ (by
  rw [← h]
  exact SI ⟨b.toNat,b.toNat_lt⟩)) w
theorem OU (w:World) (x:Nat) (hx:x<K4):Calls Tryz.prog 222 #[fv x] w (Gets w (.agg (AV (dgA (x%Sc.pM)) 64).toArray)):=by
 obtain ⟨m,hm⟩:∃ m,m=x%Sc.pM:=⟨_,rfl⟩
 obtain ⟨l,hl0⟩:∃ l,l=Ae m:=⟨_,rfl⟩
 have hl:l.length=32:=by rw [hl0]; exact AN m
 have cB:∀ w,Calls Tryz.prog 78 #[fv x] w (Gets w (.agg (l.map bv).toArray)):=λw=>by rw [hl0,hm]; exact Sc.bytes_any w x hx
 rw [← hm]
 refine Sy.enter (args:=[fv x]) Tryz.func222 rfl kL ?_
 refine sC ?_
 refine sM 46 (fcs x) (λg0=>?_)
 refine Sy.make kR 250 (AV (λ_=>[.int .u8 0]) 64).toArray ptr kF (λg1=>?_)
 refine sA ?_
 refine Sy.make kR 250 (AV (λ_=>[.int .u8 0]) 64).toArray ptr kF (λg2=>?_)
 refine sG<|Sy.seq<|sC ?_
 refine sS (fv x) (qL 0 g0 0 4 46 46 (fcs x) rfl Tryz.underlying46)<|sS (.agg (l.map bv).toArray) (qF 78 #[fv x] (cB))<|sP (.int .i64 0) ?_
 refine sG<|Sy.block ?_
 refine Sy.loopK 32 (λk1=>[(2,.pointer (some ⟨g1,0,none⟩)),(3,.pointer (some ⟨g2,0,none⟩)),(7,.agg (l.map bv).toArray),(8,.int .i64 ((k1:Nat):Int))]) (λk1=>[(g1,250,(AV (λ_=>[.int .u8 0]) 64).toArray),(g2,250,(AV (upto (2*k1) (dgA m) [.int .u8 0]) 64).toArray)]) [false,true,true] (M:=[(g1,250,(AV (λ_=>[.int .u8 0]) 64).toArray),(g2,250,(AV (λ_=>[.int .u8 0]) 64).toArray)]) ac4 kR (AM rfl (AM (beq (Hc)) rfl)) (λk1 hk1=>?_)
 refine sC ?_
 obtain ⟨b1,hb1⟩:∃ z:Bool,z=decide (k1<32):=⟨_,rfl⟩
 refine sS (.bool b1) (Quiet.pure (AC .lss _ _ _ .i64 _ _ _ rfl rfl rfl (AY _ _ _ _ _ (by rw [hb1]; exact decide_eq_decide.2 (by omega))))) ?_
 refine sG<|Sy.seq ?_
 cases b1
 ·have lb1:¬ (k1<32):=of_decide_eq_false hb1.symm
  refine sU<|Sy.exit<|Sy.then_exit<|Sy.then_exit ?_
  obtain rfl:k1=32:=by omega
  refine Sy.in_exit<|sB ?_
  refine sS (.agg (AV (upto (2*32) (dgA m) [.int .u8 0]) 64).toArray) (Quiet.load 1 g2 0 64 250 250 (AV (upto (2*32) (dgA m) [.int .u8 0]) 64).toArray _ _ rfl kR kR Tryz.underlying250 rfl kR _ (Gl (Av (Bm m) rfl _) rfl) (Gk (Av (Bm m) rfl _) rfl)) ?_
  refine Sy.write kR 0 g1 250 (AV (λ_=>[.int .u8 0]) 64).toArray (AV (upto (2*32) (dgA m) [.int .u8 0]) 64).toArray kR (Writes.store 0 250 (AV (upto (2*32) (dgA m) [.int .u8 0]) 64).toArray _ _ rfl kR kR (EC (Av (Bm m) rfl _) kR) (H7 (Av (Bm m) rfl _) rfl kR) (Jt (Av (Bm m) rfl _) _ (JG (λ_ u hu=>by rw [List.mem_singleton.1 hu]; rfl) (λu hu=>by rw [List.mem_singleton.1 hu]; rfl) _)) (Js (Av (Bm m) rfl _) kR)) ?_
  refine sG<|Sy.ret ?_
  rw [show (.agg (AV (dgA m) 64).toArray:Value)=.agg (AV (upto (2*32) (dgA m) [.int .u8 0]) 64).toArray from congrArg Value.agg upto_all.symm]
  exact Sy.ret1 rfl (v:=.agg (AV (upto (2*32) (dgA m) [.int .u8 0]) 64).toArray) (.inl (Res.cell (ty':=250) g1 0 (AV (upto (2*32) (dgA m) [.int .u8 0]) 64).toArray _ kR kR Tryz.underlying250 rfl (EC (Av (Bm m) rfl _) kR) rfl))
 ·have lb1:k1<32:=of_decide_eq_true hb1.symm
  refine sT<|Sy.skip<|Sy.then_<|Sy.seq<|Sy.block<|sC ?_
  refine sP (.int .i64 ((k1:Nat):Int))<|sS (bv (l.getD k1 0)) (Quiet.pure (Gs _ _ _ _ _ 32 k1 .i64 _ _ rfl rfl rfl Tryz.underlying22 Tryz.underlying5 rfl kF (by omega) (Q8 l hl k1 (by omega))))<|sP (.int .i64 ((k1:Nat):Int))<|sP (bv (l.getD k1 0)) ?_
  refine sG<|Sy.region ?_
  refine sP (.int .i64 ((k1:Nat):Int))<|sS (.int .i64 ((2*k1:Nat):Int)) (Quiet.pure (AC .mul _ _ _ .i64 _ _ _ rfl rfl rfl (Lv _ _ _ _ _ ((AH (by omega) (by omega)).trans (by omega)))))<|sP (.int .i64 ((k1:Nat):Int))<|sS (.int .i64 ((2*k1:Nat):Int)) (Quiet.pure (AC .mul _ _ _ .i64 _ _ _ rfl rfl rfl (Lv _ _ _ _ _ ((AH (by omega) (by omega)).trans (by omega)))))<|sS (.int .i64 (((2*k1)+1:Nat):Int)) (Quiet.pure (AC .add _ _ _ .i64 _ _ _ rfl rfl rfl (AO _ _ _ _ _ ((AH (by omega) (by omega)).trans (by omega)))))<|sP (bv (l.getD k1 0))<|sS (.int .u8 ((dg m (2*k1):Nat):Int)) (Quiet.pure (Py _ _ _ _ _ (l.getD k1 0) _ rfl rfl rfl (by rw [hl0]; exact SF m k1 (by omega))))<|sP (bv (l.getD k1 0)) ?_
  refine sS (.int .u8 ((dg m (2*k1+1):Nat):Int)) (Quiet.pure (Px _ _ _ _ _ (l.getD k1 0) _ rfl rfl rfl (by rw [hl0]; exact SE m k1 (by omega))))<|sS (.pointer (some ⟨g2,0+(2*k1)*1,none⟩)) (Quiet.pure (Aq 250 _ _ _ g2 0 _ (2*k1) 1 .i64 rfl rfl rfl Tryz.underlying250 kF (by omega))) ?_
  refine Sy.write kR 1 g2 250 (AV (upto (2*k1) (dgA m) [.int .u8 0]) 64).toArray (AV (upto (2*k1+1) (dgA m) [.int .u8 0]) 64).toArray kR (Writes.one (0+(2*k1)*1) 5 (.int .u8 ((dg m (2*k1):Nat):Int)) _ _ rfl kR kR kR rfl rfl (Ju (Av (Bm m) rfl _) (k:=2*k1) (by omega) (by omega)) ((congrArg (Array.setIfInBounds _ · _) (show 0+(2*k1)*1=2*k1 by omega)).trans (Hd (Bm m) (rfl) (by omega)))) ?_
  refine sS (.pointer (some ⟨g2,0+((2*k1)+1)*1,none⟩)) (Quiet.pure (Aq 250 _ _ _ g2 0 _ ((2*k1)+1) 1 .i64 rfl rfl rfl Tryz.underlying250 kF (by omega))) ?_
  refine Sy.write kR 1 g2 250 (AV (upto (2*k1+1) (dgA m) [.int .u8 0]) 64).toArray (AV (upto (2*k1+1+1) (dgA m) [.int .u8 0]) 64).toArray kR (Writes.one (0+((2*k1)+1)*1) 5 (.int .u8 ((dg m (2*k1+1):Nat):Int)) _ _ rfl kR kR kR rfl rfl (Ju (Av (Bm m) rfl _) (k:=2*k1+1) (by omega) (by omega)) ((congrArg (Array.setIfInBounds _ · _) (show 0+((2*k1)+1)*1=2*k1+1 by omega)).trans (Hd (Bm m) (rfl) (by omega)))) ?_
  refine Sy.nil<|Sy.in_<|Sy.then_<|Sy.region ?_
  refine sS (.int .i64 ((k1+1:Nat):Int)) (Quiet.pure (AC .add _ _ _ .i64 _ _ _ rfl rfl rfl (AO _ _ _ _ _ ((AH (by omega) (by omega)).trans (by omega)))))<|sP (.int .i64 ((k1+1:Nat):Int)) ?_
  refine Sy.nil ?_
  exact Sy.againK [true,true] (M:=[(g1,250,(AV (λ_=>[.int .u8 0]) 64).toArray),(g2,250,(AV (upto (2*k1+1+1) (dgA m) [.int .u8 0]) 64).toArray)]) (by omega) ac4 kR (AM rfl (AM (beq (congrArg (λt=>(AV (upto t (dgA m) [.int .u8 0]) 64).toArray) (show 2*k1+1+1=2*(k1+1) by omega))) rfl))
def tws (x y z:Nat):List Value:=fws x++(fws y++fws z)
def jws (a:J):List Value:=tws a.x.val a.y.val a.z.val
def Bj (a:J):Nat→J
 | 0=>⟨0,0,0⟩
 | k+1=>Bk (Bj a k) a
theorem Jz {a:J} {P:Pt} (hP:Ec.On P) (h:Ec.Rep a P):∀ k,Ec.Rep (Bj a k) (Ec.nm Ac k P)
 | 0=>rfl
 | k+1=>Ey (hP.nm fld k) hP (Jz hP h k) h
def DI (a:J) (j:Nat):List Value:=jws (Bj a j)
theorem BT (a:J):∀ j,(DI a j).length=12:=λ_=>rfl
theorem Mv (a:J):(AV (λ_=>tws 0 0 0) 16).toArray=(AV (upto 1 (DI a) (tws 0 0 0)) 16).toArray:=congrArg List.toArray (Be λj _=>by
 unfold upto
 split
 ·obtain rfl:j=0:=by omega
  rfl
 ·rfl)
theorem Lt (a:J):∀ u∈jws a,u.oneCell'=true:=λu hu=>by
 unfold jws tws fws at hu
 simp [qv] at hu
 rcases hu with rfl | rfl | rfl | rfl | rfl | rfl | rfl | rfl | rfl | rfl | rfl | rfl <;> rfl
theorem QR (w:World) (P:Pt) (x y:Nat) (i:Bool) (hP:ptv P=pv x y i):Calls Tryz.prog 223 #[pv x y i] w (Gets w (.agg (AV (DI (Ap P)) 16).toArray)):=by
 obtain ⟨a,ha⟩:∃ a,a=Ap P:=⟨_,rfl⟩
 have c3:∀ w,Calls Tryz.prog 244 #[pv x y i] w (Gets w (tv a.x.val a.y.val a.z.val)):=λw=>by
  have h:=Ox w P
  rw [hP, ← ha] at h
  exact h
 rw [← ha]
 refine Sy.enter (args:=[pv x y i]) Tryz.func223 rfl kL ?_
 refine sC ?_
 refine sM 52 (pcs x y i) (λg0=>?_)
 refine Sy.make kR 265 (AV (λ_=>tws 0 0 0) 16).toArray ptr kF (λg1=>?_)
 refine sA ?_
 refine Sy.make kR 265 (AV (λ_=>tws 0 0 0) 16).toArray ptr kF (λg2=>?_)
 refine sA ?_
 refine sS (pv x y i) (qL 0 g0 0 9 52 52 (pcs x y i) rfl Tryz.underlying52)<|sS (tv a.x.val a.y.val a.z.val) (qF 244 #[pv x y i] (c3)) ?_
 refine sM 217 (tcs 0 0 0) (λg3=>?_)
 refine sW 3 g3 217 (tcs 0 0 0) (tcs a.x.val a.y.val a.z.val) (wS 0 217 (tcs a.x.val a.y.val a.z.val) rfl) ?_
 refine sG<|Sy.seq<|sC ?_
 refine sP (.int .i64 1) ?_
 refine sG<|Sy.block ?_
 refine Sy.loopK 15 (λk1=>[(2,.pointer (some ⟨g1,0,none⟩)),(3,.pointer (some ⟨g2,0,none⟩)),(4,.pointer (some ⟨g3,0,none⟩)),(5,.int .i64 ((k1+1:Nat):Int))]) (λk1=>[(g1,265,(AV (λ_=>tws 0 0 0) 16).toArray),(g2,265,(AV (upto (k1+1) (DI a) (tws 0 0 0)) 16).toArray),(g3,217,(tcs a.x.val a.y.val a.z.val))]) [false,true,true,true] (M:=[(g1,265,(AV (λ_=>tws 0 0 0) 16).toArray),(g2,265,(AV (λ_=>tws 0 0 0) 16).toArray),(g3,217,(tcs a.x.val a.y.val a.z.val))]) ac4 kR (AM rfl (AM (beq (Mv a)) (AM rfl rfl))) (λk1 hk1=>?_)
 refine Sy.seq<|sC ?_
 refine sP (.int .i64 ((k1+1:Nat):Int)) ?_
 obtain ⟨b1,hb1⟩:∃ z:Bool,z=decide (k1+1<16):=⟨_,rfl⟩
 refine sS (.bool b1) (Quiet.pure (AC .lss _ _ _ .i64 _ _ _ rfl rfl rfl (AY _ _ _ _ _ (by rw [hb1]; exact decide_eq_decide.2 (by omega))))) ?_
 refine sG ?_
 cases b1
 ·have lb1:¬ (k1+1<16):=of_decide_eq_false hb1.symm
  refine sU<|Sy.exit<|Sy.then_exit<|Sy.then_exit ?_
  obtain rfl:k1=15:=by omega
  refine Sy.in_exit<|sB ?_
  refine sS (.agg (AV (upto (15+1) (DI a) (tws 0 0 0)) 16).toArray) (Quiet.load 1 g2 0 192 265 265 (AV (upto (15+1) (DI a) (tws 0 0 0)) 16).toArray _ _ rfl kR kR Tryz.underlying265 rfl kR _ (Gl (Av (BT a) rfl _) rfl) (Gk (Av (BT a) rfl _) rfl)) ?_
  refine Sy.write kR 0 g1 265 (AV (λ_=>tws 0 0 0) 16).toArray (AV (upto (15+1) (DI a) (tws 0 0 0)) 16).toArray kR (Writes.store 0 265 (AV (upto (15+1) (DI a) (tws 0 0 0)) 16).toArray _ _ rfl kR kR (EC (Av (BT a) rfl _) kR) (H7 (Av (BT a) rfl _) rfl kR) (Jt (Av (BT a) rfl _) _ (JG (λ_=>Lt _) (Lt ⟨0,0,0⟩) _)) (Js (Av (BT a) rfl _) kR)) ?_
  refine sG<|Sy.ret ?_
  rw [show (.agg (AV (DI a) 16).toArray:Value)=.agg (AV (upto (15+1) (DI a) (tws 0 0 0)) 16).toArray from congrArg Value.agg upto_all.symm]
  exact Sy.ret1 rfl (v:=.agg (AV (upto (15+1) (DI a) (tws 0 0 0)) 16).toArray) (.inl (Res.cell (ty':=265) g1 0 (AV (upto (15+1) (DI a) (tws 0 0 0)) 16).toArray _ kR kR Tryz.underlying265 rfl (EC (Av (BT a) rfl _) kR) rfl))
 ·have lb1:k1+1<16:=of_decide_eq_true hb1.symm
  refine sT<|Sy.skip<|Sy.then_<|Sy.seq<|Sy.block ?_
  refine Sy.regionD (λj=>j == 8) kR ?_
  refine sZ 0 rfl (.int .i64 ((k1+1:Nat):Int))<|sZ 1 rfl (.int .i64 ((k1+1:Nat):Int))<|sD 2 rfl (.int .i64 (((k1+1) - 1:Nat):Int)) (Quiet.pure (AC .sub _ _ _ .i64 _ _ _ rfl rfl rfl (D_ _ _ _ _ _ ((AH (by omega) (by omega)).trans (by omega)))))<|sD 3 rfl (.pointer (some ⟨g2,0+((k1+1) - 1)*12,none⟩)) (Quiet.pure (Aq 265 _ _ _ g2 0 _ ((k1+1) - 1) 12 .i64 rfl rfl rfl Tryz.underlying265 kF (by omega)))<|sD 4 rfl (tv ((Bj a ((k1+1) - 1)).x.val) ((Bj a ((k1+1) - 1)).y.val) ((Bj a ((k1+1) - 1)).z.val)) (Quiet.load 1 g2 (0+((k1+1) - 1)*12) 12 265 217 (AV (upto (k1+1) (DI a) (tws 0 0 0)) 16).toArray _ _ rfl kR kR Tryz.underlying217 rfl kR _ ((Mp (Av (BT a) rfl _) (k:=(k1+1) - 1) (by omega) (by omega)).trans ((congrArg (λl:List Value=>Value.agg l.toArray) (LW (by omega))).trans kR)) (Gn (Av (BT a) rfl _) (k:=(k1+1) - 1) (by omega) (by omega)))<|sD 5 rfl (tv a.x.val a.y.val a.z.val) (qL 2 g3 0 12 217 217 (tcs a.x.val a.y.val a.z.val) rfl Tryz.underlying217) ?_
  obtain ⟨j1,hj1⟩:∃ z:J,z=Bk (Bj a ((k1+1) - 1)) a:=⟨_,rfl⟩
  refine sD 6 rfl (tv j1.x.val j1.y.val j1.z.val) (qF 182 #[tv ((Bj a ((k1+1) - 1)).x.val) ((Bj a ((k1+1) - 1)).y.val) ((Bj a ((k1+1) - 1)).z.val),tv a.x.val a.y.val a.z.val] (λw=>by rw [hj1]; exact LN w (Bj a ((k1+1) - 1)) a))<|sD 7 rfl (.pointer (some ⟨g2,0+(k1+1)*12,none⟩)) (Quiet.pure (Aq 265 _ _ _ g2 0 _ (k1+1) 12 .i64 rfl rfl rfl Tryz.underlying265 kF (by omega))) ?_
  refine Sy.writeD 8 rfl kR (by rfl) kR 1 g2 265 (AV (upto (k1+1) (DI a) (tws 0 0 0)) 16).toArray (AV (upto (k1+1+1) (DI a) (tws 0 0 0)) 16).toArray kR (Writes.store (0+(k1+1)*12) 217 (tcs j1.x.val j1.y.val j1.z.val) _ _ rfl kR kR kR (Gn (Av (BT a) rfl _) (k:=k1+1) (by omega) (by omega)) kR (GC (v:=(tcs j1.x.val j1.y.val j1.z.val).toList) (BT a) rfl (by rw [hj1]; rfl) (by omega) (by omega))) ?_
  refine sE ?_
  refine Sy.in_<|Sy.then_<|Sy.region ?_
  refine sP (.int .i64 ((k1+1:Nat):Int))<|sS (.int .i64 (((k1+1)+1:Nat):Int)) (Quiet.pure (AC .add _ _ _ .i64 _ _ _ rfl rfl rfl (AO _ _ _ _ _ ((AH (by omega) (by omega)).trans (by omega)))))<|sP (.int .i64 (((k1+1)+1:Nat):Int)) ?_
  refine Sy.nil ?_
  exact Sy.againK [true,true,true] (M:=[(g1,265,(AV (λ_=>tws 0 0 0) 16).toArray),(g2,265,(AV (upto (k1+1+1) (DI a) (tws 0 0 0)) 16).toArray),(g3,217,(tcs a.x.val a.y.val a.z.val))]) (by omega) ac4 kR (AM rfl (AM rfl (AM rfl rfl)))
end Cu
end
section
namespace Cu
open Go.RowKit Sy
set_option maxRecDepth 100000
set_option maxHeartbeats 4000000
structure Trm where
 k:Nat
 x:Nat
 y:Nat
 i:Bool
def JH (k x y:Nat) (i:Bool):Array Value:=(fws k++(fws x++(fws y++[Value.bool i]))).toArray
def trv (k x y:Nat) (i:Bool):Value:=.agg (JH k x y i)
def Trm.cells (t:Trm):List Value:=fws t.k++(fws t.x++(fws t.y++[Value.bool t.i]))
def Trm.ok (t:Trm):Prop:=t.k<K4∧t.x<K4∧t.y<K4
def Trm.pt (t:Trm):Pt:=dec t.x t.y t.i
def Trm.kn (t:Trm):Nat:=t.k%Sc.pM
def tmA (t:Trm):List Value:=AV (dgA t.kn) 64++AV (DI (Ap t.pt)) 16
def Qc (t:Trm):Array Value:=(tmA t).toArray
theorem IK (T:Nat→Trm):∀ j,(tmA (T j)).length=256:=λ_=>by
 unfold tmA
 rw [List.length_append,As (Bm _),As (BT _)]
def zt:List Value:=List.replicate 64 (.int .u8 0)++List.replicate 192 (.int .u64 0)
noncomputable def R5:TypeInfo:=(Tryz.prog.info? 268).getD default
theorem Pp:Tryz.prog.info? 268=some R5:=by kernel_rfl
theorem SD (m j:Nat):dg m j<16:=Nat.mod_lt _ (by decide)
theorem SA (w:World) (P:Pt):Calls Tryz.prog 223 #[ptv P] w (Gets w (.agg (AV (DI (Ap P)) 16).toArray)):=by
 rcases P with _ | ⟨u,v⟩
 ·exact QR w none 0 0 true rfl
 ·exact QR w (some (u,v)) u.val v.val false rfl
def dbN (a:J):Nat→J
 | 0=>a
 | j+1=>A9 (dbN a j)
def inJ (T:Nat→Trm) (i:Nat) (a:J):Nat→J
 | 0=>a
 | j+1=>Bk (inJ T i a j) (Bj (Ap (T j).pt) (dg (T j).kn i))
def muJ (T:Nat→Trm) (n:Nat):Nat→J
 | 0=>⟨0,0,0⟩
 | i+1=>inJ T i (dbN (muJ T n i) 4) n
theorem SS (w:World) (g off i:Nat) (t:Trm) (hg:g<w.heap.size) (hi:i<64) (hr:w.rangeAt g off (tmA t)):Calls Tryz.prog 224 #[.pointer (some ⟨g,off,none⟩),.int .i64 ((i:Nat):Int)] w (Gets w (tv (Bj (Ap t.pt) (dg t.kn i)).x.val (Bj (Ap t.pt) (dg t.kn i)).y.val (Bj (Ap t.pt) (dg t.kn i)).z.val)):=by
 have hd:=SD t.kn i
 refine Sy.enter (args:=[.pointer (some ⟨g,off,none⟩),.int .i64 ((i:Nat):Int)]) Tryz.func224 rfl kL ?_
 refine sC ?_
 refine sM 217 (tcs 0 0 0) (λg0=>?_)
 refine sH (λj=>j == 11) ?_
 refine sZ 0 rfl (.pointer (some ⟨g,off,none⟩))<|sZ 1 rfl (.pointer (some ⟨g,off,none⟩))<|sZ 2 rfl (.int .i64 ((i:Nat):Int))<|sZ 3 rfl (.pointer (some ⟨g,off,none⟩))<|sZ 4 rfl (.pointer (some ⟨g,off,none⟩))<|sD 5 rfl (.pointer (some ⟨g,off+i*1,none⟩)) (Quiet.pure (Aq 250 _ _ _ g off _ i 1 .i64 rfl rfl rfl Tryz.underlying250 kF (by omega)))<|sD 6 rfl (.int .u8 ((dg t.kn i:Nat):Int)) (Quiet.thereOne g (off+i*1) 5 _ _ rfl kR hg _ (GR (GQ hr) (Bm t.kn) hi 0 _ rfl) Tryz.underlying5 rfl)<|sZ 7 rfl (.pointer (some ⟨g,off,none⟩)) ?_
 refine sZ 8 rfl (.pointer (some ⟨g,off+64,none⟩))<|sD 9 rfl (.pointer (some ⟨g,off+64+(dg t.kn i)*12,none⟩)) (Quiet.pure (Aq 265 _ _ _ g (off+64) _ (dg t.kn i) 12 .u8 rfl rfl rfl Tryz.underlying265 kF (by omega)))<|sD 10 rfl (tv ((Bj (Ap t.pt) (dg t.kn i)).x.val) ((Bj (Ap t.pt) (dg t.kn i)).y.val) ((Bj (Ap t.pt) (dg t.kn i)).z.val)) (Quiet.there g (off+64+(dg t.kn i)*12) 12 217 (DI (Ap t.pt) (dg t.kn i)) _ _ rfl kR hg (GR (FV hr (As (Bm t.kn) 64)) (BT _) hd) Tryz.underlying217 rfl kR rfl _ kR)<|sX 11 rfl 0 g0 217 (tcs 0 0 0) (tcs ((Bj (Ap t.pt) (dg t.kn i)).x.val) ((Bj (Ap t.pt) (dg t.kn i)).y.val) ((Bj (Ap t.pt) (dg t.kn i)).z.val)) (wS 0 217 (tcs ((Bj (Ap t.pt) (dg t.kn i)).x.val) ((Bj (Ap t.pt) (dg t.kn i)).y.val) ((Bj (Ap t.pt) (dg t.kn i)).z.val)) rfl) ?_
 refine sI ?_
 refine Sy.ret ?_
 exact rC (v:=tv ((Bj (Ap t.pt) (dg t.kn i)).x.val) ((Bj (Ap t.pt) (dg t.kn i)).y.val) ((Bj (Ap t.pt) (dg t.kn i)).z.val)) 217 g0 0 (tcs ((Bj (Ap t.pt) (dg t.kn i)).x.val) ((Bj (Ap t.pt) (dg t.kn i)).y.val) ((Bj (Ap t.pt) (dg t.kn i)).z.val)) rfl Tryz.underlying217
theorem PZ (w:World) (b o n c:Nat) (T:Nat→Trm) (hb:b<w.heap.size) (hn:n≤32) (hok:∀ j,(T j).ok) (hT:∀ j,j<n→w.rangeAt b (o+j*13) (T j).cells):Calls Tryz.prog 183 #[.slice (some ⟨b,o,none⟩) n c] w (Gets w (tv (muJ T n 64).x.val (muJ T n 64).y.val (muJ T n 64).z.val)):=by
 refine Sy.enter (args:=[.slice (some ⟨b,o,none⟩) n c]) Tryz.func183 rfl kL ?_
 refine sC ?_
 refine sM 217 (tcs 0 0 0) (λg0=>?_)
 refine sA ?_
 refine sP (.slice (some ⟨b,o,none⟩) n c)<|sP (.int .i64 ((n:Nat):Int)) ?_
 refine Sy.make kR 268 (AV (λ_=>zt) n).toArray (λg=>.slice (some ⟨g,0,none⟩) n n) (Makes.slice 263 268 _ (.agg zt.toArray) 256 1600 _ _ .i64 .i64 n zt rfl rfl rfl Tryz.underlying263 Pp kR kR (by decide) kR kR kR (by omega) (by omega)) (λg1=>?_)
 refine sP (.slice (some ⟨g1,0,none⟩) n n) ?_
 refine sG<|Sy.seq<|sC ?_
 refine sP (.slice (some ⟨b,o,none⟩) n c)<|sP (.int .i64 ((n:Nat):Int))<|sP (.int .i64 0) ?_
 refine sG<|Sy.block ?_
 refine Sy.loopK n (λk1=>[(2,.pointer (some ⟨g0,0,none⟩)),(3,.slice (some ⟨g1,0,none⟩) n n),(12,.slice (some ⟨b,o,none⟩) n c),(13,.int .i64 ((n:Nat):Int)),(14,.int .i64 ((k1:Nat):Int))]) (λk1=>[(g0,217,(tcs 0 0 0)),(g1,268,(AV (upto k1 (λj=>tmA (T j)) zt) n).toArray)]) [true,true] (M:=[(g0,217,(tcs 0 0 0)),(g1,268,(AV (λ_=>zt) n).toArray)]) ac5 kR (AM rfl (AM (beq (Hc)) rfl)) (λk1 hk1=>?_)
 refine sC ?_
 obtain ⟨b1,hb1⟩:∃ z:Bool,z=decide (k1<n):=⟨_,rfl⟩
 refine sS (.bool b1) (Quiet.pure (AC .lss _ _ _ .i64 _ _ _ rfl rfl rfl (AY _ _ _ _ _ (by rw [hb1]; exact decide_eq_decide.2 (by omega))))) ?_
 refine sG<|Sy.seq ?_
 cases b1
 ·have lb1:¬ (k1<n):=of_decide_eq_false hb1.symm
  refine sU<|Sy.exit<|Sy.then_exit<|Sy.then_exit ?_
  obtain rfl:n=k1:=by omega
  refine Sy.in_exit<|sB ?_
  refine sM 217 (tcs 0 0 0) (λg2=>?_)
  refine sG<|Sy.seq<|sC ?_
  refine sP (.int .i64 0) ?_
  refine sG<|Sy.block ?_
  refine Sy.loopK 64 (λk2=>[(2,.pointer (some ⟨g0,0,none⟩)),(3,.slice (some ⟨g1,0,none⟩) n n),(6,.pointer (some ⟨g2,0,none⟩)),(31,.int .i64 ((k2:Nat):Int))]) (λk2=>[(g0,217,(tcs 0 0 0)),(g1,268,(AV ((λj=>tmA (T j))) n).toArray),(g2,217,(tcs ((muJ T n k2).x.val) ((muJ T n k2).y.val) ((muJ T n k2).z.val)))]) [true,true,true] (M:=[(g0,217,(tcs 0 0 0)),(g1,268,(AV (upto n (λj=>tmA (T j)) zt) n).toArray),(g2,217,(tcs 0 0 0))]) ac4 kR (AM rfl (AM (beq (upto_all)) (AM rfl rfl))) (λk2 hk2=>?_)
  refine sC ?_
  obtain ⟨b2,hb2⟩:∃ z:Bool,z=decide (k2<64):=⟨_,rfl⟩
  refine sS (.bool b2) (Quiet.pure (AC .lss _ _ _ .i64 _ _ _ rfl rfl rfl (AY _ _ _ _ _ (by rw [hb2]; exact decide_eq_decide.2 (by omega))))) ?_
  refine sG<|Sy.seq ?_
  cases b2
  ·have lb2:¬ (k2<64):=of_decide_eq_false hb2.symm
   refine sU<|Sy.exit<|Sy.then_exit<|Sy.then_exit ?_
   obtain rfl:k2=64:=by omega
   refine Sy.in_exit<|sB ?_
   refine sS (tv ((muJ T n 64).x.val) ((muJ T n 64).y.val) ((muJ T n 64).z.val)) (qL 2 g2 0 12 217 217 (tcs ((muJ T n 64).x.val) ((muJ T n 64).y.val) ((muJ T n 64).z.val)) rfl Tryz.underlying217)<|sW 0 g0 217 (tcs 0 0 0) (tcs ((muJ T n 64).x.val) ((muJ T n 64).y.val) ((muJ T n 64).z.val)) (wS 0 217 (tcs ((muJ T n 64).x.val) ((muJ T n 64).y.val) ((muJ T n 64).z.val)) rfl) ?_
   refine sG<|Sy.ret ?_
   exact rC (v:=tv ((muJ T n 64).x.val) ((muJ T n 64).y.val) ((muJ T n 64).z.val)) 217 g0 0 (tcs ((muJ T n 64).x.val) ((muJ T n 64).y.val) ((muJ T n 64).z.val)) rfl Tryz.underlying217
  ·have lb2:k2<64:=of_decide_eq_true hb2.symm
   refine sT<|Sy.skip<|Sy.then_<|Sy.seq<|Sy.block<|sC ?_
   refine sP (.int .i64 ((k2:Nat):Int))<|sP (.int .i64 ((k2:Nat):Int)) ?_
   refine sG<|Sy.seq<|sC ?_
   refine sP (.int .i64 0) ?_
   refine sG<|Sy.block ?_
   refine Sy.loopK 4 (λk3=>[(2,.pointer (some ⟨g0,0,none⟩)),(3,.slice (some ⟨g1,0,none⟩) n n),(6,.pointer (some ⟨g2,0,none⟩)),(7,.int .i64 ((k2:Nat):Int)),(31,.int .i64 ((k2:Nat):Int)),(34,.int .i64 ((k3:Nat):Int))]) (λk3=>[(g0,217,(tcs 0 0 0)),(g1,268,(AV ((λj=>tmA (T j))) n).toArray),(g2,217,(tcs ((dbN (muJ T n k2) k3).x.val) ((dbN (muJ T n k2) k3).y.val) ((dbN (muJ T n k2) k3).z.val)))]) [true,true,true] (M:=[(g0,217,(tcs 0 0 0)),(g1,268,(AV ((λj=>tmA (T j))) n).toArray),(g2,217,(tcs ((muJ T n k2).x.val) ((muJ T n k2).y.val) ((muJ T n k2).z.val)))]) ac6 kR (AM rfl (AM rfl (AM rfl rfl))) (λk3 hk3=>?_)
   refine sC ?_
   obtain ⟨b3,hb3⟩:∃ z:Bool,z=decide (k3<4):=⟨_,rfl⟩
   refine sS (.bool b3) (Quiet.pure (AC .lss _ _ _ .i64 _ _ _ rfl rfl rfl (AY _ _ _ _ _ (by rw [hb3]; exact decide_eq_decide.2 (by omega))))) ?_
   refine sG<|Sy.seq ?_
   cases b3
   ·have lb3:¬ (k3<4):=of_decide_eq_false hb3.symm
    refine sU<|Sy.exit<|Sy.then_exit<|Sy.then_exit ?_
    obtain rfl:k3=4:=by omega
    refine Sy.in_exit<|sB ?_
    refine sP (.slice (some ⟨g1,0,none⟩) n n)<|sP (.int .i64 ((n:Nat):Int))<|sP (.int .i64 0) ?_
    refine sG<|Sy.block ?_
    refine Sy.loopK n (λk4=>[(2,.pointer (some ⟨g0,0,none⟩)),(3,.slice (some ⟨g1,0,none⟩) n n),(6,.pointer (some ⟨g2,0,none⟩)),(7,.int .i64 ((k2:Nat):Int)),(31,.int .i64 ((k2:Nat):Int)),(40,.int .i64 ((n:Nat):Int)),(41,.int .i64 ((k4:Nat):Int))]) (λk4=>[(g0,217,(tcs 0 0 0)),(g1,268,(AV ((λj=>tmA (T j))) n).toArray),(g2,217,(tcs ((inJ T k2 (dbN (muJ T n k2) 4) k4).x.val) ((inJ T k2 (dbN (muJ T n k2) 4) k4).y.val) ((inJ T k2 (dbN (muJ T n k2) 4) k4).z.val)))]) [true,true,true] (M:=[(g0,217,(tcs 0 0 0)),(g1,268,(AV ((λj=>tmA (T j))) n).toArray),(g2,217,(tcs ((dbN (muJ T n k2) 4).x.val) ((dbN (muJ T n k2) 4).y.val) ((dbN (muJ T n k2) 4).z.val)))]) ac7 kR (AM rfl (AM rfl (AM rfl rfl))) (λk4 hk4=>?_)
    refine sC ?_
    obtain ⟨b4,hb4⟩:∃ z:Bool,z=decide (k4<n):=⟨_,rfl⟩
    refine sS (.bool b4) (Quiet.pure (AC .lss _ _ _ .i64 _ _ _ rfl rfl rfl (AY _ _ _ _ _ (by rw [hb4]; exact decide_eq_decide.2 (by omega))))) ?_
    refine sG<|Sy.seq ?_
    cases b4
    ·have lb4:¬ (k4<n):=of_decide_eq_false hb4.symm
     refine sU<|Sy.exit<|Sy.then_exit<|Sy.then_exit ?_
     obtain rfl:n=k4:=by omega
     refine Sy.in_exit<|Sy.in_<|Sy.then_<|Sy.region ?_
     refine sS (.int .i64 ((k2+1:Nat):Int)) (Quiet.pure (AC .add _ _ _ .i64 _ _ _ rfl rfl rfl (AO _ _ _ _ _ ((AH (by omega) (by omega)).trans (by omega)))))<|sP (.int .i64 ((k2+1:Nat):Int)) ?_
     refine Sy.nil ?_
     exact Sy.againK [true,true,true] (M:=[(g0,217,(tcs 0 0 0)),(g1,268,(AV ((λj=>tmA (T j))) n).toArray),(g2,217,(tcs ((inJ T k2 (dbN (muJ T n k2) 4) n).x.val) ((inJ T k2 (dbN (muJ T n k2) 4) n).y.val) ((inJ T k2 (dbN (muJ T n k2) 4) n).z.val)))]) (by omega) ac4 kR (AM rfl (AM rfl (AM rfl rfl)))
    ·have lb4:k4<n:=of_decide_eq_true hb4.symm
     refine sT<|Sy.skip<|Sy.then_<|Sy.seq<|Sy.block<|sC ?_
     refine sP (.int .i64 ((k4:Nat):Int))<|sP (.int .i64 ((k4:Nat):Int)) ?_
     refine sG ?_
     refine Sy.regionD (λj=>j == 7) kR ?_
     refine sD 0 rfl (tv ((inJ T k2 (dbN (muJ T n k2) 4) k4).x.val) ((inJ T k2 (dbN (muJ T n k2) 4) k4).y.val) ((inJ T k2 (dbN (muJ T n k2) 4) k4).z.val)) (qL 2 g2 0 12 217 217 (tcs ((inJ T k2 (dbN (muJ T n k2) 4) k4).x.val) ((inJ T k2 (dbN (muJ T n k2) 4) k4).y.val) ((inJ T k2 (dbN (muJ T n k2) 4) k4).z.val)) rfl Tryz.underlying217)<|sZ 1 rfl (.slice (some ⟨g1,0,none⟩) n n)<|sZ 2 rfl (.int .i64 ((k4:Nat):Int))<|sD 3 rfl (.pointer (some ⟨g1,0+k4*256,none⟩)) (Quiet.pure (Bf 263 _ _ _ g1 0 n n k4 256 .i64 rfl rfl rfl Tryz.underlying263 kF (by omega)))<|sZ 4 rfl (.int .i64 ((k2:Nat):Int))<|sD 5 rfl (tv ((Bj (Ap (T k4).pt) (dg (T k4).kn k2)).x.val) ((Bj (Ap (T k4).pt) (dg (T k4).kn k2)).y.val) ((Bj (Ap (T k4).pt) (dg (T k4).kn k2)).z.val)) (Quiet.callS 224 #[.pointer (some ⟨g1,0+k4*256,none⟩),.int .i64 ((k2:Nat):Int)] kF (λw hw=>SS w g1 (0+k4*256) k2 (T k4) (hw.get (i:=1) rfl).lt (by omega) (Bz (hw.get (i:=1) rfl) (Eo (IK T) (k:=k4) (by omega) (by omega))))) ?_
     obtain ⟨j1,hj1⟩:∃ z:J,z=Bk (inJ T k2 (dbN (muJ T n k2) 4) k4) (Bj (Ap (T k4).pt) (dg (T k4).kn k2)):=⟨_,rfl⟩
     refine sD 6 rfl (tv j1.x.val j1.y.val j1.z.val) (qF 182 #[tv ((inJ T k2 (dbN (muJ T n k2) 4) k4).x.val) ((inJ T k2 (dbN (muJ T n k2) 4) k4).y.val) ((inJ T k2 (dbN (muJ T n k2) 4) k4).z.val),tv ((Bj (Ap (T k4).pt) (dg (T k4).kn k2)).x.val) ((Bj (Ap (T k4).pt) (dg (T k4).kn k2)).y.val) ((Bj (Ap (T k4).pt) (dg (T k4).kn k2)).z.val)] (λw=>by rw [hj1]; exact LN w (inJ T k2 (dbN (muJ T n k2) 4) k4) (Bj (Ap (T k4).pt) (dg (T k4).kn k2))))<|sX 7 rfl 2 g2 217 (tcs ((inJ T k2 (dbN (muJ T n k2) 4) k4).x.val) ((inJ T k2 (dbN (muJ T n k2) 4) k4).y.val) ((inJ T k2 (dbN (muJ T n k2) 4) k4).z.val)) (tcs j1.x.val j1.y.val j1.z.val) (wS 0 217 (tcs j1.x.val j1.y.val j1.z.val) rfl) ?_
     refine sE ?_
     refine Sy.in_<|Sy.then_<|Sy.region ?_
     refine sS (.int .i64 ((k4+1:Nat):Int)) (Quiet.pure (AC .add _ _ _ .i64 _ _ _ rfl rfl rfl (AO _ _ _ _ _ ((AH (by omega) (by omega)).trans (by omega)))))<|sP (.int .i64 ((k4+1:Nat):Int)) ?_
     refine Sy.nil ?_
     exact Sy.againK [true,true,true] (M:=[(g0,217,(tcs 0 0 0)),(g1,268,(AV ((λj=>tmA (T j))) n).toArray),(g2,217,(tcs j1.x.val j1.y.val j1.z.val))]) (by omega) ac7 kR (AM rfl (AM rfl (AM (beq (by rw [hj1]; rfl)) rfl)))
   ·have lb3:k3<4:=of_decide_eq_true hb3.symm
    refine sT<|Sy.skip<|Sy.then_<|Sy.seq<|Sy.block<|Sy.region ?_
    refine sS (tv ((dbN (muJ T n k2) k3).x.val) ((dbN (muJ T n k2) k3).y.val) ((dbN (muJ T n k2) k3).z.val)) (qL 2 g2 0 12 217 217 (tcs ((dbN (muJ T n k2) k3).x.val) ((dbN (muJ T n k2) k3).y.val) ((dbN (muJ T n k2) k3).z.val)) rfl Tryz.underlying217) ?_
    obtain ⟨j2,hj2⟩:∃ z:J,z=A9 (dbN (muJ T n k2) k3):=⟨_,rfl⟩
    refine sS (tv j2.x.val j2.y.val j2.z.val) (qF 220 #[tv ((dbN (muJ T n k2) k3).x.val) ((dbN (muJ T n k2) k3).y.val) ((dbN (muJ T n k2) k3).z.val)] (λw=>by rw [hj2]; exact J5 w (dbN (muJ T n k2) k3)))<|sW 2 g2 217 (tcs ((dbN (muJ T n k2) k3).x.val) ((dbN (muJ T n k2) k3).y.val) ((dbN (muJ T n k2) k3).z.val)) (tcs j2.x.val j2.y.val j2.z.val) (wS 0 217 (tcs j2.x.val j2.y.val j2.z.val) rfl) ?_
    refine Sy.nil<|Sy.in_<|Sy.then_<|Sy.region ?_
    refine sS (.int .i64 ((k3+1:Nat):Int)) (Quiet.pure (AC .add _ _ _ .i64 _ _ _ rfl rfl rfl (AO _ _ _ _ _ ((AH (by omega) (by omega)).trans (by omega)))))<|sP (.int .i64 ((k3+1:Nat):Int)) ?_
    refine Sy.nil ?_
    exact Sy.againK [true,true,true] (M:=[(g0,217,(tcs 0 0 0)),(g1,268,(AV ((λj=>tmA (T j))) n).toArray),(g2,217,(tcs j2.x.val j2.y.val j2.z.val))]) (by omega) ac6 kR (AM rfl (AM rfl (AM (beq (by rw [hj2]; rfl)) rfl)))
 ·have lb1:k1<n:=of_decide_eq_true hb1.symm
  refine sT<|Sy.skip<|Sy.then_<|Sy.seq<|Sy.block<|sC ?_
  refine sP (.int .i64 ((k1:Nat):Int))<|sS (.pointer (some ⟨b,o+k1*13,none⟩)) (Quiet.pure (Bf 170 _ _ _ b o n c k1 13 .i64 rfl rfl rfl Tryz.underlying170 kF (by omega)))<|sS (trv ((T k1).k) ((T k1).x) ((T k1).y) ((T k1).i)) (Quiet.there b (o+k1*13) 13 169 (T k1).cells _ _ rfl kR hb (hT k1 (by omega)) Tryz.underlying169 rfl kR rfl _ kR) ?_
  refine sM 169 (JH 0 0 0 false) (λg3=>?_)
  refine sP (.int .i64 ((k1:Nat):Int))<|sW 2 g3 169 (JH 0 0 0 false) (JH ((T k1).k) ((T k1).x) ((T k1).y) ((T k1).i)) (wS 0 169 (JH ((T k1).k) ((T k1).x) ((T k1).y) ((T k1).i)) rfl) ?_
  refine sG ?_
  refine Sy.regionD (λj=>j == 11) kR ?_
  refine sZ 0 rfl (.slice (some ⟨g1,0,none⟩) n n)<|sZ 1 rfl (.int .i64 ((k1:Nat):Int))<|sZ 2 rfl (.pointer (some ⟨g3,0,none⟩))<|sD 3 rfl (fv ((T k1).k)) (qL 2 g3 0 4 169 46 (JH ((T k1).k) ((T k1).x) ((T k1).y) ((T k1).i)) rfl Tryz.underlying46)<|sD 4 rfl (.agg (AV ((dgA (T k1).kn)) 64).toArray) (qF 222 #[fv ((T k1).k)] (λw=>OU w (T k1).k (hok k1).1))<|sZ 5 rfl (.pointer (some ⟨g3,4,none⟩))<|sD 6 rfl (pv ((T k1).x) ((T k1).y) ((T k1).i)) (qL 2 g3 4 9 169 52 (JH ((T k1).k) ((T k1).x) ((T k1).y) ((T k1).i)) rfl Tryz.underlying52)<|sD 7 rfl (ptv (T k1).pt) (qF 193 #[pv ((T k1).x) ((T k1).y) ((T k1).i)] (λw=>IY w (T k1).x (T k1).y (T k1).i (hok k1).2.1 (hok k1).2.2)) ?_
  refine sD 8 rfl (.agg (AV ((DI (Ap (T k1).pt))) 16).toArray) (qF 223 #[ptv (T k1).pt] (λw=>SA w (T k1).pt))<|sZ 9 rfl (.agg (Qc (T k1)))<|sD 10 rfl (.pointer (some ⟨g1,0+k1*256,none⟩)) (Quiet.pure (Bf 263 _ _ _ g1 0 n n k1 256 .i64 rfl rfl rfl Tryz.underlying263 kF (by omega)))<|sX 11 rfl 1 g1 268 (AV (upto k1 (λj=>tmA (T j)) zt) n).toArray (AV (upto (k1+1) (λj=>tmA (T j)) zt) n).toArray (Writes.store (0+k1*256) 268 (Qc (T k1)) _ _ rfl kR kR kR (Gn (Av (IK T) rfl _) (k:=k1) (by omega) (by omega)) kR (GC (v:=(Qc (T k1)).toList) (IK T) rfl (rfl) (by omega) (by omega))) ?_
  refine sE ?_
  refine Sy.in_<|Sy.then_<|Sy.region ?_
  refine sS (.int .i64 ((k1+1:Nat):Int)) (Quiet.pure (AC .add _ _ _ .i64 _ _ _ rfl rfl rfl (AO _ _ _ _ _ ((AH (by omega) (by omega)).trans (by omega)))))<|sP (.int .i64 ((k1+1:Nat):Int)) ?_
  refine Sy.nil ?_
  exact Sy.againK [true,true,false] (M:=[(g0,217,(tcs 0 0 0)),(g1,268,(AV (upto (k1+1) (λj=>tmA (T j)) zt) n).toArray)]) (by omega) ac5 kR (AM rfl (AM rfl rfl))
end Cu
end
section
namespace Ec
variable {n:Nat} [NeZero n] {inv:Fin n→Fin n} {α:Type}
def sumF (inv:Fin n→Fin n) (f:α→Pt n) (s:Pt n):List α→Pt n
 | []=>s
 | x::l=>sumF inv f (add inv s (f x)) l
def sumL (inv:Fin n→Fin n) (f:α→Pt n) (l:List α):Pt n:=sumF inv f none l
theorem On.sumF (H:Fld n inv) {f:α→Pt n}:∀ (l:List α) {s:Pt n},On s→(∀ x∈l,On (f x))→On (Ec.sumF inv f s l)
 | [],_,hs,_=>hs
 | x::l,_,hs,hf=>On.sumF H l (On.add H hs (hf x (List.mem_cons_self ..))) λy hy=>hf y (List.mem_cons_of_mem _ hy)
theorem GG (H:Fld n inv) {f:α→Pt n}:∀ (l:List α) {s t:Pt n},On s→On t→(∀ x∈l,On (f x))→sumF inv f (add inv s t) l=add inv s (sumF inv f t l)
 | [],_,_,_,_,_=>rfl
 | x::l,s,t,hs,ht,hf=>by
  have hx:=hf x (List.mem_cons_self ..)
  show sumF inv f (add inv (add inv s t) (f x)) l=add inv s (sumF inv f (add inv t (f x)) l)
  rw [assoc H hs ht hx]
  exact GG H l hs (On.add H ht hx) λy hy=>hf y (List.mem_cons_of_mem _ hy)
theorem sumF_is (H:Fld n inv) {f:α→Pt n} (l:List α) {s:Pt n} (hs:On s) (hf:∀ x∈l,On (f x)):sumF inv f s l=add inv s (sumL inv f l):=by
 have:=GG H l hs (show On none from trivial) hf
 rwa [add_zero] at this
theorem On.sumL (H:Fld n inv) {f:α→Pt n} (l:List α) (hf:∀ x∈l,On (f x)):On (Ec.sumL inv f l):=On.sumF H l trivial hf
theorem Bu (H:Fld n inv) {f:α→Pt n} (x:α) (l:List α) (hf:∀ y∈x::l,On (f y)):sumL inv f (x::l)=add inv (f x) (sumL inv f l):=by
 show sumF inv f (add inv none (f x)) l=_
 rw [zero_add]
 exact sumF_is H l (hf x (List.mem_cons_self ..)) λy hy=>hf y (List.mem_cons_of_mem _ hy)
theorem sumL_append (H:Fld n inv) {f:α→Pt n}:∀ (l m:List α),(∀ x∈l++m,On (f x))→sumL inv f (l++m)=add inv (sumL inv f l) (sumL inv f m)
 | [],m,_=>(zero_add _).symm
 | x::l,m,h=>by
  have h1:∀ y∈l++m,On (f y):=λy hy=>h y (List.mem_cons_of_mem _ hy)
  have h2:∀ y∈x::l,On (f y):=λy hy=>h y (by rcases List.mem_cons.1 hy with rfl | hy; exact List.mem_cons_self ..; exact List.mem_cons_of_mem _ (List.mem_append_left _ hy))
  rw [List.cons_append,Bu H x (l++m) (λy hy=>h y (by rw [List.cons_append]; exact hy)),sumL_append H l m h1,Bu H x l h2,
   assoc H (h x (List.mem_cons_self ..)) (On.sumL H l λy hy=>h1 y (List.mem_append_left _ hy)) (On.sumL H m λy hy=>h1 y (List.mem_append_right _ hy))]
theorem JK (H:Fld n inv) {f g:α→Pt n}:∀ (l:List α),(∀ x∈l,On (f x))→(∀ x∈l,On (g x))→sumL inv (λx=>add inv (f x) (g x)) l=add inv (sumL inv f l) (sumL inv g l)
 | [],_,_=>rfl
 | x::l,hf,hg=>by
  have f1:=hf x (List.mem_cons_self ..)
  have g1:=hg x (List.mem_cons_self ..)
  have hf':∀ y∈l,On (f y):=λy hy=>hf y (List.mem_cons_of_mem _ hy)
  have hg':∀ y∈l,On (g y):=λy hy=>hg y (List.mem_cons_of_mem _ hy)
  rw [Bu H x l (λy hy=>On.add H (hf y hy) (hg y hy)),Bu H x l hf,Bu H x l hg,JK H l hf' hg']
  exact SJ H f1 g1 (On.sumL H l hf') (On.sumL H l hg')
theorem LZ (H:Fld n inv) {f:α→Pt n} (k:Nat):∀ (l:List α),(∀ x∈l,On (f x))→sumL inv (λx=>nm inv k (f x)) l=nm inv k (sumL inv f l)
 | [],_=>(nm_none k).symm
 | x::l,hf=>by
  have f1:=hf x (List.mem_cons_self ..)
  have hf':∀ y∈l,On (f y):=λy hy=>hf y (List.mem_cons_of_mem _ hy)
  rw [Bu H x l (λy hy=>On.nm H (hf y hy) k),Bu H x l hf,LZ H k l hf',Kt H f1 (On.sumL H l hf')]
theorem GF (H:Fld n inv) {f g:α→Pt n}:∀ (l:List α),(∀ x∈l,On (f x))→(∀ x∈l,f x=g x)→sumL inv f l=sumL inv g l
 | [],_,_=>rfl
 | x::l,hf,he=>by
  have hg:∀ y∈x::l,On (g y):=λy hy=>he y hy ▸ hf y hy
  rw [Bu H x l hf,Bu H x l hg,he x (List.mem_cons_self ..),GF H l (λy hy=>hf y (List.mem_cons_of_mem _ hy)) λy hy=>he y (List.mem_cons_of_mem _ hy)]
theorem horner (H:Fld n inv) {p:α→Pt n} (k:α→Nat) (q:Nat) (l:List α) (hp:∀ x∈l,On (p x)) :
  add inv (nm inv 16 (sumL inv (λx=>nm inv (k x / (16*q)) (p x)) l)) (sumL inv (λx=>nm inv (k x / q%16) (p x)) l)=sumL inv (λx=>nm inv (k x / q) (p x)) l:=by
 rw [← LZ H 16 l λx hx=>On.nm H (hp x hx) _, ← JK H l (λx hx=>On.nm H (On.nm H (hp x hx) _) _) λx hx=>On.nm H (hp x hx) _]
 refine GF H l (λx hx=>On.add H (On.nm H (On.nm H (hp x hx) _) _) (On.nm H (hp x hx) _)) λx hx=>?_
 rw [← nm_mul H (hp x hx), ← nm_add H (hp x hx)]
 congr 1
 rw [Nat.mul_comm 16 q, ← Nat.div_div_eq_div_mul]
 omega
theorem Q1 (P:Pt n):nm inv 2 P=add inv P P:=by
 show add inv (nm inv 1 P) P=_
 rw [nm_one]
theorem bit_step (H:Fld n inv) {P:Pt n} (hP:On P) (k q:Nat):add inv (add inv (nm inv (k / (2*q)) P) (nm inv (k / (2*q)) P)) (nm inv (k / q%2) P)=nm inv (k / q) P:=by
 rw [← Q1, ← nm_mul H hP, ← nm_add H hP]
 congr 1
 rw [Nat.mul_comm 2 q, ← Nat.div_div_eq_div_mul]
 omega
end Ec
end
section
namespace Cu
open Go.RowKit Sy
theorem Hg {α:Type} (f:α→Pt):∀ (l:List α) (s:Pt) (x:α),Ec.sumF Ac f s (l++[x])=Ec.add Ac (Ec.sumF Ac f s l) (f x)
 | [],_,_=>rfl
 | y::l,s,x=>Hg f l (Ec.add Ac s (f y)) x
theorem Hf {α:Type} (f:α→Pt):∀ (l:List α),(∀ x∈l,f x=none)→Ec.sumL Ac f l=none
 | [],_=>rfl
 | x::l,h=>by
  show Ec.sumF Ac f (Ec.add Ac none (f x)) l=none
  rw [h x (List.mem_cons_self ..),Ec.add_zero]
  exact Hf f l λy hy=>h y (List.mem_cons_of_mem _ hy)
theorem NI {α β:Type} (f:β→Pt) (g:α→β) (l:List α):Ec.sumL Ac f (l.map g)=Ec.sumL Ac (λx=>f (g x)) l:=by
 have h:∀ (l:List α) (s:Pt),Ec.sumF Ac f s (l.map g)=Ec.sumF Ac (λx=>f (g x)) s l:=by
  intro l
  induction l with
  | nil=>intro _; rfl
  | cons x l ih=>intro s; exact ih _
 exact h l none
theorem L4 {a:J} {P:Pt} (hP:Ec.On P) (h:Ec.Rep a P):∀ j,Ec.Rep (dbN a j) (Ec.nm Ac (2 ^ j) P)
 | 0=>by rw [Nat.pow_zero,Ec.nm_one]; exact h
 | j+1=>by
  rw [show 2 ^ (j+1)=2 ^ j+2 ^ j by omega,Ec.nm_add fld hP]
  exact Es (hP.nm fld _) (L4 hP h j)
theorem Trm.on (t:Trm):Ec.On t.pt:=FN t.x t.y t.i
theorem Ly (T:Nat→Trm) (i:Nat) {a:J} {s:Pt} (hs:Ec.On s) (h:Ec.Rep a s):∀ j,Ec.Rep (inJ T i a j) (Ec.sumF Ac (λt=>Ec.nm Ac (dg (T t).kn i) (T t).pt) s (List.range j))
 | 0=>h
 | j+1=>by
  rw [List.range_succ,Hg]
  exact Ey (Ec.On.sumF fld _ hs λx _=>(T x).on.nm fld _) ((T j).on.nm fld _) (Ly T i hs h j) (Jz (T j).on (GE _) _)
theorem Rz (t:Trm):t.kn<16 ^ 64:=Nat.lt_trans (Nat.mod_lt _ (by decide)) (by decide)
theorem Lr (T:Nat→Trm) (n:Nat):∀ i,i≤64→Ec.Rep (muJ T n i) (Ec.sumL Ac (λt=>Ec.nm Ac ((T t).kn / 16 ^ (64 - i)) (T t).pt) (List.range n))
 | 0,_=>by
  rw [Hf _ _ λx _=>by rw [Nat.sub_zero,Nat.div_eq_of_lt (Rz (T x))]; rfl]
  rfl
 | i+1,hi=>by
  have hS:Ec.On (Ec.sumL Ac (λt=>Ec.nm Ac ((T t).kn / 16 ^ (64 - i)) (T t).pt) (List.range n)):=Ec.On.sumL fld _ λx _=>(T x).on.nm fld _
  have h1:=L4 hS (Lr T n i (by omega)) 4
  have h2:=Ly T i (hS.nm fld _) h1 n
  rw [Ec.sumF_is fld _ (hS.nm fld _) λx _=>(T x).on.nm fld _] at h2
  have e1:16 ^ (64 - i)=16*16 ^ (63 - i):=by rw [show 64 - i=(63 - i)+1 by omega,Nat.pow_succ,Nat.mul_comm]
  have h3:=Ec.horner fld (p:=λt=>(T t).pt) (λt=>(T t).kn) (16 ^ (63 - i)) (List.range n) λx _=>(T x).on
  rw [show 64 - (i+1)=63 - i by omega, ← h3, ← e1]
  exact h2
theorem Mh (T:Nat→Trm) (n:Nat):Ec.Rep (muJ T n 64) (Ec.sumL Ac (λt=>Ec.nm Ac (T t).kn (T t).pt) (List.range n)):=by
 have h:=Lr T n 64 (Nat.le_refl _)
 simpa using h
def szC (n c:Nat):Nat:=min 32 (n - c*32)
def chJ (T:Nat→Trm) (n:Nat) (s:J) (c:Nat):J:=Bk s (muJ (λj=>T (c*32+j)) (szC n c) 64)
def chL (T:Nat→Trm) (n:Nat) (l:List Nat):J:=l.foldl (chJ T n) ⟨0,0,0⟩
theorem J' (T:Nat→Trm) (n:Nat) (l:List Nat) (c:Nat):chL T n (l++[c])=chJ T n (chL T n l) c:=by simp [chL,List.foldl_append]
theorem L6 (T:Nat→Trm) (n:Nat):∀ c,Ec.Rep (chL T n (List.range c)) (Ec.sumL Ac (λt=>Ec.nm Ac (T t).kn (T t).pt) (List.range (min n (c*32))))
 | 0=>by rw [Nat.zero_mul,Nat.min_zero]; rfl
 | c+1=>by
  have hon:∀ l,Ec.On (Ec.sumL Ac (λt=>Ec.nm Ac (T t).kn (T t).pt) l):=λl=>Ec.On.sumL fld _ λx _=>(T x).on.nm fld _
  have h1:=L6 T n c
  have h2:=Mh (λj=>T (c*32+j)) (szC n c)
  have h3:=Ey (hon _) (Ec.On.sumL fld _ λx _=>(T (c*32+x)).on.nm fld _) h1 h2
  rw [List.range_succ,J']
  show Ec.Rep (Bk _ _) _
  have e:min n ((c+1)*32)=min n (c*32)+szC n c:=by unfold szC; omega
  rcases Nat.lt_or_ge (c*32) n with hlt | hge
  ·rw [e,List.range_add,Ec.sumL_append fld _ _ λx _=>(T x).on.nm fld _,NI]
   rw [show min n (c*32)=c*32 by omega] at h3 ⊢
   exact h3
  ·have ez:szC n c=0:=by unfold szC; omega
   rw [e,ez,Nat.add_zero]
   rw [ez] at h3
   have e0:∀ f:Nat→Pt,Ec.sumL Ac f (List.range 0)=none:=λ_=>rfl
   rw [e0,Ec.add_zero] at h3
   exact h3
theorem P' (T:Nat→Trm) (n:Nat):Ec.Rep (chL T n (List.range ((n+31) / 32))) (Ec.sumL Ac (λt=>Ec.nm Ac (T t).kn (T t).pt) (List.range n)):=by
 have h:=L6 T n ((n+31) / 32)
 rwa [show min n ((n+31) / 32*32)=n by omega] at h
end Cu
end
section
namespace Sy
open Go.RowKit
abbrev Ry (D:Nat):Deferred:={ target:=.collected D,args:=#[] }
theorem St.refix {w0:Base} {w:World} {L:AE} (h:St w0 w L) (ds:List Deferred) (fe:Fence) (ro:Nat):St ⟨w0.world,w,ds,fe,ro⟩ w L:=⟨h.below,h.blk,h.apart,Nat.le_refl _,λ_ _ _ h _=>h⟩
theorem St.back {w0:Base} {W w:World} {L L':AE} (h0:St w0 W L) {ds:List Deferred} {fe:Fence} {ro:Nat} (h:St ⟨w0.world,W,ds,fe,ro⟩ w L') (ds':List Deferred) (fe':Fence) (ro':Nat):St ⟨w0.world,w0.fz,ds',fe',ro'⟩ w L' :=
 ⟨h.below,h.blk,h.apart,Nat.le_trans h0.size h.size,λk o hk ho hc=>h.non k o hk (h0.non k o hk ho hc) hc⟩
theorem St.keeps {w0:Base} {W w:World} {L L':AE} (h0:St w0 W L) {ds:List Deferred} {fe:Fence} {ro:Nat} (h:St ⟨w0.world,W,ds,fe,ro⟩ w L') {B:Nat} (hB:w0.world.heap.size≤B):KeepsFrom B W w:=⟨h.size,λk o hk ho hc=>h.non k o (Nat.le_trans hB hk) ho hc⟩
theorem St.between {w0:Base} {W w:World} {L L':AE} (h0:St w0 W L) {ds:List Deferred} {fe:Fence} {ro:Nat} (h:St ⟨w0.world,W,ds,fe,ro⟩ w L'):Below w0.world.heap.size W w :=
 ⟨h.below.os.trans h0.below.os.symm,h.below.tape.trans h0.below.tape.symm,h.below.output.trans h0.below.output.symm,h.size,λk hk=>(h.below.block k hk).trans (h0.below.block k hk).symm⟩
theorem St.own {w0:Base} {X Y:World} {L:AE} {B:Nat} {row:Option Nat} (h:St w0 X L) (hB:w0.fz.heap.size≤B) (hB2:w0.world.heap.size≤B) (hg:X.grownBy Y row) (hr:∀ r,row=some r→B≤r∧∃ o:Obj,X.heap[r]? = some o∧o.isCells=false):St w0 Y L:=by
 refine ⟨?_,λg t cs hm=>⟨(h.blk g t cs hm).1,(h.blk g t cs hm).2.grown hg (λe=>?_)⟩,h.apart,Nat.le_trans h.size hg.size,λk o hk ho hc=>?_⟩
 ·refine h.below.trans ⟨hg.os,hg.tape,hg.output,hg.size,λk hk=>hg.block k (Nat.lt_of_lt_of_le hk h.below.size) (λe=>?_)⟩
  have:=(hr k e.symm).1
  omega
 ·obtain ⟨o,ho,hc⟩:=(hr g e.symm).2
  have hb:=(h.blk g t cs hm).2
  unfold Blk at hb
  rw [hb] at ho
  cases ho
  cases hc
 ·have h1:=h.non k o hk ho hc
  have hlt:=(Array.getElem?_eq_some_iff.1 ho).1
  exact (hg.block k (Array.getElem?_eq_some_iff.1 h1).1 (λe=>by have:=(hr k e.symm).1; omega)).trans h1
def KpL (n₀:Nat) (l:AE) (W W':World):Prop:=Below n₀ W W'∧∀ p∈l,Blk W p.1 p.2.1 p.2.2→Blk W' p.1 p.2.1 p.2.2
theorem KpL.trans {n₀:Nat} {l:AE} {A B C:World} (h:KpL n₀ l A B) (k:KpL n₀ l B C):KpL n₀ l A C:=⟨h.1.trans k.1,λp hp hc=>k.2 p hp (h.2 p hp hc)⟩
theorem KpL.put {n₀:Nat} {l:AE} {W:World} {k:Nat} {o o':Obj} (hk:n₀≤k) (ho:W.heap[k]? = some o) (hc:o.isCells=false):KpL n₀ l W (W.putObj k o'):=by
 have hg:=grownBy_putObj' W k o'
 refine ⟨⟨hg.os,hg.tape,hg.output,hg.size,λj hj=>World.putObj_heap_other (by omega)⟩,λp _ hp=>?_⟩
 have hne:p.1≠k:=by
  rintro rfl
  unfold Blk at hp
  rw [hp] at ho
  cases ho
  cases hc
 exact (World.putObj_heap_other hne).trans hp
def Na (F:AU) (ps:Array Tmp) (vs:Array Value):AU:=(ps.toList.zip vs.toList).foldl (λF x=>(x.1,x.2)::F) F
theorem Fr.round {ds:List Deferred} {n:Nat}:∀ (l:List (Tmp×Value)) {T:Array Value} {F:AU},(∀ x∈l,x.1<n)→Fr ds { tmps:=T,defers:=ds } n F→Fr ds { tmps:=l.foldl (λt x=>t.setIfInBounds x.1 x.2) T,defers:=ds } n (l.foldl (λF x=>(x.1,x.2)::F) F)
 | [],_,_,_,h=>h
 | x::l,T,F,hl,h=>by
  have h2:=h.put (d:=some x.1) (decide_eq_true (hl x (List.mem_cons_self ..))) x.2
  exact Fr.round l (λy hy=>hl y (List.mem_cons_of_mem _ hy)) h2
section
variable {P:Program} {w0 fz0:World} {n:Nat} {Q:Exit→Act→World→Prop} {F:AU} {L:AE}
abbrev rb (w0 fz:World) (l:Nat):Base:=⟨w0,fz,[],Fence.wide.inRound l,7⟩
abbrev ab (w0 fz:World) (D:Nat):Base:=⟨w0,fz,[Ry D],Fence.wide,9⟩
def BP {α:Type} (w0 fz:World) (l:Nat) (HI:List α→Prop) (LL XR:List α→AE) (HX:List α→Prop) (pre:List α):Exit→Act→World→Prop
 | .normal,_,w=>HI pre∧St (rb w0 fz l) w (LL pre)
 | .ret,_,w=>HX pre∧St (rb w0 fz l) w (XR pre)
 | _,_,_=>False
def AP (w0 fz:World) (l n na:Nat) (FA:List Nat→AU) (LP:AE) (LA:List Nat→AE):Exit→Act→World→Prop
 | .normal,a,w=>∃ gs,gs.length=na∧Fr [] a n (FA gs)∧St (rb w0 fz l) w (LP++LA gs)
 | _,_,_=>False
theorem rangeF {α:Type} {g:Operand} {ps:Array Tmp} {assign body:Code} (gf:Nat) (lb:Array Value) (hgi:inF F g=true) (hg:evF F g=.func (.func gf) #[] lb) (eg:∀ args w,(callFunc gf args).run P w=.ok (.enter gf args) w)
  (encs:α→Array Value) (kl:AE) (S Sp:List α→Prop) (N:Nat) (hps:∀ x,(encs x).size=ps.size) (hpn:∀ p∈ps.toList,p<n)
  (G:List Nat) (HI:List α→Prop) (hI0:HI []) (LL XR:List α→AE) (HX:List α→Prop) (m:List Bool) (h0:sel L m=LL []) (hG:∀ pre,(LL pre).map (·.1)=G)
  (hseq:∀ w,St ⟨w0,fz0,[],Fence.wide,9⟩ w L→∃ wk,Below wk.heap.size wk w∧SeqStopsK Fence.wide 8 P gf lb encs (KpL w0.heap.size kl) S Sp N wk)
  (hkl:∀ p∈kl, ∀ pre,p∈LL pre)
  (na:Nat) (FA:α→List Nat→AU) (LA:α→List Nat→AE) (hLA:∀ x gs,gs.length=na→(LA x gs).map (·.1)=gs)
  (hassign:∀ l fz pre x,wpC P (rb w0 fz l) n (AP w0 fz l n na (FA x) (LL pre) (LA x)) (Na F ps (encs x)) (LL pre) assign)
  (hbody:∀ l fz pre x gs,gs.length=na→pre.length<N→HI pre→wpC P (rb w0 fz l) n (BP w0 fz l HI LL XR HX (pre++[x])) (FA x gs) (LL pre++LA x gs) body)
  (hdone:∀ D fz xs,S xs→HI xs→w0.heap.size≤D→fz.heap[D]? = some (.deferred (some []))→X (ab w0 fz D) n Q F (LL xs) .normal)
  (hstop:∀ D fz pre,Sp pre→HX pre→w0.heap.size≤D→fz.heap[D]? = some (.deferred (some []))→X (ab w0 fz D) n Q F (XR pre) .ret) :
  wpC P ⟨w0,fz0,[],Fence.wide,9⟩ n Q F L (.rangeFunc g ps assign body):=by
 intro a w ha hw
 obtain ⟨wk,hbk,hsq⟩:=hseq w hw
 have hsz:fz0.heap.size≤w.heap.size:=hw.size
 have hsz0:w0.heap.size≤w.heap.size:=hw.below.size
 have hz:St ⟨w0,fz0,[],Fence.wide,9⟩ w (LL []):=h0 ▸ hw.less (B2 L m)
 have had:a.defers=[]:=ha.1
 -- what a round hands on pays the iterator
 have hK:∀ {W W':World} {L1:AE} {pre pre':List α} {l:Nat},St ⟨w0,fz0,[],Fence.wide,9⟩ W (LL pre)→St (rb w0 W l) W' L1→(LL pre').Sublist L1→KpL w0.heap.size kl W W':=λ{W W' L1 pre pre' l} h1 h2 hs =>
  ⟨h1.between h2,λp hp _=>by
   exact (h2.blk _ _ _ (hs.subset (hkl p hp pre'))).2⟩
 refine wpIn_rangeFunc_ownH (F:=Fence.wide) (n:=9) rfl (by omega) (gf:=gf) (lb:=lb) ((ha.eval hgi).trans hg) trivial eg (encs:=encs) (Kp:=KpL w0.heap.size kl) (S:=S) (Sp:=Sp) (N:=N) (w0:=wk) hsq KpL.trans
  (λW l o o' hl ho hc _=>KpL.put (by omega) ho hc) hbk hps
  (λpre W=>HI pre∧St ⟨w0,fz0,[],Fence.wide,9⟩ W (LL pre)) (λc pre W=>c=.ret∧HX pre∧St ⟨w0,fz0,[],Fence.wide,9⟩ W (XR pre))
  (λpre X Y row hs hg hr=>⟨hs.1,St.own hs.2 hsz hsz0 hg hr⟩) (λc pre X Y row hs hg hr=>⟨hs.1,hs.2.1,St.own hs.2.2 hsz hsz0 hg hr⟩) ⟨hI0,hz⟩
  (λx a' W=>∃ gs,gs.length=na∧Fr [] a' n (FA x gs)∧(∀ e∈LA x gs,w0.heap.size≤e.1∧Blk W e.1 e.2.1 e.2.2)∧(G++gs).Nodup)
  (λx a' _ X Y row hs hg hr=>?_) ?_ ?_ ?_ ?_
 ·obtain ⟨gs,hl0,h1,h2,h3⟩:=hs
  refine ⟨gs,hl0,h1,λe he=>⟨(h2 e he).1,(h2 e he).2.grown hg (λq=>?_)⟩,h3⟩
  obtain ⟨o,ho,hc⟩:=(hr e.1 q.symm).2
  have hb:=(h2 e he).2
  unfold Blk at hb
  rw [hb] at ho
  cases ho
  cases hc
 ·-- the loop variables
  intro l pre x W K hI0' hk
  obtain ⟨hH,hI⟩:=hI0'
  have hfr:Fr [] { tmps:=(ps.zip (encs x)).foldl (λt (p,v)=>t.setIfInBounds p v) a.tmps,defers:=[] } n (Na F ps (encs x)):=by
   have h1:Fr [] { tmps:=a.tmps,defers:=[] } n F:=⟨rfl,ha.2.1,ha.2.2⟩
   have h2:=Fr.round (ps.toList.zip (encs x).toList) (λy hy=>hpn y.1 (List.of_mem_zip hy).1) h1
   have e:(ps.zip (encs x)).foldl (λt (p,v)=>t.setIfInBounds p v) a.tmps=(ps.toList.zip (encs x).toList).foldl (λt x=>t.setIfInBounds x.1 x.2) a.tmps:=by
    rw [← Array.foldl_toList,Array.toList_zip]
   rw [e]
   exact h2
  refine wpIn_mono (hassign l W pre x _ W hfr (hI.refix _ _ _)) λe a' W' hq=>?_
  cases e with
  | normal =>
   obtain ⟨gs,hl0,h1,h2⟩:=hq
   have hsub:(LL pre).Sublist (LL pre++LA x gs):=List.sublist_append_left _ _
   refine hk a' W' (hI.keeps h2 hsz0) (hK hI h2 hsub) ⟨hH,(hI.back h2 _ _ _).less hsub⟩ ⟨gs,hl0,h1,λe he=>h2.blk e.1 e.2.1 e.2.2 (List.mem_append_right _ he),?_⟩
   have:=h2.apart
   rwa [List.map_append,hG,hLA _ _ hl0] at this
  | _=>exact hq.elim
 ·-- the body
  intro l pre x a' W hl _ hI0' ⟨gs,hl0,h1,h2,h3⟩ hlen
  obtain ⟨hH,hI⟩:=hI0'
  have hst:St (rb w0 W l) W (LL pre++LA x gs):=by
   refine ⟨hI.below,λg t cs hm=>?_,?_,Nat.le_refl _,λ_ _ _ h _=>h⟩
   ·rcases List.mem_append.1 hm with hm | hm
    ·exact hI.blk g t cs hm
    ·exact h2 (g,t,cs) hm
   ·rw [List.map_append,hG,hLA _ _ hl0]
    exact h3
  refine wpIn_mono (hbody l W pre x gs hl0 hlen hH a' W h1 hst) λe a3 W3 hq=>?_
  cases e with
  | normal=>exact ⟨hI.keeps hq.2 hsz0,hK hI hq.2 (List.Sublist.refl _),hq.1,hI.back hq.2 _ _ _⟩
  | ret=>exact ⟨hI.keeps hq.2 hsz0,rfl,hq.1,hI.back hq.2 _ _ _⟩
  | _=>exact hq.elim
 ·intro D xs W hD hS hI hd
  exact hdone D W xs hS hI.1 (Nat.le_trans hsz0 hD) hd _ W ⟨by simp [had],ha.2.1,ha.2.2⟩ (hI.2.refix _ _ _)
 ·rintro D c pre W hD hS ⟨rfl,hx,hI⟩ hd
  exact wpIn_ret (hstop D W pre hS hx (Nat.le_trans hsz0 hD) hd _ W ⟨by simp [had],ha.2.1,ha.2.2⟩ (hI.refix _ _ _))
theorem bpN {α:Type} {l:Nat} {HI:List α→Prop} {LL XR:List α→AE} {HX:List α→Prop} {pre:List α} (m:List Bool) {M:AE} (hL:sel L m=M) (hM:M=LL pre) (hi:HI pre):X (rb w0 fz0 l) n (BP w0 fz0 l HI LL XR HX pre) F L .normal:=λ_ _ _ hw=>by
 subst hL
 refine ⟨hi,?_⟩
 rw [← hM]
 exact hw.less (B2 L m)
theorem apN {l na:Nat} {FA:List Nat→AU} {LP:AE} {LA:List Nat→AE} (gs:List Nat) (hg:gs.length=na) (hF:∀ p∈FA gs,F.lookup p.1=some p.2) (m:List Bool) (hL:sel L m=LP++LA gs):X (rb w0 fz0 l) n (AP w0 fz0 l n na FA LP LA) F L .normal:=λ_ _ ha hw=>⟨gs,hg,ha.all hF,hL ▸ hw.less (B2 L m)⟩
def GetsN (w:World) (R:Value→AE→Prop) (e:Ending) (w':World):Prop:=∃ v M,e=.returned v∧R v M∧Below w.heap.size w w'∧(∀ g t cs,(g,t,cs)∈M→w.heap.size≤g∧Blk w' g t cs)∧(M.map (·.1)).Nodup
theorem St.addN {w0:Base} {w w':World} {L M:AE} (h:St w0 w L) (hg:Gr w w') (hM:∀ g t cs,(g,t,cs)∈M→w.heap.size≤g∧Blk w' g t cs) (hn:(M.map (·.1)).Nodup):St w0 w' (L++M):=by
 have h':=h.gr hg
 refine ⟨h'.below,λg t cs hm=>?_,?_,h'.size,h'.non⟩
 ·rcases List.mem_append.1 hm with hm | hm
  ·exact h'.blk g t cs hm
  ·exact ⟨Nat.le_trans h.below.size (hM g t cs hm).1,(hM g t cs hm).2⟩
 ·rw [List.map_append,List.nodup_append]
  refine ⟨h.apart,hn,λx hx y hy e=>?_⟩
  obtain ⟨⟨g,t,cs⟩,hm,rfl⟩:=List.mem_map.1 hx
  obtain ⟨⟨g',t',cs'⟩,hm',rfl⟩:=List.mem_map.1 hy
  have h1:=(h.blk g t cs hm).2.lt
  have h2:=(hM g' t' cs' hm').1
  have e':g=g':=e
  omega
theorem callN {w0:Base} {ops:Array Oper} {o:Oper} {l:List Oper} (hg:Bd ops n F o=true) (f:FuncId) (args:Array Value) (he:∀ w,(execOp (evF F) o).run P w=.ok (.enter f args) w) (R:Value→AE→Prop)
  (hc:∀ w,St w0 w L→Calls P f args w (GetsN w R)) (h:∀ v M,R v M→wpS P w0 n ops Q (BN F o.dst v) (L++M) l):wpS P w0 n ops Q F L (o::l):=λa w ha hw=>by
 obtain ⟨g1,_,g3,_⟩:=AQ hg
 refine wpList_step λK hK=>?_
 rw [if_pos (ha.wanted g1)]
 unfold Oper.wp
 rw [Ak hg ha,he w]
 refine Calls.mono (hc w hw) λe w' he'=>?_
 obtain ⟨v,M,rfl,hR,hb,hM,hn⟩:=he'
 exact hK _ _ (h v M hR _ _ (ha.put g3 v) (hw.addN hb hM hn))
theorem callND {w0:Base} {ops:Array Oper} {ex:Nat→Bool} {fuel:Nat} {listed:Array Bool} (k:Nat) {oi:Oper} (hi0:ops.toList[k]? = some oi) (hr:Region.ready .any ops listed=[k]) (hg:Bd ops n F oi=true) (f:FuncId) (args:Array Value)
  (he:∀ w,(execOp (evF F) oi).run P w=.ok (.enter f args) w) (R:Value→AE→Prop) (hc:∀ w,St w0 w L→Calls P f args w (GetsN w R)) (h:∀ v M,R v M→wpD P w0 n ops Q ex (BN F oi.dst v) (L++M) fuel (listed.setIfInBounds k true)):wpD P w0 n ops Q ex F L (fuel+1) listed:=λa w ha hw =>
 wpAnyG_sole k hi0 hr (ha.wanted (AQ hg).1) λw1 h1 K hK=>by
  unfold Oper.wp
  rw [Ak hg ha,he w1]
  refine Calls.mono (hc w1 (hw.gr h1)) λe w' he'=>?_
  obtain ⟨v,M,rfl,hR,hb,hM,hn⟩:=he'
  exact hK _ _ (λ_=>hb) (h v M hR _ _ (ha.put (AQ hg).2.2.1 v) ((hw.gr h1).addN hb hM hn))
theorem St.unmark {w0 fz:World} {D:Nat} {w:World} (h:St (ab w0 fz D) w L) (hD:w0.heap.size≤D) (hm:fz.heap[D]? = some (.deferred (some []))) :
  (Instr.takeDeferred D).run P w=.ok [] (w.putObj D (.deferred none))∧St (Base.of w0) (w.putObj D (.deferred none)) L:=by
 have ho:=h.non D _ hD hm rfl
 have hg:=grownBy_putObj' w D (.deferred none)
 refine ⟨run_takeDeferred ho,?_⟩
 have h1:St ⟨w0,w0,[],Fence.wide,9⟩ w L:=⟨h.below,h.blk,h.apart,h.below.size,λk o hk hq _=>by have:=(Array.getElem?_eq_some_iff.1 hq).1; exact absurd this (by show ¬ k<w0.heap.size; have:w0.heap.size≤k:=hk; omega)⟩
 exact h1.own (B:=w0.heap.size) (Nat.le_refl _) (Nat.le_refl _) hg (λr e=>by cases e; exact ⟨hD,_,ho,rfl⟩)
theorem retM1 {w1 fz:World} {D:Nat} {fn:Func} {r:ResultVar} {v:Value} (hr:fn.results=#[r]) (h:Has P F L r v) (hD:w1.heap.size≤D) (hm:fz.heap[D]? = some (.deferred (some []))):X (ab w1 fz D) n (bodyPostM Fence.wide 9 P fn (Gets w1 v)) F L .ret:=λa w ha hw=>by
 obtain ⟨e1,e2⟩:=St.unmark (P:=P) hw hD hm
 have hd:a.defers=[Ry D]:=ha.1
 show LeavesInM Fence.wide 9 P fn a.tmps (Gets w1 v) a.defers .returning w
 rw [hd]
 refine ⟨by simp,.inl ⟨D,_,rfl,e1,?_⟩⟩
 refine ⟨v,?_,rfl,e2.below⟩
 rcases Res.run h ha e2 with ⟨t,rfl,f1⟩ | ⟨t,ty,ad,rfl,f1,f2⟩ <;> simp [results,Result.andThen, *]
end
end Sy
end
section
namespace Sy
open Go.RowKit
abbrev pb (W:World) (m:Nat):Base:=⟨W,W,[],Fence.wide,m⟩
theorem St.here (W:World) (m:Nat):St (pb W m) W []:=⟨Below.refl _ _,(λ_ _ _ h=>by cases h),List.Pairwise.nil,Nat.le_refl _,λ_ _ _ h _=>h⟩
theorem St.grown {W w:World} {m:Nat} {L:AE} (h:St (pb W m) w L):Gr W w:=h.below
section
variable {P:Program} {W:World} {m n:Nat} {Q:Exit→Act→World→Prop} {F:AU} {L:AE} {ops:Array Oper} {o:Oper} {rest:List Oper}
theorem Fa {o:Oper} {a:Act} {w:World} {K:Act→World→Prop} (hd:∀ c,o.op≠.defer c) (h:o.wp P a w K Q):o.wpIn Fence.wide m P a w K Q:=by
 unfold Oper.wpIn
 refine ⟨λ_ _=>trivial,?_⟩
 rw [Oper.semAt_plain _ _ _ hd]
 unfold Oper.wp at h
 generalize (execOp a.eval o).run P w=r at *
 cases r with
 | ok x w' =>
  cases x <;> simp only [Oper.upon,Oper.uponIn] at h ⊢ <;> first
   | exact h
   | exact ⟨λe=>by simp [Fence.wide] at e,callsIn_wide.2 h⟩
   | exact ⟨λe=>by simp [Fence.wide] at e,λc cs _=>let ⟨v,w',r,s⟩:=h c cs; ⟨v,w',r,stepsIn_wide.2 s⟩⟩
   | exact h.elim
 | halt x w'=>cases x <;> simp only [Oper.upon,Oper.uponIn] at h ⊢ <;> exact h
def LX (P:Program) (ops:Array Oper) (m:Nat) (rest:List Oper) (Q:Exit→Act→World→Prop):Exit→Act→World→Prop
 | .normal,a,w=>wpListIn Fence.wide m P ops Q rest a w
 | e,a,w=>Q e a w
theorem EY (hq:¬ LetsOut Q):∀ (l:List Oper),(∀ o∈l, ∀ c,o.op≠.defer c)→∀ (a:Act) (w:World),wpList P ops (LX P ops m rest Q) l a w→wpListIn Fence.wide m P ops Q (l++rest) a w
 | [],_,_,_,h=>h
 | o::l,hd,a,w,h=>by
  have hq':¬ LetsOut (LX P ops m rest Q):=λ⟨a,w,q⟩=>hq ⟨a,w,q⟩
  unfold wpList at h
  show wpListIn Fence.wide m P ops Q (o::(l++rest)) a w
  unfold wpListIn
  split
  ·rename_i hw
   simp only [hw,if_true] at h
   rcases h with h | h
   ·have h1:=Fa (m:=m) (hd o (by simp)) h
    have h2:o.wpIn Fence.wide m P a w _ Q:=h1
    exact Oper.wpIn_mono (λa w h'=>EY hq l (λo ho=>hd o (by simp [ho])) a w h') h2
   ·exact absurd h.2 hq'
  ·rename_i hw
   simp only [hw] at h
   exact ⟨λ_ _=>trivial,EY hq l (λo ho=>hd o (by simp [ho])) _ _ h⟩
theorem Dv (hq:¬ LetsOut Q):∀ (l:List Oper),(∀ o∈l, ∀ c,o.op≠.defer c)→∀ (a:Act) (w:World),wpList P ops Q l a w→wpListIn Fence.wide m P ops Q l a w
 | [],_,_,_,h=>h
 | o::l,hd,a,w,h=>by
  unfold wpList at h
  unfold wpListIn
  split
  ·rename_i hw
   simp only [hw,if_true] at h
   rcases h with h | h
   ·exact Oper.wpIn_mono (λa w h'=>Dv hq l (λo ho=>hd o (by simp [ho])) a w h') (Fa (hd o (by simp)) h)
   ·exact absurd h.2 hq
  ·rename_i hw
   simp only [hw] at h
   exact ⟨λ_ _=>trivial,Dv hq l (λo ho=>hd o (by simp [ho])) _ _ h⟩
theorem Fb (h:CJ ops=true) {o:Oper} (ho:o∈ops.toList):∀ c,o.op≠.defer c:=by
 obtain ⟨i,hi⟩:=List.mem_iff_getElem?.1 ho
 exact Da h (by simpa using hi)
theorem regionY {i:Nat} (k:Nat) (hq:¬ LetsOut Q) (hd:CJ ops=true) (h:wpS P (pb W m) n ops (LX P ops m (ops.toList.drop k) Q) F L (ops.toList.take k)):wpC P (pb W m) n Q F L (.region i ops false):=λa w ha hw=>by
 refine wpIn_region_list ?_
 have h1:=EY hq (ops.toList.take k) (λo ho=>Fb hd (List.mem_of_mem_take ho)) a w (h a w ha hw)
 rwa [List.take_append_drop] at h1
theorem yieldX {ro:Option Nat} {k:Nat} (hl:ops.toList.drop k=o::rest) (hq:¬ LetsOut Q) (hd:CJ ops=true) (hg:Bd ops n F o=true) (l:Nat) (args:Array Value) (he:∀ w,(execOp (evF F) o).run P w=(Instr.yield l args).run P w)
  (R:Ending→World→Prop) (hY:∀ w,Gr W w→YieldAt Fence.wide (m - 1) P l args w R) (hR:∀ e w',R e w'→∃ b,e=.returned (.bool b)) (_:ro=none)
  (h:∀ w' b,R (.returned (.bool b)) w'→wpS P (pb w' m) n ops Q (BN F o.dst (.bool b)) [] rest):X (pb W m) n (LX P ops m (ops.toList.drop k) Q) F L .normal:=λa w ha hw=>by
 show wpListIn Fence.wide m P ops Q (ops.toList.drop k) a w
 have hdr:∀ o∈ops.toList.drop k, ∀ c,o.op≠.defer c:=λo ho=>Fb hd (List.mem_of_mem_drop ho)
 rw [hl] at hdr ⊢
 obtain ⟨g1,_,g3,_⟩:=AQ hg
 unfold wpListIn
 rw [if_pos (ha.wanted g1)]
 unfold Oper.wpIn
 refine ⟨λ_ _=>trivial,?_⟩
 rw [Oper.semAt_plain _ _ _ (hdr o (by simp)),Ak hg ha,he w]
 obtain ⟨fn,tmps,assign,body,e1,e2⟩:=hY w hw.grown
 rw [e1]
 refine ⟨λe=>by simp [Fence.wide] at e,e2.mono λe w' hr=>?_⟩
 obtain ⟨b,rfl⟩:=hR e w' hr
 exact Dv hq rest (λo ho=>hdr o (by simp [ho])) _ _ (h w' b hr _ _ (ha.put g3 _) (St.here w' m))
theorem CV {β:Type} {B:Nat} {J:β→World→Prop} (h:AbidesFrom B J) {s:β} {X Y:World} (hj:J s X) (hg:Gr X Y):J s Y:=h s X Y none hj (only_of_below hg none) (λr e=>by cases e)
theorem KM {l:Nat} {args:Array Value} {R R':Ending→World→Prop} (h:YieldAt Fence.wide m P l args W R) (hr:∀ e w,R e w→R' e w):YieldAt Fence.wide m P l args W R':=by
 obtain ⟨fn,tmps,assign,body,e1,e2⟩:=h
 exact ⟨fn,tmps,assign,body,e1,e2.mono hr⟩
def QW (n N:Nat) (FF:Nat→AU) (Z:Nat→World→Prop) (k:Nat):Act→World→Prop:=λa w=>k<N∧Fr [] a n (FF (k+1))∧Z (k+1) w
theorem loopP {c:Code} (N:Nat) (FF:Nat→AU) (Z:Nat→World→Prop) (hF:∀ p∈FF 0,F.lookup p.1=some p.2) (h0:∀ w,Gr W w→Z 0 w)
  (hr:∀ k w,k≤N→Z k w→wpC P (pb w m) n (Exit.then (QW n N FF Z k) Q) (FF k) [] c):wpC P (pb W m) n Q F L (.loop c) :=
 Jk N (λk a w=>Fr [] a n (FF k)∧Z k w) (λa w ha hw=>⟨ha.all hF,h0 w hw.grown⟩)
  λk hk a w ⟨ha,hz⟩=>hr k w hk hz a w ha (St.here w m)
theorem againP {N:Nat} {FF:Nat→AU} {Z:Nat→World→Prop} {k:Nat} {R:Exit→Act→World→Prop} (hk:k<N) (hF:∀ p∈FF (k+1),F.lookup p.1=some p.2) (hz:∀ w,Gr W w→Z (k+1) w) :
  X (pb W m) n (Exit.then (QW n N FF Z k) R) F L .normal:=λ_ w ha hw=>⟨hk,ha.all hF,hz w hw.grown⟩
theorem enterP {f:FuncId} {fn:Func} {c:Code} {args:List Value} {R:Ending→World→Prop} (hf:P.funcs[f]? = some fn) (hb:fn.body=some c) (hn:args.length≤fn.ntmps)
  (h:wpC P (pb W m) fn.ntmps (bodyPost P fn R) (D6 0 args) [] c):CallsIn Fence.wide m P f args.toArray W R :=
 callsIn_of_wp hf hb trivial (h _ _ ⟨rfl,by simp; omega,λi v hi=>by
  have:=(CK args 0 i v hi).2
  rw [Nat.sub_zero] at this
  have hl:=(List.getElem?_eq_some_iff.1 this).1
  rw [Array.getElem?_append_left (by simpa using hl)]
  simpa using this⟩ (St.here W m)) rfl
theorem retP {fn:Func} {R:Ending→World→Prop} (hr:fn.results=#[]) (h:∀ v w,Gr W w→R (.returned v) w) {e:Exit} (he:e=.ret∨e=.normal):X (pb W m) n (bodyPost P fn R) F L e:=λa w ha hw=>by
 have hx:a.defers=[]∧∃ v,(results fn a.tmps).run P w=.ok v w∧R (.returned v) w:=⟨ha.1,_,results_none hr _ _ _,h _ w hw.grown⟩
 rcases he with rfl | rfl <;> exact hx
end
end Sy
end
section
namespace Cu
open Go.RowKit Sy
set_option maxRecDepth 100000
set_option maxHeartbeats 4000000
def chV (b off m c:Nat):Value:=.slice (some ⟨b,off+32*c*13,none⟩) (szC m c) (szC m c)
def chE (b off m:Nat) {N:Nat} (x:Fin N):Array Value:=#[chV b off m x.val]
set_option maxHeartbeats 1000000 in
theorem M6 (w : World) (A : Option Addr) (m cap : Nat) :
    Calls Tryz.prog 181 #[.slice A m cap,.int .i64 32] w (GetsN w λv M=>∃ g1 g2,v=.func (.func 217) #[] #[.pointer (some ⟨g1,0,none⟩),.pointer (some ⟨g2,0,none⟩)]∧M=[(g1,170,#[.slice A m cap]),(g2,3,#[.int .i64 32])]):=by
  go_enter Tryz.func181,Tryz.ntmps181
  go_wp2
  go_ret
  refine ⟨_,_,rfl,⟨_,_,rfl,rfl⟩,Ad w _ _,λg t cs hm=>?_,?_⟩
  · simp only [List.mem_cons,List.not_mem_nil,or_false,Prod.mk.injEq] at hm
    rcases hm with ⟨rfl,rfl,rfl⟩ | ⟨rfl,rfl,rfl⟩
    · exact ⟨Nat.le_refl _,(Blk.new w _ _).alloc _⟩
    · exact ⟨by omega,Aa w _ _ _⟩
  · simp
theorem M7 (n l Bs Bn n₀ b off m cap N : Nat) (hN0 : N = (m + 31) / 32) (hm : m ≤ cap) (hm2 : m ≤ 4611686018427387904) (J Jx : List (Fin N) → World → Prop) (W : World) (hJ : AbidesFrom W.heap.size J) (hJx : AbidesFrom W.heap.size Jx)
    (hY:∀ pre x W1,J pre W1→pre.length<N→YieldAt Fence.wide (n - 1) Tryz.prog l (chE b off m x) W1 λe W'=>(e=.returned (.bool true)∧J (pre++[x]) W'∧KpL n₀ [(Bs,170,#[.slice (some ⟨b,off,none⟩) m cap]),(Bn,3,#[.int .i64 32])] W1 W')∨(e=.returned (.bool false)∧Jx (pre++[x]) W'))
    (hS:Blk W Bs 170 #[.slice (some ⟨b,off,none⟩) m cap]) (hN:Blk W Bn 3 #[.int .i64 32]) (h0:J [] W) :
    CallsIn Fence.wide n Tryz.prog 217 #[.func (.yield l) #[] #[],.pointer (some ⟨Bs,0,none⟩),.pointer (some ⟨Bn,0,none⟩)] W λe W'=>(∃ v,e=.returned v)∧((∃ ys:List (Fin N),ys.map (·.1)=List.range N∧J ys W')∨(∃ pre:List (Fin N),(∃ k,k≤N∧pre.map (·.1)=List.range k)∧Jx pre W')):=by
  refine Sy.enterP (args:=[.func (.yield l) #[] #[],.pointer (some ⟨Bs,0,none⟩),.pointer (some ⟨Bn,0,none⟩)]) Tryz.func217 rfl kL ?_
  refine sC ?_
  refine sP (.int .i64 0) ?_
  refine sG<|Sy.block ?_
  refine Sy.loopP N (λk1=>[(0,.func (.yield l) #[] #[]),(1,.pointer (some ⟨Bs,0,none⟩)),(2,.pointer (some ⟨Bn,0,none⟩)),(4,.int .i64 ((32*k1:Nat):Int))]) (λk1 w=>∃ pre:List (Fin N),pre.map (·.1)=List.range k1∧J pre w∧Blk w Bs 170 #[.slice (some ⟨b,off,none⟩) m cap]∧Blk w Bn 3 #[.int .i64 32]) ac4 (λw hg=>⟨[],rfl,CV hJ h0 hg,hg.blk hS,hg.blk hN⟩) (λk1 wr hk1 hz=>?_)
  clear hS hN
  obtain ⟨pre,hpre,hj,hS,hN⟩:=hz
  have hlen:pre.length=k1:=by have:=congrArg List.length hpre; rwa [List.length_map,List.length_range] at this
  refine Sy.seq<|sC ?_
  refine sP (.int .i64 ((32*k1:Nat):Int))<|sS (.slice (some ⟨b,off,none⟩) m cap) (Quiet.thereOne Bs 0 170 _ _ rfl kR hS.lt _ (hS.cell 0) Tryz.underlying170 rfl)<|sP (.int .i64 ((m:Nat):Int)) ?_
  obtain ⟨b1,hb1⟩:∃ z:Bool,z=decide (32*k1<m):=⟨_,rfl⟩
  refine sS (.bool b1) (Quiet.pure (AC .lss _ _ _ .i64 _ _ _ rfl rfl rfl (AY _ _ _ _ _ (by rw [hb1]; exact decide_eq_decide.2 (by omega))))) ?_
  refine sG ?_
  cases b1
  · have lb1:¬ (32*k1<m):=of_decide_eq_false hb1.symm
    refine sU<|Sy.exit<|Sy.then_exit<|Sy.then_exit ?_
    obtain rfl:N=k1:=by omega
    refine Sy.in_exit ?_
    exact Sy.retP rfl (λv w3 hg=>⟨⟨_,rfl⟩,.inl ⟨pre,hpre,CV hJ hj hg⟩⟩) (.inr rfl)
  · have lb1 : 32 * k1 < m := of_decide_eq_true hb1.symm
    refine sT<|Sy.skip<|Sy.then_<|Sy.seq<|Sy.block<|Sy.seq ?_
    refine Sy.regionD (λj=>false) kR ?_
    refine sD 0 rfl (.int .i64 ((32:Nat):Int)) (Quiet.thereOne Bn 0 3 _ _ rfl kR hN.lt _ (hN.cell 0) Tryz.underlying3 rfl)<|sD 1 rfl (.slice (some ⟨b,off,none⟩) m cap) (Quiet.thereOne Bs 0 170 _ _ rfl kR hS.lt _ (hS.cell 0) Tryz.underlying170 rfl)<|sZ 2 rfl (.int .i64 ((32*k1:Nat):Int))<|sD 3 rfl (.slice (some ⟨b,off+(32*k1)*13,none⟩) (m - (32*k1)) (cap - (32*k1))) (Quiet.pure (OI _ _ _ b off m cap (32*k1) 13 .i64 rfl rfl rfl kR kF (by omega) (by omega)))<|sZ 4 rfl (.int .i64 (((m - (32*k1)):Nat):Int)) ?_
    obtain ⟨sz,hsz⟩:∃ z,z=szC m k1:=⟨_,rfl⟩
    have hs:0<sz∧32*k1+sz≤m:=by rw [hsz]; unfold szC; omega
    refine sD 5 rfl (.int .i64 ((sz:Nat):Int)) (Quiet.pure (J0 _ _ .i64 32 (m - (32*k1)) sz rfl rfl rfl (by rw [hsz]; unfold szC; omega)))<|sZ 6 rfl (.int .i64 ((sz:Nat):Int)) ?_
    refine sI ?_
    refine Sy.seq ?_
    have hx:k1<N:=by omega
    refine Sy.regionY 10 (by rintro ⟨_,_,⟨_,hv⟩,_⟩; cases hv) kR ?_
    refine sP (.func (.yield l) #[] #[])<|sS (.slice (some ⟨b,off,none⟩) m cap) (Quiet.thereOne Bs 0 170 _ _ rfl kR hS.lt _ (hS.cell 0) Tryz.underlying170 rfl)<|sP (.int .i64 ((32*k1:Nat):Int))<|sP (.int .i64 ((32*k1:Nat):Int))<|sP (.int .i64 ((sz:Nat):Int))<|sS (.int .i64 (((32*k1)+sz:Nat):Int)) (Quiet.pure (AC .add _ _ _ .i64 _ _ _ rfl rfl rfl (AO _ _ _ _ _ ((AH (by omega) (by omega)).trans (by omega)))))<|sP (.int .i64 ((32*k1:Nat):Int))<|sP (.int .i64 ((sz:Nat):Int)) ?_
    refine sS (.int .i64 (((32*k1)+sz:Nat):Int)) (Quiet.pure (AC .add _ _ _ .i64 _ _ _ rfl rfl rfl (AO _ _ _ _ _ ((AH (by omega) (by omega)).trans (by omega)))))<|sS (.slice (some ⟨b,off+(32*k1)*13,none⟩) (((32*k1)+sz) - (32*k1)) (((32*k1)+sz) - (32*k1))) (Quiet.pure (OH _ _ _ _ _ b off m cap (32*k1) ((32*k1)+sz) ((32*k1)+sz) 13 .i64 .i64 .i64 rfl rfl rfl rfl rfl kR kF (by have:=hs; omega) (by have:=hs; omega) (by have:=hs; omega) (by have:=hs; omega))) ?_
    refine Sy.nil ?_
    refine Sy.yieldX (ro := none) rfl (by rintro ⟨_, _, ⟨_, hv⟩, _⟩; cases hv) kR kR l #[.slice (some ⟨b, off + (32 * k1) * 13, none⟩) (((32 * k1) + sz) - (32 * k1)) (((32 * k1) + sz) - (32 * k1))] kF (fun e W' => (e = .returned (.bool true) ∧ J (pre ++ [⟨k1, hx⟩]) W' ∧ Blk W' Bs 170 #[.slice (some ⟨b, off, none⟩) m cap] ∧ Blk W' Bn 3 #[.int .i64 32]) ∨ (e = .returned (.bool false) ∧ Jx (pre ++ [⟨k1, hx⟩]) W')) (fun w hg => by
            have e:chE b off m ⟨k1,hx⟩=#[.slice (some ⟨b,off+32*k1*13,none⟩) (32*k1+sz - 32*k1) (32*k1+sz - 32*k1)]:=by unfold chE chV; rw [← hsz,Nat.add_sub_cancel_left]
            have y:=hY pre ⟨k1,hx⟩ w (CV hJ hj hg) (by omega)
            rw [e] at y
            exact KM y (λe w' q=>q.imp (λq=>⟨q.1,q.2.1,q.2.2.2 (Bs,170,_) (by simp) (hg.blk hS),q.2.2.2 (Bn,3,_) (by simp) (hg.blk hN)⟩) id)) (λe w' q=>q.elim (λq=>⟨_,q.1⟩) (λq=>⟨_,q.1⟩)) rfl (λw2 b hr=>?_)
    cases b
    · have hx2:=hr.elim (λq=>by cases q.1) (λq=>q.2)
      refine sP (.bool true) ?_
      refine sG<|sT<|Sy.ret<|Sy.in_ret<|Sy.then_ret<|Sy.then_ret<|Sy.in_ret ?_
      exact Sy.retP rfl (λv w3 hg=>⟨⟨_,rfl⟩,.inr ⟨pre++[⟨k1,hx⟩],⟨k1+1,by omega,by rw [List.map_append,hpre,List.range_succ]; rfl⟩,CV hJx hx2 hg⟩⟩) (.inl rfl)
    · clear hS hN hj
      obtain ⟨hj,hS,hN⟩:=hr.elim (λq=>q.2) (λq=>by cases q.1)
      refine sP (.bool false) ?_
      refine sG<|sU<|Sy.skip<|Sy.in_<|Sy.then_<|Sy.region ?_
      refine sP (.int .i64 ((32*k1:Nat):Int))<|sS (.int .i64 ((32:Nat):Int)) (Quiet.thereOne Bn 0 3 _ _ rfl kR hN.lt _ (hN.cell 0) Tryz.underlying3 rfl)<|sS (.int .i64 (((32*k1)+32:Nat):Int)) (Quiet.pure (AC .add _ _ _ .i64 _ _ _ rfl rfl rfl (AO _ _ _ _ _ ((AH (by omega) (by omega)).trans (by omega)))))<|sP (.int .i64 (((32*k1)+32:Nat):Int)) ?_
      refine Sy.nil ?_
      exact Sy.againP (by omega) ac4 (λw3 hg=>⟨pre++[⟨k1,hx⟩],by rw [List.map_append,hpre,List.range_succ]; rfl,CV hJ hj hg,hg.blk hS,hg.blk hN⟩)
theorem M8 (n l Bs Bn cap : Nat) (A : Option Addr) (J Jx : List (Fin 0) → World → Prop) (W : World) (hJ : AbidesFrom W.heap.size J)
    (hS:Blk W Bs 170 #[.slice A 0 cap]) (hN:Blk W Bn 3 #[.int .i64 32]) (h0:J [] W) :
    CallsIn Fence.wide n Tryz.prog 217 #[.func (.yield l) #[] #[],.pointer (some ⟨Bs,0,none⟩),.pointer (some ⟨Bn,0,none⟩)] W λe W'=>(∃ v,e=.returned v)∧((∃ ys:List (Fin 0),ys.map (·.1)=List.range 0∧J ys W')∨(∃ pre:List (Fin 0),(∃ k,k≤0∧pre.map (·.1)=List.range k)∧Jx pre W')):=by
  refine Sy.enterP (args:=[.func (.yield l) #[] #[],.pointer (some ⟨Bs,0,none⟩),.pointer (some ⟨Bn,0,none⟩)]) Tryz.func217 rfl kL ?_
  refine sC ?_
  refine sP (.int .i64 0) ?_
  refine sG<|Sy.block ?_
  refine Sy.loopP 0 (λk1=>[(0,.func (.yield l) #[] #[]),(1,.pointer (some ⟨Bs,0,none⟩)),(2,.pointer (some ⟨Bn,0,none⟩)),(4,.int .i64 ((32*k1:Nat):Int))]) (λk1 w=>J [] w∧Blk w Bs 170 #[.slice A 0 cap]∧Blk w Bn 3 #[.int .i64 32]) ac4 (λw hg=>⟨CV hJ h0 hg,hg.blk hS,hg.blk hN⟩) (λk1 wr hk1 hz=>?_)
  clear hS hN
  obtain ⟨hj,hS,hN⟩:=hz
  refine Sy.seq<|sC ?_
  refine sP (.int .i64 ((32*k1:Nat):Int))<|sS (.slice A 0 cap) (Quiet.thereOne Bs 0 170 _ _ rfl kR hS.lt _ (hS.cell 0) Tryz.underlying170 rfl)<|sP (.int .i64 ((0:Nat):Int)) ?_
  obtain ⟨b1,hb1⟩:∃ z:Bool,z=decide (32*k1<0):=⟨_,rfl⟩
  refine sS (.bool b1) (Quiet.pure (AC .lss _ _ _ .i64 _ _ _ rfl rfl rfl (AY _ _ _ _ _ (by rw [hb1]; exact decide_eq_decide.2 (by omega))))) ?_
  refine sG ?_
  cases b1
  · have lb1:¬ (32*k1<0):=of_decide_eq_false hb1.symm
    refine sU<|Sy.exit<|Sy.then_exit<|Sy.then_exit ?_
    obtain rfl:k1=0:=by omega
    refine Sy.in_exit ?_
    exact Sy.retP rfl (λv w3 hg=>⟨⟨_,rfl⟩,.inl ⟨[],rfl,CV hJ hj hg⟩⟩) (.inr rfl)
  · have lb1:32*k1<0:=of_decide_eq_true hb1.symm
    refine sT<|Sy.skip<|Sy.then_<|Sy.seq ?_
    exact absurd lb1 (by omega)
def ST (w:World) (A:Option Addr) (n:Nat) (T:Nat→Trm) (b o:Nat):Prop:=0<n→A=some ⟨b,o,none⟩∧b<w.heap.size∧∀ j,j<n→w.rangeAt b (o+j*13) (T j).cells
theorem J_ (n Bs Bn n₀ b off m cap N : Nat) (A : Option Addr) (hN0 : N = (m + 31) / 32) (hm : m ≤ cap) (hm2 : m ≤ 4611686018427387904) (hA : 0 < m → A = some ⟨b, off, none⟩) (w : World) (hS : Blk w Bs 170 #[.slice A m cap]) (hN : Blk w Bn 3 #[.int .i64 32]) :
    SeqStopsK Fence.wide n Tryz.prog 217 #[.pointer (some ⟨Bs,0,none⟩),.pointer (some ⟨Bn,0,none⟩)] (chE b off m (N:=N)) (KpL n₀ [(Bs,170,#[.slice A m cap]),(Bn,3,#[.int .i64 32])]) (λys=>ys.map (·.1)=List.range N) (λpre=>∃ k,k≤N∧pre.map (·.1)=List.range k) N w:=λl J Jx W hW hJ hJx hY h0=>by
  have hS':=hS.below hW hS.lt
  have hN':=hN.below hW hN.lt
  rcases Nat.eq_zero_or_pos m with h | h
  · subst h
    obtain rfl:N=0:=hN0
    exact M8 n l Bs Bn cap A J Jx W hJ hS' hN' h0
  · obtain rfl:=hA h
    exact M7 n l Bs Bn n₀ b off m cap N hN0 hm hm2 J Jx W hJ hJx hY hS' hN' h0
end Cu
end
section
namespace Cu
open Go.RowKit Sy
theorem O' {w w':World} {g o o':Nat} {vs:List Value} (h:w.rangeAt g o vs) (hb:Below w.heap.size w w') (hg:g<w.heap.size) (e:o'=o):w'.rangeAt g o' vs:=λj v hj=>by
 rw [e]
 exact (Below.cell (p:=⟨g,o+j,none⟩) hb hg).trans (h j v hj)
set_option maxHeartbeats 4000000 in
set_option maxRecDepth 100000 in
theorem H5 (w:World) (A:Option Addr) (b o n c:Nat) (T:Nat→Trm) (hnc:n≤c) (hc:n≤4611686018427387904) (hok:∀ j,(T j).ok) (hT:ST w A n T b o):Calls Tryz.prog 134 #[.slice A n c] w (Gets w (ptv (Ec.sumL Ac (λt=>Ec.nm Ac (T t).kn (T t).pt) (List.range n)))):=by
 obtain ⟨N,hN0⟩:∃ N,N=(n+31) / 32:=⟨_,rfl⟩
 obtain ⟨R,hR⟩:∃ R,R=ptJ (chL T n (List.range N)):=⟨_,rfl⟩
 have hRs:Ec.sumL Ac (λt=>Ec.nm Ac (T t).kn (T t).pt) (List.range n)=R:=by rw [hR,hN0]; exact (Lj (P' T n)).symm
 rw [hRs]
 have hRo:Ec.On R:=by rw [← hRs]; exact Ec.On.sumL fld _ λx _=>(T x).on.nm fld _
 obtain ⟨rx,ry,ri,_,_,eR,_,_⟩:=PH R hRo
 rw [eR]
 refine Sy.enterM (args:=[.slice A n c]) Tryz.func134 rfl kL ?_
 refine sC ?_
 refine sM 52 (pcs 0 0 false) (λg0=>?_)
 refine sA ?_
 refine sM 217 (tcs 0 0 0) (λg1=>?_)
 refine sG<|Sy.seq<|sC ?_
 refine sP (.slice A n c) ?_
 refine Sy.callN kR 181 #[.slice A n c,.int .i64 32] kF (λv M=>∃ g1 g2,v=.func (.func 217) #[] #[.pointer (some ⟨g1,0,none⟩),.pointer (some ⟨g2,0,none⟩)]∧M=[(g1,170,#[.slice A n c]),(g2,3,#[.int .i64 32])]) (λw _=>M6 w _ _ _) (λv M hR0=>?_)
 obtain ⟨u1,u2,rfl,rfl⟩:=hR0
 refine sG<|Sy.block ?_
 refine Sy.rangeF (α:=Fin N) 217 #[.pointer (some ⟨u1,0,none⟩),.pointer (some ⟨u2,0,none⟩)] kR kR (enters_of Tryz.func217 kR rfl) (chE b o n) [(u1,170,(#[.slice A n c])),(u2,3,(#[.int .i64 32]))] (λys=>ys.map (·.1)=List.range N) (λpre=>∃ k,k≤N∧pre.map (·.1)=List.range k) N (λ_=>rfl) (by decide) [g0,g1,u1,u2] (λ_=>True) (trivial) (λpre=>[(g0,52,(pcs 0 0 false)),(g1,217,(tcs ((chL T n (pre.map (·.1))).x.val) ((chL T n (pre.map (·.1))).y.val) ((chL T n (pre.map (·.1))).z.val))),(u1,170,(#[.slice A n c])),(u2,3,(#[.int .i64 32]))]) (λpre=>[(g0,52,(pcs 0 0 false)),(g1,217,(tcs ((chL T n (pre.map (·.1))).x.val) ((chL T n (pre.map (·.1))).y.val) ((chL T n (pre.map (·.1))).z.val))),(u1,170,(#[.slice A n c])),(u2,3,(#[.int .i64 32]))]) (λ_=>False) [true,true,true,true] kR (λ_=>rfl) ?_ ?_ 0 (λx gs=>[(3,.pointer (some ⟨g1,0,none⟩)),(4,chV b o n x.val)]) (λx gs=>[]) (λx gs h=>by cases gs with | nil=>rfl | cons _ _=>cases h) ?_ ?_ ?_ ?_
 ·intro w hw
  have hS:=hw.get (i:=2) rfl
  have hN:=hw.get (i:=3) rfl
  exact ⟨w,Below.refl _ _,J_ 8 u1 u2 _ b o n c N A hN0 hnc hc (λh=>(hT h).1) w hS hN⟩
 ·intro p hp pre
  simp only [List.mem_cons,List.not_mem_nil,or_false] at hp ⊢
  rcases hp with rfl | rfl <;> simp
 ·intro l fz pre x
  refine Sy.regionR (by rintro ⟨_,_,h⟩; exact h) kR ⟨_,rfl⟩ ?_
  refine sP (chV b o n x.val) ?_
  refine Sy.nil ?_
  exact Sy.apN [] rfl ac2 [true,true,true,true] kR
 ·intro l fz pre x gs hgs hlen hH
  obtain rfl:gs=[]:=List.eq_nil_of_length_eq_zero hgs
  have hxN:=x.isLt
  have hn0:0<n:=by omega
  refine Sy.block ?_
  refine Sy.regionRD (by rintro ⟨_,_,h⟩; exact h) kR ⟨_,rfl⟩ (λj=>j == 4) kR ?_
  refine sD 0 rfl (tv ((chL T n (pre.map (·.1))).x.val) ((chL T n (pre.map (·.1))).y.val) ((chL T n (pre.map (·.1))).z.val)) (qL 1 g1 0 12 217 217 (tcs ((chL T n (pre.map (·.1))).x.val) ((chL T n (pre.map (·.1))).y.val) ((chL T n (pre.map (·.1))).z.val)) rfl Tryz.underlying217)<|sZ 1 rfl (chV b o n x.val) ?_
  obtain ⟨j1,hj1⟩:∃ z:J,z=muJ (λj=>T (x.val*32+j)) (szC n x.val) 64:=⟨_,rfl⟩
  refine sD 2 rfl (tv j1.x.val j1.y.val j1.z.val) (qG 183 #[chV b o n x.val] (λw hw=>by rw [hj1]; exact PZ w b (o+32*x.val*13) (szC n x.val) (szC n x.val) (λj=>T (x.val*32+j)) (Nat.lt_of_lt_of_le (hT hn0).2.1 hw.below.size) (by unfold szC; omega) (λj=>hok _) (λj hj=>O' ((hT hn0).2.2 (x.val*32+j) (by unfold szC at hj; omega)) hw.below (hT hn0).2.1 (by omega)))) ?_
  obtain ⟨j2,hj2⟩:∃ z:J,z=Bk (chL T n (pre.map (·.1))) j1:=⟨_,rfl⟩
  refine sD 3 rfl (tv j2.x.val j2.y.val j2.z.val) (qF 182 #[tv ((chL T n (pre.map (·.1))).x.val) ((chL T n (pre.map (·.1))).y.val) ((chL T n (pre.map (·.1))).z.val),tv j1.x.val j1.y.val j1.z.val] (λw=>by rw [hj2]; exact LN w (chL T n (pre.map (·.1))) j1))<|sX 4 rfl 1 g1 217 (tcs ((chL T n (pre.map (·.1))).x.val) ((chL T n (pre.map (·.1))).y.val) ((chL T n (pre.map (·.1))).z.val)) (tcs j2.x.val j2.y.val j2.z.val) (wS 0 217 (tcs j2.x.val j2.y.val j2.z.val) rfl) ?_
  refine sE ?_
  refine Sy.in_ ?_
  exact Sy.bpN [true,true,true,true] (M:=[(g0,52,(pcs 0 0 false)),(g1,217,(tcs j2.x.val j2.y.val j2.z.val)),(u1,170,(#[.slice A n c])),(u2,3,(#[.int .i64 32]))]) kR (AM rfl (AM (beq (by rw [hj2,hj1,List.map_append,List.map_singleton,J']; rfl)) (AM rfl (AM rfl rfl)))) (trivial)
 ·intro D fz xs hS hH hD hm
  have hS0:xs.map (·.1)=List.range N:=hS
  refine Sy.in_<|sB ?_
  refine sS (tv ((chL T n (xs.map (·.1))).x.val) ((chL T n (xs.map (·.1))).y.val) ((chL T n (xs.map (·.1))).z.val)) (qL 1 g1 0 12 217 217 (tcs ((chL T n (xs.map (·.1))).x.val) ((chL T n (xs.map (·.1))).y.val) ((chL T n (xs.map (·.1))).z.val)) rfl Tryz.underlying217)<|sS (pv rx ry ri) (qF 184 #[tv ((chL T n (xs.map (·.1))).x.val) ((chL T n (xs.map (·.1))).y.val) ((chL T n (xs.map (·.1))).z.val)] (λw=>by rw [← eR,hR, ← hS0]; exact PK w _))<|sW 0 g0 52 (pcs 0 0 false) (pcs rx ry ri) (wS 0 52 (pcs rx ry ri) rfl) ?_
  refine sG<|Sy.ret ?_
  exact Sy.retM1 (v:=pv rx ry ri) rfl (.inl (Res.cell (ty':=52) g0 0 (pcs rx ry ri) _ kR kR Tryz.underlying52 rfl kR kR)) hD hm
 ·intro D fz pre hS hx hD hm
  exact hx.elim
end Cu
end
section
namespace Cu
open Go.RowKit Sy
theorem Ny {w:World} {g:Nat} {vs:List Value} (h:w.rangeAt g 0 vs):∀ j,j<1→w.rangeAt g (0+j*13) vs:=λj hj=>by
 obtain rfl:j=0:=by omega
 exact h
def pX:Pt→Nat
 | none=>0
 | some (x,_)=>x.val
def pY:Pt→Nat
 | none=>0
 | some (_,y)=>y.val
def pI:Pt→Bool
 | none=>true
 | some _=>false
theorem CE:∀ P:Pt,ptv P=pv (pX P) (pY P) (pI P)
 | none=>rfl
 | some (_,_)=>rfl
theorem Hz:∀ P:Pt,pX P<K4
 | none=>by show 0<_; decide
 | some (x,_)=>lt4 x
theorem Hy:∀ P:Pt,pY P<K4
 | none=>by show 0<_; decide
 | some (_,y)=>lt4 y
theorem CF:∀ {P:Pt},Ec.On P→dec (pX P) (pY P) (pI P)=P
 | none,_=>J6
 | some (x,y),h=>Er x y h
theorem IZ {P:Pt} (h:Ec.On P):Am (pX P) (pY P) (pI P)=true:=by
 rcases P with _ | ⟨x,y⟩
 ·rfl
 ·show Am x.val y.val false=true
  rw [Nf,show y*y=x*x*x+7 from h]
  simp
set_option maxHeartbeats 4000000 in
set_option maxRecDepth 100000 in
theorem Pa (w:World) (k x y:Nat) (i:Bool) (hk:k<K4) (hx:x<K4) (hy:y<K4):Calls Tryz.prog 103 #[fv k,pv x y i] w (Gets w (ptv (Ec.nm Ac (k%Sc.pM) (dec x y i)))):=by
 obtain ⟨R,hR⟩:∃ R,R=Ec.sumL Ac (λt=>Ec.nm Ac ((λ_:Nat=>(⟨k,x,y,i⟩:Trm)) t).kn ((λ_:Nat=>(⟨k,x,y,i⟩:Trm)) t).pt) (List.range 1):=⟨_,rfl⟩
 have e:Ec.nm Ac (k%Sc.pM) (dec x y i)=R:=by rw [hR]; exact (Ec.zero_add (inv:=Ac) _).symm
 rw [e,CE]
 refine Sy.enter (args:=[fv k,pv x y i]) Tryz.func103 rfl kL ?_
 refine sC ?_
 refine sM 46 (fcs k) (λg0=>?_)
 refine sM 52 (pcs x y i) (λg1=>?_)
 refine sM 52 (pcs 0 0 false) (λg2=>?_)
 refine sA ?_
 refine sS (fv k) (qL 0 g0 0 4 46 46 (fcs k) rfl Tryz.underlying46)<|sS (pv x y i) (qL 1 g1 0 9 52 52 (pcs x y i) rfl Tryz.underlying52)<|sP (trv k x y i) ?_
 refine Sy.make kR 169 (JH k x y i) (λg=>.slice (some ⟨g,0,none⟩) 1 1) kF (λg3=>?_)
 refine sS (pv (pX R) (pY R) (pI R)) (qG 134 #[.slice (some ⟨g3,0,none⟩) 1 1] (λw hw=>by rw [← CE,hR]; exact H5 w _ g3 0 1 1 (λ_=>⟨k,x,y,i⟩) (Nat.le_refl _) (by decide) (λ_=>⟨hk,hx,hy⟩) (λ_=>⟨rfl,(hw.get (i:=3) rfl).lt,Ny (Bz (hw.get (i:=3) rfl) kR)⟩)))<|sW 2 g2 52 (pcs 0 0 false) (pcs (pX R) (pY R) (pI R)) (wS 0 52 (pcs (pX R) (pY R) (pI R)) rfl) ?_
 refine sG<|Sy.ret ?_
 exact rC (v:=pv (pX R) (pY R) (pI R)) 52 g2 2 (pcs (pX R) (pY R) (pI R)) rfl Tryz.underlying52
end Cu
end
section
namespace Sc
open Go.RowKit Go.Lib
def Ir:Value:=.agg #[.int .u64 13822214165235122497,.int .u64 13451932020343611451,.int .u64 18446744073709551614,.int .u64 18446744073709551615,.int .u64 4624529908474429119,.int .u64 4994812053365940164,.int .u64 1]
theorem Jq:fv 115792089237316195423570985008687907852837564279074904382605163141518161494337=.agg #[.int .u64 13822214165235122497,.int .u64 13451932020343611451,.int .u64 18446744073709551614,.int .u64 18446744073709551615]:=rfl
theorem refN_any (w:World):Calls Tryz.prog 60 #[] w λe w'=>e=.returned Ir∧Below w.heap.size w w':=by
 go_enter Tryz.func60,Tryz.ntmps60
 go_wp2
 exact bodyPost_ret (results_cell_row rfl _ _ w.heap.size _ _ (0,0) _ rfl (heap_alloc_new w _) Tryz.underlying102 rfl (by kernel_rfl)) rfl ⟨rfl,(Below.refl _ _).alloc (Nat.le_refl _) _⟩
theorem refOf_any (w:World) (n:Nat) (hn:n<(2^256)):Calls Tryz.prog 61 #[fv n] w λe w'=>e=.returned (fv n)∧Below w.heap.size w w':=by
 obtain ⟨a,b,c,d,fn⟩:=AZ n hn
 rw [fn]
 clear fn
 go_enter Tryz.func61,Tryz.ntmps61
 go_wp2
 exact bodyPost_ret (results_cell_row rfl _ _ (w.heap.size+1) _ _ (0,0) _ rfl (heap_alloc2_new w _ _) Tryz.underlying98 rfl (by kernel_rfl)) rfl ⟨rfl,Ad w _ _⟩
theorem refSc_any (w:World) (n:Nat) (hn:n<(2^256)):Calls Tryz.prog 71 #[fv n] w λe w'=>e=.returned (fv n)∧Below w.heap.size w w':=by
 obtain ⟨a,b,c,d,fn⟩:=AZ n hn
 rw [fn]
 clear fn
 go_enter Tryz.func71,Tryz.ntmps71
 go_wp2
 exact bodyPost_ret (results_cell_row rfl _ _ (w.heap.size+1) _ _ (0,0) _ rfl (heap_alloc2_new w _ _) Tryz.underlying46 rfl (by kernel_rfl)) rfl ⟨rfl,Ad w _ _⟩
set_option maxHeartbeats 2000000 in
set_option maxRecDepth 100000 in
theorem normR_any (w:World) (x:Nat) (hx:x<(2^256)):Calls Tryz.prog 59 #[Ir,fv x] w λe w'=>e=.returned (fv (x%pM))∧Below w.heap.size w w':=by
 obtain ⟨z,hz⟩:∃ z,z=x%pM:=⟨_,rfl⟩
 obtain ⟨p,hp⟩:∃ p,p=115792089237316195423570985008687907852837564279074904382605163141518161494337:=⟨_,rfl⟩
 have hpl:p<(2^256):=by omega
 obtain ⟨b,hb⟩:∃ b,b=decide (x<p):=⟨_,rfl⟩
 have cb:∀ w,Calls Tryz.prog 119 #[fv x,fv p] w λe w'=>e=.returned (.bool b)∧Below w.heap.size w w':=by
  intro w; rw [hb]; exact G0 w x p rfl rfl hx hpl
 have t1:b=true→z=x:=λh=>by
  rw [hb] at h
  rw [hz]
  exact Nat.mod_eq_of_lt (by rw [DE, ← hp]; simpa using h)
 have cm:b=false→∀ w,Calls Tryz.prog 120 #[fv x,fv p] w λe w'=>e=.returned (fv z)∧Below w.heap.size w w':=λh w=>by
  rw [hb] at h
  have hle:¬ x<p:=by simpa using h
  have hzx:z+p=x:=by rw [hz,Ei x hx,if_neg (by omega)]; omega
  exact Cj w x p z 0 rfl rfl hx hpl (by omega) (by omega)
 have hpc:fv p=.agg #[.int .u64 13822214165235122497,.int .u64 13451932020343611451,.int .u64 18446744073709551614,.int .u64 18446744073709551615]:=by rw [hp]; exact Jq
 obtain ⟨x0,x1,x2,x3,fx⟩:=AZ x hx
 have FX:=Lib.hid fx
 have FP:=Lib.hid hpc
 rw [fx, ← hz]
 unfold Ir
 clear fx hpc hx hz hp hpl hb
 go_enter Tryz.func59,Tryz.ntmps59
 go_wp2_with (first | ((with_reducible refine AD (d:=some 6) ?_); refine AA rfl _ _ rfl (w.heap.size+1) rfl (x) _ _ _ ((Aa w _ _ _).alloc _) (FX.out) Tryz.underlying98 rfl (by kernel_rfl) ?_) | ((with_reducible refine AD (d:=some 8) ?_); refine BO rfl _ _ rfl w.heap.size rfl p [.int .u64 13822214165235122497,.int .u64 13451932020343611451,.int .u64 18446744073709551614,.int .u64 18446744073709551615] _ (Bx (((Blk.new w _ _).alloc _).alloc _)) FP.out Tryz.underlying98 rfl (by kernel_rfl) ?_))
 refine (cb _).mono ?_
 rintro e w1 ⟨rfl,k1⟩
 have BM:Blk w1 w.heap.size 102 _:=Gr.blk k1 (((Blk.new w _ _).alloc _).alloc _)
 have BX:Blk w1 (w.heap.size+1) 98 _:=Gr.blk k1 ((Aa w _ _ _).alloc _)
 have BR:Blk w1 (w.heap.size+2) 98 _:=Gr.blk k1 (Ah w _ _ _ _)
 have hB:=Below.gr (AW w _ _ _) k1
 clear k1 cb
 cases b
 ·have cmm:=cm rfl
  clear cm t1
  go_wp2_with (first | ((with_reducible refine AD (d:=some 12) ?_); refine AA rfl _ _ rfl (w.heap.size+1) rfl (x) _ _ _ (BX) (FX.out) Tryz.underlying98 rfl (by kernel_rfl) ?_) | ((with_reducible refine AD (d:=some 14) ?_); refine BO rfl _ _ rfl w.heap.size rfl p [.int .u64 13822214165235122497,.int .u64 13451932020343611451,.int .u64 18446744073709551614,.int .u64 18446744073709551615] _ (Bx (BM)) FP.out Tryz.underlying98 rfl (by kernel_rfl) ?_))
  refine (cmm _).mono ?_
  rintro e w2 ⟨rfl,k2⟩
  have BR2:=Gr.blk k2 BR
  have hB2:=Below.gr hB k2
  clear k2 cmm
  go_wp2_with (first | ((with_reducible refine AF ?_); refine AB rfl _ _ _ rfl (w.heap.size+2) (fcs (z)) rfl rfl _ _ (BR2) (by kernel_rfl) (by rfl) (AG _) ?_; intro w9 hL9 hB9 hK9))
  exact bodyPost_ret (results_cell_row rfl _ _ (w.heap.size+2) _ _ (0,0) _ rfl hL9 Tryz.underlying98 rfl (by kernel_rfl)) rfl ⟨rfl,hB2.trans (hB9 _ (by omega))⟩
 ·have HZX:=Lib.hid (t1 rfl)
  clear t1 cm
  go_wp2_with (first | ((with_reducible refine AD (d:=some 11) ?_); refine AA rfl _ _ rfl (w.heap.size+1) rfl (x) _ _ _ (BX) (FX.out) Tryz.underlying98 rfl (by kernel_rfl) ?_) | ((with_reducible refine AF ?_); refine AB rfl _ _ _ rfl (w.heap.size+2) (fcs (x)) rfl rfl _ _ (BR) (by kernel_rfl) (by rfl) (AG _) ?_; intro w9 hL9 hB9 hK9))
  exact bodyPost_ret (results_cell_row rfl _ _ (w.heap.size+2) _ _ (0,0) _ rfl hL9 Tryz.underlying98 rfl (by kernel_rfl)) rfl ⟨by rw [HZX.out]; rfl,hB.trans (hB9 _ (by omega))⟩
end Sc
end
end Go.Proofs.YtlooclodlpcglaaGreatDoor
