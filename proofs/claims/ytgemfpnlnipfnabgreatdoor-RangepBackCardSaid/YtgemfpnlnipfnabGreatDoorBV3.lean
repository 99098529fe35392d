/-
  Texts of ours.
-/
import Derived.Test.YtgemfpnlnipfnabGreatDoorBV2
set_option linter.unusedVariables false
set_option linter.unusedSimpArgs false
set_option maxRecDepth 100000
set_option maxHeartbeats 80000000
namespace Go.Proofs.YtgemfpnlnipfnabGreatDoor
section
namespace Cu
open Go.RowKit Sy
def Bl:Pt→J
 | none=>⟨0,0,0⟩
 | some (x,y)=>⟨x,y,1⟩
theorem JM:∀ P:Pt,Ec.Rep (Bl P) P
 | none=>rfl
 | some (x,y)=>by
  refine ⟨(by decide +kernel:(1:Fp)≠0),?_,?_⟩
  ·show x=x*(1*1)
   grobner
  ·show y=y*(1*1*1)
   grobner
def ptJ (a:J):Pt:=if a.z=0 then none else some (a.x*(AR a.z*AR a.z),a.y*(AR a.z*AR a.z*AR a.z))
theorem QM {a:J} {P:Pt} (h:Ec.Rep a P):ptJ a=P:=by
 rcases Ec.rep_point fld h with ⟨h1,h2⟩ | ⟨h1,h2⟩
 ·unfold ptJ; rw [if_pos h1,h2]
 ·unfold ptJ; rw [if_neg h1,h2]
theorem VL (w:World)  : AY 226 #[pv 0 0 true] w (Gets w (tv 0 0 0)):=by
 refine Sy.enter (args:=[pv 0 0 true]) Tryz.func226 U kL<|sC<|sM 37 (pcs 0 0 true) (λg0=>?_)
 refine sM 153 (tcs 0 0 0) (λg1=>?_)
 refine sG<|Sy.seq<|Sy.seq<|Sy.regionD (λj=>false) kR<|sD 0 U (pv 0 0 true) (qk 0 0 9 U U AX)<|sD 1 U (pv 0 0 true) (qf CC)<|sD 2 U (.bool true) (Quiet.pure (λw=>C7 w _ _ _ _ 0 0 true 0 0 true U U U dZ dZ dZ dZ))<|sI<|sT<|sC<|sP (tv 0 0 0)<|sw 1 U (tcs 0 0 0) (wA U)<|sG<|Sy.ret<|Sy.then_ret ?_
 exact rc (v:=tv 0 0 0) 1 U U CM
theorem VK (w:World) (u v:Fp):AY 226 #[pv u.val v.val false] w (Gets w (tv u.val v.val (1:Fp).val)):=by
 refine Sy.enter (args:=[pv u.val v.val false]) Tryz.func226 U kL<|sC<|sM 37 (pcs u.val v.val false) (λg0=>?_)
 refine sM 153 (tcs 0 0 0) (λg1=>?_)
 refine sG<|Sy.seq<|Sy.seq<|Sy.regionD (λj=>false) kR<|sD 0 U (pv u.val v.val false) (qk 0 0 9 U U AX)<|sD 1 U (pv 0 0 true) (qf CC)<|sD 2 U (.bool false) (Quiet.pure (λw=>Eu w _ _ _ _ _ _ _ _ _ _ U U U lK lK lK lK dZ))<|sI<|sU<|Sy.skip<|sR (λj=>j == 6) ?_
 refine sZ 0 U (pT g0 0)<|sD 1 U (fv u.val) (qk 0 0 4 U U AN)<|sZ 2 U (pT g0 4)<|sD 3 U (fv v.val) (qk 0 4 4 U U AN) ?_
 obtain ⟨z1,hz1⟩:∃ z:Fp,z=(1:Fp):=⟨_,rfl⟩
 refine sD 4 U (fv z1.val) (qf (λw=>by rw [hz1]; exact NP 1 (by decide +kernel) dZ w))<|sZ 5 U (tv u.val v.val z1.val)<|sx 6 U 1 U (tcs u.val v.val z1.val) (wA U)<|sI<|Sy.ret ?_
 rw [show (tv u.val v.val (1:Fp).val:Value)=tv u.val v.val z1.val from by rw [hz1]]
 exact rc (v:=tv u.val v.val z1.val) 1 U U CM
theorem VM (w:World) (P:Pt):Calls Tryz.prog 226 #[ptv P] w (Gets w (jv (Bl P))):=by
 rcases P with _ | ⟨u,v⟩
 ·exact VL w
 ·exact VK w u v
theorem Vw (w:World) (a:J):AY 115 #[tv a.x.val a.y.val a.z.val] w (Gets w (ptv (ptJ a))):=by
 refine Sy.enter (args:=[tv a.x.val a.y.val a.z.val]) Tryz.func115 U kL<|sC<|sM 153 (tcs a.x.val a.y.val a.z.val) (λg0=>?_)
 refine sM 37 (pcs 0 0 false) (λg1=>?_)
 refine sG<|Sy.seq<|Sy.seq<|Sy.regionD (λj=>false) kR<|sZ 0 U (pT g0 8)<|sD 1 U (fv a.z.val) (qk 0 8 4 U U AN) ?_
 obtain ⟨z1,hz1⟩:∃ z:Fp,z=(0:Fp):=⟨_,rfl⟩
 refine sD 2 U (fv z1.val) (qf (λw=>by rw [hz1]; exact NP 0 (by decide +kernel) dZ w)) ?_
 obtain ⟨b1,hb1⟩:=xE (decide (a.z.val=z1.val))
 refine sD 3 U (.bool b1) (Quiet.pure (λw=>by rw [hb1]; exact F5 w _ _ _ _ _ _ U U U lK lK))<|sI ?_
 cases b1
 ·have eb1:a.z≠0:=λe=>of_decide_eq_false hb1.symm (by rw [e,hz1])
  refine sU<|Sy.skip<|sB<|sP (pT g0 8)<|sS (fv a.z.val) (qk 0 8 4 U U AN) ?_
  obtain ⟨z2,hz2⟩:∃ z:Fp,z=AR a.z:=⟨_,rfl⟩
  refine sS (fv z2.val) (qf (by rw [hz2]; exact T9 a.z))<|sM 35 (fcs 0) (λg2=>?_)
  refine sw 2 U (fcs z2.val) (wA U)<|sA<|sS (fv z2.val) (qk 2 0 4 U U AN)<|sS (fv z2.val) (qk 2 0 4 U U AN) ?_
  obtain ⟨z3,hz3⟩:∃ z:Fp,z=z2*z2:=⟨_,rfl⟩
  refine sS (fv z3.val) (qf (by rw [hz3]; exact BZ z2 z2))<|sM 35 (fcs 0) (λg3=>?_)
  refine sw 3 U (fcs z3.val) (wA U)<|sH (λj=>j == 11) ?_
  refine sZ 0 U (pT g0 0)<|sD 1 U (fv a.x.val) (qk 0 0 4 U U AN)<|sD 2 U (fv z3.val) (qk 3 0 4 U U AN) ?_
  obtain ⟨z4,hz4⟩:∃ z:Fp,z=a.x*z3:=⟨_,rfl⟩
  refine sD 3 U (fv z4.val) (qf (by rw [hz4]; exact BZ a.x z3))<|sZ 4 U (pT g0 4)<|sD 5 U (fv a.y.val) (qk 0 4 4 U U AN)<|sD 6 U (fv z3.val) (qk 3 0 4 U U AN)<|sD 7 U (fv z2.val) (qk 2 0 4 U U AN) ?_
  obtain ⟨z5,hz5⟩:∃ z:Fp,z=z3*z2:=⟨_,rfl⟩
  refine sD 8 U (fv z5.val) (qf (by rw [hz5]; exact BZ z3 z2)) ?_
  obtain ⟨z6,hz6⟩:∃ z:Fp,z=a.y*z5:=⟨_,rfl⟩
  refine sD 9 U (fv z6.val) (qf (by rw [hz6]; exact BZ a.y z5))<|sZ 10 U (pv z4.val z6.val false)<|sx 11 U 1 U (pcs z4.val z6.val false) (wA U)<|sI<|Sy.ret ?_
  rw [show (ptv (ptJ a):Value)=pv z4.val z6.val false from by unfold ptJ; rw [if_neg eb1]; unfold ptv; simp only [hz6,hz5,hz4,hz3,hz2]]
  exact rc (v:=pv z4.val z6.val false) 1 U U AX
 ·have eb1:a.z=0:=(Fin.ext (of_decide_eq_true hb1.symm)).trans hz1
  refine sT<|sC<|sS (pv 0 0 true) (qf CC)<|sw 1 U (pcs 0 0 true) (wA U)<|sG<|Sy.ret<|Sy.then_ret ?_
  rw [show (ptv (ptJ a):Value)=pv 0 0 true from by unfold ptJ; rw [if_pos eb1]; rfl]
  exact rc (v:=pv 0 0 true) 1 U U AX
end Cu
end
section
section
open Go.RowKit Go.Lib
def MC:Value:=.agg mP7
theorem PQ:fv 115792089237316195423570985008687907853269984665640564039457584007908834671663=.agg #[.int .u64 18446744069414583343,.int .u64 18446744073709551615,.int .u64 18446744073709551615,.int .u64 18446744073709551615]:=rfl
theorem Cl (w:World):Calls Tryz.prog 75 #[] w λe w'=>e=.returned MC∧Below w.heap.size w w':=by
 go_enter Tryz.func75,Tryz.ntmps75
 go_wp2
 exact bodyPost_ret (results_cell_row U _ _ w.heap.size _ _ (0,0) _ U (heap_alloc_new w _) FT U kZ) rfl ⟨rfl,(Below.refl _ _).alloc (Nat.le_refl _) _⟩
theorem refOf_any (w:World) (n:Nat) (hn:n<(2^256)):Calls Tryz.prog 69 #[fv n] w λe w'=>e=.returned (fv n)∧Below w.heap.size w w':=by
 obtain ⟨a,b,c,d,fn⟩:=Ae n hn
 rw [fn]
 clear fn
 go_enter Tryz.func69,Tryz.ntmps69
 go_wp2
 exact bodyPost_ret (results_cell_row U _ _ (w.heap.size+1) _ _ (0,0) _ U (heap_alloc2_new w _ _) AM U kZ) rfl ⟨rfl,Ad w _ _⟩
theorem Kx (w:World) (n:Nat) (hn:n<(2^256)):Calls Tryz.prog 140 #[fv n] w λe w'=>e=.returned (fv n)∧Below w.heap.size w w':=by
 obtain ⟨a,b,c,d,fn⟩:=Ae n hn
 rw [fn]
 clear fn
 go_enter Tryz.func140,Tryz.ntmps140
 go_wp2
 exact bodyPost_ret (results_cell_row U _ _ (w.heap.size+1) _ _ (0,0) _ U (heap_alloc2_new w _ _) AN U kZ) rfl ⟨rfl,Ad w _ _⟩
theorem KJ {v1 v2:Value} (w:World) (x y:Nat) (h1:fv x=v1) (h2:fv y=v2) (hx:x<(2^256)) (hy:y<(2^256)):Calls Tryz.prog 108 #[v1,v2] w λe w'=>e=.returned (.bool (decide (x<y)))∧Below w.heap.size w w':=by
 subst h1 h2
 obtain ⟨x0,x1,x2,x3,a0,a1,a2,a3,ex,fx⟩:=Aw x hx
 obtain ⟨y0,y1,y2,y3,b0,b1,b2,b3,ey,fy⟩:=Aw y hy
 obtain ⟨r,hr⟩:=xE (decide (x<y))
 have t3:x3≠y3→r=decide ((x3:Int)<(y3:Int)):=λh=>by rw [hr]; congr 1; simp only [eq_iff_iff]; omega
 have t2:x3=y3→x2≠y2→r=decide ((x2:Int)<(y2:Int)):=λ_ h=>by rw [hr]; congr 1; simp only [eq_iff_iff]; omega
 have t1:x3=y3→x2=y2→x1≠y1→r=decide ((x1:Int)<(y1:Int)):=λ_ _ h=>by rw [hr]; congr 1; simp only [eq_iff_iff]; omega
 have t0:x3=y3→x2=y2→x1=y1→x0≠y0→r=decide ((x0:Int)<(y0:Int)):=λ_ _ _ h=>by rw [hr]; congr 1; simp only [eq_iff_iff]; omega
 have te:x3=y3→x2=y2→x1=y1→x0=y0→r=false:=λ_ _ _ _=>by rw [hr]; simp only [decide_eq_false_iff_not]; omega
 have HT:=Lib.hid (And.intro t3 (And.intro t2 (And.intro t1 (And.intro t0 te))))
 rw [fx,fy, ← hr]
 clear fx fy ex ey hx hy a0 a1 a2 a3 b0 b1 b2 b3 hr t3 t2 t1 t0 te
 go_enter Tryz.func108,Tryz.ntmps108
 go_wp2_with fail
 go_loopw [5] (λi wr=>Below w.heap.size w wr∧Blk wr w.heap.size 87 #[.int .u64 (x0:Int),.int .u64 (x1:Int),.int .u64 (x2:Int),.int .u64 (x3:Int)]∧Blk wr (w.heap.size+1) 87 #[.int .u64 (y0:Int),.int .u64 (y1:Int),.int .u64 (y2:Int),.int .u64 (y3:Int)]∧Hid ((i=.int .i64 3)∨(i=.int .i64 2∧x3=y3)∨(i=.int .i64 1∧x3=y3∧x2=y2)∨(i=.int .i64 0∧x3=y3∧x2=y2∧x1=y1)∨(i=.int .i64 (-1)∧x3=y3∧x2=y2∧x1=y1∧x0=y0))) (λi _=>(intOf i+1).toNat)
 case atStart=>exact ⟨Ad w _ _,(Blk.new w _ _).alloc _,AZ w _ _ _,Lib.hid (.inl U)⟩
 case round =>
  obtain ⟨hb,BX,BY,HI⟩:=hrel
  have lX:=BX.lt
  have lY:=BY.lt
  have qx0:wr.cell? ⟨w.heap.size,0,none⟩=some (.int .u64 (x0:Int)):=BX.cell 0
  have qy0:wr.cell? ⟨w.heap.size+1,0,none⟩=some (.int .u64 (y0:Int)):=BY.cell 0
  have qx1:wr.cell? ⟨w.heap.size,1,none⟩=some (.int .u64 (x1:Int)):=BX.cell 1
  have qy1:wr.cell? ⟨w.heap.size+1,1,none⟩=some (.int .u64 (y1:Int)):=BY.cell 1
  have qx2:wr.cell? ⟨w.heap.size,2,none⟩=some (.int .u64 (x2:Int)):=BX.cell 2
  have qy2:wr.cell? ⟨w.heap.size+1,2,none⟩=some (.int .u64 (y2:Int)):=BY.cell 2
  have qx3:wr.cell? ⟨w.heap.size,3,none⟩=some (.int .u64 (x3:Int)):=BX.cell 3
  have qy3:wr.cell? ⟨w.heap.size+1,3,none⟩=some (.int .u64 (y3:Int)):=BY.cell 3
  rcases HI.out with rfl | ⟨rfl,E⟩ | ⟨rfl,E⟩ | ⟨rfl,E⟩ | ⟨rfl,E⟩
  ·have hk:Hid (True):=Lib.hid trivial
   clear HI
   obtain ⟨b,hbd⟩:=xE (decide (x3≠y3))
   have hbb:(!((x3:Int) == (y3:Int)))=b:=by
    rw [hbd]
    by_cases h:x3=y3 <;> simp [h] <;> omega
   have HB:=Lib.hid hbd
   clear hbd
   go_wp2
   refine AJ (λ_=>false) kZ ?_
   try simp only [Act.put]
   refine tk 0 U ?_
   refine tk 1 U ?_
   try simp only [aPS]
   refine tkw 2 U (YieldsG.pure (v:=.int .u64 (x3:Int)) (by rfl) (λw9 h9=>by have hz:=(Below.cell (p:=⟨w.heap.size,3,none⟩) h9 lX).trans qx3; go_simp; first | done | simp [hz])) ?_
   try simp only [aPS]
   refine tk 3 U ?_
   refine tk 4 U ?_
   try simp only [aPS]
   refine tkw 5 U (YieldsG.pure (v:=.int .u64 (y3:Int)) (by rfl) (λw9 h9=>by have hz:=(Below.cell (p:=⟨w.heap.size+1,3,none⟩) h9 lY).trans qy3; go_simp; first | done | simp [hz])) ?_
   try simp only [aPS]
   refine tkw 6 U (YieldsG.pure (v:=.bool b) (by rfl) (λw9 h9=>by go_simp; congr 3; all_goals (rw [HB.out]; all_goals (by_cases h:x3=y3 <;> simp [h] <;> omega)))) ?_
   try simp only [aPS]
   refine AH kZ (λu hu=>?_)
   have hbu:=Below.gr hb hu
   have BXu:=Gr.blk hu BX
   have BYu:=Gr.blk hu BY
   cases b
   ·have hxy:x3=y3:=by
     have:=HB.out
     simpa using this
    have HXY:=Lib.hid hxy
    clear hxy
    go_wp2
    exact ⟨⟨hbu,BXu,BYu,Lib.hid (.inr (.inl ⟨rfl,HXY.out⟩))⟩,by decide⟩
   ·have hxy:x3≠y3:=by
     have:=HB.out
     simpa using this
    have hr2:=Lib.hid (HT.out.1 hxy)
    have lXu:=BXu.lt
    have lYu:=BYu.lt
    have px:u.cell? ⟨w.heap.size,3,none⟩=some (.int .u64 (x3:Int)):=BXu.cell 3
    have py:u.cell? ⟨w.heap.size+1,3,none⟩=some (.int .u64 (y3:Int)):=BYu.cell 3
    clear hxy hk HT
    go_wp2
    refine AJ (λ_=>false) kZ ?_
    try simp only [Act.put]
    refine tk 0 U ?_
    refine tk 1 U ?_
    try simp only [aPS]
    refine tkw 2 U (YieldsG.pure (v:=.int .u64 (x3:Int)) (by rfl) (λw9 h9=>by have hz:=(Below.cell (p:=⟨w.heap.size,3,none⟩) h9 lXu).trans px; go_simp; first | done | simp [hz])) ?_
    try simp only [aPS]
    refine tk 3 U ?_
    refine tk 4 U ?_
    try simp only [aPS]
    refine tkw 5 U (YieldsG.pure (v:=.int .u64 (y3:Int)) (by rfl) (λw9 h9=>by have hz:=(Below.cell (p:=⟨w.heap.size+1,3,none⟩) h9 lYu).trans py; go_simp; first | done | simp [hz])) ?_
    try simp only [aPS]
    refine tkw 6 U (YieldsG.pure (v:=.bool r) (by rfl) (λw9 h9=>by go_simp; congr 3; rw [hr2.out]; all_goals (apply decide_eq_decide.2; omega))) ?_
    try simp only [aPS]
    refine tk 7 U ?_
    try simp only [aPS]
    refine AH kZ (λu2 hu2=>?_)
    go_wp2
    go_ret
    exact ⟨rfl,Below.gr hbu hu2⟩
  ·have hk:Hid (x3=y3):=Lib.hid E
   clear HI E
   obtain ⟨b,hbd⟩:=xE (decide (x2≠y2))
   have hbb:(!((x2:Int) == (y2:Int)))=b:=by
    rw [hbd]
    by_cases h:x2=y2 <;> simp [h] <;> omega
   have HB:=Lib.hid hbd
   clear hbd
   go_wp2
   refine AJ (λ_=>false) kZ ?_
   try simp only [Act.put]
   refine tk 0 U ?_
   refine tk 1 U ?_
   try simp only [aPS]
   refine tkw 2 U (YieldsG.pure (v:=.int .u64 (x2:Int)) (by rfl) (λw9 h9=>by have hz:=(Below.cell (p:=⟨w.heap.size,2,none⟩) h9 lX).trans qx2; go_simp; first | done | simp [hz])) ?_
   try simp only [aPS]
   refine tk 3 U ?_
   refine tk 4 U ?_
   try simp only [aPS]
   refine tkw 5 U (YieldsG.pure (v:=.int .u64 (y2:Int)) (by rfl) (λw9 h9=>by have hz:=(Below.cell (p:=⟨w.heap.size+1,2,none⟩) h9 lY).trans qy2; go_simp; first | done | simp [hz])) ?_
   try simp only [aPS]
   refine tkw 6 U (YieldsG.pure (v:=.bool b) (by rfl) (λw9 h9=>by go_simp; congr 3; all_goals (rw [HB.out]; all_goals (by_cases h:x2=y2 <;> simp [h] <;> omega)))) ?_
   try simp only [aPS]
   refine AH kZ (λu hu=>?_)
   have hbu:=Below.gr hb hu
   have BXu:=Gr.blk hu BX
   have BYu:=Gr.blk hu BY
   cases b
   ·have hxy:x2=y2:=by
     have:=HB.out
     simpa using this
    have HXY:=Lib.hid hxy
    clear hxy
    go_wp2
    exact ⟨⟨hbu,BXu,BYu,Lib.hid (.inr (.inr (.inl ⟨rfl,hk.out,HXY.out⟩)))⟩,by decide⟩
   ·have hxy:x2≠y2:=by
     have:=HB.out
     simpa using this
    have hr2:=Lib.hid (HT.out.2.1 hk.out hxy)
    have lXu:=BXu.lt
    have lYu:=BYu.lt
    have px:u.cell? ⟨w.heap.size,2,none⟩=some (.int .u64 (x2:Int)):=BXu.cell 2
    have py:u.cell? ⟨w.heap.size+1,2,none⟩=some (.int .u64 (y2:Int)):=BYu.cell 2
    clear hxy hk HT
    go_wp2
    refine AJ (λ_=>false) kZ ?_
    try simp only [Act.put]
    refine tk 0 U ?_
    refine tk 1 U ?_
    try simp only [aPS]
    refine tkw 2 U (YieldsG.pure (v:=.int .u64 (x2:Int)) (by rfl) (λw9 h9=>by have hz:=(Below.cell (p:=⟨w.heap.size,2,none⟩) h9 lXu).trans px; go_simp; first | done | simp [hz])) ?_
    try simp only [aPS]
    refine tk 3 U ?_
    refine tk 4 U ?_
    try simp only [aPS]
    refine tkw 5 U (YieldsG.pure (v:=.int .u64 (y2:Int)) (by rfl) (λw9 h9=>by have hz:=(Below.cell (p:=⟨w.heap.size+1,2,none⟩) h9 lYu).trans py; go_simp; first | done | simp [hz])) ?_
    try simp only [aPS]
    refine tkw 6 U (YieldsG.pure (v:=.bool r) (by rfl) (λw9 h9=>by go_simp; congr 3; rw [hr2.out]; all_goals (apply decide_eq_decide.2; omega))) ?_
    try simp only [aPS]
    refine tk 7 U ?_
    try simp only [aPS]
    refine AH kZ (λu2 hu2=>?_)
    go_wp2
    go_ret
    exact ⟨rfl,Below.gr hbu hu2⟩
  ·have hk:Hid (x3=y3∧x2=y2):=Lib.hid E
   clear HI E
   obtain ⟨b,hbd⟩:=xE (decide (x1≠y1))
   have hbb:(!((x1:Int) == (y1:Int)))=b:=by
    rw [hbd]
    by_cases h:x1=y1 <;> simp [h] <;> omega
   have HB:=Lib.hid hbd
   clear hbd
   go_wp2
   refine AJ (λ_=>false) kZ ?_
   try simp only [Act.put]
   refine tk 0 U ?_
   refine tk 1 U ?_
   try simp only [aPS]
   refine tkw 2 U (YieldsG.pure (v:=.int .u64 (x1:Int)) (by rfl) (λw9 h9=>by have hz:=(Below.cell (p:=⟨w.heap.size,1,none⟩) h9 lX).trans qx1; go_simp; first | done | simp [hz])) ?_
   try simp only [aPS]
   refine tk 3 U ?_
   refine tk 4 U ?_
   try simp only [aPS]
   refine tkw 5 U (YieldsG.pure (v:=.int .u64 (y1:Int)) (by rfl) (λw9 h9=>by have hz:=(Below.cell (p:=⟨w.heap.size+1,1,none⟩) h9 lY).trans qy1; go_simp; first | done | simp [hz])) ?_
   try simp only [aPS]
   refine tkw 6 U (YieldsG.pure (v:=.bool b) (by rfl) (λw9 h9=>by go_simp; congr 3; all_goals (rw [HB.out]; all_goals (by_cases h:x1=y1 <;> simp [h] <;> omega)))) ?_
   try simp only [aPS]
   refine AH kZ (λu hu=>?_)
   have hbu:=Below.gr hb hu
   have BXu:=Gr.blk hu BX
   have BYu:=Gr.blk hu BY
   cases b
   ·have hxy:x1=y1:=by
     have:=HB.out
     simpa using this
    have HXY:=Lib.hid hxy
    clear hxy
    go_wp2
    exact ⟨⟨hbu,BXu,BYu,Lib.hid (.inr (.inr (.inr (.inl ⟨rfl,hk.out.1,hk.out.2,HXY.out⟩))))⟩,by decide⟩
   ·have hxy:x1≠y1:=by
     have:=HB.out
     simpa using this
    have hr2:=Lib.hid (HT.out.2.2.1 hk.out.1 hk.out.2 hxy)
    have lXu:=BXu.lt
    have lYu:=BYu.lt
    have px:u.cell? ⟨w.heap.size,1,none⟩=some (.int .u64 (x1:Int)):=BXu.cell 1
    have py:u.cell? ⟨w.heap.size+1,1,none⟩=some (.int .u64 (y1:Int)):=BYu.cell 1
    clear hxy hk HT
    go_wp2
    refine AJ (λ_=>false) kZ ?_
    try simp only [Act.put]
    refine tk 0 U ?_
    refine tk 1 U ?_
    try simp only [aPS]
    refine tkw 2 U (YieldsG.pure (v:=.int .u64 (x1:Int)) (by rfl) (λw9 h9=>by have hz:=(Below.cell (p:=⟨w.heap.size,1,none⟩) h9 lXu).trans px; go_simp; first | done | simp [hz])) ?_
    try simp only [aPS]
    refine tk 3 U ?_
    refine tk 4 U ?_
    try simp only [aPS]
    refine tkw 5 U (YieldsG.pure (v:=.int .u64 (y1:Int)) (by rfl) (λw9 h9=>by have hz:=(Below.cell (p:=⟨w.heap.size+1,1,none⟩) h9 lYu).trans py; go_simp; first | done | simp [hz])) ?_
    try simp only [aPS]
    refine tkw 6 U (YieldsG.pure (v:=.bool r) (by rfl) (λw9 h9=>by go_simp; congr 3; rw [hr2.out]; all_goals (apply decide_eq_decide.2; omega))) ?_
    try simp only [aPS]
    refine tk 7 U ?_
    try simp only [aPS]
    refine AH kZ (λu2 hu2=>?_)
    go_wp2
    go_ret
    exact ⟨rfl,Below.gr hbu hu2⟩
  ·have hk:Hid (x3=y3∧x2=y2∧x1=y1):=Lib.hid E
   clear HI E
   obtain ⟨b,hbd⟩:=xE (decide (x0≠y0))
   have hbb:(!((x0:Int) == (y0:Int)))=b:=by
    rw [hbd]
    by_cases h:x0=y0 <;> simp [h] <;> omega
   have HB:=Lib.hid hbd
   clear hbd
   go_wp2
   refine AJ (λ_=>false) kZ ?_
   try simp only [Act.put]
   refine tk 0 U ?_
   refine tk 1 U ?_
   try simp only [aPS]
   refine tkw 2 U (YieldsG.pure (v:=.int .u64 (x0:Int)) (by rfl) (λw9 h9=>by have hz:=(Below.cell (p:=⟨w.heap.size,0,none⟩) h9 lX).trans qx0; go_simp; first | done | simp [hz])) ?_
   try simp only [aPS]
   refine tk 3 U ?_
   refine tk 4 U ?_
   try simp only [aPS]
   refine tkw 5 U (YieldsG.pure (v:=.int .u64 (y0:Int)) (by rfl) (λw9 h9=>by have hz:=(Below.cell (p:=⟨w.heap.size+1,0,none⟩) h9 lY).trans qy0; go_simp; first | done | simp [hz])) ?_
   try simp only [aPS]
   refine tkw 6 U (YieldsG.pure (v:=.bool b) (by rfl) (λw9 h9=>by go_simp; congr 3; all_goals (rw [HB.out]; all_goals (by_cases h:x0=y0 <;> simp [h] <;> omega)))) ?_
   try simp only [aPS]
   refine AH kZ (λu hu=>?_)
   have hbu:=Below.gr hb hu
   have BXu:=Gr.blk hu BX
   have BYu:=Gr.blk hu BY
   cases b
   ·have hxy:x0=y0:=by
     have:=HB.out
     simpa using this
    have HXY:=Lib.hid hxy
    clear hxy
    go_wp2
    exact ⟨⟨hbu,BXu,BYu,Lib.hid (.inr (.inr (.inr (.inr ⟨rfl,hk.out.1,hk.out.2.1,hk.out.2.2,HXY.out⟩))))⟩,by decide⟩
   ·have hxy:x0≠y0:=by
     have:=HB.out
     simpa using this
    have hr2:=Lib.hid (HT.out.2.2.2.1 hk.out.1 hk.out.2.1 hk.out.2.2 hxy)
    have lXu:=BXu.lt
    have lYu:=BYu.lt
    have px:u.cell? ⟨w.heap.size,0,none⟩=some (.int .u64 (x0:Int)):=BXu.cell 0
    have py:u.cell? ⟨w.heap.size+1,0,none⟩=some (.int .u64 (y0:Int)):=BYu.cell 0
    clear hxy hk HT
    go_wp2
    refine AJ (λ_=>false) kZ ?_
    try simp only [Act.put]
    refine tk 0 U ?_
    refine tk 1 U ?_
    try simp only [aPS]
    refine tkw 2 U (YieldsG.pure (v:=.int .u64 (x0:Int)) (by rfl) (λw9 h9=>by have hz:=(Below.cell (p:=⟨w.heap.size,0,none⟩) h9 lXu).trans px; go_simp; first | done | simp [hz])) ?_
    try simp only [aPS]
    refine tk 3 U ?_
    refine tk 4 U ?_
    try simp only [aPS]
    refine tkw 5 U (YieldsG.pure (v:=.int .u64 (y0:Int)) (by rfl) (λw9 h9=>by have hz:=(Below.cell (p:=⟨w.heap.size+1,0,none⟩) h9 lYu).trans py; go_simp; first | done | simp [hz])) ?_
    try simp only [aPS]
    refine tkw 6 U (YieldsG.pure (v:=.bool r) (by rfl) (λw9 h9=>by go_simp; congr 3; rw [hr2.out]; all_goals (apply decide_eq_decide.2; omega))) ?_
    try simp only [aPS]
    refine tk 7 U ?_
    try simp only [aPS]
    refine AH kZ (λu2 hu2=>?_)
    go_wp2
    go_ret
    exact ⟨rfl,Below.gr hbu hu2⟩
  ·have HR:Hid (r=false):=Lib.hid (HT.out.2.2.2.2 E.1 E.2.1 E.2.2.1 E.2.2.2)
   clear HI E
   go_wp2
   go_ret
   exact ⟨by rw [HR.out]; rfl,hb⟩
end
end
section
section
open Go.RowKit Go.Lib
theorem GK {v1 v2:Value} (w:World) (x y s k:Nat) (h1:fv x=v1) (h2:fv y=v2) (hx:x<(2^256)) (hy:y<(2^256)) (hs:s<(2^256)) (he:s+y=x+(2^256)*k):Calls Tryz.prog 109 #[v1,v2] w λe w'=>e=.returned (fv s)∧Below w.heap.size w w':=by
 subst h1 h2
 obtain ⟨x0,x1,x2,x3,a0,a1,a2,a3,ex,fx⟩:=Aw x hx
 obtain ⟨y0,y1,y2,y3,b0,b1,b2,b3,ey,fy⟩:=Aw y hy
 obtain ⟨s0,c0,d0,k0,e0,r0⟩:=Lk x0 y0 a0 b0
 obtain ⟨s1,c1,d1,k1,e1,r1⟩:=Dr x1 y1 c0 a1 b1 k0
 obtain ⟨s2,c2,d2,k2,e2,r2⟩:=Dr x2 y2 c1 a2 b2 k1
 obtain ⟨s3,c3,d3,k3,e3,r3⟩:=Dr x3 y3 c2 a3 b3 k2
 have fin:s0+18446744073709551616*s1+340282366920938463463374607431768211456*s2+6277101735386680763835789423207666416102355444464034512896*s3=s:=om
 have hfs:=DM s0 s1 s2 s3 d0 d1 d2 d3
 rw [fin] at hfs
 have Fd:=Lib.hid hfs
 rw [fx,fy]
 clear fx fy ex ey hx hy hs he a0 a1 a2 a3 b0 b1 b2 b3 d0 d1 d2 d3 k0 k1 k2 k3 e0 e1 e2 e3 fin hfs
 go_enter Tryz.func109,Tryz.ntmps109
 go_wp2_with fail
 go_loopw [5,6] (λbo i wr=>Below w.heap.size w wr∧Blk wr (w.heap.size+1) 87 #[.int .u64 (y0:Int),.int .u64 (y1:Int),.int .u64 (y2:Int),.int .u64 (y3:Int)]∧Blk wr (w.heap.size+2) 87 #[.int .u64 0,.int .u64 0,.int .u64 0,.int .u64 0]∧Hid ((i=.int .i64 0∧bo=.int .u64 0∧Blk wr w.heap.size 87 #[.int .u64 (x0:Int),.int .u64 (x1:Int),.int .u64 (x2:Int),.int .u64 (x3:Int)])∨(i=.int .i64 1∧bo=.int .u64 (c0:Int)∧Blk wr w.heap.size 87 #[.int .u64 (s0:Int),.int .u64 (x1:Int),.int .u64 (x2:Int),.int .u64 (x3:Int)])∨(i=.int .i64 2∧bo=.int .u64 (c1:Int)∧Blk wr w.heap.size 87 #[.int .u64 (s0:Int),.int .u64 (s1:Int),.int .u64 (x2:Int),.int .u64 (x3:Int)])∨(i=.int .i64 3∧bo=.int .u64 (c2:Int)∧Blk wr w.heap.size 87 #[.int .u64 (s0:Int),.int .u64 (s1:Int),.int .u64 (s2:Int),.int .u64 (x3:Int)])∨(i=.int .i64 4∧bo=.int .u64 (c3:Int)∧Blk wr w.heap.size 87 #[.int .u64 (s0:Int),.int .u64 (s1:Int),.int .u64 (s2:Int),.int .u64 (s3:Int)]))) (λ_ i _=>4 - (intOf i).toNat)
 case atStart=>exact ⟨Ac w _ _ _,(AZ w _ _ _).alloc _,Ax w _ _ _ _,Lib.hid (.inl ⟨rfl,rfl,((Blk.new w _ _).alloc _).alloc _⟩)⟩
 case round =>
  obtain ⟨hb,BY,BR,HI⟩:=hrel
  have lY:=BY.lt
  have lX:w.heap.size<wr.heap.size:=om
  have hsz:w.heap.size+2<wr.heap.size:=BR.lt
  rcases HI.out with ⟨rfl,rfl,BX⟩ | ⟨rfl,rfl,BX⟩ | ⟨rfl,rfl,BX⟩ | ⟨rfl,rfl,BX⟩ | ⟨rfl,rfl,BX⟩
  ·clear HI
   have px:wr.cell? ⟨w.heap.size,0,none⟩=some (.int .u64 (x0:Int)):=BX.cell 0
   have py:wr.cell? ⟨w.heap.size+1,0,none⟩=some (.int .u64 (y0:Int)):=BY.cell 0
   go_wp2
   refine AJ (λ_=>false) kZ ?_
   try simp only [Act.put]
   refine tk 0 U ?_
   refine tk 1 U ?_
   try simp only [aPS]
   refine tkw 2 U (YieldsG.pure (v:=.int .u64 (x0:Int)) (by rfl) (λw9 h9=>by have hz:=(Below.cell (p:=⟨w.heap.size,0,none⟩) h9 lX).trans px; go_simp; first | done | simp [hz])) ?_
   try simp only [aPS]
   refine tk 3 U ?_
   refine tk 4 U ?_
   try simp only [aPS]
   refine tkw 5 U (YieldsG.pure (v:=.int .u64 (y0:Int)) (by rfl) (λw9 h9=>by have hz:=(Below.cell (p:=⟨w.heap.size+1,0,none⟩) h9 lY).trans py; go_simp; first | done | simp [hz])) ?_
   try simp only [aPS]
   refine tk 6 U ?_
   try simp only [aPS]
   refine tkw 7 U (YieldsG.pure (v:=.tuple #[.int .u64 (s0:Int),.int .u64 (c0:Int)]) (by rfl) (λw9 h9=>by go_simp)) ?_
   try simp only [aPS]
   refine tk 8 U ?_
   refine tk 9 U ?_
   refine tk 10 U ?_
   refine tk 11 U ?_
   refine tk 12 U ?_
   try simp only [aPS]
   refine AH kZ (λu hu=>?_)
   have BXu:=Gr.blk hu BX
   have BYu:=Gr.blk hu BY
   have BRu:=Gr.blk hu BR
   have hbu:=Below.gr hb hu
   have pc:u.cell? ⟨w.heap.size,0,none⟩=some (.int .u64 (x0:Int)):=BXu.cell 0
   have pf:=BXu.frozen 0
   go_wp2
   refine ⟨⟨hbu.setCell (Nat.le_refl _) _,BYu.far (by show w.heap.size+1≠w.heap.size; omega) _,BRu.far (by show w.heap.size+2≠w.heap.size; omega) _,Lib.hid (.inr (.inl (⟨rfl,rfl,BXu.set_ 0 _⟩)))⟩,by decide⟩
  ·clear HI
   have px:wr.cell? ⟨w.heap.size,1,none⟩=some (.int .u64 (x1:Int)):=BX.cell 1
   have py:wr.cell? ⟨w.heap.size+1,1,none⟩=some (.int .u64 (y1:Int)):=BY.cell 1
   go_wp2
   refine AJ (λ_=>false) kZ ?_
   try simp only [Act.put]
   refine tk 0 U ?_
   refine tk 1 U ?_
   try simp only [aPS]
   refine tkw 2 U (YieldsG.pure (v:=.int .u64 (x1:Int)) (by rfl) (λw9 h9=>by have hz:=(Below.cell (p:=⟨w.heap.size,1,none⟩) h9 lX).trans px; go_simp; first | done | simp [hz])) ?_
   try simp only [aPS]
   refine tk 3 U ?_
   refine tk 4 U ?_
   try simp only [aPS]
   refine tkw 5 U (YieldsG.pure (v:=.int .u64 (y1:Int)) (by rfl) (λw9 h9=>by have hz:=(Below.cell (p:=⟨w.heap.size+1,1,none⟩) h9 lY).trans py; go_simp; first | done | simp [hz])) ?_
   try simp only [aPS]
   refine tk 6 U ?_
   try simp only [aPS]
   refine tkw 7 U (YieldsG.pure (v:=.tuple #[.int .u64 (s1:Int),.int .u64 (c1:Int)]) (by rfl) (λw9 h9=>by go_simp)) ?_
   try simp only [aPS]
   refine tk 8 U ?_
   refine tk 9 U ?_
   refine tk 10 U ?_
   refine tk 11 U ?_
   refine tk 12 U ?_
   try simp only [aPS]
   refine AH kZ (λu hu=>?_)
   have BXu:=Gr.blk hu BX
   have BYu:=Gr.blk hu BY
   have BRu:=Gr.blk hu BR
   have hbu:=Below.gr hb hu
   have pc:u.cell? ⟨w.heap.size,1,none⟩=some (.int .u64 (x1:Int)):=BXu.cell 1
   have pf:=BXu.frozen 1
   go_wp2
   refine ⟨⟨hbu.setCell (Nat.le_refl _) _,BYu.far (by show w.heap.size+1≠w.heap.size; omega) _,BRu.far (by show w.heap.size+2≠w.heap.size; omega) _,Lib.hid (.inr (.inr (.inl (⟨rfl,rfl,BXu.set_ 1 _⟩))))⟩,by decide⟩
  ·clear HI
   have px:wr.cell? ⟨w.heap.size,2,none⟩=some (.int .u64 (x2:Int)):=BX.cell 2
   have py:wr.cell? ⟨w.heap.size+1,2,none⟩=some (.int .u64 (y2:Int)):=BY.cell 2
   go_wp2
   refine AJ (λ_=>false) kZ ?_
   try simp only [Act.put]
   refine tk 0 U ?_
   refine tk 1 U ?_
   try simp only [aPS]
   refine tkw 2 U (YieldsG.pure (v:=.int .u64 (x2:Int)) (by rfl) (λw9 h9=>by have hz:=(Below.cell (p:=⟨w.heap.size,2,none⟩) h9 lX).trans px; go_simp; first | done | simp [hz])) ?_
   try simp only [aPS]
   refine tk 3 U ?_
   refine tk 4 U ?_
   try simp only [aPS]
   refine tkw 5 U (YieldsG.pure (v:=.int .u64 (y2:Int)) (by rfl) (λw9 h9=>by have hz:=(Below.cell (p:=⟨w.heap.size+1,2,none⟩) h9 lY).trans py; go_simp; first | done | simp [hz])) ?_
   try simp only [aPS]
   refine tk 6 U ?_
   try simp only [aPS]
   refine tkw 7 U (YieldsG.pure (v:=.tuple #[.int .u64 (s2:Int),.int .u64 (c2:Int)]) (by rfl) (λw9 h9=>by go_simp)) ?_
   try simp only [aPS]
   refine tk 8 U ?_
   refine tk 9 U ?_
   refine tk 10 U ?_
   refine tk 11 U ?_
   refine tk 12 U ?_
   try simp only [aPS]
   refine AH kZ (λu hu=>?_)
   have BXu:=Gr.blk hu BX
   have BYu:=Gr.blk hu BY
   have BRu:=Gr.blk hu BR
   have hbu:=Below.gr hb hu
   have pc:u.cell? ⟨w.heap.size,2,none⟩=some (.int .u64 (x2:Int)):=BXu.cell 2
   have pf:=BXu.frozen 2
   go_wp2
   refine ⟨⟨hbu.setCell (Nat.le_refl _) _,BYu.far (by show w.heap.size+1≠w.heap.size; omega) _,BRu.far (by show w.heap.size+2≠w.heap.size; omega) _,Lib.hid (.inr (.inr (.inr (.inl (⟨rfl,rfl,BXu.set_ 2 _⟩)))))⟩,by decide⟩
  ·clear HI
   have px:wr.cell? ⟨w.heap.size,3,none⟩=some (.int .u64 (x3:Int)):=BX.cell 3
   have py:wr.cell? ⟨w.heap.size+1,3,none⟩=some (.int .u64 (y3:Int)):=BY.cell 3
   go_wp2
   refine AJ (λ_=>false) kZ ?_
   try simp only [Act.put]
   refine tk 0 U ?_
   refine tk 1 U ?_
   try simp only [aPS]
   refine tkw 2 U (YieldsG.pure (v:=.int .u64 (x3:Int)) (by rfl) (λw9 h9=>by have hz:=(Below.cell (p:=⟨w.heap.size,3,none⟩) h9 lX).trans px; go_simp; first | done | simp [hz])) ?_
   try simp only [aPS]
   refine tk 3 U ?_
   refine tk 4 U ?_
   try simp only [aPS]
   refine tkw 5 U (YieldsG.pure (v:=.int .u64 (y3:Int)) (by rfl) (λw9 h9=>by have hz:=(Below.cell (p:=⟨w.heap.size+1,3,none⟩) h9 lY).trans py; go_simp; first | done | simp [hz])) ?_
   try simp only [aPS]
   refine tk 6 U ?_
   try simp only [aPS]
   refine tkw 7 U (YieldsG.pure (v:=.tuple #[.int .u64 (s3:Int),.int .u64 (c3:Int)]) (by rfl) (λw9 h9=>by go_simp)) ?_
   try simp only [aPS]
   refine tk 8 U ?_
   refine tk 9 U ?_
   refine tk 10 U ?_
   refine tk 11 U ?_
   refine tk 12 U ?_
   try simp only [aPS]
   refine AH kZ (λu hu=>?_)
   have BXu:=Gr.blk hu BX
   have BYu:=Gr.blk hu BY
   have BRu:=Gr.blk hu BR
   have hbu:=Below.gr hb hu
   have pc:u.cell? ⟨w.heap.size,3,none⟩=some (.int .u64 (x3:Int)):=BXu.cell 3
   have pf:=BXu.frozen 3
   go_wp2
   refine ⟨⟨hbu.setCell (Nat.le_refl _) _,BYu.far (by show w.heap.size+1≠w.heap.size; omega) _,BRu.far (by show w.heap.size+2≠w.heap.size; omega) _,Lib.hid (.inr (.inr (.inr (.inr (⟨rfl,rfl,BXu.set_ 3 _⟩)))))⟩,by decide⟩
  ·clear HI
   have BS:=BX.eq_ (Bc Fd.out.symm).symm
   go_wp2_with (first | ((with_reducible refine AD (d:=some 28) ?_); refine AB U _ _ U w.heap.size rfl s _ _ _ BS (AU s) AM U kZ ?_) | ((with_reducible refine AE ?_); refine AA U _ _ _ U (w.heap.size+2) (fcs s) U U _ _ BR kZ (by rfl) (AG _) ?_; intro w9 hL9 hB9 hK9))
   exact bodyPost_ret (results_cell_row U _ _ (w.heap.size+2) _ _ (0,0) _ U hL9 AM U kZ) rfl ⟨rfl,hb.trans (hB9 _ om)⟩
theorem DA {w:World} {g:Nat} {t:TypeId} {a b c d:Value} {r:List Value} (h:Blk w g t (a::b::c::d::r).toArray):w.rangeAt g 0 [a,b,c,d]:=λj v hj=>by
 rw [Nat.zero_add,h.cell]
 match j,hj with
 | 0,hj=>simpa using hj
 | 1,hj=>simpa using hj
 | 2,hj=>simpa using hj
 | 3,hj=>simpa using hj
 | j+4,hj=>simp at hj
theorem CF {P:Program} {ops:Array Oper} {rest:List Oper} {o:Oper} {a:Act} {w:World} {Q:Exit→Act→World→Prop} (hgd:o.guard=none) (ty:TypeId) (x:Operand) (ho:o.op=.load ty x)
  (g:Nat) (hx:a.eval x=pT g 0) (n:Nat) (cs:List Value) (d:TypeDesc) (hr:w.rangeAt g 0 cs) (hf:fv n=.agg cs.toArray)
  (hu:P.underlying ty=some d) (hd:d.isRow=true) (hi:(P.info? ty).map (·.size)=some cs.length)
  (h:wpList P ops Q rest (a.put o.dst (fv n)) w):wpList P ops Q (o::rest) a w :=
 wpList_plain hgd λK hK=>by
  have hl:=run_loadVar_mid (P:=P) w g 0 ty cs d hr hu hd hi
  unfold Oper.wp execOp
  simp only [ho,hx,Instr.loadAt,Instr.sureAddr,Sem.run_bind,Sem.run_pure,Result.andThen_ok,hl]
  rw [← hf]
  exact hK _ _ h
theorem normR_any (w:World) (x:Nat) (hx:x<(2^256)):Calls Tryz.prog 49 #[MC,fv x] w λe w'=>e=.returned (fv (x%pM))∧Below w.heap.size w w':=by
 obtain ⟨z,hz⟩:=xE (x%pM)
 obtain ⟨p,hp⟩:∃ p,p=115792089237316195423570985008687907853269984665640564039457584007908834671663:=⟨_,rfl⟩
 have hpl:p<(2^256):=om
 obtain ⟨b,hb⟩:=xE (decide (x<p))
 have cb:∀ w,Calls Tryz.prog 108 #[fv x,fv p] w λe w'=>e=.returned (.bool b)∧Below w.heap.size w w':=by
  intro w; rw [hb]; exact KJ w x p U U hx hpl
 have t1:b=true→z=x:=λh=>by
  rw [hb] at h
  rw [hz]
  exact Nat.mod_eq_of_lt (by rw [Er, ← hp]; simpa using h)
 have cm:b=false→∀ w,Calls Tryz.prog 109 #[fv x,fv p] w λe w'=>e=.returned (fv z)∧Below w.heap.size w w':=λh w=>by
  rw [hb] at h
  have hle:¬ x<p:=by simpa using h
  have hzx:z+p=x:=by rw [hz,G5 x hx,if_neg om]; omega
  exact GK w x p z 0 U U hx hpl om om
 have hpc:fv p=.agg #[.int .u64 18446744069414583343,.int .u64 18446744073709551615,.int .u64 18446744073709551615,.int .u64 18446744073709551615]:=by rw [hp]; exact PQ
 obtain ⟨x0,x1,x2,x3,fx⟩:=Ae x hx
 have FX:=Lib.hid fx
 have FP:=Lib.hid hpc
 rw [fx, ← hz]
 unfold MC
 clear fx hpc hx hz hp hpl hb
 go_enter Tryz.func49,Tryz.ntmps49
 go_wp2_with (first | ((with_reducible refine AD (d:=some 6) ?_); refine AB U _ _ U (w.heap.size+1) rfl x _ _ _ ((AZ w _ _ _).alloc _) FX.out AM U kZ ?_) | ((with_reducible refine AD (d:=some 8) ?_); refine CF U _ _ U w.heap.size U p [.int .u64 18446744069414583343,.int .u64 18446744073709551615,.int .u64 18446744073709551615,.int .u64 18446744073709551615] _ (DA (((Blk.new w _ _).alloc _).alloc _)) FP.out AM U kZ ?_))
 refine (cb _).mono ?_
 rintro e w1 ⟨rfl,k1⟩
 have BM:Blk w1 w.heap.size 91 _:=Gr.blk k1 (((Blk.new w _ _).alloc _).alloc _)
 have BX:Blk w1 (w.heap.size+1) 87 _:=Gr.blk k1 ((AZ w _ _ _).alloc _)
 have BR:Blk w1 (w.heap.size+2) 87 _:=Gr.blk k1 (Ax w _ _ _ _)
 have hB:=Below.gr (Ac w _ _ _) k1
 clear k1 cb
 cases b
 ·have cmm:=cm U
  clear cm t1
  go_wp2_with (first | ((with_reducible refine AD (d:=some 12) ?_); refine AB U _ _ U (w.heap.size+1) rfl x _ _ _ BX FX.out AM U kZ ?_) | ((with_reducible refine AD (d:=some 14) ?_); refine CF U _ _ U w.heap.size U p [.int .u64 18446744069414583343,.int .u64 18446744073709551615,.int .u64 18446744073709551615,.int .u64 18446744073709551615] _ (DA BM) FP.out AM U kZ ?_))
  refine (cmm _).mono ?_
  rintro e w2 ⟨rfl,k2⟩
  have BR2:=Gr.blk k2 BR
  have hB2:=Below.gr hB k2
  clear k2 cmm
  go_wp2_with ((with_reducible refine AE ?_); refine AA U _ _ _ U (w.heap.size+2) (fcs z) U U _ _ BR2 kZ (by rfl) (AG _) ?_; intro w9 hL9 hB9 hK9)
  exact bodyPost_ret (results_cell_row U _ _ (w.heap.size+2) _ _ (0,0) _ U hL9 AM U kZ) rfl ⟨rfl,hB2.trans (hB9 _ om)⟩
 ·have HZX:=Lib.hid (t1 U)
  clear t1 cm
  go_wp2_with (first | ((with_reducible refine AD (d:=some 11) ?_); refine AB U _ _ U (w.heap.size+1) rfl x _ _ _ BX FX.out AM U kZ ?_) | ((with_reducible refine AE ?_); refine AA U _ _ _ U (w.heap.size+2) (fcs x) U U _ _ BR kZ (by rfl) (AG _) ?_; intro w9 hL9 hB9 hK9))
  exact bodyPost_ret (results_cell_row U _ _ (w.heap.size+2) _ _ (0,0) _ U hL9 AM U kZ) rfl ⟨by rw [HZX.out]; rfl,hB.trans (hB9 _ om)⟩
end
end
section
namespace Sy
open Go.RowKit
section
variable {P:Program} {w0:Base} {n:Nat} {Q:Exit→Act→World→Prop} {F:AO} {L:AC} {ops:Array Oper} {o:Oper} {l:List Oper} {ex:Nat→Bool} {fuel:Nat} {listed:Array Bool}
def WritesV (P:Program) (w0:Base) (F:AO) (L:AC) (o:Oper) (g:Nat) (t:TypeId) (cs':Array Value) (v:Value):Prop :=
 ∀ w,St w0 w L→∃ w',(execOp (evF F) o).run P w=.ok (.value v) w'∧w.grownBy w' (some g)∧Blk w' g t cs'
theorem writeV (hg:Bv ops n F o=true) (i g:Nat) (t:TypeId) (cs cs':Array Value) (v:Value) (hL:L[i]? = some (g,t,cs)) (hm:WritesV P w0 F L o g t cs' v) (h:wpS P w0 n ops Q (Bo F o.dst v) (L.set i (g,t,cs')) l):wpS P w0 n ops Q F L (o::l):=λa w ha hw=>by
 obtain ⟨g1,_,g3,_⟩:=AQ hg
 obtain ⟨w',h1,h2,h3⟩:=hm w hw
 refine wpList_step λK hK=>?_
 rw [if_pos (ha.wanted g1)]
 unfold Oper.wp
 rw [Ao hg ha,h1]
 exact hK _ _ (h _ _ (ha.put g3 _) (hw.set hL h2 h3))
theorem writeVD (k:Nat) {oi:Oper} (hi0:ops.toList[k]? = some oi) (hr:Region.ready .any ops listed=[k]) (hex:ex k=true) (hg:Bv ops n F oi=true) (i g:Nat) (t:TypeId) (cs cs':Array Value) (v:Value) (hL:L[i]? = some (g,t,cs)) (hm:WritesV P w0 F L oi g t cs' v)
  (h:wpD P w0 n ops Q ex (Bo F oi.dst v) (L.set i (g,t,cs')) fuel (listed.setIfInBounds k true)):wpD P w0 n ops Q ex F L (fuel+1) listed:=λa w ha hw =>
 Al k hi0 hr (ha.wanted (AQ hg).1) λw1 h1 K hK=>by
  obtain ⟨w',e1,e2,e3⟩:=hm w1 (hw.gr h1)
  unfold Oper.wp
  rw [Ao hg ha,e1]
  exact hK _ _ (λe=>by rw [hex] at e; cases e) (h _ _ (ha.put (AQ hg).2.2.1 _) ((hw.gr h1).set hL e2 e3))
theorem WritesV.copy (d s:Operand) (dT sT e:TypeId) (ho:o.op=.call { callee:=.builtin .copy,args:=#[d,s],argTypes:=#[dT,sT] }) (hu:P.underlying dT=some (.slice e)) (hsz:(P.info? e).map (·.size)=some 1)
  (i g f dl dc:Nat) (t:TypeId) (cs cs':Array Value) (hL:L[i]? = some (g,t,cs)) (hd:evF F d=.slice (some ⟨g,f,none⟩) dl dc)
  (j gx fx sl sc:Nat) (tx:TypeId) (cx:Array Value) (hLx:L[j]? = some (gx,tx,cx)) (hs:evF F s=.slice (some ⟨gx,fx,none⟩) sl sc)
  (news:List Value) (hnews:(cx.toList.drop fx).take (Nat.min sl dl)=news) (hn:news.length=Nat.min sl dl) (h1:∀ u∈news,u.oneCell'=true) (hfit:f+news.length≤cs.size) (hcs:BI cs f news=cs'):WritesV P w0 F L o g t cs' (goInt news.length):=λw hw=>by
 have hb:=hw.get hL
 have hbx:=hw.get hLx
 have hth:=hb.there f news.length hfit
 have hr:=run_copy_cells (P:=P) w dT sT o.type e g f dl dc ⟨gx,fx,none⟩ sl sc news hu hsz hn (λq u hq=>by
  rw [Bm,hbx.cell]
  rw [← hnews] at hq
  have hlt:q<Nat.min sl dl:=by
   have h:=(List.getElem?_eq_some_iff.1 hq).1
   rw [List.length_take] at h
   exact Nat.lt_of_lt_of_le h (Nat.min_le_left _ _)
  rw [List.getElem?_take_of_lt hlt,List.getElem?_drop] at hq
  simpa using hq) (λq hq=>(hth q hq).1) (λq hq=>(hth q hq).2) h1
 refine ⟨_,?_,Ca news f w (World.grownBy.refl w (some g)),hcs ▸ Blk.setCells news f w cs hb⟩
 unfold execOp
 simp only [ho,resolve,invoke,builtin,Sem.run_bind,Sem.run_pure,Result.andThen_ok,List.map_toArray,List.map_cons,List.map_nil,hs,hd,hr]
theorem Ga (w:World) (t:TypeId) (g f len cap k:Nat) (ht:P.underlying t=some (.slice (P.elem t))) (hsz:∀ w,(sizeOf (P.elem t)).run P w=.ok 1 w) (hk:k<len) (hlen:len≤cap) :
  (Instr.sliceAt t (.slice (some ⟨g,f,none⟩) len cap) (some (.int .i64 k)) none none).run P w=.ok (.slice (some ⟨g,f+k,none⟩) (len - k) (cap - k)) w:=by
 have hne:cap≠k:=om
 rw [run_sliceAt_slice w t _ _ _ _ ht,run_slice_l w t (some ⟨g,f,none⟩) len cap ht .i64 k om om]
 simp [hsz,sliced,hne,Bm,Result.andThen]
theorem PO (w:World) (t:TypeId) (g f len cap k:Nat) (ht:P.underlying t=some (.slice (P.elem t))) (hsz:∀ w,(sizeOf (P.elem t)).run P w=.ok 1 w) (hk:k<len) :
  (Instr.indexAt t (.slice (some ⟨g,f,none⟩) len cap) (.int .i64 k)).run P w=.ok (pT g (f+k)) w:=by
 have h0:(0:Int)≤k:=om
 simp [Instr.indexAt,asIntOf,run_underlying ht,hsz,h0,hk,Bm,Result.andThen]
theorem Uz (w:World) (t e:TypeId) (A:Option Addr) (m len cap:Nat) (ht:P.underlying t=some (.array m e)) (hk:m≤len):(Instr.arrayAt t (.slice A len cap)).run P w=.ok (.pointer A) w:=by
 have h1:¬ len<m:=om
 simp [Instr.arrayAt,run_underlying ht,h1,Result.andThen]
theorem SD (t:TypeId) (x kx:Operand) (g f len cap k:Nat) (ho:o.op=.slice t x (some kx) none none) (hx:evF F x=.slice (some ⟨g,f,none⟩) len cap) (hkx:evF F kx=.int .i64 k) (ht:P.underlying t=some (.slice (P.elem t))) (hsz:∀ w,(sizeOf (P.elem t)).run P w=.ok 1 w) (hk:k<len) (hlen:len≤cap) (w:World) :
  (execOp (evF F) o).run P w=.ok (.value (.slice (some ⟨g,f+k,none⟩) (len - k) (cap - k))) w:=by
 unfold execOp
 simp only [ho,hx,hkx,Option.map_some,Option.map_none,Ga w t g f len cap k ht hsz hk hlen,Sem.run_bind,Sem.run_pure,Result.andThen_ok]
theorem PW (t:TypeId) (x kx:Operand) (g f len cap k:Nat) (ho:o.op=.indexAddr t x kx) (hx:evF F x=.slice (some ⟨g,f,none⟩) len cap) (hkx:evF F kx=.int .i64 k) (ht:P.underlying t=some (.slice (P.elem t))) (hsz:∀ w,(sizeOf (P.elem t)).run P w=.ok 1 w) (hk:k<len) (w:World) :
  (execOp (evF F) o).run P w=.ok (.value (pT g (f+k))) w:=by
 unfold execOp
 simp only [ho,hx,hkx,PO w t g f len cap k ht hsz hk,Sem.run_bind,Sem.run_pure,Result.andThen_ok]
theorem EE (t e:TypeId) (x:Operand) (A:Option Addr) (m len cap:Nat) (ho:o.op=.sliceToArrayPointer t x) (hx:evF F x=.slice A len cap) (ht:P.underlying t=some (.array m e)) (hk:m≤len) (w:World) :
  (execOp (evF F) o).run P w=.ok (.value (.pointer A)) w:=by
 unfold execOp
 simp only [ho,hx,Uz w t e A m len cap ht hk,Sem.run_bind,Sem.run_pure,Result.andThen_ok]
def SrcL (w:World) (g off:Nat) (b:AF):Prop:=g<w.heap.size∧∀ (k:Nat) (cs:List Value),cs=((b.drop k).take cs.length).map bv→w.rangeAt g (off+k) cs
theorem SrcL.of {w:World} {g off:Nat} {b:AF} (hg:g<w.heap.size) (h:∀ j u,b[j]? = some u→w.cell? ⟨g,off+j,none⟩=some (bv u)):SrcL w g off b :=
 ⟨hg,λk cs hc j v hj=>by
  rw [hc,List.getElem?_map] at hj
  obtain ⟨u,hu,rfl⟩:=Option.map_eq_some_iff.1 hj
  have hlt:j<cs.length:=by
   have h:=(List.getElem?_eq_some_iff.1 hu).1
   rw [List.length_take] at h
   exact Nat.lt_of_lt_of_le h (Nat.min_le_left _ _)
  rw [List.getElem?_take_of_lt hlt,List.getElem?_drop] at hu
  rw [Nat.add_assoc]
  exact h (k+j) u hu⟩
theorem VV {w:World} {g off:Nat} {b:AF} (h:SrcL w g off b) (k:Nat) (v:Value) (hv:[v]=((b.drop k).take 1).map bv):w.cell? ⟨g,off+k,none⟩=some v:=by
 have:=h.2 k [v] hv 0 v U
 simpa using this
theorem I9 (l:List Value) (h:l.all (·.oneCell')=true):∀ u∈l,u.oneCell'=true:=λu hu=>List.all_eq_true.1 h u hu
end
theorem DV:∀ (vs:List Value) (o:Nat) (cs:Array Value),o+vs.length≤cs.size→BI cs o vs=(cs.toList.take o++(vs++cs.toList.drop (o+vs.length))).toArray
 | [],o,cs,_=>by simp [BI,List.take_append_drop]
 | v::r,o,cs,h=>by
  simp only [List.length_cons] at h
  rw [BI,DV r (o+1) _ (by simp; omega)]
  congr 1
  have hlt:o<cs.toList.length:=by simp; omega
  rw [Array.toList_setIfInBounds,List.take_set,List.take_add_one,List.drop_set_of_lt om,List.getElem?_eq_getElem hlt,List.set_append_right _ _ (by simp; omega)]
  have e:o+1+r.length=o+(r.length+1):=om
  simp [Nat.min_eq_left (Nat.le_of_lt (show o<cs.size by omega)),e]
def AL (f:Nat→List Value) (n:Nat):List Value:=(List.range n).flatMap f
section
variable {s:Nat} {f:Nat→List Value}
theorem Dw (n:Nat):AL f (n+1)=AL f n++f n:=by simp [AL,List.range_succ]
theorem Am (h:∀ k,(f k).length=s):∀ n,(AL f n).length=n*s
 | 0=>by simp [AL]
 | n+1=>by rw [Dw,List.length_append,Am h n,h,Nat.succ_mul]
theorem Hj (k:Nat):∀ m,AL f (k+m)=AL f k++AL (λj=>f (k+j)) m
 | 0=>by simp [AL]
 | m+1=>by rw [← Nat.add_assoc,Dw,Hj k m,Dw,List.append_assoc]
theorem ED {n k:Nat} (hk:k<n):AL f n=AL f k++(f k++AL (λj=>f (k+1+j)) (n - k - 1)):=by
 obtain ⟨m,rfl⟩:∃ m,n=k+1+m:=⟨n - k - 1,by omega⟩
 rw [Hj,Dw,List.append_assoc,show k+1+m - k - 1=m by omega]
theorem CD {g:Nat→List Value} {n:Nat} (h:∀ k,k<n→f k=g k):AL f n=AL g n:=by
 unfold AL
 rw [List.flatMap_def,List.flatMap_def]
 exact congrArg List.flatten (List.map_congr_left λk hk=>h k (List.mem_range.1 hk))
theorem FD (h:∀ k,(f k).length=s) {n k o:Nat} (hk:k<n) (ho:o=k*s):((AL f n).drop o).take s=f k:=by
 subst ho
 rw [ED hk,List.drop_append_of_le_length (by rw [Am h]; exact Nat.le_refl _),List.drop_eq_nil_of_le (by rw [Am h]; exact Nat.le_refl _),List.nil_append,List.take_append_of_le_length (by rw [h]; exact Nat.le_refl _),List.take_of_length_le (by rw [h]; exact Nat.le_refl _)]
theorem Wi (h:∀ k,(f k).length=s) {n k o e m:Nat} (hk:k<n) (ho:o=k*s+e) (hm:e+m≤s):((AL f n).drop o).take m=((f k).drop e).take m:=by
 subst ho
 rw [← FD h hk U,List.drop_take,List.drop_drop,List.take_take,Nat.min_eq_left om]
theorem J' (h:∀ k,(f k).length=s) {v:List Value} (hv:v.length=s) {n k o:Nat} (hk:k<n) (ho:o=k*s):BI (AL f n).toArray o v=(AL (λj=>if j=k then v else f j) n).toArray:=by
 subst ho
 have hl:=Am h (f:=f)
 have hks:k*s+s≤n*s:=by rw [← Nat.succ_mul]; exact Nat.mul_le_mul_right s hk
 rw [DV _ _ _ (by simp [hl,hv]; exact hks)]
 congr 1
 rw [ED hk,ED (f:=λj=>if j=k then v else f j) hk]
 congr 1
 ·show (AL f k++_).take (k*s)=_
  rw [List.take_append_of_le_length (by rw [hl]; exact Nat.le_refl _),List.take_of_length_le (by rw [hl]; exact Nat.le_refl _)]
  exact CD λj hj=>by rw [if_neg om]
 ·simp only [if_true]
  congr 1
  show (AL f k++(f k++_)).drop (k*s+v.length)=_
  rw [← List.append_assoc,List.drop_append_of_le_length (by rw [List.length_append,hl,h,hv]; exact Nat.le_refl _),List.drop_eq_nil_of_le (by rw [List.length_append,hl,h,hv]; exact Nat.le_refl _),List.nil_append]
  exact CD λj hj=>by rw [if_neg om]
theorem Hh (h:∀ k,(f k).length=s) (n:Nat) (hf:∀ k, ∀ u∈f k,u.oneCell'=true):(AL f n).toArray.all (·.oneCell')=true:=by
 rw [List.all_toArray,List.all_eq_true]
 intro u hu
 unfold AL at hu
 obtain ⟨k,_,hk⟩:=List.mem_flatMap.1 hu
 exact hf k u hk
theorem Rz {f:Nat→Value} {n k:Nat} (hk:k<n) (v:Value):(AL (λj=>[f j]) n).toArray.setIfInBounds k v=(AL (λj=>[if j=k then v else f j]) n).toArray:=by
 have h:=J' (s:=1) (f:=λj=>[f j]) (v:=[v]) (λ_=>rfl) rfl hk (Nat.mul_one k).symm
 simp only [BI] at h
 rw [h]
 congr 1
 exact CD λj _=>by by_cases e:j=k <;> simp [e]
theorem R5 {f:Nat→Value} {n k:Nat} (hk:k<n):(AL (λj=>[f j]) n).toArray[k]? = some (f k):=by
 have h:=FD (s:=1) (f:=λj=>[f j]) (λ_=>rfl) hk (Nat.mul_one k).symm
 rw [List.getElem?_toArray]
 have h2:=congrArg (·[0]?) h
 simpa [List.getElem?_take,List.getElem?_drop] using h2
theorem PR {f:Nat→Value} {n:Nat}:(AL (λj=>[f j]) n).toArray.size=n:=by
 have:=Am (s:=1) (f:=λj=>[f j]) (λ_=>rfl) n
 simpa using this
theorem PS (c:List Value) (hc:c.length=s) (hs:0<s) (n:Nat) (z:Array Value) (hz:z.toList=c):(AL (λ_=>c) n).toArray=madeCells z (n*s):=by
 have hzs:z.size=s:=by rw [← Array.length_toList,hz,hc]
 apply Array.ext'
 unfold madeCells
 apply List.ext_getElem?
 intro i
 rw [Array.toList_map,Array.toList_range,List.getElem?_map]
 by_cases hi:i<n*s
 ·have hk:i / s<n:=Nat.div_lt_of_lt_mul (by rw [Nat.mul_comm]; exact hi)
  have h:=Wi (s:=s) (f:=λ_=>c) (λ_=>hc) (n:=n) (k:=i / s) (o:=i) (e:=i%s) (m:=1) hk (by rw [Nat.mul_comm]; exact (Nat.div_add_mod i s).symm) (Nat.mod_lt _ hs)
  have h2:=congrArg (·[0]?) h
  simp only [List.getElem?_take,List.getElem?_drop,Nat.zero_lt_one,if_true,Nat.add_zero] at h2
  rw [h2,List.getElem?_range hi]
  have hm:i%s<s:=Nat.mod_lt _ hs
  simp only [Option.map_some,hzs]
  rw [← hz]
  simp [hzs,hm]
 ·rw [List.getElem?_eq_none (by rw [Am (s:=s) (λ_=>hc)]; omega),List.getElem?_eq_none (by simp; omega)]
  rfl
end
def upto (k:Nat) (A:Nat→List Value) (z:List Value) (j:Nat):List Value:=if j<k then A j else z
section
variable {s n k:Nat} {A:Nat→List Value} {z:List Value}
theorem An (hA:∀ j,(A j).length=s) (hz:z.length=s) (k:Nat):∀ j,(upto k A z j).length=s:=λj=>by
 unfold upto
 split
 ·exact hA j
 ·exact hz
theorem Lf {j:Nat} (h:j<k):upto k A z j=A j:=if_pos h
theorem JJ (hA:∀ j, ∀ u∈A j,u.oneCell'=true) (hz:∀ u∈z,u.oneCell'=true) (k:Nat):∀ j, ∀ u∈upto k A z j,u.oneCell'=true:=λj u hu=>by
 unfold upto at hu
 split at hu
 ·exact hA j u hu
 ·exact hz u hu
theorem Em:(AL (λ_=>z) n).toArray=(AL (upto 0 A z) n).toArray:=congrArg List.toArray (CD λj _=>by unfold upto; rw [if_neg om])
theorem upto_all:(AL (upto n A z) n).toArray=(AL A n).toArray:=congrArg List.toArray (CD λj hj=>Lf hj)
theorem D2 (hA:∀ j,(A j).length=s) (hz:z.length=s) {v:List Value} (hv:A k=v) (hk:k<n) {o:Nat} (ho:o=k*s):BI (AL (upto k A z) n).toArray o v=(AL (upto (k+1) A z) n).toArray:=by
 rw [J' (An hA hz k) (by rw [← hv]; exact hA k) hk ho]
 refine congrArg List.toArray (CD λj _=>?_)
 unfold upto
 by_cases e:j=k
 ·subst e
  rw [if_pos U,if_pos om,hv]
 ·rw [if_neg e]
  by_cases h:j<k
  ·rw [if_pos h,if_pos om]
  ·rw [if_neg h,if_neg om]
theorem Kk (hA:∀ j,(A j).length=1) {u v:Value} (hv:A k=[v]) (hk:k<n):(AL (upto k A [u]) n).toArray.setIfInBounds k v=(AL (upto (k+1) A [u]) n).toArray:=by
 have h:=D2 (s:=1) (z:=[u]) hA U hv hk (Nat.mul_one k).symm
 simpa only [BI] using h
theorem R4 {f:Nat→List Value} (h:∀ j,(f j).length=s) (hk:k<n) {o:Nat} (ho:o=k*s):Value.agg (((AL f n).toArray.toList.drop o).take s).toArray=.agg (f k).toArray:=by
 rw [show (AL f n).toArray.toList=AL f n from rfl,FD h hk ho]
theorem Hi {f:Nat→List Value} (h:∀ j,(f j).length=s) (hk:k<n) {o:Nat} (ho:o=k*s):o+s≤(AL f n).toArray.size:=by
 have hks:k*s+s≤n*s:=by rw [← Nat.succ_mul]; exact Nat.mul_le_mul_right s hk
 rw [List.size_toArray,Am h]
 omega
end
section
variable {s n m:Nat} {f:Nat→List Value}
theorem Gp (h:∀ j,(f j).length=s) (hm:n*s=m):Value.agg (((AL f n).toArray.toList.drop 0).take m).toArray=.agg (AL f n).toArray:=by
 rw [show (AL f n).toArray.toList=AL f n from rfl,List.drop_zero,List.take_of_length_le (by rw [Am h,hm]; exact Nat.le_refl _)]
theorem Gn (h:∀ j,(f j).length=s) (hm:n*s=m):0+m≤(AL f n).toArray.size:=by
 rw [List.size_toArray,Am h]; omega
theorem Dx (h:∀ j,(f j).length=s) {x:Option Nat} (hx:x=some (n*s)):x=some (AL f n).toArray.size:=by
 rw [hx,List.size_toArray,Am h]
theorem GP (h:∀ j,(f j).length=s) (hm:n*s=m) {cs:Array Value} (hc:cs.size=m):0+(AL f n).toArray.size≤cs.size:=by
 rw [List.size_toArray,Am h]; omega
theorem Hg (h:∀ j,(f j).length=s) {cs:Array Value} (hc:cs.size=n*s):BI cs 0 (AL f n).toArray.toList=(AL f n).toArray:=by
 have hl:(AL f n).toArray.toList.length=cs.size:=by
  rw [hc]
  exact Am h n
 rw [DV _ _ _ om,List.take_zero,List.drop_eq_nil_of_le (by rw [Array.length_toList]; omega)]
 simp
theorem Nr (h:∀ j,(f j).length=1) {k o:Nat} (hk:k<n) (ho:o=k*1):o<(AL f n).toArray.size:=by
 rw [List.size_toArray,Am h]; omega
end
section
variable {P:Program} {w0:Base} {n:Nat} {Q:Exit→Act→World→Prop} {F:AO} {L:AC} {ops:Array Oper} {o:Oper} {l:List Oper}
theorem CJ {w:World} {g:Nat} {t:TypeId} {cs:Array Value} (h:Blk w g t cs) {o:Nat} {vs:List Value} (e:(cs.toList.drop o).take vs.length=vs):w.rangeAt g o vs:=λj v hj=>by
 rw [h.cell]
 rw [← e] at hj
 have hlt:j<vs.length:=by
  have h:=(List.getElem?_eq_some_iff.1 hj).1
  rw [List.length_take] at h
  exact Nat.lt_of_lt_of_le h (Nat.min_le_left _ _)
 rw [List.getElem?_take_of_lt hlt,List.getElem?_drop] at hj
 simpa using hj
theorem Gi {w:World} {g o:Nat} {a b:List Value} (h:w.rangeAt g o (a++b)):w.rangeAt g o a:=λj v hj=>h j v (by rw [List.getElem?_append_left (List.getElem?_eq_some_iff.1 hj).1]; exact hj)
theorem Fo {w:World} {g o n:Nat} {a b:List Value} (h:w.rangeAt g o (a++b)) (hn:a.length=n):w.rangeAt g (o+n) b:=λj v hj=>by
 rw [Nat.add_assoc]
 refine h (n+j) v ?_
 rw [List.getElem?_append_right om,show n+j - a.length=j by omega]
 exact hj
theorem Gj {w:World} {g o n s k:Nat} {f:Nat→List Value} (h:w.rangeAt g o (AL f n)) (hs:∀ j,(f j).length=s) (hk:k<n):w.rangeAt g (o+k*s) (f k):=λj v hj=>by
 rw [Nat.add_assoc]
 refine h (k*s+j) v ?_
 have e:=FD hs hk U
 rw [← e] at hj
 have hlt:j<s:=by
  have h:=(List.getElem?_eq_some_iff.1 hj).1
  rw [List.length_take] at h
  exact Nat.lt_of_lt_of_le h (Nat.min_le_left _ _)
 rw [List.getElem?_take_of_lt hlt,List.getElem?_drop] at hj
 exact hj
theorem AK (op:BinOp) (t:TypeId) (x y:Operand) {yt:TypeId} (k:IntKind) {k':IntKind} (a b:Int) (v:Value) (ho:o.op=.binOp op t x y yt) (hx:evF F x=.int k a) (hy:evF F y=.int k' b) (h:∀ w,(binOp op t (.int k a) (.int k' b)).run P w=.ok v w) (w:World) :
  (execOp (evF F) o).run P w=.ok (.value v) w:=by
 have h1:(eqGuard op t x y (.int k a) (.int k' b)).run P w=.ok () w:=by
  unfold eqGuard
  cases op <;> rfl
 unfold execOp
 simp only [ho,hx,hy,Sem.run_bind,h1,h w,Result.andThen_ok,Sem.run_pure]
theorem Cy {z:Int} (h0 : -9223372036854775808≤z) (h1:z<9223372036854775808):IntKind.i64.wrap z=z:=by
 unfold IntKind.wrap; simp [IntKind.bits,IntKind.signed]; omega
theorem wrap_u64 {z:Int} (h0:0≤z) (h1:z<18446744073709551616):IntKind.u64.wrap z=z:=by
 unfold IntKind.wrap; simp [IntKind.bits,IntKind.signed]; omega
theorem VA {z:Int} (h0:0≤z) (h1:z<256):IntKind.u8.wrap z=z:=by
 unfold IntKind.wrap; simp [IntKind.bits,IntKind.signed]; omega
theorem Hd (t:TypeId) (k:IntKind) (a b c:Int) (h:k.wrap (a+b)=c) (w:World):(binOp .add t (.int k a) (.int k b)).run P w=.ok (.int k c) w:=by simp [binOp,Op.intArith,h]
theorem QZ (t:TypeId) (k:IntKind) (a b c:Int) (h:k.wrap (a - b)=c) (w:World):(binOp .sub t (.int k a) (.int k b)).run P w=.ok (.int k c) w:=by simp [binOp,Op.intArith,h]
theorem MG (t:TypeId) (k:IntKind) (a b c:Int) (h:k.wrap (a*b)=c) (w:World):(binOp .mul t (.int k a) (.int k b)).run P w=.ok (.int k c) w:=by simp [binOp,Op.intArith,h]
theorem DJ (t:TypeId) (k:IntKind) (a b c:Int) (hb:b≠0) (h:k.wrap (a.tdiv b)=c) (w:World):(binOp .quo t (.int k a) (.int k b)).run P w=.ok (.int k c) w:=by simp [binOp,Op.intDiv,hb,h]
theorem MF (t:TypeId) (k:IntKind) (a b c:Int) (hb:b≠0) (h:a.tmod b=c) (w:World):(binOp .rem t (.int k a) (.int k b)).run P w=.ok (.int k c) w:=by simp [binOp,Op.intDiv,hb,h]
theorem MH (t:TypeId) (k:IntKind) (a b c:Int) (h:k.wrap ((BitVec.ofInt k.bits a &&& BitVec.ofInt k.bits b).toNat:Int)=c) (w:World):(binOp .and t (.int k a) (.int k b)).run P w=.ok (.int k c) w:=by
 simp only [binOp,ne_eq,not_true_eq_false,if_false,Op.intBits,Sem.run_pure]
 rw [h]
theorem I2 (t:TypeId) (k k':IntKind) (a b c:Int) (hb:¬ b<0) (h:a.fdiv (2 ^ min b.toNat k.bits)=c) (w:World):(binOp .shr t (.int k a) (.int k' b)).run P w=.ok (.int k c) w:=by
 simp only [binOp,Op.shift,if_neg hb,Sem.run_pure,h]
theorem Hb (t:TypeId) (k:IntKind) (a b:Int) (c:Bool) (h:decide (a<b)=c) (w:World):(binOp .lss t (.int k a) (.int k b)).run P w=.ok (.bool c) w:=by simp [binOp,Op.intCmp, ← h]
theorem Qb (t:TypeId) (k:IntKind) (a b:Int) (c:Bool) (h:decide (a≤b)=c) (w:World):(binOp .leq t (.int k a) (.int k b)).run P w=.ok (.bool c) w:=by simp [binOp,Op.intCmp, ← h]
theorem DK (t:TypeId) (k:IntKind) (a b:Int) (c:Bool) (h:decide (a>b)=c) (w:World):(binOp .gtr t (.int k a) (.int k b)).run P w=.ok (.bool c) w:=by simp [binOp,Op.intCmp, ← h]
theorem GN (t:TypeId) (k:IntKind) (a b:Int) (c:Bool) (h:decide (a ≥ b)=c) (w:World):(binOp .geq t (.int k a) (.int k b)).run P w=.ok (.bool c) w:=by simp [binOp,Op.intCmp, ← h]
theorem Hc (t:TypeId) (k:IntKind) (a b:Int) (c:Bool) (h:decide (a=b)=c) (w:World):(binOp .eql t (.int k a) (.int k b)).run P w=.ok (.bool c) w:=by
 simp only [binOp,ne_eq,not_true_eq_false,if_false,Op.intCmp,Sem.run_pure, ← h]
 rfl
theorem Dt (t:TypeId) (k:IntKind) (a b:Int) (c:Bool) (h:decide (a≠b)=c) (w:World):(binOp .neq t (.int k a) (.int k b)).run P w=.ok (.bool c) w:=by
 simp only [binOp,ne_eq,not_true_eq_false,if_false,Op.intCmp,Sem.run_pure, ← h]
 by_cases e:a=b <;> simp [e]
theorem qad {P:Program} {w0:Base} {F:AO} {L:AC} {o:Oper} {t:TypeId} {x y:Operand} {yt:TypeId} {a b:Int} {c:Int} (ho:o.op=.binOp .add t x y yt) (hx:evF F x=.int .i64 a) (hy:evF F y=.int .i64 b) (h:IntKind.i64.wrap (a + b)=c:=by exact (Cy om om).trans om):Quiet P w0 F L o (.int .i64 c):=Quiet.pure (AK .add t x y .i64 a b _ ho hx hy (Hd t .i64 a b c h))
theorem qsb {P:Program} {w0:Base} {F:AO} {L:AC} {o:Oper} {t:TypeId} {x y:Operand} {yt:TypeId} {a b:Int} {c:Int} (ho:o.op=.binOp .sub t x y yt) (hx:evF F x=.int .i64 a) (hy:evF F y=.int .i64 b) (h:IntKind.i64.wrap (a - b)=c:=by exact (Cy om om).trans om):Quiet P w0 F L o (.int .i64 c):=Quiet.pure (AK .sub t x y .i64 a b _ ho hx hy (QZ t .i64 a b c h))
theorem qml {P:Program} {w0:Base} {F:AO} {L:AC} {o:Oper} {t:TypeId} {x y:Operand} {yt:TypeId} {a b:Int} {c:Int} (ho:o.op=.binOp .mul t x y yt) (hx:evF F x=.int .i64 a) (hy:evF F y=.int .i64 b) (h:IntKind.i64.wrap (a * b)=c:=by exact (Cy om om).trans om):Quiet P w0 F L o (.int .i64 c):=Quiet.pure (AK .mul t x y .i64 a b _ ho hx hy (MG t .i64 a b c h))
theorem qls {P:Program} {w0:Base} {F:AO} {L:AC} {o:Oper} {t:TypeId} {x y:Operand} {yt:TypeId} {a b:Int} {c:Bool} {p:Prop} [Decidable p] (ho:o.op=.binOp .lss t x y yt) (hx:evF F x=.int .i64 a) (hy:evF F y=.int .i64 b) (hb:c=decide p) (h:(a < b)↔p:=by omega):Quiet P w0 F L o (.bool c):=Quiet.pure (AK .lss t x y .i64 a b _ ho hx hy (Hb t .i64 a b c (by rw [hb]; exact decide_eq_decide.2 h)))
theorem qle {P:Program} {w0:Base} {F:AO} {L:AC} {o:Oper} {t:TypeId} {x y:Operand} {yt:TypeId} {a b:Int} {c:Bool} {p:Prop} [Decidable p] (ho:o.op=.binOp .leq t x y yt) (hx:evF F x=.int .i64 a) (hy:evF F y=.int .i64 b) (hb:c=decide p) (h:(a ≤ b)↔p:=by omega):Quiet P w0 F L o (.bool c):=Quiet.pure (AK .leq t x y .i64 a b _ ho hx hy (Qb t .i64 a b c (by rw [hb]; exact decide_eq_decide.2 h)))
theorem qgt {P:Program} {w0:Base} {F:AO} {L:AC} {o:Oper} {t:TypeId} {x y:Operand} {yt:TypeId} {a b:Int} {c:Bool} {p:Prop} [Decidable p] (ho:o.op=.binOp .gtr t x y yt) (hx:evF F x=.int .i64 a) (hy:evF F y=.int .i64 b) (hb:c=decide p) (h:(a > b)↔p:=by omega):Quiet P w0 F L o (.bool c):=Quiet.pure (AK .gtr t x y .i64 a b _ ho hx hy (DK t .i64 a b c (by rw [hb]; exact decide_eq_decide.2 h)))
theorem qge {P:Program} {w0:Base} {F:AO} {L:AC} {o:Oper} {t:TypeId} {x y:Operand} {yt:TypeId} {a b:Int} {c:Bool} {p:Prop} [Decidable p] (ho:o.op=.binOp .geq t x y yt) (hx:evF F x=.int .i64 a) (hy:evF F y=.int .i64 b) (hb:c=decide p) (h:(a ≥ b)↔p:=by omega):Quiet P w0 F L o (.bool c):=Quiet.pure (AK .geq t x y .i64 a b _ ho hx hy (GN t .i64 a b c (by rw [hb]; exact decide_eq_decide.2 h)))
theorem qeq {P:Program} {w0:Base} {F:AO} {L:AC} {o:Oper} {t:TypeId} {x y:Operand} {yt:TypeId} {a b:Int} {c:Bool} {p:Prop} [Decidable p] (ho:o.op=.binOp .eql t x y yt) (hx:evF F x=.int .i64 a) (hy:evF F y=.int .i64 b) (hb:c=decide p) (h:(a = b)↔p:=by omega):Quiet P w0 F L o (.bool c):=Quiet.pure (AK .eql t x y .i64 a b _ ho hx hy (Hc t .i64 a b c (by rw [hb]; exact decide_eq_decide.2 h)))
theorem qne {P:Program} {w0:Base} {F:AO} {L:AC} {o:Oper} {t:TypeId} {x y:Operand} {yt:TypeId} {a b:Int} {c:Bool} {p:Prop} [Decidable p] (ho:o.op=.binOp .neq t x y yt) (hx:evF F x=.int .i64 a) (hy:evF F y=.int .i64 b) (hb:c=decide p) (h:(a ≠ b)↔p:=by omega):Quiet P w0 F L o (.bool c):=Quiet.pure (AK .neq t x y .i64 a b _ ho hx hy (Dt t .i64 a b c (by rw [hb]; exact decide_eq_decide.2 h)))
theorem CQ (t e:TypeId) (x kx:Operand) (g f len cap k s:Nat) (ki:IntKind) (ho:o.op=.indexAddr t x kx) (hx:evF F x=.slice (some ⟨g,f,none⟩) len cap) (hkx:evF F kx=.int ki (k:Int)) (ht:P.underlying t=some (.slice e)) (hsz:∀ w,(sizeOf e).run P w=.ok s w) (hk:k<len) (w:World) :
  (execOp (evF F) o).run P w=.ok (.value (.pointer (some ⟨g,f+k*s,none⟩))) w:=by
 have h0:(0:Int)≤k:=om
 have h1:((k:Int).toNat)=k:=om
 unfold execOp
 simp [ho,hx,hkx,Instr.indexAt,asIntOf,run_underlying ht,hsz,h0,hk,Bm,Result.andThen]
theorem A_ (t e:TypeId) (x kx:Operand) (g f m k s:Nat) (ki:IntKind) (ho:o.op=.indexAddr t x kx) (hx:evF F x=pT g f) (hkx:evF F kx=.int ki (k:Int)) (ht:P.underlying t=some (.array m e)) (hsz:∀ w,(sizeOf e).run P w=.ok s w) (hk:k<m) (w:World) :
  (execOp (evF F) o).run P w=.ok (.value (.pointer (some ⟨g,f+k*s,none⟩))) w:=by
 have h0:(0:Int)≤k:=om
 unfold execOp
 simp [ho,hx,hkx,Instr.indexAt,asIntOf,run_underlying ht,hsz,h0,hk,Bm,Result.andThen,Instr.sureAddr]
theorem Dg (t:TypeId) (x lx:Operand) (g f len cap lo s:Nat) (kl:IntKind) (ho:o.op=.slice t x (some lx) none none) (hx:evF F x=.slice (some ⟨g,f,none⟩) len cap) (hl:evF F lx=.int kl (lo:Int)) (ht:P.underlying t=some (.slice (P.elem t))) (hsz:∀ w,(sizeOf (P.elem t)).run P w=.ok s w) (h1:lo≤len) (h2:lo<cap) (w:World) :
  (execOp (evF F) o).run P w=.ok (.value (.slice (some ⟨g,f+lo*s,none⟩) (len - lo) (cap - lo))) w:=by
 have hne:¬ cap=lo:=om
 have e:(Instr.sliceAt t (.slice (some ⟨g,f,none⟩) len cap) (some (.int kl (lo:Int))) none none).run P w=.ok (.slice (some ⟨g,f+lo*s,none⟩) (len - lo) (cap - lo)) w:=by
  rw [run_sliceAt_slice w t _ _ _ _ ht,run_slice_l w t (some ⟨g,f,none⟩) len cap ht kl lo om om]
  simp [hsz,sliced,hne,Bm,Result.andThen]
 unfold execOp
 simp only [ho,hx,hl,Option.map_some,Option.map_none,e,Sem.run_bind,Sem.run_pure,Result.andThen_ok]
theorem Hk (t:TypeId) (x lx hx' mx':Operand) (g f len cap lo hi mx s:Nat) (kl kh km:IntKind) (ho:o.op=.slice t x (some lx) (some hx') (some mx')) (hx:evF F x=.slice (some ⟨g,f,none⟩) len cap) (hl:evF F lx=.int kl (lo:Int)) (hh:evF F hx'=.int kh (hi:Int)) (hm:evF F mx'=.int km (mx:Int)) (ht:P.underlying t=some (.slice (P.elem t))) (hsz:∀ w,(sizeOf (P.elem t)).run P w=.ok s w)
  (h1:lo≤hi) (h2:hi≤mx) (h3:mx≤cap) (h4:lo<mx) (w:World):(execOp (evF F) o).run P w=.ok (.value (.slice (some ⟨g,f+lo*s,none⟩) (hi - lo) (mx - lo))) w:=by
 have hne:¬ mx=lo:=om
 have e:(Instr.sliceAt t (.slice (some ⟨g,f,none⟩) len cap) (some (.int kl (lo:Int))) (some (.int kh (hi:Int))) (some (.int km (mx:Int)))).run P w=.ok (.slice (some ⟨g,f+lo*s,none⟩) (hi - lo) (mx - lo)) w:=by
  rw [run_sliceAt_slice w t _ _ _ _ ht,run_slice_lhm w t (some ⟨g,f,none⟩) len cap ht kl kh km lo hi mx om om om om]
  simp [hsz,sliced,hne,Bm,Result.andThen]
 unfold execOp
 simp only [ho,hx,hl,hh,hm,Option.map_some,e,Sem.run_bind,Sem.run_pure,Result.andThen_ok]
theorem F4 (x y:Operand) {ts:Array TypeId} (k:IntKind) (a b c:Nat) (ho:o.op=.call { callee:=.builtin .min,args:=#[x,y],argTypes:=ts }) (hx:evF F x=.int k (a:Int)) (hy:evF F y=.int k (b:Int)) (h:min a b=c) (w:World):(execOp (evF F) o).run P w=.ok (.value (.int k (c:Int))) w:=by
 have e:(if (b:Int)<(a:Int) then (b:Int) else (a:Int))=(c:Int):=by split <;> omega
 unfold execOp
 simp [ho,hx,hy,resolve,invoke,builtin,Builtin.min_,Builtin.min2,Sem.run_bind,Result.andThen]
 omega
theorem KC (t e:TypeId) (x kx:Operand) (cs:Array Value) (m k:Nat) (ki:IntKind) (d:TypeDesc) (c:Value) (ho:o.op=.index t x kx) (hx:evF F x=.agg cs) (hkx:evF F kx=.int ki (k:Int)) (ht:P.underlying t=some (.array m e)) (he:P.underlying e=some d) (hd:d.isRow=false) (hsz:∀ w,(sizeOf e).run P w=.ok 1 w) (hk:k<m) (hc:cs[k]? = some c) (w:World) :
  (execOp (evF F) o).run P w=.ok (.value c) w:=by
 have h0:(0:Int)≤k:=om
 have ha:(isAgg e).run P w=.ok false w:=by
  cases d <;> first | (cases hd; done) | simp [isAgg,underlying,he]
 have pc:(part e cs ((k:Int).toNat*1)).run P w=.ok c w:=by
  simp [part,ha,hc,Result.andThen]
 unfold execOp
 simp only [ho,hx,hkx,Instr.index,asIntOf,Sem.run_bind,Sem.run_pure,Result.andThen_ok,run_underlying ht]
 rw [if_pos ⟨by omega,by omega⟩]
 simp only [Sem.run_bind,hsz,Result.andThen_ok,pc,Sem.run_pure]
def OO {T:Type} (w0:Base) (n N:Nat) (FF:Nat→T→AO) (LL:Nat→T→AC) (H:Nat→T→Prop) (k:Nat):Act→World→Prop:=λa w=>k<N∧∃ y,H (k+1) y∧Fr w0.ds a n (FF (k+1) y)∧St w0 w (LL (k+1) y)
theorem loopX {T:Type} {c:Code} (N:Nat) (FF:Nat→T→AO) (LL:Nat→T→AC) (H:Nat→T→Prop) (x0:T) (m:List Bool) (h0:H 0 x0) (hF:∀ p∈FF 0 x0,F.lookup p.1=some p.2) (hL:sel L m=LL 0 x0)
  (hr:∀ k x,k≤N→H k x→wpC P w0 n (Exit.then (OO w0 n N FF LL H k) Q) (FF k x) (LL k x) c):wpC P w0 n Q F L (.loop c) :=
 Nb N (λk a w=>∃ x,H k x∧Fr w0.ds a n (FF k x)∧St w0 w (LL k x)) (λ_ _ ha hw=>⟨x0,h0,ha.all hF,hL ▸ hw.less (CP L m)⟩)
  λk hk a w ⟨x,hx,ha,hw⟩=>hr k x hk hx a w ha hw
theorem againX {T:Type} {N:Nat} {FF:Nat→T→AO} {LL:Nat→T→AC} {H:Nat→T→Prop} {k:Nat} {R:Exit→Act→World→Prop} (y:T) (m:List Bool) (hk:k<N) (hy:H (k+1) y) (hF:∀ p∈FF (k+1) y,F.lookup p.1=some p.2) (hL:sel L m=LL (k+1) y) :
  X w0 n (Exit.then (OO w0 n N FF LL H k) R) F L .normal:=λ_ _ ha hw=>⟨hk,y,hy,ha.all hF,hL ▸ hw.less (CP L m)⟩
def Xk (w0:Base) (n N:Nat) (FF:Nat→AO) (LL:Nat→AC) (k:Nat):Act→World→Prop:=λa w=>k<N∧Fr w0.ds a n (FF (k+1))∧St w0 w (LL (k+1))
theorem loopK {c:Code} (N:Nat) (FF:Nat→AO) (LL:Nat→AC) (m:List Bool) {M:AC} (hF:∀ p∈FF 0,F.lookup p.1=some p.2) (hL:sel L m=M) (hM:M=LL 0)
  (hr:∀ k,k≤N→wpC P w0 n (Exit.then (Xk w0 n N FF LL k) Q) (FF k) (LL k) c):wpC P w0 n Q F L (.loop c) :=
 Nb N (λk a w=>Fr w0.ds a n (FF k)∧St w0 w (LL k)) (λ_ _ ha hw=>⟨ha.all hF,hM ▸ hL ▸ hw.less (CP L m)⟩)
  λk hk a w ⟨ha,hw⟩=>hr k hk a w ha hw
theorem againK {N:Nat} {FF:Nat→AO} {LL:Nat→AC} {k:Nat} {R:Exit→Act→World→Prop} (m:List Bool) {M:AC} (hk:k<N) (hF:∀ p∈FF (k+1),F.lookup p.1=some p.2) (hL:sel L m=M) (hM:M=LL (k+1)) :
  X w0 n (Exit.then (Xk w0 n N FF LL k) R) F L .normal:=λ_ _ ha hw=>⟨hk,ha.all hF,hM ▸ hL ▸ hw.less (CP L m)⟩
theorem tidyC {c:Code} {G:AO} {M N:AC} (m:List Bool) (hM:sel L m=M) (hN:M=N) (hF:∀ p∈G,F.lookup p.1=some p.2) (h:wpC P w0 n Q G N c):wpC P w0 n Q F L c:=aT m (hM.trans hN) hF h
theorem AW {x y:Nat×TypeId×Array Value} {l m:AC} (h:x=y) (k:l=m):x::l=y::m:=by rw [h,k]
theorem beq {g:Nat} {t:TypeId} {a b:Array Value} (h:a=b):(g,t,a)=(g,t,b):=by rw [h]
def Xl (w0:Base) (n N:Nat) (H:Nat→Prop) (FF:Nat→AO) (LL:Nat→AC) (k:Nat):Act→World→Prop:=λa w=>k<N∧H (k+1)∧Fr w0.ds a n (FF (k+1))∧St w0 w (LL (k+1))
theorem loopH {c:Code} (N:Nat) (H:Nat→Prop) (FF:Nat→AO) (LL:Nat→AC) (m:List Bool) {M:AC} (h0:H 0) (hF:∀ p∈FF 0,F.lookup p.1=some p.2) (hL:sel L m=M) (hM:M=LL 0)
  (hr:∀ k,k≤N→H k→wpC P w0 n (Exit.then (Xl w0 n N H FF LL k) Q) (FF k) (LL k) c):wpC P w0 n Q F L (.loop c) :=
 Nb N (λk a w=>H k∧Fr w0.ds a n (FF k)∧St w0 w (LL k)) (λ_ _ ha hw=>⟨h0,ha.all hF,hM ▸ hL ▸ hw.less (CP L m)⟩)
  λk hk a w ⟨hh,ha,hw⟩=>hr k hk hh a w ha hw
theorem againH {N:Nat} {H:Nat→Prop} {FF:Nat→AO} {LL:Nat→AC} {k:Nat} {R:Exit→Act→World→Prop} (m:List Bool) {M:AC} (hk:k<N) (hh:H (k+1)) (hF:∀ p∈FF (k+1),F.lookup p.1=some p.2) (hL:sel L m=M) (hM:M=LL (k+1)) :
  X w0 n (Exit.then (Xl w0 n N H FF LL k) R) F L .normal:=λ_ _ ha hw=>⟨hk,hh,ha.all hF,hM ▸ hL ▸ hw.less (CP L m)⟩
theorem Makes.slice (t e:TypeId) (i:TypeInfo) (z:Value) (s b:Nat) (x y:Operand) (kl kc:IntKind) (m:Nat) (c:List Value) (ho:o.op=.makeSlice t x y) (hx:evF F x=.int kl (m:Int)) (hy:evF F y=.int kc (m:Int)) (ht:P.underlying t=some (.slice e)) (hi:P.info? e=some i) (hz:i.zero=some z) (hs:i.size=s) (hs0:0<s) (hb:i.bytes=b)
  (hc:z.cells.toList=c) (hcl:c.length=s) (hbytes:b*m≤281474976710656) (h63:m≤9223372036854775807):Makes P F o e (AL (λ_=>c) m).toArray (λg=>.slice (pA g) m m):=λw=>by
 subst hs hb
 have hb:(i.bytes:Int)*(m:Int)≤281474976710656:=by
  have h:((i.bytes*m:Nat):Int)≤281474976710656:=om
  rwa [Int.natCast_mul] at h
 have hr:=run_make (P:=P) w t e i z ht hi hz kl kc m m om (Int.le_refl _) hb om
 simp only [Int.toNat_natCast] at hr
 unfold execOp
 simp only [ho,hx,hy,Sem.run_bind,Sem.run_pure,hr,Result.andThen_ok]
 rw [PS c hcl hs0 m z.cells hc]
end
end Sy
end
section
namespace Fz
open Go.RowKit Go.Lib Sy
def vR (R:Nat→Nat):Nat→Nat
 | 0=>0
 | n+1=>vR R n+R n*18446744073709551616 ^ n
def upd (R:Nat→Nat) (k y:Nat):Nat→Nat:=λt=>if t=k then y else R t
theorem Lg {R:Nat→Nat} {k y t:Nat} (h:t≠k):upd R k y t=R t:=if_neg h
theorem H2 {R:Nat→Nat} {k y:Nat} (h:∀ t,R t<18446744073709551616) (hy:y<18446744073709551616) (t:Nat):upd R k y t<18446744073709551616:=by
 unfold upd
 split
 ·exact hy
 ·exact h t
theorem It {R S:Nat→Nat}:∀ n,(∀ t,t<n→R t=S t)→vR R n=vR S n
 | 0,_=>rfl
 | n+1,h=>by
  show vR R n+_=vR S n+_
  rw [It n λt ht=>h t om,h n om]
theorem Hz (R:Nat→Nat) (k y:Nat):∀ n,k<n→vR (upd R k y) n+R k*18446744073709551616 ^ k=vR R n+y*18446744073709551616 ^ k
 | 0,h=>absurd h (Nat.not_lt_zero _)
 | n+1,h=>by
  show vR (upd R k y) n+upd R k y n*_+_=vR R n+R n*_+_
  by_cases e:k=n
  ·subst e
   rw [show upd R k y k=y from if_pos U,It (R:=upd R k y) (S:=R) k λt ht=>if_neg om]
   omega
  ·have h2:=Hz R k y n om
   rw [show upd R k y n=R n from if_neg om]
   omega
theorem JI {R:Nat→Nat} (h:∀ t,R t<18446744073709551616):∀ n,vR R n<18446744073709551616 ^ n
 | 0=>Nat.one_pos
 | n+1=>by
  have h1:=JI h n
  have h2:=h n
  show vR R n+R n*_<_
  rw [Nat.pow_succ]
  have h3:(R n+1)*18446744073709551616 ^ n≤18446744073709551616*18446744073709551616 ^ n:=Nat.mul_le_mul_right _ h2
  rw [Nat.add_mul,Nat.one_mul] at h3
  rw [Nat.mul_comm (18446744073709551616 ^ n)]
  omega
theorem Ff (R:Nat→Nat) (a:Nat):∀ n,vR R (a+n)=vR R a+vR (λt=>R (a+t)) n*18446744073709551616 ^ a
 | 0=>by
  show vR R a=vR R a+0*_
  rw [Nat.zero_mul,Nat.add_zero]
 | n+1=>by
  show vR R (a+n)+R (a+n)*18446744073709551616 ^ (a+n)=vR R a+(vR _ n+R (a+n)*_)*_
  rw [Ff R a n,Nat.add_mul,Nat.mul_assoc, ← Nat.pow_add,Nat.add_comm n a,Nat.add_assoc]
theorem Ir:∀ n,vR (λ_=>0) n=0
 | 0=>rfl
 | n+1=>by
  show vR _ n+0*_=0
  rw [Ir n,Nat.zero_mul]
def cpy (R:Nat→Nat) (k:Nat):Nat→Nat:=λt=>if t<k then R t else 0
theorem Yv {R:Nat→Nat} (h:∀ t,R t<18446744073709551616) (k t:Nat):cpy R k t<18446744073709551616:=by
 unfold cpy
 split
 ·exact h t
 ·decide
theorem Ue (R:Nat→Nat) (k:Nat):upd (cpy R k) k (R k)=cpy R (k+1):=by
 funext t
 unfold upd cpy
 by_cases e:t=k
 ·rw [if_pos e,if_pos om,e]
 ·rw [if_neg e]
  by_cases l:t<k
  ·rw [if_pos l,if_pos om]
  ·rw [if_neg l,if_neg om]
theorem Xq (R:Nat→Nat):vR (cpy R 4) 8=vR R 4:=by
 rw [show (8:Nat)=4+4 from rfl,Ff,It (R:=cpy R 4) (S:=R) 4 (λt ht=>if_pos ht),It (R:=λt=>cpy R 4 (4+t)) (S:=λ_=>0) 4 (λt _=>if_neg om),Ir,Nat.zero_mul,Nat.add_zero]
def rw8 (R:Nat→Nat):Array Value:=#[.int .u64 ((R 0:Nat):Int),.int .u64 ((R 1:Nat):Int),.int .u64 ((R 2:Nat):Int),.int .u64 ((R 3:Nat):Int),.int .u64 ((R 4:Nat):Int),.int .u64 ((R 5:Nat):Int),.int .u64 ((R 6:Nat):Int),.int .u64 ((R 7:Nat):Int)]
theorem Xe {k:Nat} (h:k<8):k=0∨k=1∨k=2∨k=3∨k=4∨k=5∨k=6∨k=7:=om
theorem H7 (R:Nat→Nat) {k o:Nat} (h:k<8) (ho:o=k):(rw8 R)[o]? = some (.int .u64 ((R k:Nat):Int)):=by
 subst ho
 rcases Xe h with rfl|rfl|rfl|rfl|rfl|rfl|rfl|rfl <;> rfl
theorem E2 (R:Nat→Nat) (y:Nat) {k o:Nat} (h:k<8) (ho:o=k):(rw8 R).setIfInBounds o (.int .u64 ((y:Nat):Int))=rw8 (upd R k y):=by
 subst ho
 rcases Xe h with rfl|rfl|rfl|rfl|rfl|rfl|rfl|rfl <;> rfl
theorem E3 (R:Nat→Nat) {k o:Nat} (h:k<8) (ho:o=k):o<(rw8 R).size:=by
 subst ho
 exact h
def modc (M:Nat) (lw:Nat→Nat):Array Value:=((fcs M).toList++([.int .u64 ((lw 0:Nat):Int),.int .u64 ((lw 1:Nat):Int),.int .u64 ((lw 2:Nat):Int)]:List Value)).toArray
theorem WK (M:Nat) (lw:Nat→Nat) {j o:Nat} (h:j<3) (ho:o=4+j):(modc M lw)[o]? = some (.int .u64 ((lw j:Nat):Int)):=by
 subst ho
 have:j=0∨j=1∨j=2:=om
 rcases this with rfl|rfl|rfl <;> rfl
def wd (x:Nat) (t:Nat):Nat:=x / 18446744073709551616 ^ t%18446744073709551616
theorem As (x t:Nat):wd x t<18446744073709551616:=Nat.mod_lt _ dZ
theorem SX (x:Nat):∀ n,vR (wd x) n=x%18446744073709551616 ^ n
 | 0=>by rw [Nat.pow_zero,Nat.mod_one]; rfl
 | n+1=>by
  show vR (wd x) n+wd x n*_=_
  rw [SX x n,Nat.mod_pow_succ,Nat.mul_comm]
  rfl
theorem KB (x:Nat) {k o:Nat} (h:k<4) (ho:o=k):(fcs x)[o]? = some (.int .u64 ((wd x k:Nat):Int)):=by
 subst ho
 have:o=0∨o=1∨o=2∨o=3:=om
 have e0:wd x 0=x%18446744073709551616:=by unfold wd; rw [Nat.pow_zero,Nat.div_one]
 have e1:wd x 1=x / 18446744073709551616%18446744073709551616:=by unfold wd; rw [Nat.pow_one]
 rcases this with rfl|rfl|rfl|rfl
 ·rw [e0]; rfl
 ·rw [e1]; rfl
 ·rfl
 ·rfl
theorem Oi {R:Nat→Nat} (h:∀ t,R t<18446744073709551616):Value.agg #[.int .u64 ((R 0:Nat):Int),.int .u64 ((R 1:Nat):Int),.int .u64 ((R 2:Nat):Int),.int .u64 ((R 3:Nat):Int)]=fv (vR R 4):=by
 rw [DM _ _ _ _ (h 0) (h 1) (h 2) (h 3)]
 congr 1
 show _=0+R 0*1+R 1*18446744073709551616+R 2*340282366920938463463374607431768211456+R 3*6277101735386680763835789423207666416102355444464034512896
 omega
theorem XT {hi lo x k y l e d r c:Nat} (h1:lo+18446744073709551616*hi=e*d) (h2:x+18446744073709551616*k=lo+r) (h3:y+18446744073709551616*l=x+c):y+18446744073709551616*(hi+k+l)=e*d+r+c:=om
theorem Un {hi k l y e d r c:Nat} (h:y+18446744073709551616*(hi+k+l)=e*d+r+c) (he:e<18446744073709551616) (hd:d<18446744073709551616) (hr:r<18446744073709551616) (hc:c<18446744073709551616):hi+k+l<18446744073709551616:=by
 have h2:e*d≤18446744073709551615*18446744073709551615:=Nat.mul_le_mul om om
 omega
theorem PM {v v' r P c c' y e d V LS Bi P0:Nat} (h1:v'+r*P=v+y*P) (h2:v+c*P=V+e*LS*Bi) (h3:y+18446744073709551616*c'=e*d+r+c) (hp:P=P0*Bi):v'+c'*(P*18446744073709551616)=V+e*(LS+d*P0)*Bi:=by
 grind
theorem Yz {v v' r P c l x V:Nat} (h1:v'+r*P=v+x*P) (h2:v+c*P=V) (h3:x+18446744073709551616*l=r+c):v'+l*(P*18446744073709551616)=V:=by
 grind
theorem O6 (a b:Nat) (ha:a<18446744073709551616) (hb:b<18446744073709551616):IntKind.u64.wrap ((BitVec.ofInt IntKind.u64.bits (a:Int) ||| BitVec.ofInt IntKind.u64.bits (b:Int)).toNat:Int)=((a ||| b:Nat):Int):=by
 have hl:a ||| b<18446744073709551616:=Nat.or_lt_two_pow (n:=64) ha hb
 have hw2:(BitVec.ofInt 64 (a:Int) ||| BitVec.ofInt 64 (b:Int)).toNat=a ||| b:=by
  rw [BitVec.toNat_or]
  simp only [BitVec.ofInt_natCast,BitVec.toNat_ofNat]
  rw [Nat.mod_eq_of_lt om,Nat.mod_eq_of_lt om]
 show IntKind.u64.wrap ((BitVec.ofInt 64 (a:Int) ||| BitVec.ofInt 64 (b:Int)).toNat:Int)=_
 rw [hw2,wrap_u64 om om]
theorem PL {P:Program} (t:TypeId) (k:IntKind) (a b c:Int) (h:k.wrap ((BitVec.ofInt k.bits a ||| BitVec.ofInt k.bits b).toNat:Int)=c) (w:World):(binOp .or t (.int k a) (.int k b)).run P w=.ok (.int k c) w:=by
 simp only [binOp,ne_eq,not_true_eq_false,if_false,Op.intBits,Sem.run_pure]
 rw [h]
theorem mulZ_any (w:World) (x y hi lo:Nat) (hx:x<18446744073709551616) (hy:y<18446744073709551616) (hlo:lo<18446744073709551616) (he:lo+18446744073709551616*hi=x*y) :
  Calls Tryz.prog 199 #[.int .u64 ((x:Nat):Int),.int .u64 ((y:Nat):Int)] w (Gets w (.tuple #[.int .u64 ((hi:Nat):Int),.int .u64 ((lo:Nat):Int)])) :=
 (D_ w x y hi lo hx hy hlo he).mono λe w' ⟨h1,h2⟩=>⟨h1,by rw [h2]; exact Below.refl _ _⟩
theorem Km (x y:Nat):∃ hi lo:Nat,lo<18446744073709551616∧lo+18446744073709551616*hi=x*y:=⟨x*y / 18446744073709551616,x*y%18446744073709551616,Nat.mod_lt _ dZ,Nat.mod_add_div _ _⟩
theorem Ta {x y i c:Nat} {y1 z:Nat→Nat} (h1:vR y1 8=vR (wd x) i*vR (wd y) 4) (h2:vR z 8+c*18446744073709551616 ^ (i+4)=vR y1 8+wd x i*vR (wd y) 4*18446744073709551616 ^ i) (h3:z (i+4)=0) (hi:i<4):vR (upd z (i+4) c) 8=vR (wd x) (i+1)*vR (wd y) 4:=by
 have h4:=Hz z (i+4) c 8 om
 rw [h3,Nat.zero_mul,Nat.add_zero] at h4
 show _=(vR (wd x) i+wd x i*_)*_
 rw [h4,h2,h1]
 grind
theorem wd4 {x:Nat} (hx:x<(2^256)):vR (wd x) 4=x:=by
 rw [SX]
 exact Nat.mod_eq_of_lt hx
theorem V5 {y:Nat→Nat} (h:¬ (((y 4 ||| y 5) ||| y 6) ||| y 7>0)):y 4=0∧y 5=0∧y 6=0∧y 7=0:=by
 have h0:((y 4 ||| y 5) ||| y 6) ||| y 7=0:=om
 rw [Nat.or_eq_zero_iff,Nat.or_eq_zero_iff,Nat.or_eq_zero_iff] at h0
 exact ⟨h0.1.1.1,h0.1.1.2,h0.1.2,h0.2⟩
theorem XO (y:Nat→Nat):vR (λt=>y (4+t)) 4=0+y 4*1+y 5*18446744073709551616+y 6*340282366920938463463374607431768211456+y 7*6277101735386680763835789423207666416102355444464034512896:=rfl
theorem VF {y:Nat→Nat} (n k:Nat) (hn:n=k+k) (e:vR (λt=>y (k+t)) k=0):vR y n=vR y k:=by
 subst hn
 have s:=Ff y k k
 rw [e,Nat.zero_mul,Nat.add_zero] at s
 exact s
theorem Xp {y:Nat→Nat} (h:y 4=0∧y 5=0∧y 6=0∧y 7=0):vR y 8=vR y 4:=VF 8 4 U (by
 rw [XO]
 obtain ⟨h1,h2,h3,h4⟩:=h
 omega)
theorem YT {M:Nat} {lw y z:Nat→Nat} (_:∀ t,lw t<18446744073709551616) (hM0:0<M) (hM:M+vR lw 3=18446744073709551616 ^ 4) (_:∀ t,y t<18446744073709551616) (h:vR z 8=vR y 4+vR (λt=>y (4+t)) 4*vR lw 3) (ho:((y 4 ||| y 5) ||| y 6) ||| y 7>0):vR z 8%M=vR y 8%M∧vR z 8<vR y 8:=by
 have e:vR y 8=vR z 8+vR (λt=>y (4+t)) 4*M:=by
  rw [show (8:Nat)=4+4 from rfl,Ff y, ← hM,show (4+4:Nat)=8 from rfl,h,Nat.mul_add]
  omega
 have hp:0<vR (λt=>y (4+t)) 4:=by
  rw [XO]
  rcases Nat.eq_zero_or_pos (y 4) with h4 | h4
  ·rcases Nat.eq_zero_or_pos (y 5) with h5 | h5
   ·rcases Nat.eq_zero_or_pos (y 6) with h6 | h6
    ·rcases Nat.eq_zero_or_pos (y 7) with h7 | h7
     ·rw [h4,h5,h6,h7] at ho
      exact absurd ho dZ
     ·omega
    ·omega
   ·omega
  ·omega
 have hpos:0<vR (λt=>y (4+t)) 4*M:=Nat.mul_pos hp hM0
 refine ⟨?_,by omega⟩
 rw [e,Nat.add_mul_mod_self_right]
theorem aC {lw y y3 z:Nat→Nat} {c i n:Nat} (hlw:∀ t,lw t<18446744073709551616) (hy:∀ t,y t<18446744073709551616) (h3:vR y3 8=vR y 4+vR (λt=>y (4+t)) i*vR lw 3) (hz:∀ t,z t<18446744073709551616) (h:vR z 8+c*18446744073709551616 ^ n=vR y3 8+y (4+i)*vR lw 3*18446744073709551616 ^ i) (hi:i<4) (hc:c=0∨n=8) :
  vR z 8=vR y 4+vR (λt=>y (4+t)) (i+1)*vR lw 3:=by
 have e:vR y3 8+y (4+i)*vR lw 3*18446744073709551616 ^ i=vR y 4+vR (λt=>y (4+t)) (i+1)*vR lw 3:=by
  show _=_+(vR (λt=>y (4+t)) i+y (4+i)*_)*_
  rw [h3]
  grind
 rw [e] at h
 rcases hc with rfl|rfl
 ·rw [Nat.zero_mul,Nat.add_zero] at h
  exact h
 ·have h1:=JI hy 4
  have h2:=JI (R:=λt=>y (4+t)) (λt=>hy _) (i+1)
  have h4:=JI hlw 3
  have h5:18446744073709551616 ^ (i+1)≤18446744073709551616 ^ 4:=Nat.pow_le_pow_right dZ om
  have h6:vR (λt=>y (4+t)) (i+1)*vR lw 3≤18446744073709551616 ^ 4*18446744073709551616 ^ 3:=Nat.mul_le_mul om om
  have h7:(18446744073709551616 ^ 4+18446744073709551616 ^ 4*18446744073709551616 ^ 3:Nat)<18446744073709551616 ^ 8:=dZ
  rcases Nat.eq_zero_or_pos c with rfl | hp
  ·rw [Nat.zero_mul,Nat.add_zero] at h
   exact h
  ·have h8:1*18446744073709551616 ^ 8≤c*18446744073709551616 ^ 8:=Nat.mul_le_mul_right _ hp
   omega
theorem foldZ (w:World) (M:Nat) (lw:Nat→Nat) (hlw:∀ t,lw t<18446744073709551616) (hM0:0<M) (hM:M+vR lw 3=18446744073709551616 ^ 4) (hnorm:∀ w x,x<(2^256)→AY 49 #[.agg (modc M lw),fv x] w (Gets w (fv (x%M)))) (R:Nat→Nat) (hR:∀ t,R t<18446744073709551616):AY 168 #[.agg (modc M lw),.agg (rw8 R)] w (Gets w (fv (vR R 8%M))):=by
 obtain ⟨V,hV⟩:=xE (vR R 8%M)
 obtain ⟨V0,hV0⟩:=xE (vR R 8)
 rw [← hV]
 refine Sy.enter (args:=[.agg (modc M lw),.agg (rw8 R)]) Tryz.func168 U kL<|sC<|sM 91 (modc M lw) (λg0=>?_)
 refine Sy.make kR 212 (rw8 R) ptr kF (λg1=>?_)
 refine sM 87 (fcs 0) (λg2=>?_)
 refine sG<|Sy.seq<|Sy.block<|Sy.loopX (T:=Nat→Nat) V0 (λk1 y1=>[(2,pT g0 0),(3,pT g1 0),(4,pT g2 0)]) (λk1 y1=>[(g0,91,(modc M lw)),(g1,212,(rw8 y1)),(g2,87,(fcs 0))]) (λk1 y1=>(∀ t,y1 t<18446744073709551616)∧vR y1 8%M=V∧vR y1 8+k1≤V0) R [true,true,true] (⟨hR,hV.symm,by show vR R 8+0≤V0; omega⟩) ac3 kR (λk1 y1 hk1 hh1=>?_)
 refine Sy.seq<|sC<|sP (pT g1 4)<|sS (uZ ((y1 4:Nat):Int)) (qy 1 4 U U B2 kR)<|sP (pT g1 5)<|sS (uZ ((y1 5:Nat):Int)) (qy 1 5 U U B2 kR)<|sS (uZ (((y1 4) ||| (y1 5):Nat):Int)) (Quiet.pure (AK .or _ _ _ .u64 _ _ _ U U U (PL _ _ _ _ _ (O6 _ _ (hh1.1 _) (hh1.1 _)))))<|sP (pT g1 6)<|sS (uZ ((y1 6:Nat):Int)) (qy 1 6 U U B2 kR)<|sS (uZ ((((y1 4) ||| (y1 5)) ||| (y1 6):Nat):Int)) (Quiet.pure (AK .or _ _ _ .u64 _ _ _ U U U (PL _ _ _ _ _ (O6 _ _ (Nat.or_lt_two_pow (n:=64) (hh1.1 _) (hh1.1 _)) (hh1.1 _)))))<|sP (pT g1 7)<|sS (uZ ((y1 7:Nat):Int)) (qy 1 7 U U B2 kR)<|sS (uZ (((((y1 4) ||| (y1 5)) ||| (y1 6)) ||| (y1 7):Nat):Int)) (Quiet.pure (AK .or _ _ _ .u64 _ _ _ U U U (PL _ _ _ _ _ (O6 _ _ (Nat.or_lt_two_pow (n:=64) (Nat.or_lt_two_pow (n:=64) (hh1.1 _) (hh1.1 _)) (hh1.1 _)) (hh1.1 _))))) ?_
 obtain ⟨b1,hb1⟩:=xE (decide ((((y1 4) ||| (y1 5)) ||| (y1 6)) ||| (y1 7)>0))
 refine sS (.bool b1) (Quiet.pure (AK .gtr _ _ _ .u64 _ _ _ U U U (DK _ _ _ _ _ (by rw [hb1]; exact decide_eq_decide.2 om))))<|sG ?_
 cases b1
 ·have lb1:=dN hb1
  refine sU<|Sy.exit<|Sy.then_exit<|Sy.then_exit ?_
  have hz:=V5 lb1
  have hlow:=Xp hz
  refine Sy.in_exit<|sB<|sS (.agg (modc M lw)) (qk 0 0 7 U U FT)<|sP (pT g1 0)<|sS (uZ ((y1 0:Nat):Int)) (qy 1 0 U U B2 kR)<|sP (pT g1 1)<|sS (uZ ((y1 1:Nat):Int)) (qy 1 1 U U B2 kR)<|sP (pT g1 2)<|sS (uZ ((y1 2:Nat):Int)) (qy 1 2 U U B2 kR)<|sP (pT g1 3)<|sS (uZ ((y1 3:Nat):Int)) (qy 1 3 U U B2 kR)<|sS (fv (vR y1 4)) (Quiet.pure (λw=>by rw [← Oi hh1.1]; kernel_rfl))<|sS (fv ((vR y1 4)%M)) (qf (λw=>hnorm w _ (JI hh1.1 4)))<|sw 2 U (fcs ((vR y1 4)%M)) (wA U)<|sG<|Sy.ret ?_
  rw [show (fv V:Value)=fv ((vR y1 4)%M) from by rw [← hh1.2.1,hlow]]
  exact rc (v:=fv ((vR y1 4)%M)) 2 U U AM
 ·have lb1:=dY hb1
  refine sT<|Sy.skip<|Sy.then_<|Sy.block<|sC<|Sy.make kR 212 (rw8 (λ_=>0)) ptr kF (λg3=>?_)
  refine sG<|Sy.seq<|sC<|sp U<|sG<|Sy.block<|Sy.loopK 4 (λk2=>[(2,pT g0 0),(3,pT g1 0),(4,pT g2 0),(5,pT g3 0),(6,iZ k2)]) (λk2=>[(g0,91,(modc M lw)),(g1,212,(rw8 y1)),(g2,87,(fcs 0)),(g3,212,(rw8 (cpy y1 k2)))]) [true,true,true,true] (M:=[(g0,91,(modc M lw)),(g1,212,(rw8 y1)),(g2,87,(fcs 0)),(g3,212,(rw8 (λ_=>0)))]) ac5 kR (AW U (AW U (AW U (AW (beq kR) rfl)))) (λk2 hk2=>?_)
  refine Sy.seq<|sC<|sp U ?_
  obtain ⟨b2,hb2⟩:=xE (decide (k2<4))
  refine sS (.bool b2) (qls U U U hb2)<|sG ?_
  cases b2
  ·have lb2:=dN hb2
   refine sU<|Sy.exit<|Sy.then_exit<|Sy.then_exit ?_
   obtain rfl:k2=4:=om
   refine Sy.in_exit<|Sy.then_<|Sy.seq<|sC<|sp U<|sG<|Sy.block<|Sy.loopX (T:=Nat→Nat) 4 (λk3 y3=>[(2,pT g0 0),(3,pT g1 0),(4,pT g2 0),(5,pT g3 0),(7,iZ k3)]) (λk3 y3=>[(g0,91,(modc M lw)),(g1,212,(rw8 y1)),(g2,87,(fcs 0)),(g3,212,(rw8 y3))]) (λk3 y3=>(∀ t,y3 t<18446744073709551616)∧vR y3 8=vR y1 4+vR (λt=>y1 (4+t)) k3*vR lw 3) (cpy y1 4) [true,true,true,true] (⟨Yv hh1.1 4,(Xq y1).trans (by show _=_+0*_; rw [Nat.zero_mul,Nat.add_zero])⟩) ac5 kR (λk3 y3 hk3 hh3=>?_)
   refine Sy.seq<|sC<|sp U ?_
   obtain ⟨b3,hb3⟩:=xE (decide (k3<4))
   refine sS (.bool b3) (qls U U U hb3)<|sG ?_
   cases b3
   ·have lb3:=dN hb3
    refine sU<|Sy.exit<|Sy.then_exit<|Sy.then_exit ?_
    obtain rfl:k3=4:=om
    refine Sy.in_exit<|Sy.then_<|Sy.region<|sS (.agg (rw8 y3)) (qx 3 0 8 U U Dl kR kL)<|Sy.write kR 1 g1 212 (rw8 y1) (rw8 y3) kR (Writes.store 0 212 (rw8 y3) _ _ U kR kR kR kL kR kR)<|Sy.nil<|Sy.in_ ?_
    have hf:=YT hlw hM0 hM hh1.1 hh3.2 lb1
    obtain ⟨hf1,hf2⟩:=hf
    exact Sy.againX y3 [true,true,true,false] (by have:=hh1.2.2; omega) (⟨hh3.1,hf1.trans hh1.2.1,by have:=hh1.2.2; omega⟩) ac3 kR
   ·have lb3:=dY hb3
    refine sT<|Sy.skip<|Sy.then_<|Sy.seq<|Sy.block<|sC<|sp U<|sG<|Sy.seq<|sC<|sp U<|sG<|Sy.block<|Sy.loopX (T:=(Nat→Nat)×Nat) 3 (λk4 y4=>[(2,pT g0 0),(3,pT g1 0),(4,pT g2 0),(5,pT g3 0),(7,iZ k3),(8,uZ ((y4.2:Nat):Int)),(9,iZ k4)]) (λk4 y4=>[(g0,91,(modc M lw)),(g1,212,(rw8 y1)),(g2,87,(fcs 0)),(g3,212,(rw8 y4.1))]) (λk4 y4=>(∀ t,y4.1 t<18446744073709551616)∧y4.2<18446744073709551616∧vR y4.1 8+y4.2*18446744073709551616 ^ (k3+k4)=vR y3 8+y1 (4+k3)*vR lw k4*18446744073709551616 ^ k3) (y3,0) [true,true,true,true] (⟨hh3.1,by show (0:Nat)<18446744073709551616; decide,by show vR y3 8+0*_=_+_*0*_; omega⟩) ac7 kR (λk4 y4 hk4 hh4=>?_)
    refine Sy.seq<|sC<|sp U ?_
    obtain ⟨b4,hb4⟩:=xE (decide (k4<3))
    refine sS (.bool b4) (qls U U U hb4)<|sG ?_
    cases b4
    ·have lb4:=dN hb4
     refine sU<|Sy.exit<|Sy.then_exit<|Sy.then_exit ?_
     obtain rfl:k4=3:=om
     refine Sy.in_exit<|sB<|sp U<|sS (iZ (k3+3)) (qad U U U)<|sp U<|sG<|Sy.block<|Sy.loopX (T:=(Nat→Nat)×Nat) (5 - k3) (λk5 y5=>[(2,pT g0 0),(3,pT g1 0),(4,pT g2 0),(5,pT g3 0),(7,iZ k3),(8,uZ ((y5.2:Nat):Int)),(16,iZ (k3+3+k5))]) (λk5 y5=>[(g0,91,(modc M lw)),(g1,212,(rw8 y1)),(g2,87,(fcs 0)),(g3,212,(rw8 y5.1))]) (λk5 y5=>(∀ t,y5.1 t<18446744073709551616)∧y5.2<18446744073709551616∧vR y5.1 8+y5.2*18446744073709551616 ^ (k3+3+k5)=vR y3 8+y1 (4+k3)*vR lw 3*18446744073709551616 ^ k3) y4 [true,true,true,true] (⟨hh4.1,hh4.2.1,hh4.2.2⟩) ac7 kR (λk5 y5 hk5 hh5=>?_)
     refine Sy.seq<|sC<|sp U ?_
     obtain ⟨b5,hb5⟩:=xE (decide (k3+3+k5<8))
     refine sS (.bool b5) (qls U U U hb5)<|sp U ?_
     cases b5
     ·have lb5:=dN hb5
      refine sN<|sN<|sP (.bool false)<|sG<|sU<|Sy.exit<|Sy.then_exit<|Sy.then_exit ?_
      have hfin:=aC hlw hh1.1 hh3.2 hh5.1 hh5.2.2 om (by first | (left; omega) | (right; omega))
      refine Sy.in_exit<|Sy.in_<|Sy.then_<|Sy.region<|sp U<|sS (iZ (k3+1)) (qad U U U)<|sp U<|Sy.nil ?_
      have hq:=hfin
      exact Sy.againX y5.1 [true,true,true,true] om (⟨hh5.1,hq⟩) ac5 kR
     ·have lb5:=dY hb5
      refine sp U ?_
      obtain ⟨b6,hb6⟩:=xE (decide (y5.2>0))
      refine sS (.bool b6) (Quiet.pure (AK .gtr _ _ _ .u64 _ _ _ U U U (DK _ _ _ _ _ (by rw [hb6]; exact decide_eq_decide.2 om))))<|sP (.bool b6)<|sG ?_
      cases b6
      ·have lb6:=dN hb6
       refine sU<|Sy.exit<|Sy.then_exit<|Sy.then_exit ?_
       have hfin:=aC hlw hh1.1 hh3.2 hh5.1 hh5.2.2 om (by first | (left; omega) | (right; omega))
       refine Sy.in_exit<|Sy.in_<|Sy.then_<|Sy.region<|sp U<|sS (iZ (k3+1)) (qad U U U)<|sp U<|Sy.nil ?_
       have hq:=hfin
       exact Sy.againX y5.1 [true,true,true,true] om (⟨hh5.1,hq⟩) ac5 kR
      ·have lb6:=dY hb6
       refine sT<|Sy.skip<|Sy.then_<|Sy.seq<|Sy.block<|sC<|sp U<|sS (.pointer (some ⟨g3,0+(k3+3+k5)*1,none⟩)) (Quiet.pure (A_ 212 _ _ _ g3 0 _ (k3+3+k5) 1 .i64 U U U Dl kF om))<|sS (uZ ((y5.1 (k3+3+k5):Nat):Int)) (qy 3 (0+(k3+3+k5)*1) rfl U B2 (H7 y5.1 (k:=k3+3+k5) om om))<|sp U ?_
       obtain ⟨x1,c1,lx1,lc1,ex1,rx1⟩:=DN (y5.1 (k3+3+k5)) (y5.2) (by first | assumption | exact hR _ | exact hlw _ | exact As _ _ | exact hh1.1 _ | exact hh3.1 _ | exact hh4.1 _ | exact hh5.1 _ | exact hh5.2.1 | exact hh4.2.1 | decide) (by first | assumption | exact hR _ | exact hlw _ | exact As _ _ | exact hh1.1 _ | exact hh3.1 _ | exact hh4.1 _ | exact hh5.1 _ | exact hh5.2.1 | exact hh4.2.1 | decide)
       refine sS (.tuple #[uZ ((x1:Nat):Int),uZ ((c1:Nat):Int)]) (Quiet.pure (λw=>Eq.trans kR (rx1 w)))<|sp U<|sp U<|sp U<|sp U<|sp U<|sA<|sp U<|sp U<|sS (.pointer (some ⟨g3,0+(k3+3+k5)*1,none⟩)) (Quiet.pure (A_ 212 _ _ _ g3 0 _ (k3+3+k5) 1 .i64 U U U Dl kF om))<|Sy.write kR 3 g3 212 (rw8 y5.1) (rw8 (upd y5.1 (k3+3+k5) x1)) kR (Writes.one (0+(k3+3+k5)*1) 24 (uZ ((x1:Nat):Int)) _ _ U kR kR kR U U (E3 _ (k:=k3+3+k5) om om) (E2 _ _ om om))<|sG<|Sy.region<|sp U<|sp U<|Sy.nil<|Sy.in_<|Sy.then_<|Sy.region<|sp U<|sS (iZ ((k3+3+k5)+1)) (qad U U U)<|sp U<|Sy.nil ?_
       have hin:=Yz (Hz y5.1 (k3+3+k5) x1 8 om) hh5.2.2 ex1
       exact Sy.againX ((upd y5.1 (k3+3+k5) x1,c1)) [true,true,true,true] om (⟨H2 hh5.1 lx1,by omega,by rw [← Nat.add_assoc,Nat.pow_succ]; exact hin⟩) ac7 kR
    ·have lb4:=dY hb4
     refine sT<|Sy.skip<|Sy.then_<|Sy.seq<|Sy.block<|Sy.seq<|Sy.regionD (λj=>false) kR<|sz 0 U U<|sD 1 U (iZ (4+k3)) (qad U U U)<|sD 2 U (.pointer (some ⟨g1,0+(4+k3)*1,none⟩)) (Quiet.pure (A_ 212 _ _ _ g1 0 _ (4+k3) 1 .i64 U U U Dl kF om))<|sD 3 U (uZ ((y1 (4+k3):Nat):Int)) (qy 1 (0+(4+k3)*1) rfl U B2 (H7 y1 (k:=4+k3) om om))<|sz 4 U U<|sZ 5 U (pT g0 4)<|sD 6 U (.pointer (some ⟨g0,4+k4*1,none⟩)) (Quiet.pure (A_ 89 _ _ _ g0 4 _ k4 1 .i64 U U U aR kF om))<|sD 7 U (uZ ((lw k4:Nat):Int)) (qy 0 (4+k4*1) rfl U B2 (WK M lw (j:=k4) om om)) ?_
     obtain ⟨hi1,lo1,llo1,elo1⟩:=Km (y1 (4+k3)) (lw k4)
     refine sD 8 U (.tuple #[uZ ((hi1:Nat):Int),uZ ((lo1:Nat):Int)]) (qf (λw=>mulZ_any w (y1 (4+k3)) (lw k4) hi1 lo1 (by first | assumption | exact hR _ | exact hlw _ | exact As _ _ | exact hh1.1 _ | exact hh3.1 _ | exact hh4.1 _ | exact hh5.1 _ | exact hh5.2.1 | exact hh4.2.1 | decide) (by first | assumption | exact hR _ | exact hlw _ | exact As _ _ | exact hh1.1 _ | exact hh3.1 _ | exact hh4.1 _ | exact hh5.1 _ | exact hh5.2.1 | exact hh4.2.1 | decide) llo1 elo1))<|sz 9 U U<|sz 10 U U<|sz 11 U U<|sz 12 U U<|sz 13 U U<|sE<|sB<|sp U<|sp U<|sp U<|sS (iZ (k3+k4)) (qad U U U)<|sS (.pointer (some ⟨g3,0+(k3+k4)*1,none⟩)) (Quiet.pure (A_ 212 _ _ _ g3 0 _ (k3+k4) 1 .i64 U U U Dl kF om))<|sS (uZ ((y4.1 (k3+k4):Nat):Int)) (qy 3 (0+(k3+k4)*1) rfl U B2 (H7 y4.1 (k:=k3+k4) om om)) ?_
     obtain ⟨x2,c2,lx2,lc2,ex2,rx2⟩:=DN (lo1) (y4.1 (k3+k4)) (by first | assumption | exact hR _ | exact hlw _ | exact As _ _ | exact hh1.1 _ | exact hh3.1 _ | exact hh4.1 _ | exact hh5.1 _ | exact hh5.2.1 | exact hh4.2.1 | decide) (by first | assumption | exact hR _ | exact hlw _ | exact As _ _ | exact hh1.1 _ | exact hh3.1 _ | exact hh4.1 _ | exact hh5.1 _ | exact hh5.2.1 | exact hh4.2.1 | decide)
     refine sS (.tuple #[uZ ((x2:Nat):Int),uZ ((c2:Nat):Int)]) (Quiet.pure (λw=>Eq.trans kR (rx2 w)))<|sp U<|sp U<|sp U<|sp U<|sp U<|sA<|sp U<|sp U ?_
     obtain ⟨x3,c3,lx3,lc3,ex3,rx3⟩:=DN (x2) (y4.2) (by first | assumption | exact hR _ | exact hlw _ | exact As _ _ | exact hh1.1 _ | exact hh3.1 _ | exact hh4.1 _ | exact hh5.1 _ | exact hh5.2.1 | exact hh4.2.1 | decide) (by first | assumption | exact hR _ | exact hlw _ | exact As _ _ | exact hh1.1 _ | exact hh3.1 _ | exact hh4.1 _ | exact hh5.1 _ | exact hh5.2.1 | exact hh4.2.1 | decide)
     refine sS (.tuple #[uZ ((x3:Nat):Int),uZ ((c3:Nat):Int)]) (Quiet.pure (λw=>Eq.trans kR (rx3 w)))<|sp U<|sp U<|sp U<|sp U<|sp U<|sA<|sp U<|sp U<|sS (iZ (k3+k4)) (qad U U U)<|sp U<|sS (.pointer (some ⟨g3,0+(k3+k4)*1,none⟩)) (Quiet.pure (A_ 212 _ _ _ g3 0 _ (k3+k4) 1 .i64 U U U Dl kF om))<|Sy.write kR 3 g3 212 (rw8 y4.1) (rw8 (upd y4.1 (k3+k4) x3)) kR (Writes.one (0+(k3+k4)*1) 24 (uZ ((x3:Nat):Int)) _ _ U kR kR kR U U (E3 _ (k:=k3+k4) om om) (E2 _ _ om om))<|sG<|Sy.region<|sp U<|sp U ?_
     have hst:=XT elo1 ex2 ex3
     have hcar:=Un hst (by first | assumption | exact hR _ | exact hlw _ | exact As _ _ | exact hh1.1 _ | exact hh3.1 _ | exact hh4.1 _ | exact hh5.1 _ | exact hh5.2.1 | exact hh4.2.1 | decide) (by first | assumption | exact hR _ | exact hlw _ | exact As _ _ | exact hh1.1 _ | exact hh3.1 _ | exact hh4.1 _ | exact hh5.1 _ | exact hh5.2.1 | exact hh4.2.1 | decide) (by first | assumption | exact hR _ | exact hlw _ | exact As _ _ | exact hh1.1 _ | exact hh3.1 _ | exact hh4.1 _ | exact hh5.1 _ | exact hh5.2.1 | exact hh4.2.1 | decide) hh4.2.1
     refine sS (uZ ((hi1+c2:Nat):Int)) (Quiet.pure (AK .add _ _ _ .u64 _ _ _ U U U (Hd _ _ _ _ _ ((wrap_u64 om om).trans om))))<|sp U<|sS (uZ (((hi1+c2)+c3:Nat):Int)) (Quiet.pure (AK .add _ _ _ .u64 _ _ _ U U U (Hd _ _ _ _ _ ((wrap_u64 om om).trans om))))<|sp U<|Sy.nil<|Sy.in_<|Sy.then_<|Sy.region<|sp U<|sS (iZ (k4+1)) (qad U U U)<|sp U<|Sy.nil ?_
     have hin:=PM (Hz y4.1 (k3+k4) x3 8 om) hh4.2.2 hst (P0:=18446744073709551616 ^ k4) (by rw [Nat.add_comm,Nat.pow_add])
     exact Sy.againX ((upd y4.1 (k3+k4) x3,hi1+c2+c3)) [true,true,true,true] om (⟨H2 hh4.1 lx3,hcar,by rw [← Nat.add_assoc,Nat.pow_succ]; exact hin⟩) ac7 kR
  ·have lb2:=dY hb2
   refine sT<|Sy.skip<|Sy.then_<|Sy.seq<|Sy.block<|Sy.region<|sp U<|sp U<|sS (.pointer (some ⟨g1,0+k2*1,none⟩)) (Quiet.pure (A_ 212 _ _ _ g1 0 _ k2 1 .i64 U U U Dl kF om))<|sS (uZ ((y1 k2:Nat):Int)) (qy 1 (0+k2*1) rfl U B2 (H7 y1 (k:=k2) om om))<|sS (.pointer (some ⟨g3,0+k2*1,none⟩)) (Quiet.pure (A_ 212 _ _ _ g3 0 _ k2 1 .i64 U U U Dl kF om))<|Sy.write kR 3 g3 212 (rw8 (cpy y1 k2)) (rw8 (upd (cpy y1 k2) k2 (y1 k2))) kR (Writes.one (0+k2*1) 24 (uZ ((y1 k2:Nat):Int)) _ _ U kR kR kR U U (E3 _ (k:=k2) om om) (E2 _ _ om om))<|Sy.nil<|Sy.in_<|Sy.then_<|Sy.region<|sp U<|sS (iZ (k2+1)) (qad U U U)<|sp U<|Sy.nil ?_
   exact Sy.againK [true,true,true,true] (M:=[(g0,91,(modc M lw)),(g1,212,(rw8 y1)),(g2,87,(fcs 0)),(g3,212,(rw8 (upd (cpy y1 k2) k2 (y1 k2))))]) om ac5 kR (AW U (AW U (AW U (AW (beq (congrArg rw8 (Ue _ _))) U))))
end Fz
end
section
section
open Go.RowKit Go.Lib
def Q5 (a b c d e f g h:Nat):Nat:=a+18446744073709551616*b+340282366920938463463374607431768211456*c+6277101735386680763835789423207666416102355444464034512896*d+(2^256)*e+2135987035920910082395021706169552114602704522356652769947041607822219725780640550022962086936576*f+39402006196394479212279040100143613805079739270465446667948293404245721771497210611414266254884915640806627990306816*g+726838724295606890549323807888004534353641360687318060281490199180639288113397923326191050713763565560762521606266177933534601628614656*h
def r8 (a b c d e f g h:Nat):Nat→Nat
 | 0=>a
 | 1=>b
 | 2=>c
 | 3=>d
 | 4=>e
 | 5=>f
 | 6=>g
 | 7=>h
 | _=>0
theorem YM (a b c d e f g h:Nat):Fz.vR (r8 a b c d e f g h) 8=Q5 a b c d e f g h:=by
 show 0+a*1+b*18446744073709551616+c*340282366920938463463374607431768211456+d*6277101735386680763835789423207666416102355444464034512896+e*(2^256)+f*2135987035920910082395021706169552114602704522356652769947041607822219725780640550022962086936576+g*39402006196394479212279040100143613805079739270465446667948293404245721771497210611414266254884915640806627990306816+h*726838724295606890549323807888004534353641360687318060281490199180639288113397923326191050713763565560762521606266177933534601628614656=Q5 a b c d e f g h
 unfold Q5
 omega
def LC:Nat→Nat
 | 0=>4294968273
 | 1=>0
 | 2=>0
 | _=>0
theorem J5:∀ t,LC t<18446744073709551616
 | 0=>by decide
 | 1=>by decide
 | 2=>by decide
 | _+3=>by show 0<_; decide
theorem GJ:Fz.modc pM LC=mP7:=kZ
theorem J4:pM+Fz.vR LC 3=18446744073709551616 ^ 4:=by decide +kernel
theorem L7:0<pM:=by decide +kernel
theorem UF (w:World) (d0 d1 d2 d3 d4 d5 d6 d7:Nat) (hd:d0<18446744073709551616∧d1<18446744073709551616∧d2<18446744073709551616∧d3<18446744073709551616∧d4<18446744073709551616∧d5<18446744073709551616∧d6<18446744073709551616∧d7<18446744073709551616):Calls Tryz.prog 168 #[.agg mP7,.agg #[.int .u64 (d0:Int),.int .u64 (d1:Int),.int .u64 (d2:Int),.int .u64 (d3:Int),.int .u64 (d4:Int),.int .u64 (d5:Int),.int .u64 (d6:Int),.int .u64 (d7:Int)]] w λe w'=>e=.returned (fv (Q5 d0 d1 d2 d3 d4 d5 d6 d7%pM))∧Below w.heap.size w w':=by
 have h:=Fz.foldZ w pM LC J5 L7 J4 (λw x hx=>by rw [GJ]; exact normR_any w x hx) (r8 d0 d1 d2 d3 d4 d5 d6 d7) (λt=>by
  obtain ⟨h0,h1,h2,h3,h4,h5,h6,h7⟩:=hd
  rcases t with _ | _ | _ | _ | _ | _ | _ | _ | t <;> first | assumption | exact Nat.zero_lt_succ _)
 rw [YM,GJ] at h
 exact h
end
end
section
section
open Go.RowKit Go.Lib
theorem Hu (w:World) (a b c d:Obj):Below w.heap.size w ((((w.alloc a).alloc b).alloc c).alloc d):=(Ac w a b c).alloc (by simp <;> omega) _
theorem MY (w:World) (a b c d e:Obj):Below w.heap.size w (((((w.alloc a).alloc b).alloc c).alloc d).alloc e):=(Hu w a b c d).alloc (by simp <;> omega) _
theorem Uu (w:World) (a b c d:Obj) (t:TypeId) (cs:Array Value):Blk (((((w.alloc a).alloc b).alloc c).alloc d).alloc (.cells cs t)) (w.heap.size+4) t cs:=by
 have h:=Blk.new ((((w.alloc a).alloc b).alloc c).alloc d) t cs
 have e:((((w.alloc a).alloc b).alloc c).alloc d).heap.size=w.heap.size+4:=by simp
 rwa [e] at h
section
variable {P:Program} {ops:Array Oper}
theorem YieldsG.loadP {o:Oper} {a:Act} {w:World} {d:TypeDesc} (hw:Region.wanted o (yielded ops a.tmps)=true) (ty:TypeId) (x:Operand) (ho:o.op=.load ty x)
  (g:Nat) (hx:a.eval x=pT g 0) (n:Nat) (cs:List Value) (hl:g<w.heap.size) (hr:w.rangeAt g 0 cs) (hf:fv n=.agg cs.toArray)
  (hu:P.underlying ty=some d) (hd:d.isRow=true) (hi:(P.info? ty).map (·.size)=some cs.length):YieldsG P ops o (fv n) a w:=by
 rw [hf]
 exact YieldsG.load hw ty x ho g 0 hx cs d hl hr hu hd hi
end
theorem KP (w:World) (x y:Nat) (hx:x<(2^256)) (hy:y<(2^256)):Calls Tryz.prog 105 #[.agg mP7,fv x,fv y] w λe w'=>e=.returned (fv (addP x y))∧Below w.heap.size w w':=by
 obtain ⟨x0,x1,x2,x3,a0,a1,a2,a3,ex,fx⟩:=Aw x hx
 obtain ⟨y0,y1,y2,y3,b0,b1,b2,b3,ey,fy⟩:=Aw y hy
 obtain ⟨s0,c0,d0,k0,e0,r0⟩:=DN x0 y0 a0 b0
 obtain ⟨s1,c1,d1,k1,e1,r1⟩:=C3 x1 y1 c0 a1 b1 k0
 obtain ⟨s2,c2,d2,k2,e2,r2⟩:=C3 x2 y2 c1 a2 b2 k1
 obtain ⟨s3,c3,d3,k3,e3,r3⟩:=C3 x3 y3 c2 a3 b3 k2
 have fin:Q5 s0 s1 s2 s3 c3 0 0 0=x+y:=by simp only [Q5]; omega
 obtain ⟨z,hz⟩:=xE (addP x y)
 have cF:∀ w,Calls Tryz.prog 168 #[.agg mP7,.agg #[.int .u64 (s0:Int),.int .u64 (s1:Int),.int .u64 (s2:Int),.int .u64 (s3:Int),.int .u64 (c3:Int),.int .u64 0,.int .u64 0,.int .u64 0]] w λe w'=>e=.returned (fv z)∧Below w.heap.size w w':=by
  intro w
  have h:=UF w s0 s1 s2 s3 c3 0 0 0 ⟨d0,d1,d2,d3,by omega,by omega,by omega,by omega⟩
  rw [fin] at h
  rw [hz]
  exact h
 rw [fx,fy, ← hz]
 clear fx fy ex ey hx hy hz a0 a1 a2 a3 b0 b1 b2 b3 d0 d1 d2 d3 k0 k1 k2 k3 e0 e1 e2 e3 fin
 go_enter Tryz.func105,Tryz.ntmps105
 go_wp2_with fail
 go_loopw [8,9] (λbo i wr=>Below w.heap.size w wr∧Blk wr w.heap.size 91 mP7∧Blk wr (w.heap.size+1) 87 #[.int .u64 (x0:Int),.int .u64 (x1:Int),.int .u64 (x2:Int),.int .u64 (x3:Int)]∧Blk wr (w.heap.size+2) 87 #[.int .u64 (y0:Int),.int .u64 (y1:Int),.int .u64 (y2:Int),.int .u64 (y3:Int)]∧Blk wr (w.heap.size+3) 87 #[.int .u64 0,.int .u64 0,.int .u64 0,.int .u64 0]∧Hid ((i=.int .i64 0∧bo=.int .u64 0∧Blk wr (w.heap.size+4) 212 #[.int .u64 0,.int .u64 0,.int .u64 0,.int .u64 0,.int .u64 0,.int .u64 0,.int .u64 0,.int .u64 0])∨(i=.int .i64 1∧bo=.int .u64 (c0:Int)∧Blk wr (w.heap.size+4) 212 #[.int .u64 (s0:Int),.int .u64 0,.int .u64 0,.int .u64 0,.int .u64 0,.int .u64 0,.int .u64 0,.int .u64 0])∨(i=.int .i64 2∧bo=.int .u64 (c1:Int)∧Blk wr (w.heap.size+4) 212 #[.int .u64 (s0:Int),.int .u64 (s1:Int),.int .u64 0,.int .u64 0,.int .u64 0,.int .u64 0,.int .u64 0,.int .u64 0])∨(i=.int .i64 3∧bo=.int .u64 (c2:Int)∧Blk wr (w.heap.size+4) 212 #[.int .u64 (s0:Int),.int .u64 (s1:Int),.int .u64 (s2:Int),.int .u64 0,.int .u64 0,.int .u64 0,.int .u64 0,.int .u64 0])∨(i=.int .i64 4∧bo=.int .u64 (c3:Int)∧Blk wr (w.heap.size+4) 212 #[.int .u64 (s0:Int),.int .u64 (s1:Int),.int .u64 (s2:Int),.int .u64 (s3:Int),.int .u64 0,.int .u64 0,.int .u64 0,.int .u64 0]))) (λ_ i _=>4 - (intOf i).toNat)
 case atStart=>exact ⟨MY w _ _ _ _ _,(((((Blk.new w _ _).alloc _).alloc _).alloc _).alloc _),((((AZ w _ _ _).alloc _).alloc _).alloc _),(((Ax w _ _ _ _).alloc _).alloc _),((Hq w _ _ _ _ _).alloc _),Lib.hid (.inl ⟨rfl,rfl,Uu w _ _ _ _ _ _⟩)⟩
 case round =>
  obtain ⟨hb,BM,BX,BY,BR,HI⟩:=hrel
  have lX:=BX.lt
  have lY:=BY.lt
  have lR:=BR.lt
  rcases HI.out with ⟨rfl,rfl,BW⟩ | ⟨rfl,rfl,BW⟩ | ⟨rfl,rfl,BW⟩ | ⟨rfl,rfl,BW⟩ | ⟨rfl,rfl,BW⟩
  ·clear HI
   have px:wr.cell? ⟨w.heap.size+1,0,none⟩=some (.int .u64 (x0:Int)):=BX.cell 0
   have py:wr.cell? ⟨w.heap.size+2,0,none⟩=some (.int .u64 (y0:Int)):=BY.cell 0
   go_wp2
   refine AJ (λ_=>false) kZ ?_
   try simp only [Act.put]
   refine tk 0 U ?_
   refine tk 1 U ?_
   try simp only [aPS]
   refine tkw 2 U (YieldsG.pure (v:=.int .u64 (x0:Int)) (by rfl) (λw9 h9=>by have hz:=(Below.cell (p:=⟨w.heap.size+1,0,none⟩) h9 lX).trans px; go_simp; first | done | simp [hz])) ?_
   try simp only [aPS]
   refine tk 3 U ?_
   refine tk 4 U ?_
   try simp only [aPS]
   refine tkw 5 U (YieldsG.pure (v:=.int .u64 (y0:Int)) (by rfl) (λw9 h9=>by have hz:=(Below.cell (p:=⟨w.heap.size+2,0,none⟩) h9 lY).trans py; go_simp; first | done | simp [hz])) ?_
   try simp only [aPS]
   refine tk 6 U ?_
   try simp only [aPS]
   refine tkw 7 U (YieldsG.pure (v:=.tuple #[.int .u64 (s0:Int),.int .u64 (c0:Int)]) (by rfl) (λw9 h9=>by go_simp)) ?_
   try simp only [aPS]
   refine tk 8 U ?_
   refine tk 9 U ?_
   refine tk 10 U ?_
   refine tk 11 U ?_
   refine tk 12 U ?_
   try simp only [aPS]
   refine AH kZ (λu hu=>?_)
   have BM:=Gr.blk hu BM
   have BX:=Gr.blk hu BX
   have BY:=Gr.blk hu BY
   have BR:=Gr.blk hu BR
   have BW:=Gr.blk hu BW
   have hb:=Below.gr hb hu
   have pc:u.cell? ⟨w.heap.size+4,0,none⟩=some (.int .u64 0):=BW.cell 0
   have pf:=BW.frozen 0
   clear hu px py
   go_wp2
   refine ⟨⟨hb.setCell (by show w.heap.size≤w.heap.size+4; omega) _,BM.far (by show w.heap.size≠w.heap.size+4; omega) _,BX.far (by show w.heap.size+1≠w.heap.size+4; omega) _,BY.far (by show w.heap.size+2≠w.heap.size+4; omega) _,BR.far (by show w.heap.size+3≠w.heap.size+4; omega) _,Lib.hid (.inr (.inl (⟨rfl,rfl,BW.set_ 0 _⟩)))⟩,by decide⟩
  ·clear HI
   have px:wr.cell? ⟨w.heap.size+1,1,none⟩=some (.int .u64 (x1:Int)):=BX.cell 1
   have py:wr.cell? ⟨w.heap.size+2,1,none⟩=some (.int .u64 (y1:Int)):=BY.cell 1
   go_wp2
   refine AJ (λ_=>false) kZ ?_
   try simp only [Act.put]
   refine tk 0 U ?_
   refine tk 1 U ?_
   try simp only [aPS]
   refine tkw 2 U (YieldsG.pure (v:=.int .u64 (x1:Int)) (by rfl) (λw9 h9=>by have hz:=(Below.cell (p:=⟨w.heap.size+1,1,none⟩) h9 lX).trans px; go_simp; first | done | simp [hz])) ?_
   try simp only [aPS]
   refine tk 3 U ?_
   refine tk 4 U ?_
   try simp only [aPS]
   refine tkw 5 U (YieldsG.pure (v:=.int .u64 (y1:Int)) (by rfl) (λw9 h9=>by have hz:=(Below.cell (p:=⟨w.heap.size+2,1,none⟩) h9 lY).trans py; go_simp; first | done | simp [hz])) ?_
   try simp only [aPS]
   refine tk 6 U ?_
   try simp only [aPS]
   refine tkw 7 U (YieldsG.pure (v:=.tuple #[.int .u64 (s1:Int),.int .u64 (c1:Int)]) (by rfl) (λw9 h9=>by go_simp)) ?_
   try simp only [aPS]
   refine tk 8 U ?_
   refine tk 9 U ?_
   refine tk 10 U ?_
   refine tk 11 U ?_
   refine tk 12 U ?_
   try simp only [aPS]
   refine AH kZ (λu hu=>?_)
   have BM:=Gr.blk hu BM
   have BX:=Gr.blk hu BX
   have BY:=Gr.blk hu BY
   have BR:=Gr.blk hu BR
   have BW:=Gr.blk hu BW
   have hb:=Below.gr hb hu
   have pc:u.cell? ⟨w.heap.size+4,1,none⟩=some (.int .u64 0):=BW.cell 1
   have pf:=BW.frozen 1
   clear hu px py
   go_wp2
   refine ⟨⟨hb.setCell (by show w.heap.size≤w.heap.size+4; omega) _,BM.far (by show w.heap.size≠w.heap.size+4; omega) _,BX.far (by show w.heap.size+1≠w.heap.size+4; omega) _,BY.far (by show w.heap.size+2≠w.heap.size+4; omega) _,BR.far (by show w.heap.size+3≠w.heap.size+4; omega) _,Lib.hid (.inr (.inr (.inl (⟨rfl,rfl,BW.set_ 1 _⟩))))⟩,by decide⟩
  ·clear HI
   have px:wr.cell? ⟨w.heap.size+1,2,none⟩=some (.int .u64 (x2:Int)):=BX.cell 2
   have py:wr.cell? ⟨w.heap.size+2,2,none⟩=some (.int .u64 (y2:Int)):=BY.cell 2
   go_wp2
   refine AJ (λ_=>false) kZ ?_
   try simp only [Act.put]
   refine tk 0 U ?_
   refine tk 1 U ?_
   try simp only [aPS]
   refine tkw 2 U (YieldsG.pure (v:=.int .u64 (x2:Int)) (by rfl) (λw9 h9=>by have hz:=(Below.cell (p:=⟨w.heap.size+1,2,none⟩) h9 lX).trans px; go_simp; first | done | simp [hz])) ?_
   try simp only [aPS]
   refine tk 3 U ?_
   refine tk 4 U ?_
   try simp only [aPS]
   refine tkw 5 U (YieldsG.pure (v:=.int .u64 (y2:Int)) (by rfl) (λw9 h9=>by have hz:=(Below.cell (p:=⟨w.heap.size+2,2,none⟩) h9 lY).trans py; go_simp; first | done | simp [hz])) ?_
   try simp only [aPS]
   refine tk 6 U ?_
   try simp only [aPS]
   refine tkw 7 U (YieldsG.pure (v:=.tuple #[.int .u64 (s2:Int),.int .u64 (c2:Int)]) (by rfl) (λw9 h9=>by go_simp)) ?_
   try simp only [aPS]
   refine tk 8 U ?_
   refine tk 9 U ?_
   refine tk 10 U ?_
   refine tk 11 U ?_
   refine tk 12 U ?_
   try simp only [aPS]
   refine AH kZ (λu hu=>?_)
   have BM:=Gr.blk hu BM
   have BX:=Gr.blk hu BX
   have BY:=Gr.blk hu BY
   have BR:=Gr.blk hu BR
   have BW:=Gr.blk hu BW
   have hb:=Below.gr hb hu
   have pc:u.cell? ⟨w.heap.size+4,2,none⟩=some (.int .u64 0):=BW.cell 2
   have pf:=BW.frozen 2
   clear hu px py
   go_wp2
   refine ⟨⟨hb.setCell (by show w.heap.size≤w.heap.size+4; omega) _,BM.far (by show w.heap.size≠w.heap.size+4; omega) _,BX.far (by show w.heap.size+1≠w.heap.size+4; omega) _,BY.far (by show w.heap.size+2≠w.heap.size+4; omega) _,BR.far (by show w.heap.size+3≠w.heap.size+4; omega) _,Lib.hid (.inr (.inr (.inr (.inl (⟨rfl,rfl,BW.set_ 2 _⟩)))))⟩,by decide⟩
  ·clear HI
   have px:wr.cell? ⟨w.heap.size+1,3,none⟩=some (.int .u64 (x3:Int)):=BX.cell 3
   have py:wr.cell? ⟨w.heap.size+2,3,none⟩=some (.int .u64 (y3:Int)):=BY.cell 3
   go_wp2
   refine AJ (λ_=>false) kZ ?_
   try simp only [Act.put]
   refine tk 0 U ?_
   refine tk 1 U ?_
   try simp only [aPS]
   refine tkw 2 U (YieldsG.pure (v:=.int .u64 (x3:Int)) (by rfl) (λw9 h9=>by have hz:=(Below.cell (p:=⟨w.heap.size+1,3,none⟩) h9 lX).trans px; go_simp; first | done | simp [hz])) ?_
   try simp only [aPS]
   refine tk 3 U ?_
   refine tk 4 U ?_
   try simp only [aPS]
   refine tkw 5 U (YieldsG.pure (v:=.int .u64 (y3:Int)) (by rfl) (λw9 h9=>by have hz:=(Below.cell (p:=⟨w.heap.size+2,3,none⟩) h9 lY).trans py; go_simp; first | done | simp [hz])) ?_
   try simp only [aPS]
   refine tk 6 U ?_
   try simp only [aPS]
   refine tkw 7 U (YieldsG.pure (v:=.tuple #[.int .u64 (s3:Int),.int .u64 (c3:Int)]) (by rfl) (λw9 h9=>by go_simp)) ?_
   try simp only [aPS]
   refine tk 8 U ?_
   refine tk 9 U ?_
   refine tk 10 U ?_
   refine tk 11 U ?_
   refine tk 12 U ?_
   try simp only [aPS]
   refine AH kZ (λu hu=>?_)
   have BM:=Gr.blk hu BM
   have BX:=Gr.blk hu BX
   have BY:=Gr.blk hu BY
   have BR:=Gr.blk hu BR
   have BW:=Gr.blk hu BW
   have hb:=Below.gr hb hu
   have pc:u.cell? ⟨w.heap.size+4,3,none⟩=some (.int .u64 0):=BW.cell 3
   have pf:=BW.frozen 3
   clear hu px py
   go_wp2
   refine ⟨⟨hb.setCell (by show w.heap.size≤w.heap.size+4; omega) _,BM.far (by show w.heap.size≠w.heap.size+4; omega) _,BX.far (by show w.heap.size+1≠w.heap.size+4; omega) _,BY.far (by show w.heap.size+2≠w.heap.size+4; omega) _,BR.far (by show w.heap.size+3≠w.heap.size+4; omega) _,Lib.hid (.inr (.inr (.inr (.inr (⟨rfl,rfl,BW.set_ 3 _⟩)))))⟩,by decide⟩
  ·clear HI
   have pc:wr.cell? ⟨w.heap.size+4,4,none⟩=some (.int .u64 0):=BW.cell 4
   have pf:=BW.frozen 4
   have BM4:Blk (wr.setCell ⟨w.heap.size+4,4,none⟩ (.int .u64 (c3:Int))) w.heap.size 91 mP7:=BM.far (by show w.heap.size≠w.heap.size+4; omega) _
   have BW4:Blk (wr.setCell ⟨w.heap.size+4,4,none⟩ (.int .u64 (c3:Int))) (w.heap.size+4) 212 #[.int .u64 (s0:Int),.int .u64 (s1:Int),.int .u64 (s2:Int),.int .u64 (s3:Int),.int .u64 (c3:Int),.int .u64 0,.int .u64 0,.int .u64 0]:=BW.set_ 4 _
   have BR4:Blk (wr.setCell ⟨w.heap.size+4,4,none⟩ (.int .u64 (c3:Int))) (w.heap.size+3) 87 #[.int .u64 0,.int .u64 0,.int .u64 0,.int .u64 0]:=BR.far (by show w.heap.size+3≠w.heap.size+4; omega) _
   have hb4:Below w.heap.size w (wr.setCell ⟨w.heap.size+4,4,none⟩ (.int .u64 (c3:Int))):=hb.setCell (by show w.heap.size≤w.heap.size+4; omega) _
   have H4:=Lib.hid (And.intro BM4 (And.intro BW4 (And.intro BR4 hb4)))
   clear BM BX BY BR BW hb BM4 BW4 BR4 hb4
   go_wp2_with (first | ((with_reducible refine AD (d:=some 33) ?_); refine Az U _ _ U w.heap.size U _ _ _ H4.out.1 FT U kZ ?_) | ((with_reducible refine AD (d:=some 34) ?_); refine Az U _ _ U (w.heap.size+4) rfl _ _ _ H4.out.2.1 Dl U kZ ?_))
   refine (cF _).mono ?_
   rintro e u ⟨rfl,hu⟩
   have BRu:=Gr.blk hu H4.out.2.2.1
   have hbu:=Below.gr H4.out.2.2.2 hu
   clear hu H4 cF
   go_wp2_with ((with_reducible refine AE ?_); refine AA U _ _ _ U (w.heap.size+3) (fcs z) U U _ _ BRu kZ (by rfl) (AG _) ?_; intro w9 hL9 hB9 hK9)
   exact bodyPost_ret (results_cell_row U _ _ (w.heap.size+3) _ _ (0,0) _ U hL9 AM U kZ) rfl ⟨rfl,hbu.trans (hB9 _ om)⟩
theorem NY (w:World) (x:Nat) (hx:x<(2^256)):Calls Tryz.prog 136 #[.agg mP7,fv x] w λe w'=>e=.returned (fv (negP x))∧Below w.heap.size w w':=by
 obtain ⟨n,hn⟩:=xE (x%pM)
 have np:n<115792089237316195423570985008687907853269984665640564039457584007908834671663:=by rw [hn]; exact mod_lt_p x
 obtain ⟨p,hp⟩:∃ p,p=115792089237316195423570985008687907853269984665640564039457584007908834671663:=⟨_,rfl⟩
 obtain ⟨q,hq⟩:=xE (p - n)
 obtain ⟨g,hg⟩:=xE (negP x)
 have hgq:q%pM=g:=by rw [hg,negP, ← hn,hq,hp]; rfl
 have cN:∀ w,Calls Tryz.prog 49 #[.agg mP7,fv x] w λe w'=>e=.returned (fv n)∧Below w.heap.size w w':=by
  intro w; rw [hn]; exact normR_any w x hx
 have cM:∀ w,Calls Tryz.prog 109 #[fv p,fv n] w λe w'=>e=.returned (fv q)∧Below w.heap.size w w':=λw=>GK w p n q 0 U U om om om om
 have cG:∀ w,Calls Tryz.prog 49 #[.agg mP7,fv q] w λe w'=>e=.returned (fv g)∧Below w.heap.size w w':=by
  intro w; rw [← hgq]; exact normR_any w q om
 have FP:Hid (fv p=.agg #[.int .u64 18446744069414583343,.int .u64 18446744073709551615,.int .u64 18446744073709551615,.int .u64 18446744073709551615]):=Lib.hid (by rw [hp]; exact PQ)
 obtain ⟨x0,x1,x2,x3,fx⟩:=Ae x hx
 have FX:=Lib.hid fx
 rw [fx, ← hg]
 clear fx hx hn np hp hq hg hgq
 go_enter Tryz.func136,Tryz.ntmps136
 go_wp2
 refine AJ (λj=>j == 8) kZ ?_
 try simp only [Act.put]
 refine tkw 0 U (YieldsG.load (by rfl) _ _ U w.heap.size 0 U ([.int .u64 18446744069414583343,.int .u64 18446744073709551615,.int .u64 18446744073709551615,.int .u64 18446744073709551615,.int .u64 4294968273,.int .u64 0,.int .u64 0]) _ (Blk.lt (((Blk.new w _ _).alloc _).alloc _)) (Blk.range (((Blk.new w _ _).alloc _).alloc _)) FT U kZ) ?_
 try simp only [aPS]
 refine tk 1 U ?_
 try simp only [aPS]
 refine tkw 2 U (YieldsG.loadP (by rfl) _ _ U w.heap.size U p _ (Blk.lt (((Blk.new w _ _).alloc _).alloc _)) (DA (((Blk.new w _ _).alloc _).alloc _)) FP.out AM U kZ) ?_
 try simp only [aPS]
 refine tkw 3 U (YieldsG.load (by rfl) _ _ U w.heap.size 0 U ([.int .u64 18446744069414583343,.int .u64 18446744073709551615,.int .u64 18446744073709551615,.int .u64 18446744073709551615,.int .u64 4294968273,.int .u64 0,.int .u64 0]) _ (Blk.lt (((Blk.new w _ _).alloc _).alloc _)) (Blk.range (((Blk.new w _ _).alloc _).alloc _)) FT U kZ) ?_
 try simp only [aPS]
 refine tkw 4 U (YieldsG.loadF (by rfl) _ _ U (w.heap.size+1) rfl x _ _ ((AZ w _ _ _).alloc _) FX.out AM U kZ) ?_
 try simp only [aPS]
 refine tkw 5 U (YieldsG.call (v:=fv n) (by rfl) 49 _ (λw9=>by go_simp; try rfl) (λw9 h9=>cN w9)) ?_
 try simp only [aPS]
 refine tkw 6 U (YieldsG.call (v:=fv q) (by rfl) 109 _ (λw9=>by go_simp; try rfl) (λw9 h9=>cM w9)) ?_
 try simp only [aPS]
 refine tkw 7 U (YieldsG.call (v:=fv g) (by rfl) 49 _ (λw9=>by go_simp; try rfl) (λw9 h9=>cG w9)) ?_
 try simp only [aPS]
 refine BU 8 U kZ (by rfl) _ _ _ U (w.heap.size+2) (fcs g) U U _ _ (Ax w _ _ _ _) kZ (by rfl) (AG _) rfl (λw6 h6 w7 hB7 hL7=>?_)
 try simp only [Act.put]
 refine AH kZ (λw8 h8=>?_)
 have hfin:=Gr.blk h8 hL7
 have hb9:=(Below.gr (Ac w _ _ _) h6).trans ((hB7 _ om).trans (Below.mono h8 (by have:=hL7.lt; omega)))
 go_wp2
 exact bodyPost_ret (results_cell_row U _ _ (w.heap.size+2) _ _ (0,0) _ U hfin AM U kZ) rfl ⟨rfl,hb9⟩
theorem Xv (x y:Nat):addP x (negP y)=subP x y:=by
 unfold addP negP subP
 rw [Nat.add_mod_mod]
theorem Sv (w:World) (x y:Nat) (hx:x<(2^256)) (hy:y<(2^256)):Calls Tryz.prog 67 #[.agg mP7,fv x,fv y] w λe w'=>e=.returned (fv (subP x y))∧Below w.heap.size w w':=by
 obtain ⟨g,hg⟩:=xE (negP y)
 obtain ⟨z,hz⟩:=xE (subP x y)
 have cG:∀ w,Calls Tryz.prog 136 #[.agg mP7,fv y] w λe w'=>e=.returned (fv g)∧Below w.heap.size w w':=by
  intro w; rw [hg]; exact NY w y hy
 have cA:∀ w,Calls Tryz.prog 105 #[.agg mP7,fv x,fv g] w λe w'=>e=.returned (fv z)∧Below w.heap.size w w':=by
  intro w; rw [hz, ← Xv, ← hg]; exact KP w x g hx (by rw [hg]; exact I1 _)
 obtain ⟨x0,x1,x2,x3,fx⟩:=Ae x hx
 obtain ⟨y0,y1,y2,y3,fy⟩:=Ae y hy
 have FX:=Lib.hid fx
 have FY:=Lib.hid fy
 rw [fx,fy, ← hz]
 clear fx fy hx hy hg hz
 go_enter Tryz.func67,Tryz.ntmps67
 go_wp2
 refine AJ (λj=>j == 6) kZ ?_
 try simp only [Act.put]
 refine tkw 0 U (YieldsG.load (by rfl) _ _ U w.heap.size 0 U ([.int .u64 18446744069414583343,.int .u64 18446744073709551615,.int .u64 18446744073709551615,.int .u64 18446744073709551615,.int .u64 4294968273,.int .u64 0,.int .u64 0]) _ (Blk.lt ((((Blk.new w _ _).alloc _).alloc _).alloc _)) (Blk.range ((((Blk.new w _ _).alloc _).alloc _).alloc _)) FT U kZ) ?_
 try simp only [aPS]
 refine tkw 1 U (YieldsG.loadF (by rfl) _ _ U (w.heap.size+1) rfl x _ _ (((AZ w _ _ _).alloc _).alloc _) FX.out AM U kZ) ?_
 try simp only [aPS]
 refine tkw 2 U (YieldsG.load (by rfl) _ _ U w.heap.size 0 U ([.int .u64 18446744069414583343,.int .u64 18446744073709551615,.int .u64 18446744073709551615,.int .u64 18446744073709551615,.int .u64 4294968273,.int .u64 0,.int .u64 0]) _ (Blk.lt ((((Blk.new w _ _).alloc _).alloc _).alloc _)) (Blk.range ((((Blk.new w _ _).alloc _).alloc _).alloc _)) FT U kZ) ?_
 try simp only [aPS]
 refine tkw 3 U (YieldsG.loadF (by rfl) _ _ U (w.heap.size+2) rfl y _ _ ((Ax w _ _ _ _).alloc _) FY.out AM U kZ) ?_
 try simp only [aPS]
 refine tkw 4 U (YieldsG.call (v:=fv g) (by rfl) 136 _ (λw9=>by go_simp; try rfl) (λw9 h9=>cG w9)) ?_
 try simp only [aPS]
 refine tkw 5 U (YieldsG.call (v:=fv z) (by rfl) 105 _ (λw9=>by go_simp; try rfl) (λw9 h9=>cA w9)) ?_
 try simp only [aPS]
 refine BU 6 U kZ (by rfl) _ _ _ U (w.heap.size+3) (fcs z) U U _ _ (Hq w _ _ _ _ _) kZ (by rfl) (AG _) rfl (λw6 h6 w7 hB7 hL7=>?_)
 try simp only [Act.put]
 refine AH kZ (λw8 h8=>?_)
 have hfin:=Gr.blk h8 hL7
 have hb9:=(Below.gr (Hu w _ _ _ _) h6).trans ((hB7 _ om).trans (Below.mono h8 (by have:=hL7.lt; omega)))
 go_wp2
 exact bodyPost_ret (results_cell_row U _ _ (w.heap.size+3) _ _ (0,0) _ U hfin AM U kZ) rfl ⟨rfl,hb9⟩
end
end
section
namespace Fz
open Go.RowKit Go.Lib Sy
theorem mulZ (w:World) (M:Nat) (lw:Nat→Nat) (hlw:∀ t,lw t<18446744073709551616) (hM0:0<M) (hM:M+vR lw 3=18446744073709551616 ^ 4) (hnorm:∀ w x,x<(2^256)→AY 49 #[.agg (modc M lw),fv x] w (Gets w (fv (x%M)))) (x y:Nat) (hx:x<(2^256)) (hy:y<(2^256)):AY 137 #[.agg (modc M lw),fv x,fv y] w (Gets w (fv (x*y%M))):=by
 refine Sy.enter (args:=[.agg (modc M lw),fv x,fv y]) Tryz.func137 U kL<|sC<|sM 91 (modc M lw) (λg0=>?_)
 refine sM 87 (fcs x) (λg1=>?_)
 refine sM 87 (fcs y) (λg2=>?_)
 refine sM 87 (fcs 0) (λg3=>?_)
 refine sA<|Sy.make kR 212 (rw8 (λ_=>0)) ptr kF (λg4=>?_)
 refine sG<|Sy.seq<|sC<|sp U<|sG<|Sy.block<|Sy.loopX (T:=Nat→Nat) 4 (λk1 y1=>[(3,pT g0 0),(4,pT g1 0),(5,pT g2 0),(6,pT g3 0),(7,pT g4 0),(8,iZ k1)]) (λk1 y1=>[(g0,91,(modc M lw)),(g1,87,(fcs x)),(g2,87,(fcs y)),(g3,87,(fcs 0)),(g4,212,(rw8 y1))]) (λk1 y1=>(∀ t,y1 t<18446744073709551616)∧vR y1 8=vR (wd x) k1*vR (wd y) 4∧∀ t,k1+4≤t→y1 t=0) (λ_=>0) [true,true,true,true,true] (⟨λ_=>by show (0:Nat)<18446744073709551616; decide,by rw [Ir]; exact (Nat.zero_mul _).symm,λ_ _=>rfl⟩) ac6 kR (λk1 y1 hk1 hh1=>?_)
 refine Sy.seq<|sC<|sp U ?_
 obtain ⟨b1,hb1⟩:=xE (decide (k1<4))
 refine sS (.bool b1) (qls U U U hb1)<|sG ?_
 cases b1
 ·have lb1:=dN hb1
  refine sU<|Sy.exit<|Sy.then_exit<|Sy.then_exit ?_
  obtain rfl:k1=4:=om
  refine Sy.in_exit<|sB<|sS (.agg (modc M lw)) (qk 0 0 7 U U FT)<|sS (.agg (rw8 y1)) (qx 4 0 8 U U Dl kR kL)<|sS (fv (vR y1 8%M)) (qf (λw=>foldZ w M lw hlw hM0 hM hnorm y1 hh1.1))<|sw 3 U (fcs (vR y1 8%M)) (wA U)<|sG<|Sy.ret ?_
  rw [show (fv (x*y%M):Value)=fv (vR y1 8%M) from by rw [hh1.2.1,wd4 hx,wd4 hy]]
  exact rc (v:=fv (vR y1 8%M)) 3 U U AM
 ·have lb1:=dY hb1
  refine sT<|Sy.skip<|Sy.then_<|Sy.seq<|Sy.block<|sC<|sp U<|sG<|Sy.seq<|sC<|sp U<|sG<|Sy.block<|Sy.loopX (T:=(Nat→Nat)×Nat) 4 (λk2 y2=>[(3,pT g0 0),(4,pT g1 0),(5,pT g2 0),(6,pT g3 0),(7,pT g4 0),(8,iZ k1),(9,uZ ((y2.2:Nat):Int)),(10,iZ k2)]) (λk2 y2=>[(g0,91,(modc M lw)),(g1,87,(fcs x)),(g2,87,(fcs y)),(g3,87,(fcs 0)),(g4,212,(rw8 y2.1))]) (λk2 y2=>(∀ t,y2.1 t<18446744073709551616)∧y2.2<18446744073709551616∧vR y2.1 8+y2.2*18446744073709551616 ^ (k1+k2)=vR y1 8+wd x k1*vR (wd y) k2*18446744073709551616 ^ k1∧∀ t,k1+4≤t→y2.1 t=0) (y1,0) [true,true,true,true,true] (⟨hh1.1,by show (0:Nat)<18446744073709551616; decide,by show vR y1 8+0*_=_+_*0*_; omega,hh1.2.2⟩) ac8 kR (λk2 y2 hk2 hh2=>?_)
  refine Sy.seq<|sC<|sp U ?_
  obtain ⟨b2,hb2⟩:=xE (decide (k2<4))
  refine sS (.bool b2) (qls U U U hb2)<|sG ?_
  cases b2
  ·have lb2:=dN hb2
   refine sU<|Sy.exit<|Sy.then_exit<|Sy.then_exit ?_
   obtain rfl:k2=4:=om
   refine Sy.in_exit<|Sy.then_<|Sy.region<|sp U<|sS (iZ (k1+4)) (qad U U U)<|sp U<|sS (.pointer (some ⟨g4,0+(k1+4)*1,none⟩)) (Quiet.pure (A_ 212 _ _ _ g4 0 _ (k1+4) 1 .i64 U U U Dl kF om))<|Sy.write kR 4 g4 212 (rw8 y2.1) (rw8 (upd y2.1 (k1+4) y2.2)) kR (Writes.one (0+(k1+4)*1) 24 (uZ ((y2.2:Nat):Int)) _ _ U kR kR kR U U (E3 _ (k:=k1+4) om om) (E2 _ _ om om))<|Sy.nil<|Sy.in_<|Sy.then_<|Sy.region<|sp U<|sS (iZ (k1+1)) (qad U U U)<|sp U<|Sy.nil ?_
   have hq:=Ta hh1.2.1 hh2.2.2.1 (hh2.2.2.2 _ (Nat.le_refl _)) om
   exact Sy.againX (upd y2.1 (k1+4) y2.2) [true,true,true,true,true] om (⟨H2 hh2.1 hh2.2.1,hq,λt ht=>(Lg om).trans (hh2.2.2.2 t om)⟩) ac6 kR
  ·have lb2:=dY hb2
   refine sT<|Sy.skip<|Sy.then_<|Sy.seq<|Sy.block<|Sy.seq<|Sy.regionD (λj=>false) kR<|sz 0 U U<|sD 1 U (.pointer (some ⟨g1,0+k1*1,none⟩)) (Quiet.pure (A_ 87 _ _ _ g1 0 _ k1 1 .i64 U U U AM kF om))<|sD 2 U (uZ ((wd x k1:Nat):Int)) (qy 1 (0+k1*1) rfl U B2 (KB x (k:=k1) om om))<|sz 3 U U<|sD 4 U (.pointer (some ⟨g2,0+k2*1,none⟩)) (Quiet.pure (A_ 87 _ _ _ g2 0 _ k2 1 .i64 U U U AM kF om))<|sD 5 U (uZ ((wd y k2:Nat):Int)) (qy 2 (0+k2*1) rfl U B2 (KB y (k:=k2) om om)) ?_
   obtain ⟨hi1,lo1,llo1,elo1⟩:=Km (wd x k1) (wd y k2)
   refine sD 6 U (.tuple #[uZ ((hi1:Nat):Int),uZ ((lo1:Nat):Int)]) (qf (λw=>mulZ_any w (wd x k1) (wd y k2) hi1 lo1 (by first | assumption | exact As _ _ | exact hh1.1 _ | exact hh2.1 _ | exact hh2.2.1 | decide) (by first | assumption | exact As _ _ | exact hh1.1 _ | exact hh2.1 _ | exact hh2.2.1 | decide) llo1 elo1))<|sz 7 U U<|sz 8 U U<|sz 9 U U<|sz 10 U U<|sz 11 U U<|sE<|sB<|sp U<|sp U<|sp U<|sS (iZ (k1+k2)) (qad U U U)<|sS (.pointer (some ⟨g4,0+(k1+k2)*1,none⟩)) (Quiet.pure (A_ 212 _ _ _ g4 0 _ (k1+k2) 1 .i64 U U U Dl kF om))<|sS (uZ ((y2.1 (k1+k2):Nat):Int)) (qy 4 (0+(k1+k2)*1) rfl U B2 (H7 y2.1 (k:=k1+k2) om om)) ?_
   obtain ⟨x1,c1,lx1,lc1,ex1,rx1⟩:=DN (lo1) (y2.1 (k1+k2)) (by first | assumption | exact As _ _ | exact hh1.1 _ | exact hh2.1 _ | exact hh2.2.1 | decide) (by first | assumption | exact As _ _ | exact hh1.1 _ | exact hh2.1 _ | exact hh2.2.1 | decide)
   refine sS (.tuple #[uZ ((x1:Nat):Int),uZ ((c1:Nat):Int)]) (Quiet.pure (λw=>Eq.trans kR (rx1 w)))<|sp U<|sp U<|sp U<|sp U<|sp U<|sA<|sp U<|sp U ?_
   obtain ⟨x2,c2,lx2,lc2,ex2,rx2⟩:=DN (x1) (y2.2) (by first | assumption | exact As _ _ | exact hh1.1 _ | exact hh2.1 _ | exact hh2.2.1 | decide) (by first | assumption | exact As _ _ | exact hh1.1 _ | exact hh2.1 _ | exact hh2.2.1 | decide)
   refine sS (.tuple #[uZ ((x2:Nat):Int),uZ ((c2:Nat):Int)]) (Quiet.pure (λw=>Eq.trans kR (rx2 w)))<|sp U<|sp U<|sp U<|sp U<|sp U<|sA<|sp U<|sp U<|sS (iZ (k1+k2)) (qad U U U)<|sp U<|sS (.pointer (some ⟨g4,0+(k1+k2)*1,none⟩)) (Quiet.pure (A_ 212 _ _ _ g4 0 _ (k1+k2) 1 .i64 U U U Dl kF om))<|Sy.write kR 4 g4 212 (rw8 y2.1) (rw8 (upd y2.1 (k1+k2) x2)) kR (Writes.one (0+(k1+k2)*1) 24 (uZ ((x2:Nat):Int)) _ _ U kR kR kR U U (E3 _ (k:=k1+k2) om om) (E2 _ _ om om))<|sG<|Sy.region<|sp U<|sp U ?_
   have hst:=XT elo1 ex1 ex2
   have hcar:=Un hst (by first | assumption | exact As _ _ | exact hh1.1 _ | exact hh2.1 _ | exact hh2.2.1 | decide) (by first | assumption | exact As _ _ | exact hh1.1 _ | exact hh2.1 _ | exact hh2.2.1 | decide) (by first | assumption | exact As _ _ | exact hh1.1 _ | exact hh2.1 _ | exact hh2.2.1 | decide) hh2.2.1
   refine sS (uZ ((hi1+c1:Nat):Int)) (Quiet.pure (AK .add _ _ _ .u64 _ _ _ U U U (Hd _ _ _ _ _ ((wrap_u64 om om).trans om))))<|sp U<|sS (uZ (((hi1+c1)+c2:Nat):Int)) (Quiet.pure (AK .add _ _ _ .u64 _ _ _ U U U (Hd _ _ _ _ _ ((wrap_u64 om om).trans om))))<|sp U<|Sy.nil<|Sy.in_<|Sy.then_<|Sy.region<|sp U<|sS (iZ (k2+1)) (qad U U U)<|sp U<|Sy.nil ?_
   have hin:=PM (Hz y2.1 (k1+k2) x2 8 om) hh2.2.2.1 hst (P0:=18446744073709551616 ^ k2) (by rw [Nat.add_comm,Nat.pow_add])
   exact Sy.againX ((upd y2.1 (k1+k2) x2,hi1+c1+c2)) [true,true,true,true,true] om (⟨H2 hh2.1 lx2,hcar,by rw [← Nat.add_assoc,Nat.pow_succ]; exact hin,λt ht=>(Lg om).trans (hh2.2.2.2 t ht)⟩) ac8 kR
end Fz
end
section
section
open Go.RowKit Go.Lib
theorem J1 (w:World) (x y:Nat) (hx:x<(2^256)) (hy:y<(2^256)):Calls Tryz.prog 137 #[.agg mP7,fv x,fv y] w λe w'=>e=.returned (fv (mulP x y))∧Below w.heap.size w w':=by
 have h:=Fz.mulZ w pM LC J5 L7 J4 (λw x hx=>by rw [GJ]; exact normR_any w x hx) x y hx hy
 rw [GJ] at h
 exact h
end
end
section
namespace Fz
open Go.RowKit Go.Lib Sy
def msk (j:Nat):Nat:=9223372036854775808 / 2 ^ j
theorem NZ (j:Nat):msk j / 2=msk (j+1):=by unfold msk; rw [Nat.div_div_eq_div_mul, ← Nat.pow_succ]
theorem PG {j:Nat} (h:j≤63):msk j=2 ^ (63 - j):=by
 unfold msk
 have e:(9223372036854775808:Nat)=2 ^ (63 - j)*2 ^ j:=by rw [← Nat.pow_add,show 63 - j+j=63 by omega]
 rw [e]
 exact Nat.mul_div_cancel _ (Nat.two_pow_pos j)
theorem WI {j:Nat} (h:j<64):0<msk j:=by rw [PG om]; exact Nat.two_pow_pos _
theorem WJ:msk 64=0:=dZ
theorem PF (j:Nat):msk j<18446744073709551616:=Nat.lt_of_le_of_lt (Nat.div_le_self _ _) dZ
theorem SF (a r s:Nat) (hs:s≤63):(a+18446744073709551616*r) / 2 ^ s%2=a / 2 ^ s%2:=by
 obtain ⟨u,hu⟩:∃ u,2 ^ s*(2*u)=18446744073709551616:=by
  refine ⟨2 ^ (63 - s),?_⟩
  have:2 ^ s*2 ^ (63 - s)=2 ^ 63:=by rw [← Nat.pow_add]; congr 1; omega
  rw [show (2:Nat)*2 ^ (63 - s)=2 ^ (63 - s)*2 from Nat.mul_comm _ _, ← Nat.mul_assoc,this]
 rw [← hu,Nat.mul_assoc,Nat.add_mul_div_left _ _ (Nat.two_pow_pos s),Nat.mul_assoc,Nat.add_mul_mod_self_left]
theorem PB (e i s w r:Nat) (hz:e / 2 ^ (64*i)=w+18446744073709551616*r) (hs:s≤63):e / 2 ^ (64*i+s)=2*(e / 2 ^ (64*i+(s+1)))+w / 2 ^ s%2:=by
 have h1:e / 2 ^ (64*i+s)%2=w / 2 ^ s%2:=by
  rw [Nat.pow_add, ← Nat.div_div_eq_div_mul,hz,SF w r s hs]
 have h2:e / 2 ^ (64*i+(s+1))=e / 2 ^ (64*i+s) / 2:=by
  rw [← Nat.add_assoc,Nat.pow_succ,Nat.div_div_eq_div_mul]
 rw [h2, ← h1]
 omega
theorem Ml (e i s:Nat) (hs:s≤63):e / 2 ^ (64*i+s)=2*(e / 2 ^ (64*i+(s+1)))+wd e i / 2 ^ s%2 :=
 PB e i s (wd e i) (e / 18446744073709551616 ^ i / 18446744073709551616) (by
  unfold wd
  rw [Nat.mod_add_div,Nat.pow_mul]) hs
theorem OL (a s:Nat):a &&& 2 ^ s=0↔a / 2 ^ s%2=0:=by
 have hb:a.testBit s=decide (a / 2 ^ s%2=1):=Nat.testBit_eq_decide_div_mod_eq
 constructor
 ·intro h
  have h2:(a &&& 2 ^ s).testBit s=false:=by rw [h]; simp
  rw [Nat.testBit_and,Nat.testBit_two_pow_self,Bool.and_true,hb] at h2
  have h3:¬ a / 2 ^ s%2=1:=by simpa using h2
  omega
 ·intro h
  have h2:a.testBit s=false:=by rw [hb]; simp; omega
  refine Nat.eq_of_testBit_eq λj=>?_
  rw [Nat.testBit_and,Nat.zero_testBit,Nat.testBit_two_pow]
  by_cases hj:s=j
  ·subst hj; simp [h2]
  ·simp [hj]
theorem XE (a b:Nat) (ha:a<18446744073709551616) (hb:b<18446744073709551616):IntKind.u64.wrap ((BitVec.ofInt IntKind.u64.bits (a:Int) &&& BitVec.ofInt IntKind.u64.bits (b:Int)).toNat:Int)=((a &&& b:Nat):Int):=by
 have hl:a &&& b<18446744073709551616:=Nat.lt_of_le_of_lt Nat.and_le_left ha
 have hw2:(BitVec.ofInt 64 (a:Int) &&& BitVec.ofInt 64 (b:Int)).toNat=a &&& b:=by
  rw [BitVec.toNat_and]
  simp only [BitVec.ofInt_natCast,BitVec.toNat_ofNat]
  rw [Nat.mod_eq_of_lt om,Nat.mod_eq_of_lt om]
 show IntKind.u64.wrap ((BitVec.ofInt 64 (a:Int) &&& BitVec.ofInt 64 (b:Int)).toNat:Int)=_
 rw [hw2,wrap_u64 om om]
theorem Z8 (a:Nat) (ha:a<18446744073709551616):IntKind.u64.wrap ((a:Int).tdiv 2)=((a / 2:Nat):Int):=by
 have e:(a:Int).tdiv 2=((a / 2:Nat):Int):=rfl
 rw [e,wrap_u64 om om]
def pz (M x e i s:Nat):Nat:=x ^ (e / 2 ^ (64*i+s))%M
theorem Vt {M x e i j:Nat} (hj:j<64) (h:wd e i / 2 ^ (63 - j)%2=0):pz M x e i (64 - j)*pz M x e i (64 - j)%M=pz M x e i (64 - (j+1)):=by
 have q:=Ml e i (63 - j) om
 rw [h,Nat.add_zero,show 63 - j+1=64 - j by omega] at q
 unfold pz
 rw [show 64 - (j+1)=63 - j by omega,q, ← Nat.mul_mod, ← Nat.pow_add,Nat.two_mul]
theorem YN {M x e i j:Nat} (hj:j<64) (h:¬ wd e i / 2 ^ (63 - j)%2=0):pz M x e i (64 - j)*pz M x e i (64 - j)%M*x%M=pz M x e i (64 - (j+1)):=by
 have q:=Ml e i (63 - j) om
 rw [show wd e i / 2 ^ (63 - j)%2=1 by omega,show 63 - j+1=64 - j by omega] at q
 unfold pz
 rw [show 64 - (j+1)=63 - j by omega,q, ← Nat.mul_mod, ← Nat.pow_add,Nat.mod_mul_mod, ← Nat.pow_succ,Nat.two_mul]
theorem Vr {M x e i:Nat}:pz M x e (i+1) 0=pz M x e i 64:=by unfold pz; rw [Nat.add_zero,Nat.mul_add,Nat.mul_one]
theorem TU {M x e:Nat} (he:e<(2^256)) (hM:1<M):pz M x e 4 0=1:=by
 unfold pz
 rw [Nat.div_eq_of_lt (by rw [show 64*4+0=256 from rfl]; omega),Nat.pow_zero,Nat.mod_eq_of_lt hM]
theorem Vs {M x e:Nat}:pz M x e 0 0=x ^ e%M:=by
 unfold pz
 rw [show 64*0+0=0 from rfl,Nat.pow_zero,Nat.div_one]
theorem powZ (w:World) (M:Nat) (lw:Nat→Nat) (hlw:∀ t,lw t<18446744073709551616) (hM0:0<M) (hM1:1<M) (hM:M+vR lw 3=18446744073709551616 ^ 4) (hM4:M≤(2^256)) (hnorm:∀ w x,x<(2^256)→AY 49 #[.agg (modc M lw),fv x] w (Gets w (fv (x%M)))) (hsmall:∀ w,AY 139 #[uZ 1] w (Gets w (fv 1))) (x e:Nat) (hx:x<(2^256)) (he:e<(2^256)):AY 138 #[.agg (modc M lw),fv x,fv e] w (Gets w (fv (x ^ e%M))):=by
 refine Sy.enter (args:=[.agg (modc M lw),fv x,fv e]) Tryz.func138 U kL<|sC<|sM 91 (modc M lw) (λg0=>?_)
 refine sM 87 (fcs x) (λg1=>?_)
 refine sM 87 (fcs e) (λg2=>?_)
 refine sM 87 (fcs 0) (λg3=>?_)
 refine sA<|sS (fv 1) (qf (λw=>hsmall w))<|sM 87 (fcs 0) (λg4=>?_)
 refine sw 4 U (fcs 1) (wA U)<|sG<|Sy.seq<|sC<|sp U<|sG<|Sy.block<|Sy.loopX (T:=Int×Nat) 4 (λk1 y1=>[(3,pT g0 0),(4,pT g1 0),(5,pT g2 0),(6,pT g3 0),(7,pT g4 0),(8,.int .i64 y1.1)]) (λk1 y1=>[(g0,91,(modc M lw)),(g1,87,(fcs x)),(g2,87,(fcs e)),(g3,87,(fcs 0)),(g4,87,(fcs y1.2))]) (λk1 y1=>y1.1=3 - ((k1:Nat):Int)∧y1.2=pz M x e (4 - k1) 0) ((3:Int),1) [true,true,true,true,true] (⟨rfl,(TU he hM1).symm⟩) ac6 kR (λk1 y1 hk1 hh1=>?_)
 refine Sy.seq<|sC<|sp U ?_
 obtain ⟨b1,hb1⟩:=xE (decide (y1.1 ≥ 0))
 refine sS (.bool b1) (Quiet.pure (AK .geq _ _ _ .i64 _ _ _ U U U (GN _ _ _ _ _ hb1.symm)))<|sG ?_
 cases b1
 ·have lb1:=dN hb1
  refine sU<|Sy.exit<|Sy.then_exit<|Sy.then_exit ?_
  obtain rfl:k1=4:=om
  refine Sy.in_exit<|sB<|sS (fv y1.2) (qk 4 0 4 U U AM)<|sw 3 U (fcs y1.2) (wA U)<|sG<|Sy.ret ?_
  rw [show (fv (x ^ e%M):Value)=fv y1.2 from by rw [hh1.2,show 4 - 4=0 from rfl,Vs]]
  exact rc (v:=fv y1.2) 3 U U AM
 ·have lb1:=dY hb1
  have hq0:=hh1.1
  obtain ⟨q1,hq1⟩:∃ q:Nat,y1.1=(q:Int):=⟨y1.1.toNat,by omega⟩
  have hqk:q1+k1=3:=om
  refine sT<|Sy.skip<|Sy.then_<|Sy.seq<|Sy.block<|sC<|sp U<|sG<|Sy.block<|Sy.loopX (T:=Nat×Nat) 64 (λk2 y2=>[(3,pT g0 0),(4,pT g1 0),(5,pT g2 0),(6,pT g3 0),(7,pT g4 0),(8,.int .i64 y1.1),(9,uZ ((y2.1:Nat):Int))]) (λk2 y2=>[(g0,91,(modc M lw)),(g1,87,(fcs x)),(g2,87,(fcs e)),(g3,87,(fcs 0)),(g4,87,(fcs y2.2))]) (λk2 y2=>y2.1=msk k2∧y2.2=pz M x e q1 (64 - k2)) (9223372036854775808,y1.2) [true,true,true,true,true] (⟨rfl,by show y1.2=_; rw [hh1.2,show 4 - k1=q1+1 by omega]; exact Vr⟩) ac7 kR (λk2 y2 hk2 hh2=>?_)
  refine Sy.seq<|sC<|sp U ?_
  obtain ⟨b2,hb2⟩:=xE (decide (y2.1>0))
  refine sS (.bool b2) (Quiet.pure (AK .gtr _ _ _ .u64 _ _ _ U U U (DK _ _ _ _ _ (by rw [hb2]; exact decide_eq_decide.2 om))))<|sG ?_
  cases b2
  ·have lb2:=dN hb2
   have hk64:¬ k2<64:=λh=>by have:=WI h; have:=hh2.1; omega
   refine sU<|Sy.exit<|Sy.then_exit<|Sy.then_exit ?_
   obtain rfl:k2=64:=om
   refine Sy.in_exit<|Sy.in_<|Sy.then_<|Sy.region<|sp U<|sS (.int .i64 (y1.1 - 1)) (Quiet.pure (AK .sub _ _ _ .i64 _ _ _ U U U (QZ _ _ _ _ _ (Cy om om))))<|sp U<|Sy.nil ?_
   have hq:=hh1.1
   exact Sy.againX ((y1.1 - 1,y2.2)) [true,true,true,true,true] (by have:=hh1.1; omega) (⟨by show y1.1 - 1=_; omega,by show y2.2=_; rw [hh2.2,show 4 - (k1+1)=q1 by omega,show 64 - 64=0 from rfl]⟩) ac6 kR
  ·have lb2:=dY hb2
   have hk64:k2<64:=by
    rcases Nat.lt_or_ge k2 64 with h | h
    ·exact h
    ·have e:k2=64:=om
     have:=hh2.1
     rw [e,WJ] at this
     omega
   refine sT<|Sy.skip<|Sy.then_<|Sy.seq<|Sy.block<|sC<|sS (.agg (modc M lw)) (qk 0 0 7 U U FT)<|sS (fv y2.2) (qk 4 0 4 U U AM)<|sS (fv y2.2) (qk 4 0 4 U U AM)<|sS (fv (y2.2*y2.2%M)) (qf (λw=>mulZ w M lw hlw hM0 hM hnorm y2.2 y2.2 (by first | assumption | exact Nat.lt_of_lt_of_le (Nat.mod_lt _ hM0) hM4 | (rw [hh2.2]; exact Nat.lt_of_lt_of_le (Nat.mod_lt _ hM0) hM4)) (by first | assumption | exact Nat.lt_of_lt_of_le (Nat.mod_lt _ hM0) hM4 | (rw [hh2.2]; exact Nat.lt_of_lt_of_le (Nat.mod_lt _ hM0) hM4))))<|sw 4 U (fcs (y2.2*y2.2%M)) (wA U)<|sA<|sp U<|sS (.pointer (some ⟨g2,0+q1*1,none⟩)) (Quiet.pure (A_ 87 _ _ _ g2 0 _ q1 1 .i64 U U (show Value.int .i64 y1.1=iZ q1 from by rw [hq1]) AM kF om))<|sS (uZ ((wd e q1:Nat):Int)) (qy 2 (0+q1*1) rfl U B2 (KB e (k:=q1) om om))<|sp U<|sS (uZ (((wd e q1) &&& y2.1:Nat):Int)) (Quiet.pure (AK .and _ _ _ .u64 _ _ _ U U U (MH _ _ _ _ _ (XE _ _ (As _ _) (by rw [hh2.1]; exact PF _))))) ?_
   obtain ⟨b3,hb3⟩:=xE (decide ((wd e q1) &&& y2.1≠0))
   refine sS (.bool b3) (Quiet.pure (AK .neq _ _ _ .u64 _ _ _ U U U (Dt _ _ _ _ _ (by rw [hb3]; exact decide_eq_decide.2 om))))<|sG ?_
   cases b3
   ·have lb3:=dN hb3
    have hbit:y2.1=2 ^ (63 - k2):=hh2.1.trans (PG om)
    have hpw:y2.2*y2.2%M=pz M x e q1 (64 - (k2+1)):=by rw [hh2.2]; exact Vt hk64 ((OL _ _).1 (by have:=lb3; rw [hbit] at this; omega))
    refine sU<|Sy.skip<|Sy.in_<|Sy.then_<|Sy.region<|sp U<|sS (uZ ((y2.1 / 2:Nat):Int)) (Quiet.pure (AK .quo _ _ _ .u64 _ _ _ U U U (DJ _ _ _ _ _ dZ (Z8 _ (by rw [hh2.1]; exact PF _)))))<|sp U<|Sy.nil ?_
    have hpz:=hpw
    exact Sy.againX ((y2.1 / 2,(y2.2*y2.2%M))) [true,true,true,true,true] hk64 (⟨by show y2.1 / 2=_; rw [hh2.1]; exact NZ _,by show _=_; exact hpz⟩) ac7 kR
   ·have lb3:=dY hb3
    have hbit:y2.1=2 ^ (63 - k2):=hh2.1.trans (PG om)
    have hpw:y2.2*y2.2%M*x%M=pz M x e q1 (64 - (k2+1)):=by rw [hh2.2]; exact YN hk64 (λh=>lb3 (by rw [hbit]; exact (OL _ _).2 h))
    refine sT<|Sy.region<|sS (.agg (modc M lw)) (qk 0 0 7 U U FT)<|sS (fv (y2.2*y2.2%M)) (qk 4 0 4 U U AM)<|sS (fv x) (qk 1 0 4 U U AM)<|sS (fv ((y2.2*y2.2%M)*x%M)) (qf (λw=>mulZ w M lw hlw hM0 hM hnorm ((y2.2*y2.2%M)) x (by first | assumption | exact Nat.lt_of_lt_of_le (Nat.mod_lt _ hM0) hM4 | (rw [hh2.2]; exact Nat.lt_of_lt_of_le (Nat.mod_lt _ hM0) hM4)) (by first | assumption | exact Nat.lt_of_lt_of_le (Nat.mod_lt _ hM0) hM4 | (rw [hh2.2]; exact Nat.lt_of_lt_of_le (Nat.mod_lt _ hM0) hM4))))<|sw 4 U (fcs ((y2.2*y2.2%M)*x%M)) (wA U)<|Sy.nil<|Sy.in_<|Sy.then_<|Sy.region<|sp U<|sS (uZ ((y2.1 / 2:Nat):Int)) (Quiet.pure (AK .quo _ _ _ .u64 _ _ _ U U U (DJ _ _ _ _ _ dZ (Z8 _ (by rw [hh2.1]; exact PF _)))))<|sp U<|Sy.nil ?_
    have hpz:=hpw
    exact Sy.againX ((y2.1 / 2,((y2.2*y2.2%M)*x%M))) [true,true,true,true,true] hk64 (⟨by show y2.1 / 2=_; rw [hh2.1]; exact NZ _,by show _=_; exact hpz⟩) ac7 kR
end Fz
end
section
section
open Go.RowKit Go.Lib
def pw (x e:Nat):Nat:=x ^ e%pM
theorem Zm (x e:Nat):pw x e<(2^256):=mod_lt _
theorem JS (w:World) (n:Nat) (di:Int) (hdi:di=(n:Int)) (hn:n<18446744073709551616):Calls Tryz.prog 139 #[.int .u64 di] w λe w'=>e=.returned (fv n)∧Below w.heap.size w w':=by
 subst hdi
 rw [F2 n hn]
 go_enter Tryz.func139,Tryz.ntmps139
 go_wp2
 exact bodyPost_ret (results_cell_row U _ _ w.heap.size _ _ (0,0) _ U (heap_alloc_new w _) AM U kZ) rfl ⟨rfl,(Below.refl _ _).alloc (Nat.le_refl _) _⟩
theorem K6 (w:World) (x e:Nat) (hx:x<(2^256)) (he:e<(2^256)):Calls Tryz.prog 138 #[.agg mP7,fv x,fv e] w λee w'=>ee=.returned (fv (pw x e))∧Below w.heap.size w w':=by
 have h:=Fz.powZ w pM LC J5 L7 (by decide +kernel) J4 (by decide +kernel) (λw x hx=>by rw [GJ]; exact normR_any w x hx) (λw=>JS w 1 1 U dZ) x e hx he
 rw [GJ] at h
 exact h
theorem PK (w:World) (x:Nat) (hx:x<(2^256)):Calls Tryz.prog 74 #[.agg mP7,fv x] w λe w'=>e=.returned (fv (pw x (115792089237316195423570985008687907853269984665640564039457584007908834671663 - 2)))∧Below w.heap.size w w':=by
 obtain ⟨p,hp⟩:∃ p,p=115792089237316195423570985008687907853269984665640564039457584007908834671663:=⟨_,rfl⟩
 obtain ⟨n2,h2⟩:∃ n,n=2:=⟨_,rfl⟩
 obtain ⟨q,hq⟩:=xE (115792089237316195423570985008687907853269984665640564039457584007908834671663 - 2)
 obtain ⟨z,hz⟩:=xE (pw x q)
 rw [← hq, ← hz]
 have cS:∀ w,Calls Tryz.prog 139 #[.int .u64 2] w λe w'=>e=.returned (fv n2)∧Below w.heap.size w w':=λw=>JS w n2 2 (by rw [h2]; rfl) om
 have cM:∀ w,Calls Tryz.prog 109 #[fv p,fv n2] w λe w'=>e=.returned (fv q)∧Below w.heap.size w w':=λw=>GK w p n2 q 0 U U om om om om
 have cP:∀ w,Calls Tryz.prog 138 #[.agg mP7,fv x,fv q] w λe w'=>e=.returned (fv z)∧Below w.heap.size w w':=by
  intro w; rw [hz]; exact K6 w x q hx om
 have FP:Hid (fv p=.agg #[.int .u64 18446744069414583343,.int .u64 18446744073709551615,.int .u64 18446744073709551615,.int .u64 18446744073709551615]):=Lib.hid (by rw [hp]; exact PQ)
 obtain ⟨x0,x1,x2,x3,fx⟩:=Ae x hx
 have FX:=Lib.hid fx
 rw [fx]
 clear fx hx hp h2 hq hz
 go_enter Tryz.func74,Tryz.ntmps74
 go_wp2
 refine AJ (λj=>j == 7) kZ ?_
 try simp only [Act.put]
 refine tkw 0 U (YieldsG.load (by rfl) _ _ U w.heap.size 0 U ([.int .u64 18446744069414583343,.int .u64 18446744073709551615,.int .u64 18446744073709551615,.int .u64 18446744073709551615,.int .u64 4294968273,.int .u64 0,.int .u64 0]) _ (Blk.lt (((Blk.new w _ _).alloc _).alloc _)) (Blk.range (((Blk.new w _ _).alloc _).alloc _)) FT U kZ) ?_
 try simp only [aPS]
 refine tkw 1 U (YieldsG.loadF (by rfl) _ _ U (w.heap.size+1) rfl x _ _ ((AZ w _ _ _).alloc _) FX.out AM U kZ) ?_
 try simp only [aPS]
 refine tk 2 U ?_
 try simp only [aPS]
 refine tkw 3 U (YieldsG.loadP (by rfl) _ _ U w.heap.size U p _ (Blk.lt (((Blk.new w _ _).alloc _).alloc _)) (DA (((Blk.new w _ _).alloc _).alloc _)) FP.out AM U kZ) ?_
 try simp only [aPS]
 refine tkw 4 U (YieldsG.call (v:=fv n2) (by rfl) 139 _ (λw9=>by go_simp; try rfl) (λw9 h9=>cS w9)) ?_
 try simp only [aPS]
 refine tkw 5 U (YieldsG.call (v:=fv q) (by rfl) 109 _ (λw9=>by go_simp; try rfl) (λw9 h9=>cM w9)) ?_
 try simp only [aPS]
 refine tkw 6 U (YieldsG.call (v:=fv z) (by rfl) 138 _ (λw9=>by go_simp; try rfl) (λw9 h9=>cP w9)) ?_
 try simp only [aPS]
 refine BU 7 U kZ (by rfl) _ _ _ U (w.heap.size+2) (fcs z) U U _ _ (Ax w _ _ _ _) kZ (by rfl) (AG _) rfl (λw6 h6 w7 hB7 hL7=>?_)
 try simp only [Act.put]
 refine AH kZ (λw8 h8=>?_)
 have hfin:=Gr.blk h8 hL7
 have hb9:=(Below.gr (Ac w _ _ _) h6).trans ((hB7 _ om).trans (Below.mono h8 (by have:=hL7.lt; omega)))
 go_wp2
 exact bodyPost_ret (results_cell_row U _ _ (w.heap.size+2) _ _ (0,0) _ U hfin AM U kZ) rfl ⟨rfl,hb9⟩
end
end
section
section
open Go.RowKit Go.Lib
def Ey (z j:Nat):UInt8:=UInt8.ofNat (z / 2 ^ (8*j)%256)
def Ha (z:Nat):Nat→List UInt8
 | 0=>[]
 | k+1=>Ey z k::Ha z k
theorem EX (z:Nat):∀ k,(Ha z k).length=k
 | 0=>rfl
 | k+1=>by rw [Ha,List.length_cons,EX z k]
def BA (z:Nat):List UInt8:=Ha z 32
def D5 (z k:Nat):List UInt8:=List.replicate (32 - k) 0++Ha z k
theorem G_ (z k:Nat) (h:k≤32):(D5 z k).length=32:=by simp [D5,EX]; omega
theorem Jr (z:Nat):D5 z 32=BA z:=by simp [D5,BA]
theorem K8 (z k:Nat) (h:k<32):((D5 z k).map bv).toArray.setIfInBounds (31 - k) (bv (Ey z k))=((D5 z (k+1)).map bv).toArray:=by
 rw [List.setIfInBounds_toArray]
 congr 1
 rw [← List.map_set]
 congr 1
 unfold D5
 rw [List.set_append_left _ _ (by simp; omega)]
 obtain ⟨m,hm⟩:∃ m,32 - k=m+1:=⟨31 - k,by omega⟩
 have h2:32 - (k+1)=m:=om
 have h3:31 - k=m:=om
 rw [hm,h2,h3,List.replicate_succ',List.set_append_right _ _ (by simp)]
 simp [Ha]
theorem BT (z:Nat):(BA z).length=32:=EX z 32
theorem OA (z j:Nat):bv (Ey z j)=.int .u8 ((z / 2 ^ (8*j)%256:Nat):Int):=by
 unfold bv Ey
 congr 2
 rw [UInt8.toNat_ofNat']
 omega
theorem Blk.val {w:World} {a:Addr} {v v':Value} {g:Nat} {t:TypeId} {cs:Array Value} (h:Blk (w.setCell a v) g t cs) (e:v=v'):Blk (w.setCell a v') g t cs:=e ▸ h
theorem C0 {l:AF} (h:l.length=32):(Tryz.prog.info? 22).map (·.size)=some (l.map bv).toArray.size:=by
 simp only [List.size_toArray,List.length_map,h]
 kernel_rfl
theorem Qt (l:AF):(l.map bv).toArray.all (·.oneCell')=true:=by simp [bv,Value.oneCell']
def A2 (l:AF):Nat:=l.foldl (λa b=>a*256+b.toNat) 0
theorem GD (l:AF) (c:UInt8):A2 (l++[c])=A2 l*256+c.toNat:=by simp [A2,List.foldl_append]
theorem Gy:∀ (n:Nat) (l:AF),l.length=n→A2 l<256 ^ n
 | 0,l,h=>by
  obtain rfl:l=[]:=List.length_eq_zero_iff.1 h
  simp [A2]
 | n+1,l,h=>by
  have hne:l≠[]:=by intro e; rw [e] at h; cases h
  have e:=List.dropLast_concat_getLast hne
  have ih:=Gy n l.dropLast (by rw [List.length_dropLast]; omega)
  rw [← e,GD,Nat.pow_succ]
  have:=(l.getLast hne).toNat_lt
  omega
theorem Db (l:AF):∀ (n:Nat) (m:AF),m.length=n→A2 (l++m)=A2 l*256 ^ n+A2 m
 | 0,m,h=>by
  obtain rfl:m=[]:=List.length_eq_zero_iff.1 h
  simp [A2]
 | n+1,m,h=>by
  have hne:m≠[]:=by intro e; rw [e] at h; cases h
  have e:=List.dropLast_concat_getLast hne
  have ih:=Db l n m.dropLast (by rw [List.length_dropLast]; omega)
  rw [← e, ← List.append_assoc,GD,GD,ih,Nat.pow_succ,Nat.add_mul,Nat.mul_assoc]
  omega
def wdB (l:AF) (k p:Nat):Nat:=A2 ((l.drop (8*p)).take (min 8 (k - 8*p)))
theorem CS (l:AF) (p:Nat):wdB l 0 p=0:=by simp [wdB,A2]
theorem CT (l:AF) (k p:Nat) (c:UInt8) (h:l[k]? = some c) (hp:k / 8=p):wdB l (k+1) p=wdB l k p*256+c.toNat:=by
 unfold wdB
 rw [show min 8 (k+1 - 8*p)=(k - 8*p)+1 by omega,show min 8 (k - 8*p)=k - 8*p by omega,List.take_add_one,List.getElem?_drop,show 8*p+(k - 8*p)=k by omega,h]
 exact GD _ _
theorem Aj (l:AF) (k p:Nat) (hp:k / 8≠p):wdB l (k+1) p=wdB l k p:=by
 unfold wdB
 rw [show min 8 (k+1 - 8*p)=min 8 (k - 8*p) by omega]
theorem Dj (l:AF) (k p:Nat) (hp:k / 8=p):wdB l k p<72057594037927936:=by
 unfold wdB
 have h:=Gy _ ((l.drop (8*p)).take (min 8 (k - 8*p))) U
 refine Nat.lt_of_lt_of_le h ?_
 have:((l.drop (8*p)).take (min 8 (k - 8*p))).length≤7:=by rw [List.length_take]; omega
 exact Nat.pow_le_pow_right om this
theorem Lc (l:AF) (h:l.length=32):A2 l=wdB l 32 3+18446744073709551616*wdB l 32 2+340282366920938463463374607431768211456*wdB l 32 1+6277101735386680763835789423207666416102355444464034512896*wdB l 32 0:=by
 have e:l=(l.take 8++(l.drop 8).take 8)++((l.drop 16).take 8++(l.drop 24).take 8):=by
  conv=>lhs; rw [← List.take_append_drop 16 l, ← List.take_append_drop 8 (l.take 16), ← List.take_append_drop 8 (l.drop 16)]
  congr 2
  ·rw [List.take_take]; rfl
  ·rw [List.drop_take]
  ·rw [List.drop_drop,List.take_of_length_le (by simp; omega)]
 have w0:wdB l 32 0=A2 (l.take 8):=rfl
 have w1:wdB l 32 1=A2 ((l.drop 8).take 8):=rfl
 have w2:wdB l 32 2=A2 ((l.drop 16).take 8):=rfl
 have w3:wdB l 32 3=A2 ((l.drop 24).take 8):=rfl
 conv=>lhs; rw [e]
 rw [Db _ 16 _ (by simp; omega),Db _ 8 _ (by simp; omega),Db _ 8 _ (by simp; omega),w0,w1,w2,w3]
 have p8:(256:Nat) ^ 8=18446744073709551616:=dZ
 have p16:(256:Nat) ^ 16=340282366920938463463374607431768211456:=dZ
 rw [p8,p16,Nat.add_mul,Nat.mul_assoc]
 omega
theorem C1 (l:AF) (k p:Nat):wdB l k p<18446744073709551616:=by
 unfold wdB
 have h:=Gy _ ((l.drop (8*p)).take (min 8 (k - 8*p))) U
 refine Nat.lt_of_lt_of_le h ?_
 have:((l.drop (8*p)).take (min 8 (k - 8*p))).length≤8:=by rw [List.length_take]; omega
 exact Nat.pow_le_pow_right om this
theorem Ft (w c:Nat) (hw:w<72057594037927936) (hc:c<256):bits .or .u64 ((w:Int)*256) (c:Int)=((w*256+c:Nat):Int):=by
 have e:((w:Int)*256)=((w*256:Nat):Int):=om
 rw [e]
 have h:w*256 ||| c=w*256+c:=by
  have:=Nat.two_pow_add_eq_or_of_lt (i:=8) (b:=c) om w
  rw [Nat.mul_comm w 256]
  exact this.symm
 have hw2:(BitVec.ofInt 64 ((w*256:Nat):Int) ||| BitVec.ofInt 64 (c:Int)).toNat=w*256+c:=by
  rw [BitVec.toNat_or]
  simp only [BitVec.ofInt_natCast,BitVec.toNat_ofNat]
  rw [Nat.mod_eq_of_lt om,Nat.mod_eq_of_lt om,h]
 show IntKind.u64.wrap ((BitVec.ofInt 64 ((w*256:Nat):Int) ||| BitVec.ofInt 64 (c:Int)).toNat:Int)=_
 rw [hw2,IntKind.wrap_u64]
 omega
theorem GT (W:World) (l:AF) (k:Nat) (c:UInt8) (h:l[k]? = some c) (hk:k<32) :
  (Instr.index 22 (.agg (l.map bv).toArray) (.int .i64 (k:Int))).run Tryz.prog W=.ok (bv c) W:=by
 unfold Instr.index
 have hs:∀ W,(sizeOf 5).run Tryz.prog W=.ok 1 W:=λW=>by kernel_rfl
 have pc:(part 5 (l.map bv).toArray ((k:Int).toNat*1)).run Tryz.prog W=.ok (bv c) W:=by
  simp [part,isAgg,run_underlying uy5,h]
 simp only [asIntOf,Sem.run_bind,Sem.run_pure,Result.andThen_ok,run_underlying Il]
 rw [if_pos ⟨by omega,by omega⟩]
 simp only [Sem.run_bind,hs,Result.andThen_ok,pc]
theorem aY (k:Nat):(2:Nat) ^ (8*k)=256 ^ k:=by rw [Nat.pow_mul]
theorem Ki (z:Nat):∀ k,A2 (Ha z k)=z%256 ^ k
 | 0=>by simp [Ha,A2,Nat.mod_one]
 | k+1=>by
  have h:=Db [Ey z k] k (Ha z k) (EX z k)
  rw [Ha]
  rw [List.singleton_append] at h
  rw [h,Ki z k,Nat.mod_pow_succ]
  have e:A2 [Ey z k]=z / 256 ^ k%256:=by
   have:A2 [Ey z k]=(Ey z k).toNat:=by simp [A2]
   rw [this,Ey,UInt8.toNat_ofNat',aY]
   omega
  rw [e,Nat.mul_comm]
  omega
theorem IX (z:Nat) (hz:z<(2^256)):A2 (BA z)=z:=by
 rw [BA,Ki]
 have:(256:Nat) ^ 32=(2^256):=dZ
 rw [this,Nat.mod_eq_of_lt hz]
theorem Hy (l:AF) (h:l.length=32):A2 l<(2^256):=by
 have:=Gy 32 l h
 have e:(256:Nat) ^ 32=(2^256):=dZ
 omega
end
end
section
section
open Go.RowKit Sp
def Src (w:World) (A:Option Addr) (m:AF):Prop :=
 m≠[]→∃ b o,A=some ⟨b,o,none⟩∧b<w.heap.size∧∀ j u,m[j]? = some u→w.cell? ⟨b,o+j,none⟩=some (bv u)
theorem Src.keep {w w':World} {A:Option Addr} {m:AF} (h:Src w A m) (hs:w.heap.size≤w'.heap.size) (hk:m≠[]→∀ a,A=some a→a.block<w.heap.size→w'.heap[a.block]? = w.heap[a.block]?):Src w' A m:=λhm=>by
 obtain ⟨b,o,rfl,hb,hc⟩:=h hm
 exact ⟨b,o,rfl,by omega,λj u hu=>(World.cell?_of_block (w:=w) (a:=⟨b,o+j,none⟩) (show w'.heap[b]? = w.heap[b]? from hk hm ⟨b,o,none⟩ rfl hb)).trans (hc j u hu)⟩
theorem Src.below {w w':World} {A:Option Addr} {m:AF} (h:Src w A m) (hb:Below w.heap.size w w'):Src w' A m :=
 h.keep hb.size λ_ _ _ hl=>hb.block _ hl
end
end
section
section
open Go.RowKit Go.Lib
theorem Gf (w:World) (x:Nat) (hx:x<(2^256)):Calls Tryz.prog 164 #[MC,fv x] w λe w'=>e=.returned (.bool (decide (x<pM)))∧Below w.heap.size w w':=by
 obtain ⟨p,hp⟩:∃ p,p=115792089237316195423570985008687907853269984665640564039457584007908834671663:=⟨_,rfl⟩
 obtain ⟨b,hb⟩:=xE (decide (x<pM))
 have cb:∀ w,Calls Tryz.prog 108 #[fv x,fv p] w λe w'=>e=.returned (.bool b)∧Below w.heap.size w w':=by
  intro w; rw [hb,Er, ← hp]; exact KJ w x p U U hx om
 have hpc:fv p=.agg #[.int .u64 18446744069414583343,.int .u64 18446744073709551615,.int .u64 18446744073709551615,.int .u64 18446744073709551615]:=by rw [hp]; exact PQ
 obtain ⟨x0,x1,x2,x3,fx⟩:=Ae x hx
 have FX:=Lib.hid fx
 have FP:=Lib.hid hpc
 rw [fx, ← hb]
 unfold MC
 clear fx hpc hx hp hb
 go_enter Tryz.func164,Tryz.ntmps164
 go_wp2_with (first | ((with_reducible refine AD (d:=some 5) ?_); refine AB U _ _ U (w.heap.size+1) rfl x _ _ _ (AZ w _ _ _) FX.out AM U kZ ?_) | ((with_reducible refine AD (d:=some 7) ?_); refine CF U _ _ U w.heap.size U p [.int .u64 18446744069414583343,.int .u64 18446744073709551615,.int .u64 18446744073709551615,.int .u64 18446744073709551615] _ (DA ((Blk.new w _ _).alloc _)) FP.out AM U kZ ?_))
 refine (cb _).mono ?_
 rintro e w1 ⟨rfl,k1⟩
 go_wp2
 go_ret
 exact ⟨rfl,Below.gr (Ad w _ _) k1⟩
end
end
end Go.Proofs.YtgemfpnlnipfnabGreatDoor
