/-
  Texts of ours, put together: RefNum, RefMinus, RowZ, FoldZ, RefFold, RefAdd, MulZ, RefMul, PowZ, RefPow, NumB, FeOwn, RefBytes, CrvC, CurveAlive, FeB32.
-/
import Derived.Test.YtnbenphcpenbeaaGreatDoorSZ2
set_option linter.unusedVariables false
set_option linter.unusedSimpArgs false
namespace Go.Proofs.YtnbenphcpenbeaaGreatDoor
section
section
open Go.RowKit Go.Lib
def modV:Value:=.agg #[.int .u64 18446744069414583343,.int .u64 18446744073709551615,.int .u64 18446744073709551615,.int .u64 18446744073709551615,.int .u64 4294968273,.int .u64 0,.int .u64 0]
theorem fv_P:fv 115792089237316195423570985008687907853269984665640564039457584007908834671663=.agg #[.int .u64 18446744069414583343,.int .u64 18446744073709551615,.int .u64 18446744073709551615,.int .u64 18446744073709551615]:=rfl
theorem refP_any (w:World):Calls Tryz.prog 119 #[] w λe w'=>e=.returned modV∧Below w.heap.size w w':=by
 go_enter Tryz.func119,Tryz.ntmps119
 go_wp2
 exact bodyPost_ret (results_cell_row rfl _ _ w.heap.size _ _ (0,0) _ rfl (heap_alloc_new w _) Tryz.underlying169 rfl (by kernel_rfl)) rfl ⟨rfl,(Below.refl _ _).alloc (Nat.le_refl _) _⟩
theorem refOf_any (w:World) (n:Nat) (hn:n<(2^256)):Calls Tryz.prog 162 #[fv n] w λe w'=>e=.returned (fv n)∧Below w.heap.size w w':=by
 obtain ⟨a,b,c,d,fn⟩:=words_fv n hn
 rw [fn]
 clear fn
 go_enter Tryz.func162,Tryz.ntmps162
 go_wp2
 exact bodyPost_ret (results_cell_row rfl _ _ (w.heap.size+1) _ _ (0,0) _ rfl (heap_alloc2_new w _ _) Tryz.underlying164 rfl (by kernel_rfl)) rfl ⟨rfl,below_alloc2 w _ _⟩
theorem refFe_any (w:World) (n:Nat) (hn:n<(2^256)):Calls Tryz.prog 126 #[fv n] w λe w'=>e=.returned (fv n)∧Below w.heap.size w w':=by
 obtain ⟨a,b,c,d,fn⟩:=words_fv n hn
 rw [fn]
 clear fn
 go_enter Tryz.func126,Tryz.ntmps126
 go_wp2
 exact bodyPost_ret (results_cell_row rfl _ _ (w.heap.size+1) _ _ (0,0) _ rfl (heap_alloc2_new w _ _) Tryz.underlying81 rfl (by kernel_rfl)) rfl ⟨rfl,below_alloc2 w _ _⟩
set_option maxHeartbeats 8000000 in
set_option maxRecDepth 100000 in
theorem below_at {v1 v2:Value} (w:World) (x y:Nat) (h1:fv x=v1) (h2:fv y=v2) (hx:x<(2^256)) (hy:y<(2^256)):Calls Tryz.prog 156 #[v1,v2] w λe w'=>e=.returned (.bool (decide (x<y)))∧Below w.heap.size w w':=by
 subst h1 h2
 obtain ⟨x0,x1,x2,x3,a0,a1,a2,a3,ex,fx⟩:=words_of x hx
 obtain ⟨y0,y1,y2,y3,b0,b1,b2,b3,ey,fy⟩:=words_of y hy
 obtain ⟨r,hr⟩:∃ r,r=decide (x<y):=⟨_,rfl⟩
 have t3:x3≠y3→r=decide ((x3:Int)<(y3:Int)):=λh=>by rw [hr]; congr 1; simp only [eq_iff_iff]; omega
 have t2:x3=y3→x2≠y2→r=decide ((x2:Int)<(y2:Int)):=λ_ h=>by rw [hr]; congr 1; simp only [eq_iff_iff]; omega
 have t1:x3=y3→x2=y2→x1≠y1→r=decide ((x1:Int)<(y1:Int)):=λ_ _ h=>by rw [hr]; congr 1; simp only [eq_iff_iff]; omega
 have t0:x3=y3→x2=y2→x1=y1→x0≠y0→r=decide ((x0:Int)<(y0:Int)):=λ_ _ _ h=>by rw [hr]; congr 1; simp only [eq_iff_iff]; omega
 have te:x3=y3→x2=y2→x1=y1→x0=y0→r=false:=λ_ _ _ _=>by rw [hr]; simp only [decide_eq_false_iff_not]; omega
 have HT:=Lib.hid (And.intro t3 (And.intro t2 (And.intro t1 (And.intro t0 te))))
 rw [fx,fy, ← hr]
 clear fx fy ex ey hx hy a0 a1 a2 a3 b0 b1 b2 b3 hr t3 t2 t1 t0 te
 go_enter Tryz.func156,Tryz.ntmps156
 go_wp2_with fail
 go_loopw [5] (λi wr=>Below w.heap.size w wr∧Blk wr w.heap.size 164 #[.int .u64 (x0:Int),.int .u64 (x1:Int),.int .u64 (x2:Int),.int .u64 (x3:Int)]∧Blk wr (w.heap.size+1) 164 #[.int .u64 (y0:Int),.int .u64 (y1:Int),.int .u64 (y2:Int),.int .u64 (y3:Int)]∧Hid ((i=.int .i64 3)∨(i=.int .i64 2∧x3=y3)∨(i=.int .i64 1∧x3=y3∧x2=y2)∨(i=.int .i64 0∧x3=y3∧x2=y2∧x1=y1)∨(i=.int .i64 (-1)∧x3=y3∧x2=y2∧x1=y1∧x0=y0))) (λi _=>(intOf i+1).toNat)
 case atStart=>exact ⟨below_alloc2 w _ _,(Blk.new w _ _).alloc _,blk_new2 w _ _ _,Lib.hid (.inl rfl)⟩
 case round =>
  obtain ⟨hb,BX,BY,HI⟩:=hrel
  have lX:=BX.lt
  have lY:=BY.lt
  have qx0:wr.cell? ⟨w.heap.size,0,none⟩=some (.int .u64 (x0:Int)):=BX.cell 0
  have qy0:wr.cell? ⟨w.heap.size+1,0,none⟩=some (.int .u64 (y0:Int)):=BY.cell 0
  have qx1:wr.cell? ⟨w.heap.size,1,none⟩=some (.int .u64 (x1:Int)):=BX.cell 1
  have qy1:wr.cell? ⟨w.heap.size+1,1,none⟩=some (.int .u64 (y1:Int)):=BY.cell 1
  have qx2:wr.cell? ⟨w.heap.size,2,none⟩=some (.int .u64 (x2:Int)):=BX.cell 2
  have qy2:wr.cell? ⟨w.heap.size+1,2,none⟩=some (.int .u64 (y2:Int)):=BY.cell 2
  have qx3:wr.cell? ⟨w.heap.size,3,none⟩=some (.int .u64 (x3:Int)):=BX.cell 3
  have qy3:wr.cell? ⟨w.heap.size+1,3,none⟩=some (.int .u64 (y3:Int)):=BY.cell 3
  rcases HI.out with rfl | ⟨rfl,E⟩ | ⟨rfl,E⟩ | ⟨rfl,E⟩ | ⟨rfl,E⟩
  ·have hk:Hid (True):=Lib.hid trivial
   clear HI
   obtain ⟨b,hbd⟩:∃ b,b=decide (x3≠y3):=⟨_,rfl⟩
   have hbb:(!((x3:Int) == (y3:Int)))=b:=by
    rw [hbd]
    by_cases h:x3=y3 <;> simp [h] <;> omega
   have HB:=Lib.hid hbd
   clear hbd
   go_wp2
   refine wp_region_G (λ_=>false) (by kernel_rfl) ?_
   try simp only [Act.put]
   refine tk 0 rfl ?_
   try simp only [Act.put,aA,aZ,aS]
   refine tk 1 rfl ?_
   try simp only [Act.put,aA,aZ,aS]
   refine tkw 2 rfl (YieldsG.pure (v:=.int .u64 (x3:Int)) (by rfl) (λw9 h9=>by have hz:=(Below.cell (p:=⟨w.heap.size,3,none⟩) h9 lX).trans qx3; go_simp; first | done | simp [hz])) ?_
   try simp only [Act.put,aA,aZ,aS]
   refine tk 3 rfl ?_
   try simp only [Act.put,aA,aZ,aS]
   refine tk 4 rfl ?_
   try simp only [Act.put,aA,aZ,aS]
   refine tkw 5 rfl (YieldsG.pure (v:=.int .u64 (y3:Int)) (by rfl) (λw9 h9=>by have hz:=(Below.cell (p:=⟨w.heap.size+1,3,none⟩) h9 lY).trans qy3; go_simp; first | done | simp [hz])) ?_
   try simp only [Act.put,aA,aZ,aS]
   refine tkw 6 rfl (YieldsG.pure (v:=.bool b) (by rfl) (λw9 h9=>by go_simp; congr 3; all_goals (rw [HB.out]; all_goals (by_cases h:x3=y3 <;> simp [h] <;> omega)))) ?_
   try simp only [Act.put,aA,aZ,aS]
   refine wpAnyG_done (by kernel_rfl) (λu hu=>?_)
   have hbu:=Below.gr hb hu
   have BXu:=Gr.blk hu BX
   have BYu:=Gr.blk hu BY
   cases b
   ·have hxy:x3=y3:=by
     have:=HB.out
     simpa using this
    have HXY:=Lib.hid hxy
    clear hxy
    go_wp2
    exact ⟨⟨hbu,BXu,BYu,Lib.hid (.inr (.inl ⟨rfl,HXY.out⟩))⟩,by decide⟩
   ·have hxy:x3≠y3:=by
     have:=HB.out
     simpa using this
    have hr2:=Lib.hid (HT.out.1 hxy)
    have lXu:=BXu.lt
    have lYu:=BYu.lt
    have px:u.cell? ⟨w.heap.size,3,none⟩=some (.int .u64 (x3:Int)):=BXu.cell 3
    have py:u.cell? ⟨w.heap.size+1,3,none⟩=some (.int .u64 (y3:Int)):=BYu.cell 3
    clear hxy hk HT
    go_wp2
    refine wp_region_G (λ_=>false) (by kernel_rfl) ?_
    try simp only [Act.put]
    refine tk 0 rfl ?_
    try simp only [Act.put,aA,aZ,aS]
    refine tk 1 rfl ?_
    try simp only [Act.put,aA,aZ,aS]
    refine tkw 2 rfl (YieldsG.pure (v:=.int .u64 (x3:Int)) (by rfl) (λw9 h9=>by have hz:=(Below.cell (p:=⟨w.heap.size,3,none⟩) h9 lXu).trans px; go_simp; first | done | simp [hz])) ?_
    try simp only [Act.put,aA,aZ,aS]
    refine tk 3 rfl ?_
    try simp only [Act.put,aA,aZ,aS]
    refine tk 4 rfl ?_
    try simp only [Act.put,aA,aZ,aS]
    refine tkw 5 rfl (YieldsG.pure (v:=.int .u64 (y3:Int)) (by rfl) (λw9 h9=>by have hz:=(Below.cell (p:=⟨w.heap.size+1,3,none⟩) h9 lYu).trans py; go_simp; first | done | simp [hz])) ?_
    try simp only [Act.put,aA,aZ,aS]
    refine tkw 6 rfl (YieldsG.pure (v:=.bool r) (by rfl) (λw9 h9=>by go_simp; congr 3; rw [hr2.out]; all_goals (apply decide_eq_decide.2; omega))) ?_
    try simp only [Act.put,aA,aZ,aS]
    refine tk 7 rfl ?_
    try simp only [Act.put,aA,aZ,aS]
    refine wpAnyG_done (by kernel_rfl) (λu2 hu2=>?_)
    go_wp2
    go_ret
    exact ⟨rfl,Below.gr hbu hu2⟩
  ·have hk:Hid (x3=y3):=Lib.hid E
   clear HI E
   obtain ⟨b,hbd⟩:∃ b,b=decide (x2≠y2):=⟨_,rfl⟩
   have hbb:(!((x2:Int) == (y2:Int)))=b:=by
    rw [hbd]
    by_cases h:x2=y2 <;> simp [h] <;> omega
   have HB:=Lib.hid hbd
   clear hbd
   go_wp2
   refine wp_region_G (λ_=>false) (by kernel_rfl) ?_
   try simp only [Act.put]
   refine tk 0 rfl ?_
   try simp only [Act.put,aA,aZ,aS]
   refine tk 1 rfl ?_
   try simp only [Act.put,aA,aZ,aS]
   refine tkw 2 rfl (YieldsG.pure (v:=.int .u64 (x2:Int)) (by rfl) (λw9 h9=>by have hz:=(Below.cell (p:=⟨w.heap.size,2,none⟩) h9 lX).trans qx2; go_simp; first | done | simp [hz])) ?_
   try simp only [Act.put,aA,aZ,aS]
   refine tk 3 rfl ?_
   try simp only [Act.put,aA,aZ,aS]
   refine tk 4 rfl ?_
   try simp only [Act.put,aA,aZ,aS]
   refine tkw 5 rfl (YieldsG.pure (v:=.int .u64 (y2:Int)) (by rfl) (λw9 h9=>by have hz:=(Below.cell (p:=⟨w.heap.size+1,2,none⟩) h9 lY).trans qy2; go_simp; first | done | simp [hz])) ?_
   try simp only [Act.put,aA,aZ,aS]
   refine tkw 6 rfl (YieldsG.pure (v:=.bool b) (by rfl) (λw9 h9=>by go_simp; congr 3; all_goals (rw [HB.out]; all_goals (by_cases h:x2=y2 <;> simp [h] <;> omega)))) ?_
   try simp only [Act.put,aA,aZ,aS]
   refine wpAnyG_done (by kernel_rfl) (λu hu=>?_)
   have hbu:=Below.gr hb hu
   have BXu:=Gr.blk hu BX
   have BYu:=Gr.blk hu BY
   cases b
   ·have hxy:x2=y2:=by
     have:=HB.out
     simpa using this
    have HXY:=Lib.hid hxy
    clear hxy
    go_wp2
    exact ⟨⟨hbu,BXu,BYu,Lib.hid (.inr (.inr (.inl ⟨rfl,hk.out,HXY.out⟩)))⟩,by decide⟩
   ·have hxy:x2≠y2:=by
     have:=HB.out
     simpa using this
    have hr2:=Lib.hid (HT.out.2.1 hk.out hxy)
    have lXu:=BXu.lt
    have lYu:=BYu.lt
    have px:u.cell? ⟨w.heap.size,2,none⟩=some (.int .u64 (x2:Int)):=BXu.cell 2
    have py:u.cell? ⟨w.heap.size+1,2,none⟩=some (.int .u64 (y2:Int)):=BYu.cell 2
    clear hxy hk HT
    go_wp2
    refine wp_region_G (λ_=>false) (by kernel_rfl) ?_
    try simp only [Act.put]
    refine tk 0 rfl ?_
    try simp only [Act.put,aA,aZ,aS]
    refine tk 1 rfl ?_
    try simp only [Act.put,aA,aZ,aS]
    refine tkw 2 rfl (YieldsG.pure (v:=.int .u64 (x2:Int)) (by rfl) (λw9 h9=>by have hz:=(Below.cell (p:=⟨w.heap.size,2,none⟩) h9 lXu).trans px; go_simp; first | done | simp [hz])) ?_
    try simp only [Act.put,aA,aZ,aS]
    refine tk 3 rfl ?_
    try simp only [Act.put,aA,aZ,aS]
    refine tk 4 rfl ?_
    try simp only [Act.put,aA,aZ,aS]
    refine tkw 5 rfl (YieldsG.pure (v:=.int .u64 (y2:Int)) (by rfl) (λw9 h9=>by have hz:=(Below.cell (p:=⟨w.heap.size+1,2,none⟩) h9 lYu).trans py; go_simp; first | done | simp [hz])) ?_
    try simp only [Act.put,aA,aZ,aS]
    refine tkw 6 rfl (YieldsG.pure (v:=.bool r) (by rfl) (λw9 h9=>by go_simp; congr 3; rw [hr2.out]; all_goals (apply decide_eq_decide.2; omega))) ?_
    try simp only [Act.put,aA,aZ,aS]
    refine tk 7 rfl ?_
    try simp only [Act.put,aA,aZ,aS]
    refine wpAnyG_done (by kernel_rfl) (λu2 hu2=>?_)
    go_wp2
    go_ret
    exact ⟨rfl,Below.gr hbu hu2⟩
  ·have hk:Hid (x3=y3∧x2=y2):=Lib.hid E
   clear HI E
   obtain ⟨b,hbd⟩:∃ b,b=decide (x1≠y1):=⟨_,rfl⟩
   have hbb:(!((x1:Int) == (y1:Int)))=b:=by
    rw [hbd]
    by_cases h:x1=y1 <;> simp [h] <;> omega
   have HB:=Lib.hid hbd
   clear hbd
   go_wp2
   refine wp_region_G (λ_=>false) (by kernel_rfl) ?_
   try simp only [Act.put]
   refine tk 0 rfl ?_
   try simp only [Act.put,aA,aZ,aS]
   refine tk 1 rfl ?_
   try simp only [Act.put,aA,aZ,aS]
   refine tkw 2 rfl (YieldsG.pure (v:=.int .u64 (x1:Int)) (by rfl) (λw9 h9=>by have hz:=(Below.cell (p:=⟨w.heap.size,1,none⟩) h9 lX).trans qx1; go_simp; first | done | simp [hz])) ?_
   try simp only [Act.put,aA,aZ,aS]
   refine tk 3 rfl ?_
   try simp only [Act.put,aA,aZ,aS]
   refine tk 4 rfl ?_
   try simp only [Act.put,aA,aZ,aS]
   refine tkw 5 rfl (YieldsG.pure (v:=.int .u64 (y1:Int)) (by rfl) (λw9 h9=>by have hz:=(Below.cell (p:=⟨w.heap.size+1,1,none⟩) h9 lY).trans qy1; go_simp; first | done | simp [hz])) ?_
   try simp only [Act.put,aA,aZ,aS]
   refine tkw 6 rfl (YieldsG.pure (v:=.bool b) (by rfl) (λw9 h9=>by go_simp; congr 3; all_goals (rw [HB.out]; all_goals (by_cases h:x1=y1 <;> simp [h] <;> omega)))) ?_
   try simp only [Act.put,aA,aZ,aS]
   refine wpAnyG_done (by kernel_rfl) (λu hu=>?_)
   have hbu:=Below.gr hb hu
   have BXu:=Gr.blk hu BX
   have BYu:=Gr.blk hu BY
   cases b
   ·have hxy:x1=y1:=by
     have:=HB.out
     simpa using this
    have HXY:=Lib.hid hxy
    clear hxy
    go_wp2
    exact ⟨⟨hbu,BXu,BYu,Lib.hid (.inr (.inr (.inr (.inl ⟨rfl,hk.out.1,hk.out.2,HXY.out⟩))))⟩,by decide⟩
   ·have hxy:x1≠y1:=by
     have:=HB.out
     simpa using this
    have hr2:=Lib.hid (HT.out.2.2.1 hk.out.1 hk.out.2 hxy)
    have lXu:=BXu.lt
    have lYu:=BYu.lt
    have px:u.cell? ⟨w.heap.size,1,none⟩=some (.int .u64 (x1:Int)):=BXu.cell 1
    have py:u.cell? ⟨w.heap.size+1,1,none⟩=some (.int .u64 (y1:Int)):=BYu.cell 1
    clear hxy hk HT
    go_wp2
    refine wp_region_G (λ_=>false) (by kernel_rfl) ?_
    try simp only [Act.put]
    refine tk 0 rfl ?_
    try simp only [Act.put,aA,aZ,aS]
    refine tk 1 rfl ?_
    try simp only [Act.put,aA,aZ,aS]
    refine tkw 2 rfl (YieldsG.pure (v:=.int .u64 (x1:Int)) (by rfl) (λw9 h9=>by have hz:=(Below.cell (p:=⟨w.heap.size,1,none⟩) h9 lXu).trans px; go_simp; first | done | simp [hz])) ?_
    try simp only [Act.put,aA,aZ,aS]
    refine tk 3 rfl ?_
    try simp only [Act.put,aA,aZ,aS]
    refine tk 4 rfl ?_
    try simp only [Act.put,aA,aZ,aS]
    refine tkw 5 rfl (YieldsG.pure (v:=.int .u64 (y1:Int)) (by rfl) (λw9 h9=>by have hz:=(Below.cell (p:=⟨w.heap.size+1,1,none⟩) h9 lYu).trans py; go_simp; first | done | simp [hz])) ?_
    try simp only [Act.put,aA,aZ,aS]
    refine tkw 6 rfl (YieldsG.pure (v:=.bool r) (by rfl) (λw9 h9=>by go_simp; congr 3; rw [hr2.out]; all_goals (apply decide_eq_decide.2; omega))) ?_
    try simp only [Act.put,aA,aZ,aS]
    refine tk 7 rfl ?_
    try simp only [Act.put,aA,aZ,aS]
    refine wpAnyG_done (by kernel_rfl) (λu2 hu2=>?_)
    go_wp2
    go_ret
    exact ⟨rfl,Below.gr hbu hu2⟩
  ·have hk:Hid (x3=y3∧x2=y2∧x1=y1):=Lib.hid E
   clear HI E
   obtain ⟨b,hbd⟩:∃ b,b=decide (x0≠y0):=⟨_,rfl⟩
   have hbb:(!((x0:Int) == (y0:Int)))=b:=by
    rw [hbd]
    by_cases h:x0=y0 <;> simp [h] <;> omega
   have HB:=Lib.hid hbd
   clear hbd
   go_wp2
   refine wp_region_G (λ_=>false) (by kernel_rfl) ?_
   try simp only [Act.put]
   refine tk 0 rfl ?_
   try simp only [Act.put,aA,aZ,aS]
   refine tk 1 rfl ?_
   try simp only [Act.put,aA,aZ,aS]
   refine tkw 2 rfl (YieldsG.pure (v:=.int .u64 (x0:Int)) (by rfl) (λw9 h9=>by have hz:=(Below.cell (p:=⟨w.heap.size,0,none⟩) h9 lX).trans qx0; go_simp; first | done | simp [hz])) ?_
   try simp only [Act.put,aA,aZ,aS]
   refine tk 3 rfl ?_
   try simp only [Act.put,aA,aZ,aS]
   refine tk 4 rfl ?_
   try simp only [Act.put,aA,aZ,aS]
   refine tkw 5 rfl (YieldsG.pure (v:=.int .u64 (y0:Int)) (by rfl) (λw9 h9=>by have hz:=(Below.cell (p:=⟨w.heap.size+1,0,none⟩) h9 lY).trans qy0; go_simp; first | done | simp [hz])) ?_
   try simp only [Act.put,aA,aZ,aS]
   refine tkw 6 rfl (YieldsG.pure (v:=.bool b) (by rfl) (λw9 h9=>by go_simp; congr 3; all_goals (rw [HB.out]; all_goals (by_cases h:x0=y0 <;> simp [h] <;> omega)))) ?_
   try simp only [Act.put,aA,aZ,aS]
   refine wpAnyG_done (by kernel_rfl) (λu hu=>?_)
   have hbu:=Below.gr hb hu
   have BXu:=Gr.blk hu BX
   have BYu:=Gr.blk hu BY
   cases b
   ·have hxy:x0=y0:=by
     have:=HB.out
     simpa using this
    have HXY:=Lib.hid hxy
    clear hxy
    go_wp2
    exact ⟨⟨hbu,BXu,BYu,Lib.hid (.inr (.inr (.inr (.inr ⟨rfl,hk.out.1,hk.out.2.1,hk.out.2.2,HXY.out⟩))))⟩,by decide⟩
   ·have hxy:x0≠y0:=by
     have:=HB.out
     simpa using this
    have hr2:=Lib.hid (HT.out.2.2.2.1 hk.out.1 hk.out.2.1 hk.out.2.2 hxy)
    have lXu:=BXu.lt
    have lYu:=BYu.lt
    have px:u.cell? ⟨w.heap.size,0,none⟩=some (.int .u64 (x0:Int)):=BXu.cell 0
    have py:u.cell? ⟨w.heap.size+1,0,none⟩=some (.int .u64 (y0:Int)):=BYu.cell 0
    clear hxy hk HT
    go_wp2
    refine wp_region_G (λ_=>false) (by kernel_rfl) ?_
    try simp only [Act.put]
    refine tk 0 rfl ?_
    try simp only [Act.put,aA,aZ,aS]
    refine tk 1 rfl ?_
    try simp only [Act.put,aA,aZ,aS]
    refine tkw 2 rfl (YieldsG.pure (v:=.int .u64 (x0:Int)) (by rfl) (λw9 h9=>by have hz:=(Below.cell (p:=⟨w.heap.size,0,none⟩) h9 lXu).trans px; go_simp; first | done | simp [hz])) ?_
    try simp only [Act.put,aA,aZ,aS]
    refine tk 3 rfl ?_
    try simp only [Act.put,aA,aZ,aS]
    refine tk 4 rfl ?_
    try simp only [Act.put,aA,aZ,aS]
    refine tkw 5 rfl (YieldsG.pure (v:=.int .u64 (y0:Int)) (by rfl) (λw9 h9=>by have hz:=(Below.cell (p:=⟨w.heap.size+1,0,none⟩) h9 lYu).trans py; go_simp; first | done | simp [hz])) ?_
    try simp only [Act.put,aA,aZ,aS]
    refine tkw 6 rfl (YieldsG.pure (v:=.bool r) (by rfl) (λw9 h9=>by go_simp; congr 3; rw [hr2.out]; all_goals (apply decide_eq_decide.2; omega))) ?_
    try simp only [Act.put,aA,aZ,aS]
    refine tk 7 rfl ?_
    try simp only [Act.put,aA,aZ,aS]
    refine wpAnyG_done (by kernel_rfl) (λu2 hu2=>?_)
    go_wp2
    go_ret
    exact ⟨rfl,Below.gr hbu hu2⟩
  ·have HR:Hid (r=false):=Lib.hid (HT.out.2.2.2.2 E.1 E.2.1 E.2.2.1 E.2.2.2)
   clear HI E
   go_wp2
   go_ret
   exact ⟨by rw [HR.out]; rfl,hb⟩
end
end
section
section
open Go.RowKit Go.Lib
set_option maxHeartbeats 8000000 in
set_option maxRecDepth 100000 in
theorem minusR_at {v1 v2:Value} (w:World) (x y s k:Nat) (h1:fv x=v1) (h2:fv y=v2) (hx:x<(2^256)) (hy:y<(2^256)) (hs:s<(2^256)) (he:s+y=x+(2^256)*k):Calls Tryz.prog 187 #[v1,v2] w λe w'=>e=.returned (fv s)∧Below w.heap.size w w':=by
 subst h1 h2
 obtain ⟨x0,x1,x2,x3,a0,a1,a2,a3,ex,fx⟩:=words_of x hx
 obtain ⟨y0,y1,y2,y3,b0,b1,b2,b3,ey,fy⟩:=words_of y hy
 obtain ⟨s0,c0,d0,k0,e0,r0⟩:=sub0_ex x0 y0 a0 b0
 obtain ⟨s1,c1,d1,k1,e1,r1⟩:=subc_ex x1 y1 c0 a1 b1 k0
 obtain ⟨s2,c2,d2,k2,e2,r2⟩:=subc_ex x2 y2 c1 a2 b2 k1
 obtain ⟨s3,c3,d3,k3,e3,r3⟩:=subc_ex x3 y3 c2 a3 b3 k2
 have fin:s0+18446744073709551616*s1+340282366920938463463374607431768211456*s2+6277101735386680763835789423207666416102355444464034512896*s3=s:=by omega
 have hfs:=fv_mk s0 s1 s2 s3 d0 d1 d2 d3
 rw [fin] at hfs
 have Fd:=Lib.hid hfs
 rw [fx,fy]
 clear fx fy ex ey hx hy hs he a0 a1 a2 a3 b0 b1 b2 b3 d0 d1 d2 d3 k0 k1 k2 k3 e0 e1 e2 e3 fin hfs
 go_enter Tryz.func187,Tryz.ntmps187
 go_wp2_with fail
 go_loopw [5,6] (λbo i wr=>Below w.heap.size w wr∧Blk wr (w.heap.size+1) 164 #[.int .u64 (y0:Int),.int .u64 (y1:Int),.int .u64 (y2:Int),.int .u64 (y3:Int)]∧Blk wr (w.heap.size+2) 164 #[.int .u64 0,.int .u64 0,.int .u64 0,.int .u64 0]∧Hid ((i=.int .i64 0∧bo=.int .u64 0∧Blk wr w.heap.size 164 #[.int .u64 (x0:Int),.int .u64 (x1:Int),.int .u64 (x2:Int),.int .u64 (x3:Int)])∨(i=.int .i64 1∧bo=.int .u64 (c0:Int)∧Blk wr w.heap.size 164 #[.int .u64 (s0:Int),.int .u64 (x1:Int),.int .u64 (x2:Int),.int .u64 (x3:Int)])∨(i=.int .i64 2∧bo=.int .u64 (c1:Int)∧Blk wr w.heap.size 164 #[.int .u64 (s0:Int),.int .u64 (s1:Int),.int .u64 (x2:Int),.int .u64 (x3:Int)])∨(i=.int .i64 3∧bo=.int .u64 (c2:Int)∧Blk wr w.heap.size 164 #[.int .u64 (s0:Int),.int .u64 (s1:Int),.int .u64 (s2:Int),.int .u64 (x3:Int)])∨(i=.int .i64 4∧bo=.int .u64 (c3:Int)∧Blk wr w.heap.size 164 #[.int .u64 (s0:Int),.int .u64 (s1:Int),.int .u64 (s2:Int),.int .u64 (s3:Int)]))) (λ_ i _=>4 - (intOf i).toNat)
 case atStart=>exact ⟨below_alloc3 w _ _ _,(blk_new2 w _ _ _).alloc _,blk_new3 w _ _ _ _,Lib.hid (.inl ⟨rfl,rfl,((Blk.new w _ _).alloc _).alloc _⟩)⟩
 case round =>
  obtain ⟨hb,BY,BR,HI⟩:=hrel
  have lY:=BY.lt
  have lX:w.heap.size<wr.heap.size:=by omega
  have hsz:w.heap.size+2<wr.heap.size:=BR.lt
  rcases HI.out with ⟨rfl,rfl,BX⟩ | ⟨rfl,rfl,BX⟩ | ⟨rfl,rfl,BX⟩ | ⟨rfl,rfl,BX⟩ | ⟨rfl,rfl,BX⟩
  ·clear HI
   have px:wr.cell? ⟨w.heap.size,0,none⟩=some (.int .u64 (x0:Int)):=BX.cell 0
   have py:wr.cell? ⟨w.heap.size+1,0,none⟩=some (.int .u64 (y0:Int)):=BY.cell 0
   go_wp2
   refine wp_region_G (λ_=>false) (by kernel_rfl) ?_
   try simp only [Act.put]
   refine tk 0 rfl ?_
   try simp only [Act.put,aA,aZ,aS]
   refine tk 1 rfl ?_
   try simp only [Act.put,aA,aZ,aS]
   refine tkw 2 rfl (YieldsG.pure (v:=.int .u64 (x0:Int)) (by rfl) (λw9 h9=>by have hz:=(Below.cell (p:=⟨w.heap.size,0,none⟩) h9 lX).trans px; go_simp; first | done | simp [hz])) ?_
   try simp only [Act.put,aA,aZ,aS]
   refine tk 3 rfl ?_
   try simp only [Act.put,aA,aZ,aS]
   refine tk 4 rfl ?_
   try simp only [Act.put,aA,aZ,aS]
   refine tkw 5 rfl (YieldsG.pure (v:=.int .u64 (y0:Int)) (by rfl) (λw9 h9=>by have hz:=(Below.cell (p:=⟨w.heap.size+1,0,none⟩) h9 lY).trans py; go_simp; first | done | simp [hz])) ?_
   try simp only [Act.put,aA,aZ,aS]
   refine tk 6 rfl ?_
   try simp only [Act.put,aA,aZ,aS]
   refine tkw 7 rfl (YieldsG.pure (v:=.tuple #[.int .u64 (s0:Int),.int .u64 (c0:Int)]) (by rfl) (λw9 h9=>by go_simp)) ?_
   try simp only [Act.put,aA,aZ,aS]
   refine tk 8 rfl ?_
   try simp only [Act.put,aA,aZ,aS]
   refine tk 9 rfl ?_
   try simp only [Act.put,aA,aZ,aS]
   refine tk 10 rfl ?_
   try simp only [Act.put,aA,aZ,aS]
   refine tk 11 rfl ?_
   try simp only [Act.put,aA,aZ,aS]
   refine tk 12 rfl ?_
   try simp only [Act.put,aA,aZ,aS]
   refine wpAnyG_done (by kernel_rfl) (λu hu=>?_)
   have BXu:=Gr.blk hu BX
   have BYu:=Gr.blk hu BY
   have BRu:=Gr.blk hu BR
   have hbu:=Below.gr hb hu
   have pc:u.cell? ⟨w.heap.size,0,none⟩=some (.int .u64 (x0:Int)):=BXu.cell 0
   have pf:=BXu.frozen 0
   go_wp2
   refine ⟨⟨hbu.setCell (Nat.le_refl _) _,BYu.far (by show w.heap.size+1≠w.heap.size; omega) _,BRu.far (by show w.heap.size+2≠w.heap.size; omega) _,Lib.hid (.inr (.inl (⟨rfl,rfl,BXu.set_ 0 _⟩)))⟩,by decide⟩
  ·clear HI
   have px:wr.cell? ⟨w.heap.size,1,none⟩=some (.int .u64 (x1:Int)):=BX.cell 1
   have py:wr.cell? ⟨w.heap.size+1,1,none⟩=some (.int .u64 (y1:Int)):=BY.cell 1
   go_wp2
   refine wp_region_G (λ_=>false) (by kernel_rfl) ?_
   try simp only [Act.put]
   refine tk 0 rfl ?_
   try simp only [Act.put,aA,aZ,aS]
   refine tk 1 rfl ?_
   try simp only [Act.put,aA,aZ,aS]
   refine tkw 2 rfl (YieldsG.pure (v:=.int .u64 (x1:Int)) (by rfl) (λw9 h9=>by have hz:=(Below.cell (p:=⟨w.heap.size,1,none⟩) h9 lX).trans px; go_simp; first | done | simp [hz])) ?_
   try simp only [Act.put,aA,aZ,aS]
   refine tk 3 rfl ?_
   try simp only [Act.put,aA,aZ,aS]
   refine tk 4 rfl ?_
   try simp only [Act.put,aA,aZ,aS]
   refine tkw 5 rfl (YieldsG.pure (v:=.int .u64 (y1:Int)) (by rfl) (λw9 h9=>by have hz:=(Below.cell (p:=⟨w.heap.size+1,1,none⟩) h9 lY).trans py; go_simp; first | done | simp [hz])) ?_
   try simp only [Act.put,aA,aZ,aS]
   refine tk 6 rfl ?_
   try simp only [Act.put,aA,aZ,aS]
   refine tkw 7 rfl (YieldsG.pure (v:=.tuple #[.int .u64 (s1:Int),.int .u64 (c1:Int)]) (by rfl) (λw9 h9=>by go_simp)) ?_
   try simp only [Act.put,aA,aZ,aS]
   refine tk 8 rfl ?_
   try simp only [Act.put,aA,aZ,aS]
   refine tk 9 rfl ?_
   try simp only [Act.put,aA,aZ,aS]
   refine tk 10 rfl ?_
   try simp only [Act.put,aA,aZ,aS]
   refine tk 11 rfl ?_
   try simp only [Act.put,aA,aZ,aS]
   refine tk 12 rfl ?_
   try simp only [Act.put,aA,aZ,aS]
   refine wpAnyG_done (by kernel_rfl) (λu hu=>?_)
   have BXu:=Gr.blk hu BX
   have BYu:=Gr.blk hu BY
   have BRu:=Gr.blk hu BR
   have hbu:=Below.gr hb hu
   have pc:u.cell? ⟨w.heap.size,1,none⟩=some (.int .u64 (x1:Int)):=BXu.cell 1
   have pf:=BXu.frozen 1
   go_wp2
   refine ⟨⟨hbu.setCell (Nat.le_refl _) _,BYu.far (by show w.heap.size+1≠w.heap.size; omega) _,BRu.far (by show w.heap.size+2≠w.heap.size; omega) _,Lib.hid (.inr (.inr (.inl (⟨rfl,rfl,BXu.set_ 1 _⟩))))⟩,by decide⟩
  ·clear HI
   have px:wr.cell? ⟨w.heap.size,2,none⟩=some (.int .u64 (x2:Int)):=BX.cell 2
   have py:wr.cell? ⟨w.heap.size+1,2,none⟩=some (.int .u64 (y2:Int)):=BY.cell 2
   go_wp2
   refine wp_region_G (λ_=>false) (by kernel_rfl) ?_
   try simp only [Act.put]
   refine tk 0 rfl ?_
   try simp only [Act.put,aA,aZ,aS]
   refine tk 1 rfl ?_
   try simp only [Act.put,aA,aZ,aS]
   refine tkw 2 rfl (YieldsG.pure (v:=.int .u64 (x2:Int)) (by rfl) (λw9 h9=>by have hz:=(Below.cell (p:=⟨w.heap.size,2,none⟩) h9 lX).trans px; go_simp; first | done | simp [hz])) ?_
   try simp only [Act.put,aA,aZ,aS]
   refine tk 3 rfl ?_
   try simp only [Act.put,aA,aZ,aS]
   refine tk 4 rfl ?_
   try simp only [Act.put,aA,aZ,aS]
   refine tkw 5 rfl (YieldsG.pure (v:=.int .u64 (y2:Int)) (by rfl) (λw9 h9=>by have hz:=(Below.cell (p:=⟨w.heap.size+1,2,none⟩) h9 lY).trans py; go_simp; first | done | simp [hz])) ?_
   try simp only [Act.put,aA,aZ,aS]
   refine tk 6 rfl ?_
   try simp only [Act.put,aA,aZ,aS]
   refine tkw 7 rfl (YieldsG.pure (v:=.tuple #[.int .u64 (s2:Int),.int .u64 (c2:Int)]) (by rfl) (λw9 h9=>by go_simp)) ?_
   try simp only [Act.put,aA,aZ,aS]
   refine tk 8 rfl ?_
   try simp only [Act.put,aA,aZ,aS]
   refine tk 9 rfl ?_
   try simp only [Act.put,aA,aZ,aS]
   refine tk 10 rfl ?_
   try simp only [Act.put,aA,aZ,aS]
   refine tk 11 rfl ?_
   try simp only [Act.put,aA,aZ,aS]
   refine tk 12 rfl ?_
   try simp only [Act.put,aA,aZ,aS]
   refine wpAnyG_done (by kernel_rfl) (λu hu=>?_)
   have BXu:=Gr.blk hu BX
   have BYu:=Gr.blk hu BY
   have BRu:=Gr.blk hu BR
   have hbu:=Below.gr hb hu
   have pc:u.cell? ⟨w.heap.size,2,none⟩=some (.int .u64 (x2:Int)):=BXu.cell 2
   have pf:=BXu.frozen 2
   go_wp2
   refine ⟨⟨hbu.setCell (Nat.le_refl _) _,BYu.far (by show w.heap.size+1≠w.heap.size; omega) _,BRu.far (by show w.heap.size+2≠w.heap.size; omega) _,Lib.hid (.inr (.inr (.inr (.inl (⟨rfl,rfl,BXu.set_ 2 _⟩)))))⟩,by decide⟩
  ·clear HI
   have px:wr.cell? ⟨w.heap.size,3,none⟩=some (.int .u64 (x3:Int)):=BX.cell 3
   have py:wr.cell? ⟨w.heap.size+1,3,none⟩=some (.int .u64 (y3:Int)):=BY.cell 3
   go_wp2
   refine wp_region_G (λ_=>false) (by kernel_rfl) ?_
   try simp only [Act.put]
   refine tk 0 rfl ?_
   try simp only [Act.put,aA,aZ,aS]
   refine tk 1 rfl ?_
   try simp only [Act.put,aA,aZ,aS]
   refine tkw 2 rfl (YieldsG.pure (v:=.int .u64 (x3:Int)) (by rfl) (λw9 h9=>by have hz:=(Below.cell (p:=⟨w.heap.size,3,none⟩) h9 lX).trans px; go_simp; first | done | simp [hz])) ?_
   try simp only [Act.put,aA,aZ,aS]
   refine tk 3 rfl ?_
   try simp only [Act.put,aA,aZ,aS]
   refine tk 4 rfl ?_
   try simp only [Act.put,aA,aZ,aS]
   refine tkw 5 rfl (YieldsG.pure (v:=.int .u64 (y3:Int)) (by rfl) (λw9 h9=>by have hz:=(Below.cell (p:=⟨w.heap.size+1,3,none⟩) h9 lY).trans py; go_simp; first | done | simp [hz])) ?_
   try simp only [Act.put,aA,aZ,aS]
   refine tk 6 rfl ?_
   try simp only [Act.put,aA,aZ,aS]
   refine tkw 7 rfl (YieldsG.pure (v:=.tuple #[.int .u64 (s3:Int),.int .u64 (c3:Int)]) (by rfl) (λw9 h9=>by go_simp)) ?_
   try simp only [Act.put,aA,aZ,aS]
   refine tk 8 rfl ?_
   try simp only [Act.put,aA,aZ,aS]
   refine tk 9 rfl ?_
   try simp only [Act.put,aA,aZ,aS]
   refine tk 10 rfl ?_
   try simp only [Act.put,aA,aZ,aS]
   refine tk 11 rfl ?_
   try simp only [Act.put,aA,aZ,aS]
   refine tk 12 rfl ?_
   try simp only [Act.put,aA,aZ,aS]
   refine wpAnyG_done (by kernel_rfl) (λu hu=>?_)
   have BXu:=Gr.blk hu BX
   have BYu:=Gr.blk hu BY
   have BRu:=Gr.blk hu BR
   have hbu:=Below.gr hb hu
   have pc:u.cell? ⟨w.heap.size,3,none⟩=some (.int .u64 (x3:Int)):=BXu.cell 3
   have pf:=BXu.frozen 3
   go_wp2
   refine ⟨⟨hbu.setCell (Nat.le_refl _) _,BYu.far (by show w.heap.size+1≠w.heap.size; omega) _,BRu.far (by show w.heap.size+2≠w.heap.size; omega) _,Lib.hid (.inr (.inr (.inr (.inr (⟨rfl,rfl,BXu.set_ 3 _⟩)))))⟩,by decide⟩
  ·clear HI
   have BS:=BX.eq_ (fcs_words Fd.out.symm).symm
   go_wp2_with (first | ((with_reducible refine here_load (d:=some 28) ?_); refine wpList_load_fv rfl _ _ rfl (w.heap.size) rfl (s) _ _ _ (BS) (fv_fcs s) Tryz.underlying164 rfl (by kernel_rfl) ?_) | ((with_reducible refine here_store ?_); refine wpList_store_blk rfl _ _ _ rfl (w.heap.size+2) (fcs (s)) rfl rfl _ _ (BR) (by kernel_rfl) (by rfl) (fcs_one _) ?_; intro w9 hL9 hB9 hK9))
   exact bodyPost_ret (results_cell_row rfl _ _ (w.heap.size+2) _ _ (0,0) _ rfl hL9 Tryz.underlying164 rfl (by kernel_rfl)) rfl ⟨rfl,hb.trans (hB9 _ (by omega))⟩
theorem mod_range {w:World} {g:Nat} {t:TypeId} {a b c d:Value} {r:List Value} (h:Blk w g t (a::b::c::d::r).toArray):w.rangeAt g 0 [a,b,c,d]:=λj v hj=>by
 rw [Nat.zero_add,h.cell]
 match j,hj with
 | 0,hj=>simpa using hj
 | 1,hj=>simpa using hj
 | 2,hj=>simpa using hj
 | 3,hj=>simpa using hj
 | j+4,hj=>simp at hj
theorem wpList_load_part {P:Program} {ops:Array Oper} {rest:List Oper} {o:Oper} {a:Act} {w:World} {Q:Exit→Act→World→Prop} (hgd:o.guard=none) (ty:TypeId) (x:Operand) (ho:o.op=.load ty x)
  (g:Nat) (hx:a.eval x=.pointer (some ⟨g,0,none⟩)) (n:Nat) (cs:List Value) (d:TypeDesc) (hr:w.rangeAt g 0 cs) (hf:fv n=.agg cs.toArray)
  (hu:P.underlying ty=some d) (hd:d.isRow=true) (hi:(P.info? ty).map (·.size)=some cs.length)
  (h:wpList P ops Q rest (a.put o.dst (fv n)) w):wpList P ops Q (o::rest) a w :=
 wpList_plain hgd λK hK=>by
  have hl:=run_loadVar_mid (P:=P) w g 0 ty cs d hr hu hd hi
  unfold Oper.wp execOp
  simp only [ho,hx,Instr.loadAt,Instr.sureAddr,Sem.run_bind,Sem.run_pure,Result.andThen_ok,hl]
  rw [← hf]
  exact hK _ _ h
set_option maxHeartbeats 2000000 in
set_option maxRecDepth 100000 in
theorem normR_any (w:World) (x:Nat) (hx:x<(2^256)):Calls Tryz.prog 167 #[modV,fv x] w λe w'=>e=.returned (fv (x%pM))∧Below w.heap.size w w':=by
 obtain ⟨z,hz⟩:∃ z,z=x%pM:=⟨_,rfl⟩
 obtain ⟨p,hp⟩:∃ p,p=115792089237316195423570985008687907853269984665640564039457584007908834671663:=⟨_,rfl⟩
 have hpl:p<(2^256):=by omega
 obtain ⟨b,hb⟩:∃ b,b=decide (x<p):=⟨_,rfl⟩
 have cb:∀ w,Calls Tryz.prog 156 #[fv x,fv p] w λe w'=>e=.returned (.bool b)∧Below w.heap.size w w':=by
  intro w; rw [hb]; exact below_at w x p rfl rfl hx hpl
 have t1:b=true→z=x:=λh=>by
  rw [hb] at h
  rw [hz]
  exact Nat.mod_eq_of_lt (by rw [pM_eq, ← hp]; simpa using h)
 have cm:b=false→∀ w,Calls Tryz.prog 187 #[fv x,fv p] w λe w'=>e=.returned (fv z)∧Below w.heap.size w w':=λh w=>by
  rw [hb] at h
  have hle:¬ x<p:=by simpa using h
  have hzx:z+p=x:=by rw [hz,red_once x hx,if_neg (by omega)]; omega
  exact minusR_at w x p z 0 rfl rfl hx hpl (by omega) (by omega)
 have hpc:fv p=.agg #[.int .u64 18446744069414583343,.int .u64 18446744073709551615,.int .u64 18446744073709551615,.int .u64 18446744073709551615]:=by rw [hp]; exact fv_P
 obtain ⟨x0,x1,x2,x3,fx⟩:=words_fv x hx
 have FX:=Lib.hid fx
 have FP:=Lib.hid hpc
 rw [fx, ← hz]
 unfold modV
 clear fx hpc hx hz hp hpl hb
 go_enter Tryz.func167,Tryz.ntmps167
 go_wp2_with (first | ((with_reducible refine here_load (d:=some 6) ?_); refine wpList_load_fv rfl _ _ rfl (w.heap.size+1) rfl (x) _ _ _ ((blk_new2 w _ _ _).alloc _) (FX.out) Tryz.underlying164 rfl (by kernel_rfl) ?_) | ((with_reducible refine here_load (d:=some 8) ?_); refine wpList_load_part rfl _ _ rfl w.heap.size rfl p [.int .u64 18446744069414583343,.int .u64 18446744073709551615,.int .u64 18446744073709551615,.int .u64 18446744073709551615] _ (mod_range (((Blk.new w _ _).alloc _).alloc _)) FP.out Tryz.underlying164 rfl (by kernel_rfl) ?_))
 refine (cb _).mono ?_
 rintro e w1 ⟨rfl,k1⟩
 have BM:Blk w1 w.heap.size 169 _:=Gr.blk k1 (((Blk.new w _ _).alloc _).alloc _)
 have BX:Blk w1 (w.heap.size+1) 164 _:=Gr.blk k1 ((blk_new2 w _ _ _).alloc _)
 have BR:Blk w1 (w.heap.size+2) 164 _:=Gr.blk k1 (blk_new3 w _ _ _ _)
 have hB:=Below.gr (below_alloc3 w _ _ _) k1
 clear k1 cb
 cases b
 ·have cmm:=cm rfl
  clear cm t1
  go_wp2_with (first | ((with_reducible refine here_load (d:=some 12) ?_); refine wpList_load_fv rfl _ _ rfl (w.heap.size+1) rfl (x) _ _ _ (BX) (FX.out) Tryz.underlying164 rfl (by kernel_rfl) ?_) | ((with_reducible refine here_load (d:=some 14) ?_); refine wpList_load_part rfl _ _ rfl w.heap.size rfl p [.int .u64 18446744069414583343,.int .u64 18446744073709551615,.int .u64 18446744073709551615,.int .u64 18446744073709551615] _ (mod_range (BM)) FP.out Tryz.underlying164 rfl (by kernel_rfl) ?_))
  refine (cmm _).mono ?_
  rintro e w2 ⟨rfl,k2⟩
  have BR2:=Gr.blk k2 BR
  have hB2:=Below.gr hB k2
  clear k2 cmm
  go_wp2_with (first | ((with_reducible refine here_store ?_); refine wpList_store_blk rfl _ _ _ rfl (w.heap.size+2) (fcs (z)) rfl rfl _ _ (BR2) (by kernel_rfl) (by rfl) (fcs_one _) ?_; intro w9 hL9 hB9 hK9))
  exact bodyPost_ret (results_cell_row rfl _ _ (w.heap.size+2) _ _ (0,0) _ rfl hL9 Tryz.underlying164 rfl (by kernel_rfl)) rfl ⟨rfl,hB2.trans (hB9 _ (by omega))⟩
 ·have HZX:=Lib.hid (t1 rfl)
  clear t1 cm
  go_wp2_with (first | ((with_reducible refine here_load (d:=some 11) ?_); refine wpList_load_fv rfl _ _ rfl (w.heap.size+1) rfl (x) _ _ _ (BX) (FX.out) Tryz.underlying164 rfl (by kernel_rfl) ?_) | ((with_reducible refine here_store ?_); refine wpList_store_blk rfl _ _ _ rfl (w.heap.size+2) (fcs (x)) rfl rfl _ _ (BR) (by kernel_rfl) (by rfl) (fcs_one _) ?_; intro w9 hL9 hB9 hK9))
  exact bodyPost_ret (results_cell_row rfl _ _ (w.heap.size+2) _ _ (0,0) _ rfl hL9 Tryz.underlying164 rfl (by kernel_rfl)) rfl ⟨by rw [HZX.out]; rfl,hB.trans (hB9 _ (by omega))⟩
end
end
section
namespace Fz
open Go.RowKit Go.Lib Sy
def vR (R:Nat→Nat):Nat→Nat
 | 0=>0
 | n+1=>vR R n+R n*18446744073709551616 ^ n
def upd (R:Nat→Nat) (k y:Nat):Nat→Nat:=λt=>if t=k then y else R t
theorem upd_ne {R:Nat→Nat} {k y t:Nat} (h:t≠k):upd R k y t=R t:=if_neg h
theorem upd_lt {R:Nat→Nat} {k y:Nat} (h:∀ t,R t<18446744073709551616) (hy:y<18446744073709551616) (t:Nat):upd R k y t<18446744073709551616:=by
 unfold upd
 split
 ·exact hy
 ·exact h t
theorem vR_same {R S:Nat→Nat}:∀ n,(∀ t,t<n→R t=S t)→vR R n=vR S n
 | 0,_=>rfl
 | n+1,h=>by
  show vR R n+_=vR S n+_
  rw [vR_same n λt ht=>h t (by omega),h n (by omega)]
theorem vR_upd (R:Nat→Nat) (k y:Nat):∀ n,k<n→vR (upd R k y) n+R k*18446744073709551616 ^ k=vR R n+y*18446744073709551616 ^ k
 | 0,h=>absurd h (Nat.not_lt_zero _)
 | n+1,h=>by
  show vR (upd R k y) n+upd R k y n*_+_=vR R n+R n*_+_
  by_cases e:k=n
  ·subst e
   rw [show upd R k y k=y from if_pos rfl,vR_same (R:=upd R k y) (S:=R) k λt ht=>if_neg (by omega)]
   omega
  ·have h2:=vR_upd R k y n (by omega)
   rw [show upd R k y n=R n from if_neg (by omega)]
   omega
theorem vR_lt {R:Nat→Nat} (h:∀ t,R t<18446744073709551616):∀ n,vR R n<18446744073709551616 ^ n
 | 0=>Nat.one_pos
 | n+1=>by
  have h1:=vR_lt h n
  have h2:=h n
  show vR R n+R n*_<_
  rw [Nat.pow_succ]
  have h3:(R n+1)*18446744073709551616 ^ n≤18446744073709551616*18446744073709551616 ^ n:=Nat.mul_le_mul_right _ h2
  rw [Nat.add_mul,Nat.one_mul] at h3
  rw [Nat.mul_comm (18446744073709551616 ^ n)]
  omega
theorem vR_split (R:Nat→Nat) (a:Nat):∀ n,vR R (a+n)=vR R a+vR (λt=>R (a+t)) n*18446744073709551616 ^ a
 | 0=>by
  show vR R a=vR R a+0*_
  rw [Nat.zero_mul,Nat.add_zero]
 | n+1=>by
  show vR R (a+n)+R (a+n)*18446744073709551616 ^ (a+n)=vR R a+(vR _ n+R (a+n)*_)*_
  rw [vR_split R a n,Nat.add_mul,Nat.mul_assoc, ← Nat.pow_add,Nat.add_comm n a,Nat.add_assoc]
theorem vR_zero:∀ n,vR (λ_=>0) n=0
 | 0=>rfl
 | n+1=>by
  show vR _ n+0*_=0
  rw [vR_zero n,Nat.zero_mul]
def cpy (R:Nat→Nat) (k:Nat):Nat→Nat:=λt=>if t<k then R t else 0
theorem cpy_lt {R:Nat→Nat} (h:∀ t,R t<18446744073709551616) (k t:Nat):cpy R k t<18446744073709551616:=by
 unfold cpy
 split
 ·exact h t
 ·decide
theorem cpy_succ (R:Nat→Nat) (k:Nat):upd (cpy R k) k (R k)=cpy R (k+1):=by
 funext t
 unfold upd cpy
 by_cases e:t=k
 ·rw [if_pos e,if_pos (by omega),e]
 ·rw [if_neg e]
  by_cases l:t<k
  ·rw [if_pos l,if_pos (by omega)]
  ·rw [if_neg l,if_neg (by omega)]
theorem vR_cpy (R:Nat→Nat):vR (cpy R 4) 8=vR R 4:=by
 rw [show (8:Nat)=4+4 from rfl,vR_split,vR_same (R:=cpy R 4) (S:=R) 4 (λt ht=>if_pos ht),vR_same (R:=λt=>cpy R 4 (4+t)) (S:=λ_=>0) 4 (λt _=>if_neg (by omega)),vR_zero,Nat.zero_mul,Nat.add_zero]
def rw8 (R:Nat→Nat):Array Value:=#[.int .u64 ((R 0:Nat):Int),.int .u64 ((R 1:Nat):Int),.int .u64 ((R 2:Nat):Int),.int .u64 ((R 3:Nat):Int),.int .u64 ((R 4:Nat):Int),.int .u64 ((R 5:Nat):Int),.int .u64 ((R 6:Nat):Int),.int .u64 ((R 7:Nat):Int)]
theorem eight {k:Nat} (h:k<8):k=0∨k=1∨k=2∨k=3∨k=4∨k=5∨k=6∨k=7:=by omega
theorem rw8_at (R:Nat→Nat) {k o:Nat} (h:k<8) (ho:o=k):(rw8 R)[o]? = some (.int .u64 ((R k:Nat):Int)):=by
 subst ho
 rcases eight h with rfl | rfl | rfl | rfl | rfl | rfl | rfl | rfl <;> rfl
theorem rw8_set (R:Nat→Nat) (y:Nat) {k o:Nat} (h:k<8) (ho:o=k):(rw8 R).setIfInBounds o (.int .u64 ((y:Nat):Int))=rw8 (upd R k y):=by
 subst ho
 rcases eight h with rfl | rfl | rfl | rfl | rfl | rfl | rfl | rfl <;> rfl
theorem rw8_fit (R:Nat→Nat) {k o:Nat} (h:k<8) (ho:o=k):o<(rw8 R).size:=by
 subst ho
 exact h
def modc (M:Nat) (lw:Nat→Nat):Array Value:=((fcs M).toList++([.int .u64 ((lw 0:Nat):Int),.int .u64 ((lw 1:Nat):Int),.int .u64 ((lw 2:Nat):Int)]:List Value)).toArray
theorem modc_at (M:Nat) (lw:Nat→Nat) {j o:Nat} (h:j<3) (ho:o=4+j):(modc M lw)[o]? = some (.int .u64 ((lw j:Nat):Int)):=by
 subst ho
 have:j=0∨j=1∨j=2:=by omega
 rcases this with rfl | rfl | rfl <;> rfl
def wd (x:Nat) (t:Nat):Nat:=x / 18446744073709551616 ^ t%18446744073709551616
theorem wd_lt (x t:Nat):wd x t<18446744073709551616:=Nat.mod_lt _ (by decide)
theorem wd_all (x:Nat):∀ n,vR (wd x) n=x%18446744073709551616 ^ n
 | 0=>by rw [Nat.pow_zero,Nat.mod_one]; rfl
 | n+1=>by
  show vR (wd x) n+wd x n*_=_
  rw [wd_all x n,Nat.mod_pow_succ,Nat.mul_comm]
  rfl
theorem fcs_at (x:Nat) {k o:Nat} (h:k<4) (ho:o=k):(fcs x)[o]? = some (.int .u64 ((wd x k:Nat):Int)):=by
 subst ho
 have:o=0∨o=1∨o=2∨o=3:=by omega
 have e0:wd x 0=x%18446744073709551616:=by unfold wd; rw [Nat.pow_zero,Nat.div_one]
 have e1:wd x 1=x / 18446744073709551616%18446744073709551616:=by unfold wd; rw [Nat.pow_one]
 rcases this with rfl | rfl | rfl | rfl
 ·rw [e0]; rfl
 ·rw [e1]; rfl
 ·rfl
 ·rfl
theorem row_fv {R:Nat→Nat} (h:∀ t,R t<18446744073709551616):Value.agg #[.int .u64 ((R 0:Nat):Int),.int .u64 ((R 1:Nat):Int),.int .u64 ((R 2:Nat):Int),.int .u64 ((R 3:Nat):Int)]=fv (vR R 4):=by
 rw [fv_mk _ _ _ _ (h 0) (h 1) (h 2) (h 3)]
 congr 1
 show _=0+R 0*1+R 1*18446744073709551616+R 2*340282366920938463463374607431768211456+R 3*6277101735386680763835789423207666416102355444464034512896
 omega
theorem stepZ {hi lo x k y l e d r c:Nat} (h1:lo+18446744073709551616*hi=e*d) (h2:x+18446744073709551616*k=lo+r) (h3:y+18446744073709551616*l=x+c):y+18446744073709551616*(hi+k+l)=e*d+r+c:=by omega
theorem carryZ {hi k l y e d r c:Nat} (h:y+18446744073709551616*(hi+k+l)=e*d+r+c) (he:e<18446744073709551616) (hd:d<18446744073709551616) (hr:r<18446744073709551616) (hc:c<18446744073709551616):hi+k+l<18446744073709551616:=by
 have h2:e*d≤18446744073709551615*18446744073709551615:=Nat.mul_le_mul (by omega) (by omega)
 omega
theorem innerZ {v v' r P c c' y e d V LS Bi P0:Nat} (h1:v'+r*P=v+y*P) (h2:v+c*P=V+e*LS*Bi) (h3:y+18446744073709551616*c'=e*d+r+c) (hp:P=P0*Bi):v'+c'*(P*18446744073709551616)=V+e*(LS+d*P0)*Bi:=by
 grind
theorem carry2 {v v' r P c l x V:Nat} (h1:v'+r*P=v+x*P) (h2:v+c*P=V) (h3:x+18446744073709551616*l=r+c):v'+l*(P*18446744073709551616)=V:=by
 grind
theorem or_nat (a b:Nat) (ha:a<18446744073709551616) (hb:b<18446744073709551616):IntKind.u64.wrap ((BitVec.ofInt IntKind.u64.bits (a:Int) ||| BitVec.ofInt IntKind.u64.bits (b:Int)).toNat:Int)=((a ||| b:Nat):Int):=by
 have hl:a ||| b<18446744073709551616:=Nat.or_lt_two_pow (n:=64) ha hb
 have hw2:(BitVec.ofInt 64 (a:Int) ||| BitVec.ofInt 64 (b:Int)).toNat=a ||| b:=by
  rw [BitVec.toNat_or]
  simp only [BitVec.ofInt_natCast,BitVec.toNat_ofNat]
  rw [Nat.mod_eq_of_lt (by omega),Nat.mod_eq_of_lt (by omega)]
 show IntKind.u64.wrap ((BitVec.ofInt 64 (a:Int) ||| BitVec.ofInt 64 (b:Int)).toNat:Int)=_
 rw [hw2,wrap_u64 (by omega) (by omega)]
theorem int_or {P:Program} (t:TypeId) (k:IntKind) (a b c:Int) (h:k.wrap ((BitVec.ofInt k.bits a ||| BitVec.ofInt k.bits b).toNat:Int)=c) (w:World):(binOp .or t (.int k a) (.int k b)).run P w=.ok (.int k c) w:=by
 simp only [binOp,ne_eq,not_true_eq_false,if_false,Op.intBits,Sem.run_pure]
 rw [h]
theorem mulZ_any (w:World) (x y hi lo:Nat) (hx:x<18446744073709551616) (hy:y<18446744073709551616) (hlo:lo<18446744073709551616) (he:lo+18446744073709551616*hi=x*y) :
  Calls Tryz.prog 139 #[.int .u64 ((x:Nat):Int),.int .u64 ((y:Nat):Int)] w (Gets w (.tuple #[.int .u64 ((hi:Nat):Int),.int .u64 ((lo:Nat):Int)])) :=
 (mul64_at w x y hi lo hx hy hlo he).mono λe w' ⟨h1,h2⟩=>⟨h1,by rw [h2]; exact Below.refl _ _⟩
theorem two_words (x y:Nat):∃ hi lo:Nat,lo<18446744073709551616∧lo+18446744073709551616*hi=x*y:=⟨x*y / 18446744073709551616,x*y%18446744073709551616,Nat.mod_lt _ (by decide),Nat.mod_add_div _ _⟩
theorem outerM {x y i c:Nat} {y1 z:Nat→Nat} (h1:vR y1 8=vR (wd x) i*vR (wd y) 4) (h2:vR z 8+c*18446744073709551616 ^ (i+4)=vR y1 8+wd x i*vR (wd y) 4*18446744073709551616 ^ i) (h3:z (i+4)=0) (hi:i<4):vR (upd z (i+4) c) 8=vR (wd x) (i+1)*vR (wd y) 4:=by
 have h4:=vR_upd z (i+4) c 8 (by omega)
 rw [h3,Nat.zero_mul,Nat.add_zero] at h4
 show _=(vR (wd x) i+wd x i*_)*_
 rw [h4,h2,h1]
 grind
theorem wd4 {x:Nat} (hx:x<(2^256)):vR (wd x) 4=x:=by
 rw [wd_all]
 exact Nat.mod_eq_of_lt hx
end Fz
end
section
namespace Fz
open Go.RowKit Go.Lib Sy
theorem or_zero {y:Nat→Nat} (h:¬ (((y 4 ||| y 5) ||| y 6) ||| y 7>0)):y 4=0∧y 5=0∧y 6=0∧y 7=0:=by
 have h0:((y 4 ||| y 5) ||| y 6) ||| y 7=0:=by omega
 rw [Nat.or_eq_zero_iff,Nat.or_eq_zero_iff,Nat.or_eq_zero_iff] at h0
 exact ⟨h0.1.1.1,h0.1.1.2,h0.1.2,h0.2⟩
theorem vR_hi (y:Nat→Nat):vR (λt=>y (4+t)) 4=0+y 4*1+y 5*18446744073709551616+y 6*340282366920938463463374607431768211456+y 7*6277101735386680763835789423207666416102355444464034512896:=rfl
theorem vR_lowN {y:Nat→Nat} (n k:Nat) (hn:n=k+k) (e:vR (λt=>y (k+t)) k=0):vR y n=vR y k:=by
 subst hn
 have s:=vR_split y k k
 rw [e,Nat.zero_mul,Nat.add_zero] at s
 exact s
theorem vR_low {y:Nat→Nat} (h:y 4=0∧y 5=0∧y 6=0∧y 7=0):vR y 8=vR y 4:=vR_lowN 8 4 rfl (by
 rw [vR_hi]
 obtain ⟨h1,h2,h3,h4⟩:=h
 omega)
theorem outerZ {M:Nat} {lw y z:Nat→Nat} (_:∀ t,lw t<18446744073709551616) (hM0:0<M) (hM:M+vR lw 3=18446744073709551616 ^ 4) (_:∀ t,y t<18446744073709551616) (h:vR z 8=vR y 4+vR (λt=>y (4+t)) 4*vR lw 3) (ho:((y 4 ||| y 5) ||| y 6) ||| y 7>0):vR z 8%M=vR y 8%M∧vR z 8<vR y 8:=by
 have e:vR y 8=vR z 8+vR (λt=>y (4+t)) 4*M:=by
  rw [show (8:Nat)=4+4 from rfl,vR_split y, ← hM,show (4+4:Nat)=8 from rfl,h,Nat.mul_add]
  omega
 have hp:0<vR (λt=>y (4+t)) 4:=by
  rw [vR_hi]
  rcases Nat.eq_zero_or_pos (y 4) with h4 | h4
  ·rcases Nat.eq_zero_or_pos (y 5) with h5 | h5
   ·rcases Nat.eq_zero_or_pos (y 6) with h6 | h6
    ·rcases Nat.eq_zero_or_pos (y 7) with h7 | h7
     ·rw [h4,h5,h6,h7] at ho
      exact absurd ho (by decide)
     ·omega
    ·omega
   ·omega
  ·omega
 have hpos:0<vR (λt=>y (4+t)) 4*M:=Nat.mul_pos hp hM0
 refine ⟨?_,by omega⟩
 rw [e,Nat.add_mul_mod_self_right]
theorem endZ {lw y y3 z:Nat→Nat} {c i n:Nat} (hlw:∀ t,lw t<18446744073709551616) (hy:∀ t,y t<18446744073709551616) (h3:vR y3 8=vR y 4+vR (λt=>y (4+t)) i*vR lw 3) (hz:∀ t,z t<18446744073709551616) (h:vR z 8+c*18446744073709551616 ^ n=vR y3 8+y (4+i)*vR lw 3*18446744073709551616 ^ i) (hi:i<4) (hc:c=0∨n=8) :
  vR z 8=vR y 4+vR (λt=>y (4+t)) (i+1)*vR lw 3:=by
 have e:vR y3 8+y (4+i)*vR lw 3*18446744073709551616 ^ i=vR y 4+vR (λt=>y (4+t)) (i+1)*vR lw 3:=by
  show _=_+(vR (λt=>y (4+t)) i+y (4+i)*_)*_
  rw [h3]
  grind
 rw [e] at h
 rcases hc with rfl | rfl
 ·rw [Nat.zero_mul,Nat.add_zero] at h
  exact h
 ·have h1:=vR_lt hy 4
  have h2:=vR_lt (R:=λt=>y (4+t)) (λt=>hy _) (i+1)
  have h4:=vR_lt hlw 3
  have h5:18446744073709551616 ^ (i+1)≤18446744073709551616 ^ 4:=Nat.pow_le_pow_right (by decide) (by omega)
  have h6:vR (λt=>y (4+t)) (i+1)*vR lw 3≤18446744073709551616 ^ 4*18446744073709551616 ^ 3:=Nat.mul_le_mul (by omega) (by omega)
  have h7:(18446744073709551616 ^ 4+18446744073709551616 ^ 4*18446744073709551616 ^ 3:Nat)<18446744073709551616 ^ 8:=by decide
  rcases Nat.eq_zero_or_pos c with rfl | hp
  ·rw [Nat.zero_mul,Nat.add_zero] at h
   exact h
  ·have h8:1*18446744073709551616 ^ 8≤c*18446744073709551616 ^ 8:=Nat.mul_le_mul_right _ hp
   omega
set_option maxHeartbeats 4000000 in
set_option maxRecDepth 100000 in
theorem foldZ (w:World) (M:Nat) (lw:Nat→Nat) (hlw:∀ t,lw t<18446744073709551616) (hM0:0<M) (hM:M+vR lw 3=18446744073709551616 ^ 4) (hnorm:∀ w x,x<(2^256)→Calls Tryz.prog 167 #[.agg (modc M lw),fv x] w (Gets w (fv (x%M)))) (R:Nat→Nat) (hR:∀ t,R t<18446744073709551616):Calls Tryz.prog 189 #[.agg (modc M lw),.agg (rw8 R)] w (Gets w (fv (vR R 8%M))):=by
 obtain ⟨V,hV⟩:∃ V,V=vR R 8%M:=⟨_,rfl⟩
 obtain ⟨V0,hV0⟩:∃ V,V=vR R 8:=⟨_,rfl⟩
 rw [← hV]
 refine Sy.enter (args:=[.agg (modc M lw),.agg (rw8 R)]) Tryz.func189 rfl kL ?_
 refine sC ?_
 refine sM 169 (modc M lw) (λg0=>?_)
 refine Sy.make kR 178 (rw8 R) ptr kF (λg1=>?_)
 refine sM 164 (fcs 0) (λg2=>?_)
 refine sG<|Sy.seq<|Sy.block ?_
 refine Sy.loopX (T:=Nat→Nat) V0 (λk1 y1=>[(2,.pointer (some ⟨g0,0,none⟩)),(3,.pointer (some ⟨g1,0,none⟩)),(4,.pointer (some ⟨g2,0,none⟩))]) (λk1 y1=>[(g0,169,(modc M lw)),(g1,178,(rw8 y1)),(g2,164,(fcs 0))]) (λk1 y1=>(∀ t,y1 t<18446744073709551616)∧vR y1 8%M=V∧vR y1 8+k1≤V0) R [true,true,true] (⟨hR,hV.symm,by show vR R 8+0≤V0; omega⟩) (all_cons kR (all_cons kR (all_cons kR all_nil))) kR (λk1 y1 hk1 hh1=>?_)
 refine Sy.seq<|sC ?_
 refine sP (.pointer (some ⟨g1,4,none⟩))<|sS (.int .u64 ((y1 4:Nat):Int)) (Quiet.cell 1 g1 4 178 26 (rw8 y1) _ _ rfl kR kR Tryz.underlying26 rfl _ kR)<|sP (.pointer (some ⟨g1,5,none⟩))<|sS (.int .u64 ((y1 5:Nat):Int)) (Quiet.cell 1 g1 5 178 26 (rw8 y1) _ _ rfl kR kR Tryz.underlying26 rfl _ kR)<|sS (.int .u64 (((y1 4) ||| (y1 5):Nat):Int)) (Quiet.pure (exec_int .or _ _ _ .u64 _ _ _ rfl rfl rfl (int_or _ _ _ _ _ (or_nat _ _ (hh1.1 _) (hh1.1 _)))))<|sP (.pointer (some ⟨g1,6,none⟩))<|sS (.int .u64 ((y1 6:Nat):Int)) (Quiet.cell 1 g1 6 178 26 (rw8 y1) _ _ rfl kR kR Tryz.underlying26 rfl _ kR)<|sS (.int .u64 ((((y1 4) ||| (y1 5)) ||| (y1 6):Nat):Int)) (Quiet.pure (exec_int .or _ _ _ .u64 _ _ _ rfl rfl rfl (int_or _ _ _ _ _ (or_nat _ _ (Nat.or_lt_two_pow (n:=64) (hh1.1 _) (hh1.1 _)) (hh1.1 _))))) ?_
 refine sP (.pointer (some ⟨g1,7,none⟩))<|sS (.int .u64 ((y1 7:Nat):Int)) (Quiet.cell 1 g1 7 178 26 (rw8 y1) _ _ rfl kR kR Tryz.underlying26 rfl _ kR)<|sS (.int .u64 (((((y1 4) ||| (y1 5)) ||| (y1 6)) ||| (y1 7):Nat):Int)) (Quiet.pure (exec_int .or _ _ _ .u64 _ _ _ rfl rfl rfl (int_or _ _ _ _ _ (or_nat _ _ (Nat.or_lt_two_pow (n:=64) (Nat.or_lt_two_pow (n:=64) (hh1.1 _) (hh1.1 _)) (hh1.1 _)) (hh1.1 _))))) ?_
 obtain ⟨b1,hb1⟩:∃ z:Bool,z=decide ((((y1 4) ||| (y1 5)) ||| (y1 6)) ||| (y1 7)>0):=⟨_,rfl⟩
 refine sS (.bool b1) (Quiet.pure (exec_int .gtr _ _ _ .u64 _ _ _ rfl rfl rfl (int_gtr _ _ _ _ _ (by rw [hb1]; exact decide_eq_decide.2 (by omega))))) ?_
 refine sG ?_
 cases b1
 ·have lb1:¬ ((((y1 4) ||| (y1 5)) ||| (y1 6)) ||| (y1 7)>0):=of_decide_eq_false hb1.symm
  refine sU<|Sy.exit<|Sy.then_exit<|Sy.then_exit ?_
  have hz:=or_zero lb1
  have hlow:=vR_low hz
  refine Sy.in_exit<|sB ?_
  refine sS (.agg (modc M lw)) (qL 0 g0 0 7 169 169 (modc M lw) rfl Tryz.underlying169)<|sP (.pointer (some ⟨g1,0,none⟩))<|sS (.int .u64 ((y1 0:Nat):Int)) (Quiet.cell 1 g1 0 178 26 (rw8 y1) _ _ rfl kR kR Tryz.underlying26 rfl _ kR)<|sP (.pointer (some ⟨g1,1,none⟩))<|sS (.int .u64 ((y1 1:Nat):Int)) (Quiet.cell 1 g1 1 178 26 (rw8 y1) _ _ rfl kR kR Tryz.underlying26 rfl _ kR)<|sP (.pointer (some ⟨g1,2,none⟩))<|sS (.int .u64 ((y1 2:Nat):Int)) (Quiet.cell 1 g1 2 178 26 (rw8 y1) _ _ rfl kR kR Tryz.underlying26 rfl _ kR)<|sP (.pointer (some ⟨g1,3,none⟩)) ?_
  refine sS (.int .u64 ((y1 3:Nat):Int)) (Quiet.cell 1 g1 3 178 26 (rw8 y1) _ _ rfl kR kR Tryz.underlying26 rfl _ kR)<|sS (fv (vR y1 4)) (Quiet.pure (λw=>by rw [← row_fv hh1.1]; kernel_rfl))<|sS (fv ((vR y1 4)%M)) (qF 167 #[.agg (modc M lw),fv (vR y1 4)] (λw=>hnorm w _ (vR_lt hh1.1 4)))<|sW 2 g2 164 (fcs 0) (fcs ((vR y1 4)%M)) (wS 0 164 (fcs ((vR y1 4)%M)) rfl) ?_
  refine sG<|Sy.ret ?_
  rw [show (fv V:Value)=fv ((vR y1 4)%M) from by rw [← hh1.2.1,hlow]]
  exact rC (v:=fv ((vR y1 4)%M)) 164 g2 2 (fcs ((vR y1 4)%M)) rfl Tryz.underlying164
 ·have lb1:(((y1 4) ||| (y1 5)) ||| (y1 6)) ||| (y1 7)>0:=of_decide_eq_true hb1.symm
  refine sT<|Sy.skip<|Sy.then_<|Sy.block<|sC ?_
  refine Sy.make kR 178 (rw8 (λ_=>0)) ptr kF (λg3=>?_)
  refine sG<|Sy.seq<|sC ?_
  refine sP (.int .i64 0) ?_
  refine sG<|Sy.block ?_
  refine Sy.loopK 4 (λk2=>[(2,.pointer (some ⟨g0,0,none⟩)),(3,.pointer (some ⟨g1,0,none⟩)),(4,.pointer (some ⟨g2,0,none⟩)),(5,.pointer (some ⟨g3,0,none⟩)),(6,.int .i64 ((k2:Nat):Int))]) (λk2=>[(g0,169,(modc M lw)),(g1,178,(rw8 y1)),(g2,164,(fcs 0)),(g3,178,(rw8 (cpy y1 k2)))]) [true,true,true,true] (M:=[(g0,169,(modc M lw)),(g1,178,(rw8 y1)),(g2,164,(fcs 0)),(g3,178,(rw8 (λ_=>0)))]) (all_cons kR (all_cons kR (all_cons kR (all_cons kR (all_cons kR all_nil))))) kR (bcons rfl (bcons rfl (bcons rfl (bcons (beq kR) rfl)))) (λk2 hk2=>?_)
  refine Sy.seq<|sC ?_
  refine sP (.int .i64 ((k2:Nat):Int)) ?_
  obtain ⟨b2,hb2⟩:∃ z:Bool,z=decide (k2<4):=⟨_,rfl⟩
  refine sS (.bool b2) (Quiet.pure (exec_int .lss _ _ _ .i64 _ _ _ rfl rfl rfl (int_lss _ _ _ _ _ (by rw [hb2]; exact decide_eq_decide.2 (by omega))))) ?_
  refine sG ?_
  cases b2
  ·have lb2:¬ (k2<4):=of_decide_eq_false hb2.symm
   refine sU<|Sy.exit<|Sy.then_exit<|Sy.then_exit ?_
   obtain rfl:k2=4:=by omega
   refine Sy.in_exit<|Sy.then_<|Sy.seq<|sC ?_
   refine sP (.int .i64 0) ?_
   refine sG<|Sy.block ?_
   refine Sy.loopX (T:=Nat→Nat) 4 (λk3 y3=>[(2,.pointer (some ⟨g0,0,none⟩)),(3,.pointer (some ⟨g1,0,none⟩)),(4,.pointer (some ⟨g2,0,none⟩)),(5,.pointer (some ⟨g3,0,none⟩)),(7,.int .i64 ((k3:Nat):Int))]) (λk3 y3=>[(g0,169,(modc M lw)),(g1,178,(rw8 y1)),(g2,164,(fcs 0)),(g3,178,(rw8 y3))]) (λk3 y3=>(∀ t,y3 t<18446744073709551616)∧vR y3 8=vR y1 4+vR (λt=>y1 (4+t)) k3*vR lw 3) (cpy y1 4) [true,true,true,true] (⟨cpy_lt hh1.1 4,(vR_cpy y1).trans (by show _=_+0*_; rw [Nat.zero_mul,Nat.add_zero])⟩) (all_cons kR (all_cons kR (all_cons kR (all_cons kR (all_cons kR all_nil))))) kR (λk3 y3 hk3 hh3=>?_)
   refine Sy.seq<|sC ?_
   refine sP (.int .i64 ((k3:Nat):Int)) ?_
   obtain ⟨b3,hb3⟩:∃ z:Bool,z=decide (k3<4):=⟨_,rfl⟩
   refine sS (.bool b3) (Quiet.pure (exec_int .lss _ _ _ .i64 _ _ _ rfl rfl rfl (int_lss _ _ _ _ _ (by rw [hb3]; exact decide_eq_decide.2 (by omega))))) ?_
   refine sG ?_
   cases b3
   ·have lb3:¬ (k3<4):=of_decide_eq_false hb3.symm
    refine sU<|Sy.exit<|Sy.then_exit<|Sy.then_exit ?_
    obtain rfl:k3=4:=by omega
    refine Sy.in_exit<|Sy.then_<|Sy.region ?_
    refine sS (.agg (rw8 y3)) (Quiet.load 3 g3 0 8 178 178 (rw8 y3) _ _ rfl kR kR Tryz.underlying178 rfl kR _ kR kL) ?_
    refine Sy.write kR 1 g1 178 (rw8 y1) (rw8 y3) kR (Writes.store 0 178 (rw8 y3) _ _ rfl kR kR kR kL kR kR) ?_
    refine Sy.nil<|Sy.in_ ?_
    have hf:=outerZ hlw hM0 hM hh1.1 hh3.2 lb1
    obtain ⟨hf1,hf2⟩:=hf
    exact Sy.againX (y3) [true,true,true,false] (by have:=hh1.2.2; omega) (⟨hh3.1,hf1.trans hh1.2.1,by have:=hh1.2.2; omega⟩) (all_cons kR (all_cons kR (all_cons kR all_nil))) kR
   ·have lb3:k3<4:=of_decide_eq_true hb3.symm
    refine sT<|Sy.skip<|Sy.then_<|Sy.seq<|Sy.block<|sC ?_
    refine sP (.int .u64 0) ?_
    refine sG<|Sy.seq<|sC ?_
    refine sP (.int .i64 0) ?_
    refine sG<|Sy.block ?_
    refine Sy.loopX (T:=(Nat→Nat)×Nat) 3 (λk4 y4=>[(2,.pointer (some ⟨g0,0,none⟩)),(3,.pointer (some ⟨g1,0,none⟩)),(4,.pointer (some ⟨g2,0,none⟩)),(5,.pointer (some ⟨g3,0,none⟩)),(7,.int .i64 ((k3:Nat):Int)),(8,.int .u64 ((y4.2:Nat):Int)),(9,.int .i64 ((k4:Nat):Int))]) (λk4 y4=>[(g0,169,(modc M lw)),(g1,178,(rw8 y1)),(g2,164,(fcs 0)),(g3,178,(rw8 y4.1))]) (λk4 y4=>(∀ t,y4.1 t<18446744073709551616)∧y4.2<18446744073709551616∧vR y4.1 8+y4.2*18446744073709551616 ^ (k3+k4)=vR y3 8+y1 (4+k3)*vR lw k4*18446744073709551616 ^ k3) (y3,0) [true,true,true,true] (⟨hh3.1,by show (0:Nat)<18446744073709551616; decide,by show vR y3 8+0*_=_+_*0*_; omega⟩) (all_cons kR (all_cons kR (all_cons kR (all_cons kR (all_cons kR (all_cons kR (all_cons kR all_nil))))))) kR (λk4 y4 hk4 hh4=>?_)
    refine Sy.seq<|sC ?_
    refine sP (.int .i64 ((k4:Nat):Int)) ?_
    obtain ⟨b4,hb4⟩:∃ z:Bool,z=decide (k4<3):=⟨_,rfl⟩
    refine sS (.bool b4) (Quiet.pure (exec_int .lss _ _ _ .i64 _ _ _ rfl rfl rfl (int_lss _ _ _ _ _ (by rw [hb4]; exact decide_eq_decide.2 (by omega))))) ?_
    refine sG ?_
    cases b4
    ·have lb4:¬ (k4<3):=of_decide_eq_false hb4.symm
     refine sU<|Sy.exit<|Sy.then_exit<|Sy.then_exit ?_
     obtain rfl:k4=3:=by omega
     refine Sy.in_exit<|sB ?_
     refine sP (.int .i64 ((k3:Nat):Int))<|sS (.int .i64 ((k3+3:Nat):Int)) (Quiet.pure (exec_int .add _ _ _ .i64 _ _ _ rfl rfl rfl (int_add _ _ _ _ _ ((wrap_i64 (by omega) (by omega)).trans (by omega)))))<|sP (.int .i64 ((k3+3:Nat):Int)) ?_
     refine sG<|Sy.block ?_
     refine Sy.loopX (T:=(Nat→Nat)×Nat) (5 - k3) (λk5 y5=>[(2,.pointer (some ⟨g0,0,none⟩)),(3,.pointer (some ⟨g1,0,none⟩)),(4,.pointer (some ⟨g2,0,none⟩)),(5,.pointer (some ⟨g3,0,none⟩)),(7,.int .i64 ((k3:Nat):Int)),(8,.int .u64 ((y5.2:Nat):Int)),(16,.int .i64 ((k3+3+k5:Nat):Int))]) (λk5 y5=>[(g0,169,(modc M lw)),(g1,178,(rw8 y1)),(g2,164,(fcs 0)),(g3,178,(rw8 y5.1))]) (λk5 y5=>(∀ t,y5.1 t<18446744073709551616)∧y5.2<18446744073709551616∧vR y5.1 8+y5.2*18446744073709551616 ^ (k3+3+k5)=vR y3 8+y1 (4+k3)*vR lw 3*18446744073709551616 ^ k3) y4 [true,true,true,true] (⟨hh4.1,hh4.2.1,hh4.2.2⟩) (all_cons kR (all_cons kR (all_cons kR (all_cons kR (all_cons kR (all_cons kR (all_cons kR all_nil))))))) kR (λk5 y5 hk5 hh5=>?_)
     refine Sy.seq<|sC ?_
     refine sP (.int .i64 ((k3+3+k5:Nat):Int)) ?_
     obtain ⟨b5,hb5⟩:∃ z:Bool,z=decide (k3+3+k5<8):=⟨_,rfl⟩
     refine sS (.bool b5) (Quiet.pure (exec_int .lss _ _ _ .i64 _ _ _ rfl rfl rfl (int_lss _ _ _ _ _ (by rw [hb5]; exact decide_eq_decide.2 (by omega)))))<|sP (.bool b5) ?_
     cases b5
     ·have lb5:¬ (k3+3+k5<8):=of_decide_eq_false hb5.symm
      refine sN<|sN ?_
      refine sP (.bool false) ?_
      refine sG<|sU<|Sy.exit<|Sy.then_exit<|Sy.then_exit ?_
      have hfin:=endZ hlw hh1.1 hh3.2 hh5.1 hh5.2.2 (by omega) (by first | (left; omega) | (right; omega))
      refine Sy.in_exit<|Sy.in_<|Sy.then_<|Sy.region ?_
      refine sP (.int .i64 ((k3:Nat):Int))<|sS (.int .i64 ((k3+1:Nat):Int)) (Quiet.pure (exec_int .add _ _ _ .i64 _ _ _ rfl rfl rfl (int_add _ _ _ _ _ ((wrap_i64 (by omega) (by omega)).trans (by omega)))))<|sP (.int .i64 ((k3+1:Nat):Int)) ?_
      refine Sy.nil ?_
      have hq:=hfin
      exact Sy.againX (y5.1) [true,true,true,true] (by omega) (⟨hh5.1,hq⟩) (all_cons kR (all_cons kR (all_cons kR (all_cons kR (all_cons kR all_nil))))) kR
     ·have lb5:k3+3+k5<8:=of_decide_eq_true hb5.symm
      refine sP (.int .u64 ((y5.2:Nat):Int)) ?_
      obtain ⟨b6,hb6⟩:∃ z:Bool,z=decide (y5.2>0):=⟨_,rfl⟩
      refine sS (.bool b6) (Quiet.pure (exec_int .gtr _ _ _ .u64 _ _ _ rfl rfl rfl (int_gtr _ _ _ _ _ (by rw [hb6]; exact decide_eq_decide.2 (by omega)))))<|sP (.bool b6) ?_
      refine sG ?_
      cases b6
      ·have lb6:¬ (y5.2>0):=of_decide_eq_false hb6.symm
       refine sU<|Sy.exit<|Sy.then_exit<|Sy.then_exit ?_
       have hfin:=endZ hlw hh1.1 hh3.2 hh5.1 hh5.2.2 (by omega) (by first | (left; omega) | (right; omega))
       refine Sy.in_exit<|Sy.in_<|Sy.then_<|Sy.region ?_
       refine sP (.int .i64 ((k3:Nat):Int))<|sS (.int .i64 ((k3+1:Nat):Int)) (Quiet.pure (exec_int .add _ _ _ .i64 _ _ _ rfl rfl rfl (int_add _ _ _ _ _ ((wrap_i64 (by omega) (by omega)).trans (by omega)))))<|sP (.int .i64 ((k3+1:Nat):Int)) ?_
       refine Sy.nil ?_
       have hq:=hfin
       exact Sy.againX (y5.1) [true,true,true,true] (by omega) (⟨hh5.1,hq⟩) (all_cons kR (all_cons kR (all_cons kR (all_cons kR (all_cons kR all_nil))))) kR
      ·have lb6:y5.2>0:=of_decide_eq_true hb6.symm
       refine sT<|Sy.skip<|Sy.then_<|Sy.seq<|Sy.block<|sC ?_
       refine sP (.int .i64 ((k3+3+k5:Nat):Int))<|sS (.pointer (some ⟨g3,0+(k3+3+k5)*1,none⟩)) (Quiet.pure (exec_atA 178 _ _ _ g3 0 _ (k3+3+k5) 1 .i64 rfl rfl rfl Tryz.underlying178 kF (by omega)))<|sS (.int .u64 ((y5.1 (k3+3+k5):Nat):Int)) (Quiet.cell 3 g3 (0+(k3+3+k5)*1) 178 26 (rw8 y5.1) _ _ rfl kR kR Tryz.underlying26 rfl _ (rw8_at y5.1 (k:=k3+3+k5) (by omega) (by omega)))<|sP (.int .u64 ((y5.2:Nat):Int)) ?_
       obtain ⟨x1,c1,lx1,lc1,ex1,rx1⟩:=add0_ex (y5.1 (k3+3+k5)) (y5.2) (by first | assumption | exact hR _ | exact hlw _ | exact wd_lt _ _ | exact hh1.1 _ | exact hh3.1 _ | exact hh4.1 _ | exact hh5.1 _ | exact hh5.2.1 | exact hh4.2.1 | decide) (by first | assumption | exact hR _ | exact hlw _ | exact wd_lt _ _ | exact hh1.1 _ | exact hh3.1 _ | exact hh4.1 _ | exact hh5.1 _ | exact hh5.2.1 | exact hh4.2.1 | decide)
       refine sS (.tuple #[.int .u64 ((x1:Nat):Int),.int .u64 ((c1:Nat):Int)]) (Quiet.pure (λw=>Eq.trans kR (rx1 w)))<|sP (.tuple #[.int .u64 ((x1:Nat):Int),.int .u64 ((c1:Nat):Int)])<|sP (.int .u64 ((x1:Nat):Int))<|sP (.int .u64 ((c1:Nat):Int))<|sP (.int .u64 ((x1:Nat):Int))<|sP (.int .u64 ((c1:Nat):Int)) ?_
       refine sA ?_
       refine sP (.int .i64 ((k3+3+k5:Nat):Int))<|sP (.int .u64 ((x1:Nat):Int))<|sS (.pointer (some ⟨g3,0+(k3+3+k5)*1,none⟩)) (Quiet.pure (exec_atA 178 _ _ _ g3 0 _ (k3+3+k5) 1 .i64 rfl rfl rfl Tryz.underlying178 kF (by omega))) ?_
       refine Sy.write kR 3 g3 178 (rw8 y5.1) (rw8 (upd y5.1 (k3+3+k5) x1)) kR (Writes.one (0+(k3+3+k5)*1) 26 (.int .u64 ((x1:Nat):Int)) _ _ rfl kR kR kR rfl rfl (rw8_fit _ (k:=k3+3+k5) (by omega) (by omega)) (rw8_set _ _ (by omega) (by omega))) ?_
       refine sG<|Sy.region ?_
       refine sP (.int .u64 ((c1:Nat):Int))<|sP (.int .u64 ((c1:Nat):Int)) ?_
       refine Sy.nil<|Sy.in_<|Sy.then_<|Sy.region ?_
       refine sP (.int .i64 ((k3+3+k5:Nat):Int))<|sS (.int .i64 (((k3+3+k5)+1:Nat):Int)) (Quiet.pure (exec_int .add _ _ _ .i64 _ _ _ rfl rfl rfl (int_add _ _ _ _ _ ((wrap_i64 (by omega) (by omega)).trans (by omega)))))<|sP (.int .i64 (((k3+3+k5)+1:Nat):Int)) ?_
       refine Sy.nil ?_
       have hin:=carry2 (vR_upd y5.1 (k3+3+k5) x1 8 (by omega)) hh5.2.2 ex1
       exact Sy.againX ((upd y5.1 (k3+3+k5) x1,c1)) [true,true,true,true] (by omega) (⟨upd_lt hh5.1 lx1,by omega,by rw [← Nat.add_assoc,Nat.pow_succ]; exact hin⟩) (all_cons kR (all_cons kR (all_cons kR (all_cons kR (all_cons kR (all_cons kR (all_cons kR all_nil))))))) kR
    ·have lb4:k4<3:=of_decide_eq_true hb4.symm
     refine sT<|Sy.skip<|Sy.then_<|Sy.seq<|Sy.block<|Sy.seq ?_
     refine Sy.regionD (λj=>false) kR ?_
     refine sZ 0 rfl (.int .i64 ((k3:Nat):Int))<|sD 1 rfl (.int .i64 ((4+k3:Nat):Int)) (Quiet.pure (exec_int .add _ _ _ .i64 _ _ _ rfl rfl rfl (int_add _ _ _ _ _ ((wrap_i64 (by omega) (by omega)).trans (by omega)))))<|sD 2 rfl (.pointer (some ⟨g1,0+(4+k3)*1,none⟩)) (Quiet.pure (exec_atA 178 _ _ _ g1 0 _ (4+k3) 1 .i64 rfl rfl rfl Tryz.underlying178 kF (by omega)))<|sD 3 rfl (.int .u64 ((y1 (4+k3):Nat):Int)) (Quiet.cell 1 g1 (0+(4+k3)*1) 178 26 (rw8 y1) _ _ rfl kR kR Tryz.underlying26 rfl _ (rw8_at y1 (k:=4+k3) (by omega) (by omega)))<|sZ 4 rfl (.int .i64 ((k4:Nat):Int))<|sZ 5 rfl (.pointer (some ⟨g0,4,none⟩))<|sD 6 rfl (.pointer (some ⟨g0,4+k4*1,none⟩)) (Quiet.pure (exec_atA 167 _ _ _ g0 4 _ k4 1 .i64 rfl rfl rfl Tryz.underlying167 kF (by omega)))<|sD 7 rfl (.int .u64 ((lw k4:Nat):Int)) (Quiet.cell 0 g0 (4+k4*1) 169 26 (modc M lw) _ _ rfl kR kR Tryz.underlying26 rfl _ (modc_at M lw (j:=k4) (by omega) (by omega))) ?_
     obtain ⟨hi1,lo1,llo1,elo1⟩:=two_words (y1 (4+k3)) (lw k4)
     refine sD 8 rfl (.tuple #[.int .u64 ((hi1:Nat):Int),.int .u64 ((lo1:Nat):Int)]) (qF 139 #[.int .u64 ((y1 (4+k3):Nat):Int),.int .u64 ((lw k4:Nat):Int)] (λw=>mulZ_any w (y1 (4+k3)) (lw k4) hi1 lo1 (by first | assumption | exact hR _ | exact hlw _ | exact wd_lt _ _ | exact hh1.1 _ | exact hh3.1 _ | exact hh4.1 _ | exact hh5.1 _ | exact hh5.2.1 | exact hh4.2.1 | decide) (by first | assumption | exact hR _ | exact hlw _ | exact wd_lt _ _ | exact hh1.1 _ | exact hh3.1 _ | exact hh4.1 _ | exact hh5.1 _ | exact hh5.2.1 | exact hh4.2.1 | decide) llo1 elo1))<|sZ 9 rfl (.tuple #[.int .u64 ((hi1:Nat):Int),.int .u64 ((lo1:Nat):Int)])<|sZ 10 rfl (.int .u64 ((hi1:Nat):Int))<|sZ 11 rfl (.int .u64 ((lo1:Nat):Int))<|sZ 12 rfl (.int .u64 ((hi1:Nat):Int))<|sZ 13 rfl (.int .u64 ((lo1:Nat):Int)) ?_
     refine sE ?_
     refine sB ?_
     refine sP (.int .u64 ((lo1:Nat):Int))<|sP (.int .i64 ((k3:Nat):Int))<|sP (.int .i64 ((k4:Nat):Int))<|sS (.int .i64 ((k3+k4:Nat):Int)) (Quiet.pure (exec_int .add _ _ _ .i64 _ _ _ rfl rfl rfl (int_add _ _ _ _ _ ((wrap_i64 (by omega) (by omega)).trans (by omega)))))<|sS (.pointer (some ⟨g3,0+(k3+k4)*1,none⟩)) (Quiet.pure (exec_atA 178 _ _ _ g3 0 _ (k3+k4) 1 .i64 rfl rfl rfl Tryz.underlying178 kF (by omega)))<|sS (.int .u64 ((y4.1 (k3+k4):Nat):Int)) (Quiet.cell 3 g3 (0+(k3+k4)*1) 178 26 (rw8 y4.1) _ _ rfl kR kR Tryz.underlying26 rfl _ (rw8_at y4.1 (k:=k3+k4) (by omega) (by omega))) ?_
     obtain ⟨x2,c2,lx2,lc2,ex2,rx2⟩:=add0_ex (lo1) (y4.1 (k3+k4)) (by first | assumption | exact hR _ | exact hlw _ | exact wd_lt _ _ | exact hh1.1 _ | exact hh3.1 _ | exact hh4.1 _ | exact hh5.1 _ | exact hh5.2.1 | exact hh4.2.1 | decide) (by first | assumption | exact hR _ | exact hlw _ | exact wd_lt _ _ | exact hh1.1 _ | exact hh3.1 _ | exact hh4.1 _ | exact hh5.1 _ | exact hh5.2.1 | exact hh4.2.1 | decide)
     refine sS (.tuple #[.int .u64 ((x2:Nat):Int),.int .u64 ((c2:Nat):Int)]) (Quiet.pure (λw=>Eq.trans kR (rx2 w)))<|sP (.tuple #[.int .u64 ((x2:Nat):Int),.int .u64 ((c2:Nat):Int)])<|sP (.int .u64 ((x2:Nat):Int))<|sP (.int .u64 ((c2:Nat):Int))<|sP (.int .u64 ((x2:Nat):Int))<|sP (.int .u64 ((c2:Nat):Int)) ?_
     refine sA ?_
     refine sP (.int .u64 ((x2:Nat):Int))<|sP (.int .u64 ((y4.2:Nat):Int)) ?_
     obtain ⟨x3,c3,lx3,lc3,ex3,rx3⟩:=add0_ex (x2) (y4.2) (by first | assumption | exact hR _ | exact hlw _ | exact wd_lt _ _ | exact hh1.1 _ | exact hh3.1 _ | exact hh4.1 _ | exact hh5.1 _ | exact hh5.2.1 | exact hh4.2.1 | decide) (by first | assumption | exact hR _ | exact hlw _ | exact wd_lt _ _ | exact hh1.1 _ | exact hh3.1 _ | exact hh4.1 _ | exact hh5.1 _ | exact hh5.2.1 | exact hh4.2.1 | decide)
     refine sS (.tuple #[.int .u64 ((x3:Nat):Int),.int .u64 ((c3:Nat):Int)]) (Quiet.pure (λw=>Eq.trans kR (rx3 w)))<|sP (.tuple #[.int .u64 ((x3:Nat):Int),.int .u64 ((c3:Nat):Int)])<|sP (.int .u64 ((x3:Nat):Int))<|sP (.int .u64 ((c3:Nat):Int))<|sP (.int .u64 ((x3:Nat):Int))<|sP (.int .u64 ((c3:Nat):Int)) ?_
     refine sA ?_
     refine sP (.int .i64 ((k3:Nat):Int))<|sP (.int .i64 ((k4:Nat):Int))<|sS (.int .i64 ((k3+k4:Nat):Int)) (Quiet.pure (exec_int .add _ _ _ .i64 _ _ _ rfl rfl rfl (int_add _ _ _ _ _ ((wrap_i64 (by omega) (by omega)).trans (by omega)))))<|sP (.int .u64 ((x3:Nat):Int))<|sS (.pointer (some ⟨g3,0+(k3+k4)*1,none⟩)) (Quiet.pure (exec_atA 178 _ _ _ g3 0 _ (k3+k4) 1 .i64 rfl rfl rfl Tryz.underlying178 kF (by omega))) ?_
     refine Sy.write kR 3 g3 178 (rw8 y4.1) (rw8 (upd y4.1 (k3+k4) x3)) kR (Writes.one (0+(k3+k4)*1) 26 (.int .u64 ((x3:Nat):Int)) _ _ rfl kR kR kR rfl rfl (rw8_fit _ (k:=k3+k4) (by omega) (by omega)) (rw8_set _ _ (by omega) (by omega))) ?_
     refine sG<|Sy.region ?_
     refine sP (.int .u64 ((hi1:Nat):Int))<|sP (.int .u64 ((c2:Nat):Int)) ?_
     have hst:=stepZ elo1 ex2 ex3
     have hcar:=carryZ hst (by first | assumption | exact hR _ | exact hlw _ | exact wd_lt _ _ | exact hh1.1 _ | exact hh3.1 _ | exact hh4.1 _ | exact hh5.1 _ | exact hh5.2.1 | exact hh4.2.1 | decide) (by first | assumption | exact hR _ | exact hlw _ | exact wd_lt _ _ | exact hh1.1 _ | exact hh3.1 _ | exact hh4.1 _ | exact hh5.1 _ | exact hh5.2.1 | exact hh4.2.1 | decide) (by first | assumption | exact hR _ | exact hlw _ | exact wd_lt _ _ | exact hh1.1 _ | exact hh3.1 _ | exact hh4.1 _ | exact hh5.1 _ | exact hh5.2.1 | exact hh4.2.1 | decide) hh4.2.1
     refine sS (.int .u64 ((hi1+c2:Nat):Int)) (Quiet.pure (exec_int .add _ _ _ .u64 _ _ _ rfl rfl rfl (int_add _ _ _ _ _ ((wrap_u64 (by omega) (by omega)).trans (by omega)))))<|sP (.int .u64 ((c3:Nat):Int))<|sS (.int .u64 (((hi1+c2)+c3:Nat):Int)) (Quiet.pure (exec_int .add _ _ _ .u64 _ _ _ rfl rfl rfl (int_add _ _ _ _ _ ((wrap_u64 (by omega) (by omega)).trans (by omega)))))<|sP (.int .u64 (((hi1+c2)+c3:Nat):Int)) ?_
     refine Sy.nil<|Sy.in_<|Sy.then_<|Sy.region ?_
     refine sP (.int .i64 ((k4:Nat):Int))<|sS (.int .i64 ((k4+1:Nat):Int)) (Quiet.pure (exec_int .add _ _ _ .i64 _ _ _ rfl rfl rfl (int_add _ _ _ _ _ ((wrap_i64 (by omega) (by omega)).trans (by omega)))))<|sP (.int .i64 ((k4+1:Nat):Int)) ?_
     refine Sy.nil ?_
     have hin:=innerZ (vR_upd y4.1 (k3+k4) x3 8 (by omega)) hh4.2.2 hst (P0:=18446744073709551616 ^ k4) (by rw [Nat.add_comm,Nat.pow_add])
     exact Sy.againX ((upd y4.1 (k3+k4) x3,hi1+c2+c3)) [true,true,true,true] (by omega) (⟨upd_lt hh4.1 lx3,hcar,by rw [← Nat.add_assoc,Nat.pow_succ]; exact hin⟩) (all_cons kR (all_cons kR (all_cons kR (all_cons kR (all_cons kR (all_cons kR (all_cons kR all_nil))))))) kR
  ·have lb2:k2<4:=of_decide_eq_true hb2.symm
   refine sT<|Sy.skip<|Sy.then_<|Sy.seq<|Sy.block<|Sy.region ?_
   refine sP (.int .i64 ((k2:Nat):Int))<|sP (.int .i64 ((k2:Nat):Int))<|sS (.pointer (some ⟨g1,0+k2*1,none⟩)) (Quiet.pure (exec_atA 178 _ _ _ g1 0 _ k2 1 .i64 rfl rfl rfl Tryz.underlying178 kF (by omega)))<|sS (.int .u64 ((y1 k2:Nat):Int)) (Quiet.cell 1 g1 (0+k2*1) 178 26 (rw8 y1) _ _ rfl kR kR Tryz.underlying26 rfl _ (rw8_at y1 (k:=k2) (by omega) (by omega)))<|sS (.pointer (some ⟨g3,0+k2*1,none⟩)) (Quiet.pure (exec_atA 178 _ _ _ g3 0 _ k2 1 .i64 rfl rfl rfl Tryz.underlying178 kF (by omega))) ?_
   refine Sy.write kR 3 g3 178 (rw8 (cpy y1 k2)) (rw8 (upd (cpy y1 k2) k2 (y1 k2))) kR (Writes.one (0+k2*1) 26 (.int .u64 ((y1 k2:Nat):Int)) _ _ rfl kR kR kR rfl rfl (rw8_fit _ (k:=k2) (by omega) (by omega)) (rw8_set _ _ (by omega) (by omega))) ?_
   refine Sy.nil<|Sy.in_<|Sy.then_<|Sy.region ?_
   refine sP (.int .i64 ((k2:Nat):Int))<|sS (.int .i64 ((k2+1:Nat):Int)) (Quiet.pure (exec_int .add _ _ _ .i64 _ _ _ rfl rfl rfl (int_add _ _ _ _ _ ((wrap_i64 (by omega) (by omega)).trans (by omega)))))<|sP (.int .i64 ((k2+1:Nat):Int)) ?_
   refine Sy.nil ?_
   exact Sy.againK [true,true,true,true] (M:=[(g0,169,(modc M lw)),(g1,178,(rw8 y1)),(g2,164,(fcs 0)),(g3,178,(rw8 (upd (cpy y1 k2) k2 (y1 k2))))]) (by omega) (all_cons kR (all_cons kR (all_cons kR (all_cons kR (all_cons kR all_nil))))) kR (bcons rfl (bcons rfl (bcons rfl (bcons (beq (congrArg rw8 (cpy_succ _ _))) rfl))))
end Fz
end
section
section
open Go.RowKit Go.Lib
def val8 (a b c d e f g h:Nat):Nat:=a+18446744073709551616*b+340282366920938463463374607431768211456*c+6277101735386680763835789423207666416102355444464034512896*d+(2^256)*e+2135987035920910082395021706169552114602704522356652769947041607822219725780640550022962086936576*f+39402006196394479212279040100143613805079739270465446667948293404245721771497210611414266254884915640806627990306816*g+726838724295606890549323807888004534353641360687318060281490199180639288113397923326191050713763565560762521606266177933534601628614656*h
def r8 (a b c d e f g h:Nat):Nat→Nat
 | 0=>a
 | 1=>b
 | 2=>c
 | 3=>d
 | 4=>e
 | 5=>f
 | 6=>g
 | 7=>h
 | _=>0
theorem r8_val (a b c d e f g h:Nat):Fz.vR (r8 a b c d e f g h) 8=val8 a b c d e f g h:=by
 show 0+a*1+b*18446744073709551616+c*340282366920938463463374607431768211456+d*6277101735386680763835789423207666416102355444464034512896+e*(2^256)+f*2135987035920910082395021706169552114602704522356652769947041607822219725780640550022962086936576+g*39402006196394479212279040100143613805079739270465446667948293404245721771497210611414266254884915640806627990306816+h*726838724295606890549323807888004534353641360687318060281490199180639288113397923326191050713763565560762521606266177933534601628614656=val8 a b c d e f g h
 unfold val8
 omega
def lackW:Nat→Nat
 | 0=>4294968273
 | 1=>0
 | 2=>0
 | _=>0
theorem lackW_lt:∀ t,lackW t<18446744073709551616
 | 0=>by decide
 | 1=>by decide
 | 2=>by decide
 | _+3=>by show 0<_; decide
theorem mod_row:Fz.modc pM lackW=#[.int .u64 18446744069414583343,.int .u64 18446744073709551615,.int .u64 18446744073709551615,.int .u64 18446744073709551615,.int .u64 4294968273,.int .u64 0,.int .u64 0]:=by kernel_rfl
theorem lack_sum:pM+Fz.vR lackW 3=18446744073709551616 ^ 4:=by decide +kernel
theorem pM_pos0:0<pM:=by decide +kernel
theorem fold_any (w:World) (d0 d1 d2 d3 d4 d5 d6 d7:Nat) (hd:d0<18446744073709551616∧d1<18446744073709551616∧d2<18446744073709551616∧d3<18446744073709551616∧d4<18446744073709551616∧d5<18446744073709551616∧d6<18446744073709551616∧d7<18446744073709551616):Calls Tryz.prog 189 #[.agg #[.int .u64 18446744069414583343,.int .u64 18446744073709551615,.int .u64 18446744073709551615,.int .u64 18446744073709551615,.int .u64 4294968273,.int .u64 0,.int .u64 0],.agg #[.int .u64 (d0:Int),.int .u64 (d1:Int),.int .u64 (d2:Int),.int .u64 (d3:Int),.int .u64 (d4:Int),.int .u64 (d5:Int),.int .u64 (d6:Int),.int .u64 (d7:Int)]] w λe w'=>e=.returned (fv (val8 d0 d1 d2 d3 d4 d5 d6 d7%pM))∧Below w.heap.size w w':=by
 have h:=Fz.foldZ w pM lackW lackW_lt pM_pos0 lack_sum (λw x hx=>by rw [mod_row]; exact normR_any w x hx) (r8 d0 d1 d2 d3 d4 d5 d6 d7) (λt=>by
  obtain ⟨h0,h1,h2,h3,h4,h5,h6,h7⟩:=hd
  rcases t with _ | _ | _ | _ | _ | _ | _ | _ | t <;> first | assumption | exact Nat.zero_lt_succ _)
 rw [r8_val,mod_row] at h
 exact h
end
end
section
section
open Go.RowKit Go.Lib
theorem below_alloc4 (w:World) (a b c d:Obj):Below w.heap.size w ((((w.alloc a).alloc b).alloc c).alloc d):=(below_alloc3 w a b c).alloc (by simp <;> omega) _
theorem below_alloc5 (w:World) (a b c d e:Obj):Below w.heap.size w (((((w.alloc a).alloc b).alloc c).alloc d).alloc e):=(below_alloc4 w a b c d).alloc (by simp <;> omega) _
theorem blk_new5 (w:World) (a b c d:Obj) (t:TypeId) (cs:Array Value):Blk (((((w.alloc a).alloc b).alloc c).alloc d).alloc (.cells cs t)) (w.heap.size+4) t cs:=by
 have h:=Blk.new ((((w.alloc a).alloc b).alloc c).alloc d) t cs
 have e:((((w.alloc a).alloc b).alloc c).alloc d).heap.size=w.heap.size+4:=by simp
 rwa [e] at h
section
variable {P:Program} {ops:Array Oper}
theorem YieldsG.loadP {o:Oper} {a:Act} {w:World} {d:TypeDesc} (hw:Region.wanted o (yielded ops a.tmps)=true) (ty:TypeId) (x:Operand) (ho:o.op=.load ty x)
  (g:Nat) (hx:a.eval x=.pointer (some ⟨g,0,none⟩)) (n:Nat) (cs:List Value) (hl:g<w.heap.size) (hr:w.rangeAt g 0 cs) (hf:fv n=.agg cs.toArray)
  (hu:P.underlying ty=some d) (hd:d.isRow=true) (hi:(P.info? ty).map (·.size)=some cs.length):YieldsG P ops o (fv n) a w:=by
 rw [hf]
 exact YieldsG.load hw ty x ho g 0 hx cs d hl hr hu hd hi
end
set_option maxHeartbeats 8000000 in
set_option maxRecDepth 100000 in
theorem addR_any (w:World) (x y:Nat) (hx:x<(2^256)) (hy:y<(2^256)):Calls Tryz.prog 186 #[.agg #[.int .u64 18446744069414583343,.int .u64 18446744073709551615,.int .u64 18446744073709551615,.int .u64 18446744073709551615,.int .u64 4294968273,.int .u64 0,.int .u64 0],fv x,fv y] w λe w'=>e=.returned (fv (addP x y))∧Below w.heap.size w w':=by
 obtain ⟨x0,x1,x2,x3,a0,a1,a2,a3,ex,fx⟩:=words_of x hx
 obtain ⟨y0,y1,y2,y3,b0,b1,b2,b3,ey,fy⟩:=words_of y hy
 obtain ⟨s0,c0,d0,k0,e0,r0⟩:=add0_ex x0 y0 a0 b0
 obtain ⟨s1,c1,d1,k1,e1,r1⟩:=addc_ex x1 y1 c0 a1 b1 k0
 obtain ⟨s2,c2,d2,k2,e2,r2⟩:=addc_ex x2 y2 c1 a2 b2 k1
 obtain ⟨s3,c3,d3,k3,e3,r3⟩:=addc_ex x3 y3 c2 a3 b3 k2
 have fin:val8 s0 s1 s2 s3 c3 0 0 0=x+y:=by simp only [val8]; omega
 obtain ⟨z,hz⟩:∃ z,z=addP x y:=⟨_,rfl⟩
 have cF:∀ w,Calls Tryz.prog 189 #[.agg #[.int .u64 18446744069414583343,.int .u64 18446744073709551615,.int .u64 18446744073709551615,.int .u64 18446744073709551615,.int .u64 4294968273,.int .u64 0,.int .u64 0],.agg #[.int .u64 (s0:Int),.int .u64 (s1:Int),.int .u64 (s2:Int),.int .u64 (s3:Int),.int .u64 (c3:Int),.int .u64 0,.int .u64 0,.int .u64 0]] w λe w'=>e=.returned (fv z)∧Below w.heap.size w w':=by
  intro w
  have h:=fold_any w s0 s1 s2 s3 c3 0 0 0 ⟨d0,d1,d2,d3,by omega,by omega,by omega,by omega⟩
  rw [fin] at h
  rw [hz]
  exact h
 rw [fx,fy, ← hz]
 clear fx fy ex ey hx hy hz a0 a1 a2 a3 b0 b1 b2 b3 d0 d1 d2 d3 k0 k1 k2 k3 e0 e1 e2 e3 fin
 go_enter Tryz.func186,Tryz.ntmps186
 go_wp2_with fail
 go_loopw [8,9] (λbo i wr=>Below w.heap.size w wr∧Blk wr w.heap.size 169 #[.int .u64 18446744069414583343,.int .u64 18446744073709551615,.int .u64 18446744073709551615,.int .u64 18446744073709551615,.int .u64 4294968273,.int .u64 0,.int .u64 0]∧Blk wr (w.heap.size+1) 164 #[.int .u64 (x0:Int),.int .u64 (x1:Int),.int .u64 (x2:Int),.int .u64 (x3:Int)]∧Blk wr (w.heap.size+2) 164 #[.int .u64 (y0:Int),.int .u64 (y1:Int),.int .u64 (y2:Int),.int .u64 (y3:Int)]∧Blk wr (w.heap.size+3) 164 #[.int .u64 0,.int .u64 0,.int .u64 0,.int .u64 0]∧Hid ((i=.int .i64 0∧bo=.int .u64 0∧Blk wr (w.heap.size+4) 178 #[.int .u64 0,.int .u64 0,.int .u64 0,.int .u64 0,.int .u64 0,.int .u64 0,.int .u64 0,.int .u64 0])∨(i=.int .i64 1∧bo=.int .u64 (c0:Int)∧Blk wr (w.heap.size+4) 178 #[.int .u64 (s0:Int),.int .u64 0,.int .u64 0,.int .u64 0,.int .u64 0,.int .u64 0,.int .u64 0,.int .u64 0])∨(i=.int .i64 2∧bo=.int .u64 (c1:Int)∧Blk wr (w.heap.size+4) 178 #[.int .u64 (s0:Int),.int .u64 (s1:Int),.int .u64 0,.int .u64 0,.int .u64 0,.int .u64 0,.int .u64 0,.int .u64 0])∨(i=.int .i64 3∧bo=.int .u64 (c2:Int)∧Blk wr (w.heap.size+4) 178 #[.int .u64 (s0:Int),.int .u64 (s1:Int),.int .u64 (s2:Int),.int .u64 0,.int .u64 0,.int .u64 0,.int .u64 0,.int .u64 0])∨(i=.int .i64 4∧bo=.int .u64 (c3:Int)∧Blk wr (w.heap.size+4) 178 #[.int .u64 (s0:Int),.int .u64 (s1:Int),.int .u64 (s2:Int),.int .u64 (s3:Int),.int .u64 0,.int .u64 0,.int .u64 0,.int .u64 0]))) (λ_ i _=>4 - (intOf i).toNat)
 case atStart=>exact ⟨below_alloc5 w _ _ _ _ _,(((((Blk.new w _ _).alloc _).alloc _).alloc _).alloc _),((((blk_new2 w _ _ _).alloc _).alloc _).alloc _),(((blk_new3 w _ _ _ _).alloc _).alloc _),((blk_new4 w _ _ _ _ _).alloc _),Lib.hid (.inl ⟨rfl,rfl,blk_new5 w _ _ _ _ _ _⟩)⟩
 case round =>
  obtain ⟨hb,BM,BX,BY,BR,HI⟩:=hrel
  have lX:=BX.lt
  have lY:=BY.lt
  have lR:=BR.lt
  rcases HI.out with ⟨rfl,rfl,BW⟩ | ⟨rfl,rfl,BW⟩ | ⟨rfl,rfl,BW⟩ | ⟨rfl,rfl,BW⟩ | ⟨rfl,rfl,BW⟩
  ·clear HI
   have px:wr.cell? ⟨w.heap.size+1,0,none⟩=some (.int .u64 (x0:Int)):=BX.cell 0
   have py:wr.cell? ⟨w.heap.size+2,0,none⟩=some (.int .u64 (y0:Int)):=BY.cell 0
   go_wp2
   refine wp_region_G (λ_=>false) (by kernel_rfl) ?_
   try simp only [Act.put]
   refine tk 0 rfl ?_
   try simp only [Act.put,aA,aZ,aS]
   refine tk 1 rfl ?_
   try simp only [Act.put,aA,aZ,aS]
   refine tkw 2 rfl (YieldsG.pure (v:=.int .u64 (x0:Int)) (by rfl) (λw9 h9=>by have hz:=(Below.cell (p:=⟨w.heap.size+1,0,none⟩) h9 lX).trans px; go_simp; first | done | simp [hz])) ?_
   try simp only [Act.put,aA,aZ,aS]
   refine tk 3 rfl ?_
   try simp only [Act.put,aA,aZ,aS]
   refine tk 4 rfl ?_
   try simp only [Act.put,aA,aZ,aS]
   refine tkw 5 rfl (YieldsG.pure (v:=.int .u64 (y0:Int)) (by rfl) (λw9 h9=>by have hz:=(Below.cell (p:=⟨w.heap.size+2,0,none⟩) h9 lY).trans py; go_simp; first | done | simp [hz])) ?_
   try simp only [Act.put,aA,aZ,aS]
   refine tk 6 rfl ?_
   try simp only [Act.put,aA,aZ,aS]
   refine tkw 7 rfl (YieldsG.pure (v:=.tuple #[.int .u64 (s0:Int),.int .u64 (c0:Int)]) (by rfl) (λw9 h9=>by go_simp)) ?_
   try simp only [Act.put,aA,aZ,aS]
   refine tk 8 rfl ?_
   try simp only [Act.put,aA,aZ,aS]
   refine tk 9 rfl ?_
   try simp only [Act.put,aA,aZ,aS]
   refine tk 10 rfl ?_
   try simp only [Act.put,aA,aZ,aS]
   refine tk 11 rfl ?_
   try simp only [Act.put,aA,aZ,aS]
   refine tk 12 rfl ?_
   try simp only [Act.put,aA,aZ,aS]
   refine wpAnyG_done (by kernel_rfl) (λu hu=>?_)
   have BM:=Gr.blk hu BM
   have BX:=Gr.blk hu BX
   have BY:=Gr.blk hu BY
   have BR:=Gr.blk hu BR
   have BW:=Gr.blk hu BW
   have hb:=Below.gr hb hu
   have pc:u.cell? ⟨w.heap.size+4,0,none⟩=some (.int .u64 0):=BW.cell 0
   have pf:=BW.frozen 0
   clear hu px py
   go_wp2
   refine ⟨⟨hb.setCell (by show w.heap.size≤w.heap.size+4; omega) _,BM.far (by show w.heap.size≠w.heap.size+4; omega) _,BX.far (by show w.heap.size+1≠w.heap.size+4; omega) _,BY.far (by show w.heap.size+2≠w.heap.size+4; omega) _,BR.far (by show w.heap.size+3≠w.heap.size+4; omega) _,Lib.hid (.inr (.inl (⟨rfl,rfl,BW.set_ 0 _⟩)))⟩,by decide⟩
  ·clear HI
   have px:wr.cell? ⟨w.heap.size+1,1,none⟩=some (.int .u64 (x1:Int)):=BX.cell 1
   have py:wr.cell? ⟨w.heap.size+2,1,none⟩=some (.int .u64 (y1:Int)):=BY.cell 1
   go_wp2
   refine wp_region_G (λ_=>false) (by kernel_rfl) ?_
   try simp only [Act.put]
   refine tk 0 rfl ?_
   try simp only [Act.put,aA,aZ,aS]
   refine tk 1 rfl ?_
   try simp only [Act.put,aA,aZ,aS]
   refine tkw 2 rfl (YieldsG.pure (v:=.int .u64 (x1:Int)) (by rfl) (λw9 h9=>by have hz:=(Below.cell (p:=⟨w.heap.size+1,1,none⟩) h9 lX).trans px; go_simp; first | done | simp [hz])) ?_
   try simp only [Act.put,aA,aZ,aS]
   refine tk 3 rfl ?_
   try simp only [Act.put,aA,aZ,aS]
   refine tk 4 rfl ?_
   try simp only [Act.put,aA,aZ,aS]
   refine tkw 5 rfl (YieldsG.pure (v:=.int .u64 (y1:Int)) (by rfl) (λw9 h9=>by have hz:=(Below.cell (p:=⟨w.heap.size+2,1,none⟩) h9 lY).trans py; go_simp; first | done | simp [hz])) ?_
   try simp only [Act.put,aA,aZ,aS]
   refine tk 6 rfl ?_
   try simp only [Act.put,aA,aZ,aS]
   refine tkw 7 rfl (YieldsG.pure (v:=.tuple #[.int .u64 (s1:Int),.int .u64 (c1:Int)]) (by rfl) (λw9 h9=>by go_simp)) ?_
   try simp only [Act.put,aA,aZ,aS]
   refine tk 8 rfl ?_
   try simp only [Act.put,aA,aZ,aS]
   refine tk 9 rfl ?_
   try simp only [Act.put,aA,aZ,aS]
   refine tk 10 rfl ?_
   try simp only [Act.put,aA,aZ,aS]
   refine tk 11 rfl ?_
   try simp only [Act.put,aA,aZ,aS]
   refine tk 12 rfl ?_
   try simp only [Act.put,aA,aZ,aS]
   refine wpAnyG_done (by kernel_rfl) (λu hu=>?_)
   have BM:=Gr.blk hu BM
   have BX:=Gr.blk hu BX
   have BY:=Gr.blk hu BY
   have BR:=Gr.blk hu BR
   have BW:=Gr.blk hu BW
   have hb:=Below.gr hb hu
   have pc:u.cell? ⟨w.heap.size+4,1,none⟩=some (.int .u64 0):=BW.cell 1
   have pf:=BW.frozen 1
   clear hu px py
   go_wp2
   refine ⟨⟨hb.setCell (by show w.heap.size≤w.heap.size+4; omega) _,BM.far (by show w.heap.size≠w.heap.size+4; omega) _,BX.far (by show w.heap.size+1≠w.heap.size+4; omega) _,BY.far (by show w.heap.size+2≠w.heap.size+4; omega) _,BR.far (by show w.heap.size+3≠w.heap.size+4; omega) _,Lib.hid (.inr (.inr (.inl (⟨rfl,rfl,BW.set_ 1 _⟩))))⟩,by decide⟩
  ·clear HI
   have px:wr.cell? ⟨w.heap.size+1,2,none⟩=some (.int .u64 (x2:Int)):=BX.cell 2
   have py:wr.cell? ⟨w.heap.size+2,2,none⟩=some (.int .u64 (y2:Int)):=BY.cell 2
   go_wp2
   refine wp_region_G (λ_=>false) (by kernel_rfl) ?_
   try simp only [Act.put]
   refine tk 0 rfl ?_
   try simp only [Act.put,aA,aZ,aS]
   refine tk 1 rfl ?_
   try simp only [Act.put,aA,aZ,aS]
   refine tkw 2 rfl (YieldsG.pure (v:=.int .u64 (x2:Int)) (by rfl) (λw9 h9=>by have hz:=(Below.cell (p:=⟨w.heap.size+1,2,none⟩) h9 lX).trans px; go_simp; first | done | simp [hz])) ?_
   try simp only [Act.put,aA,aZ,aS]
   refine tk 3 rfl ?_
   try simp only [Act.put,aA,aZ,aS]
   refine tk 4 rfl ?_
   try simp only [Act.put,aA,aZ,aS]
   refine tkw 5 rfl (YieldsG.pure (v:=.int .u64 (y2:Int)) (by rfl) (λw9 h9=>by have hz:=(Below.cell (p:=⟨w.heap.size+2,2,none⟩) h9 lY).trans py; go_simp; first | done | simp [hz])) ?_
   try simp only [Act.put,aA,aZ,aS]
   refine tk 6 rfl ?_
   try simp only [Act.put,aA,aZ,aS]
   refine tkw 7 rfl (YieldsG.pure (v:=.tuple #[.int .u64 (s2:Int),.int .u64 (c2:Int)]) (by rfl) (λw9 h9=>by go_simp)) ?_
   try simp only [Act.put,aA,aZ,aS]
   refine tk 8 rfl ?_
   try simp only [Act.put,aA,aZ,aS]
   refine tk 9 rfl ?_
   try simp only [Act.put,aA,aZ,aS]
   refine tk 10 rfl ?_
   try simp only [Act.put,aA,aZ,aS]
   refine tk 11 rfl ?_
   try simp only [Act.put,aA,aZ,aS]
   refine tk 12 rfl ?_
   try simp only [Act.put,aA,aZ,aS]
   refine wpAnyG_done (by kernel_rfl) (λu hu=>?_)
   have BM:=Gr.blk hu BM
   have BX:=Gr.blk hu BX
   have BY:=Gr.blk hu BY
   have BR:=Gr.blk hu BR
   have BW:=Gr.blk hu BW
   have hb:=Below.gr hb hu
   have pc:u.cell? ⟨w.heap.size+4,2,none⟩=some (.int .u64 0):=BW.cell 2
   have pf:=BW.frozen 2
   clear hu px py
   go_wp2
   refine ⟨⟨hb.setCell (by show w.heap.size≤w.heap.size+4; omega) _,BM.far (by show w.heap.size≠w.heap.size+4; omega) _,BX.far (by show w.heap.size+1≠w.heap.size+4; omega) _,BY.far (by show w.heap.size+2≠w.heap.size+4; omega) _,BR.far (by show w.heap.size+3≠w.heap.size+4; omega) _,Lib.hid (.inr (.inr (.inr (.inl (⟨rfl,rfl,BW.set_ 2 _⟩)))))⟩,by decide⟩
  ·clear HI
   have px:wr.cell? ⟨w.heap.size+1,3,none⟩=some (.int .u64 (x3:Int)):=BX.cell 3
   have py:wr.cell? ⟨w.heap.size+2,3,none⟩=some (.int .u64 (y3:Int)):=BY.cell 3
   go_wp2
   refine wp_region_G (λ_=>false) (by kernel_rfl) ?_
   try simp only [Act.put]
   refine tk 0 rfl ?_
   try simp only [Act.put,aA,aZ,aS]
   refine tk 1 rfl ?_
   try simp only [Act.put,aA,aZ,aS]
   refine tkw 2 rfl (YieldsG.pure (v:=.int .u64 (x3:Int)) (by rfl) (λw9 h9=>by have hz:=(Below.cell (p:=⟨w.heap.size+1,3,none⟩) h9 lX).trans px; go_simp; first | done | simp [hz])) ?_
   try simp only [Act.put,aA,aZ,aS]
   refine tk 3 rfl ?_
   try simp only [Act.put,aA,aZ,aS]
   refine tk 4 rfl ?_
   try simp only [Act.put,aA,aZ,aS]
   refine tkw 5 rfl (YieldsG.pure (v:=.int .u64 (y3:Int)) (by rfl) (λw9 h9=>by have hz:=(Below.cell (p:=⟨w.heap.size+2,3,none⟩) h9 lY).trans py; go_simp; first | done | simp [hz])) ?_
   try simp only [Act.put,aA,aZ,aS]
   refine tk 6 rfl ?_
   try simp only [Act.put,aA,aZ,aS]
   refine tkw 7 rfl (YieldsG.pure (v:=.tuple #[.int .u64 (s3:Int),.int .u64 (c3:Int)]) (by rfl) (λw9 h9=>by go_simp)) ?_
   try simp only [Act.put,aA,aZ,aS]
   refine tk 8 rfl ?_
   try simp only [Act.put,aA,aZ,aS]
   refine tk 9 rfl ?_
   try simp only [Act.put,aA,aZ,aS]
   refine tk 10 rfl ?_
   try simp only [Act.put,aA,aZ,aS]
   refine tk 11 rfl ?_
   try simp only [Act.put,aA,aZ,aS]
   refine tk 12 rfl ?_
   try simp only [Act.put,aA,aZ,aS]
   refine wpAnyG_done (by kernel_rfl) (λu hu=>?_)
   have BM:=Gr.blk hu BM
   have BX:=Gr.blk hu BX
   have BY:=Gr.blk hu BY
   have BR:=Gr.blk hu BR
   have BW:=Gr.blk hu BW
   have hb:=Below.gr hb hu
   have pc:u.cell? ⟨w.heap.size+4,3,none⟩=some (.int .u64 0):=BW.cell 3
   have pf:=BW.frozen 3
   clear hu px py
   go_wp2
   refine ⟨⟨hb.setCell (by show w.heap.size≤w.heap.size+4; omega) _,BM.far (by show w.heap.size≠w.heap.size+4; omega) _,BX.far (by show w.heap.size+1≠w.heap.size+4; omega) _,BY.far (by show w.heap.size+2≠w.heap.size+4; omega) _,BR.far (by show w.heap.size+3≠w.heap.size+4; omega) _,Lib.hid (.inr (.inr (.inr (.inr (⟨rfl,rfl,BW.set_ 3 _⟩)))))⟩,by decide⟩
  ·clear HI
   have pc:wr.cell? ⟨w.heap.size+4,4,none⟩=some (.int .u64 0):=BW.cell 4
   have pf:=BW.frozen 4
   have BM4:Blk (wr.setCell ⟨w.heap.size+4,4,none⟩ (.int .u64 (c3:Int))) w.heap.size 169 #[.int .u64 18446744069414583343,.int .u64 18446744073709551615,.int .u64 18446744073709551615,.int .u64 18446744073709551615,.int .u64 4294968273,.int .u64 0,.int .u64 0]:=BM.far (by show w.heap.size≠w.heap.size+4; omega) _
   have BW4:Blk (wr.setCell ⟨w.heap.size+4,4,none⟩ (.int .u64 (c3:Int))) (w.heap.size+4) 178 #[.int .u64 (s0:Int),.int .u64 (s1:Int),.int .u64 (s2:Int),.int .u64 (s3:Int),.int .u64 (c3:Int),.int .u64 0,.int .u64 0,.int .u64 0]:=BW.set_ 4 _
   have BR4:Blk (wr.setCell ⟨w.heap.size+4,4,none⟩ (.int .u64 (c3:Int))) (w.heap.size+3) 164 #[.int .u64 0,.int .u64 0,.int .u64 0,.int .u64 0]:=BR.far (by show w.heap.size+3≠w.heap.size+4; omega) _
   have hb4:Below w.heap.size w (wr.setCell ⟨w.heap.size+4,4,none⟩ (.int .u64 (c3:Int))):=hb.setCell (by show w.heap.size≤w.heap.size+4; omega) _
   have H4:=Lib.hid (And.intro BM4 (And.intro BW4 (And.intro BR4 hb4)))
   clear BM BX BY BR BW hb BM4 BW4 BR4 hb4
   go_wp2_with (first | ((with_reducible refine here_load (d:=some 33) ?_); refine wpList_load_blk rfl _ _ rfl w.heap.size rfl _ _ _ H4.out.1 Tryz.underlying169 rfl (by kernel_rfl) ?_) | ((with_reducible refine here_load (d:=some 34) ?_); refine wpList_load_blk rfl _ _ rfl (w.heap.size+4) rfl _ _ _ H4.out.2.1 Tryz.underlying178 rfl (by kernel_rfl) ?_))
   refine (cF _).mono ?_
   rintro e u ⟨rfl,hu⟩
   have BRu:=Gr.blk hu H4.out.2.2.1
   have hbu:=Below.gr H4.out.2.2.2 hu
   clear hu H4 cF
   go_wp2_with (first | ((with_reducible refine here_store ?_); refine wpList_store_blk rfl _ _ _ rfl (w.heap.size+3) (fcs (z)) rfl rfl _ _ (BRu) (by kernel_rfl) (by rfl) (fcs_one _) ?_; intro w9 hL9 hB9 hK9))
   exact bodyPost_ret (results_cell_row rfl _ _ (w.heap.size+3) _ _ (0,0) _ rfl hL9 Tryz.underlying164 rfl (by kernel_rfl)) rfl ⟨rfl,hbu.trans (hB9 _ (by omega))⟩
set_option maxHeartbeats 2000000 in
set_option maxRecDepth 100000 in
theorem negR_any (w:World) (x:Nat) (hx:x<(2^256)):Calls Tryz.prog 171 #[.agg #[.int .u64 18446744069414583343,.int .u64 18446744073709551615,.int .u64 18446744073709551615,.int .u64 18446744073709551615,.int .u64 4294968273,.int .u64 0,.int .u64 0],fv x] w λe w'=>e=.returned (fv (negP x))∧Below w.heap.size w w':=by
 obtain ⟨n,hn⟩:∃ n,n=x%pM:=⟨_,rfl⟩
 have np:n<115792089237316195423570985008687907853269984665640564039457584007908834671663:=by rw [hn]; exact mod_lt_p x
 obtain ⟨p,hp⟩:∃ p,p=115792089237316195423570985008687907853269984665640564039457584007908834671663:=⟨_,rfl⟩
 obtain ⟨q,hq⟩:∃ q,q=p - n:=⟨_,rfl⟩
 obtain ⟨g,hg⟩:∃ g,g=negP x:=⟨_,rfl⟩
 have hgq:q%pM=g:=by rw [hg,negP, ← hn,hq,hp]; rfl
 have cN:∀ w,Calls Tryz.prog 167 #[.agg #[.int .u64 18446744069414583343,.int .u64 18446744073709551615,.int .u64 18446744073709551615,.int .u64 18446744073709551615,.int .u64 4294968273,.int .u64 0,.int .u64 0],fv x] w λe w'=>e=.returned (fv n)∧Below w.heap.size w w':=by
  intro w; rw [hn]; exact normR_any w x hx
 have cM:∀ w,Calls Tryz.prog 187 #[fv p,fv n] w λe w'=>e=.returned (fv q)∧Below w.heap.size w w':=λw=>minusR_at w p n q 0 rfl rfl (by omega) (by omega) (by omega) (by omega)
 have cG:∀ w,Calls Tryz.prog 167 #[.agg #[.int .u64 18446744069414583343,.int .u64 18446744073709551615,.int .u64 18446744073709551615,.int .u64 18446744073709551615,.int .u64 4294968273,.int .u64 0,.int .u64 0],fv q] w λe w'=>e=.returned (fv g)∧Below w.heap.size w w':=by
  intro w; rw [← hgq]; exact normR_any w q (by omega)
 have FP:Hid (fv p=.agg #[.int .u64 18446744069414583343,.int .u64 18446744073709551615,.int .u64 18446744073709551615,.int .u64 18446744073709551615]):=Lib.hid (by rw [hp]; exact fv_P)
 obtain ⟨x0,x1,x2,x3,fx⟩:=words_fv x hx
 have FX:=Lib.hid fx
 rw [fx, ← hg]
 clear fx hx hn np hp hq hg hgq
 go_enter Tryz.func171,Tryz.ntmps171
 go_wp2
 refine wp_region_G (λj=>j == 8) (by kernel_rfl) ?_
 try simp only [Act.put]
 refine tkw 0 rfl (YieldsG.load (by rfl) _ _ rfl w.heap.size 0 rfl ([.int .u64 18446744069414583343,.int .u64 18446744073709551615,.int .u64 18446744073709551615,.int .u64 18446744073709551615,.int .u64 4294968273,.int .u64 0,.int .u64 0]) _ (Blk.lt (((Blk.new w _ _).alloc _).alloc _)) (Blk.range (((Blk.new w _ _).alloc _).alloc _)) Tryz.underlying169 rfl (by kernel_rfl)) ?_
 try simp only [Act.put,aA,aZ,aS]
 refine tk 1 rfl ?_
 try simp only [Act.put,aA,aZ,aS]
 refine tkw 2 rfl (YieldsG.loadP (by rfl) _ _ rfl w.heap.size rfl p _ (Blk.lt (((Blk.new w _ _).alloc _).alloc _)) (mod_range (((Blk.new w _ _).alloc _).alloc _)) FP.out Tryz.underlying164 rfl (by kernel_rfl)) ?_
 try simp only [Act.put,aA,aZ,aS]
 refine tkw 3 rfl (YieldsG.load (by rfl) _ _ rfl w.heap.size 0 rfl ([.int .u64 18446744069414583343,.int .u64 18446744073709551615,.int .u64 18446744073709551615,.int .u64 18446744073709551615,.int .u64 4294968273,.int .u64 0,.int .u64 0]) _ (Blk.lt (((Blk.new w _ _).alloc _).alloc _)) (Blk.range (((Blk.new w _ _).alloc _).alloc _)) Tryz.underlying169 rfl (by kernel_rfl)) ?_
 try simp only [Act.put,aA,aZ,aS]
 refine tkw 4 rfl (YieldsG.loadF (by rfl) _ _ rfl (w.heap.size+1) rfl (x) _ _ ((blk_new2 w _ _ _).alloc _) (FX.out) Tryz.underlying164 rfl (by kernel_rfl)) ?_
 try simp only [Act.put,aA,aZ,aS]
 refine tkw 5 rfl (YieldsG.call (v:=fv n) (by rfl) 167 _ (λw9=>by go_simp; try (first | with_reducible rfl | rfl)) (λw9 h9=>cN w9)) ?_
 try simp only [Act.put,aA,aZ,aS]
 refine tkw 6 rfl (YieldsG.call (v:=fv q) (by rfl) 187 _ (λw9=>by go_simp; try (first | with_reducible rfl | rfl)) (λw9 h9=>cM w9)) ?_
 try simp only [Act.put,aA,aZ,aS]
 refine tkw 7 rfl (YieldsG.call (v:=fv g) (by rfl) 167 _ (λw9=>by go_simp; try (first | with_reducible rfl | rfl)) (λw9 h9=>cG w9)) ?_
 try simp only [Act.put,aA,aZ,aS]
 refine wpAnyG_store 8 rfl (by kernel_rfl) (by rfl) _ _ _ rfl (w.heap.size+2) (fcs (g)) rfl rfl _ _ (blk_new3 w _ _ _ _) (by kernel_rfl) (by rfl) (fcs_one _) rfl (λw6 h6 w7 hB7 hL7=>?_)
 try simp only [Act.put]
 refine wpAnyG_done (by kernel_rfl) (λw8 h8=>?_)
 have hfin:=Gr.blk h8 hL7
 have hb9:=(Below.gr (below_alloc3 w _ _ _) h6).trans ((hB7 _ (by omega)).trans (Below.mono h8 (by have:=hL7.lt; omega)))
 go_wp2
 exact bodyPost_ret (results_cell_row rfl _ _ (w.heap.size+2) _ _ (0,0) _ rfl hfin Tryz.underlying164 rfl (by kernel_rfl)) rfl ⟨rfl,hb9⟩
theorem sub_is (x y:Nat):addP x (negP y)=subP x y:=by
 unfold addP negP subP
 rw [Nat.add_mod_mod]
set_option maxHeartbeats 2000000 in
set_option maxRecDepth 100000 in
theorem subR_any (w:World) (x y:Nat) (hx:x<(2^256)) (hy:y<(2^256)):Calls Tryz.prog 185 #[.agg #[.int .u64 18446744069414583343,.int .u64 18446744073709551615,.int .u64 18446744073709551615,.int .u64 18446744073709551615,.int .u64 4294968273,.int .u64 0,.int .u64 0],fv x,fv y] w λe w'=>e=.returned (fv (subP x y))∧Below w.heap.size w w':=by
 obtain ⟨g,hg⟩:∃ g,g=negP y:=⟨_,rfl⟩
 obtain ⟨z,hz⟩:∃ z,z=subP x y:=⟨_,rfl⟩
 have cG:∀ w,Calls Tryz.prog 171 #[.agg #[.int .u64 18446744069414583343,.int .u64 18446744073709551615,.int .u64 18446744073709551615,.int .u64 18446744073709551615,.int .u64 4294968273,.int .u64 0,.int .u64 0],fv y] w λe w'=>e=.returned (fv g)∧Below w.heap.size w w':=by
  intro w; rw [hg]; exact negR_any w y hy
 have cA:∀ w,Calls Tryz.prog 186 #[.agg #[.int .u64 18446744069414583343,.int .u64 18446744073709551615,.int .u64 18446744073709551615,.int .u64 18446744073709551615,.int .u64 4294968273,.int .u64 0,.int .u64 0],fv x,fv g] w λe w'=>e=.returned (fv z)∧Below w.heap.size w w':=by
  intro w; rw [hz, ← sub_is, ← hg]; exact addR_any w x g hx (by rw [hg]; exact negP_lt _)
 obtain ⟨x0,x1,x2,x3,fx⟩:=words_fv x hx
 obtain ⟨y0,y1,y2,y3,fy⟩:=words_fv y hy
 have FX:=Lib.hid fx
 have FY:=Lib.hid fy
 rw [fx,fy, ← hz]
 clear fx fy hx hy hg hz
 go_enter Tryz.func185,Tryz.ntmps185
 go_wp2
 refine wp_region_G (λj=>j == 6) (by kernel_rfl) ?_
 try simp only [Act.put]
 refine tkw 0 rfl (YieldsG.load (by rfl) _ _ rfl w.heap.size 0 rfl ([.int .u64 18446744069414583343,.int .u64 18446744073709551615,.int .u64 18446744073709551615,.int .u64 18446744073709551615,.int .u64 4294968273,.int .u64 0,.int .u64 0]) _ (Blk.lt ((((Blk.new w _ _).alloc _).alloc _).alloc _)) (Blk.range ((((Blk.new w _ _).alloc _).alloc _).alloc _)) Tryz.underlying169 rfl (by kernel_rfl)) ?_
 try simp only [Act.put,aA,aZ,aS]
 refine tkw 1 rfl (YieldsG.loadF (by rfl) _ _ rfl (w.heap.size+1) rfl (x) _ _ (((blk_new2 w _ _ _).alloc _).alloc _) (FX.out) Tryz.underlying164 rfl (by kernel_rfl)) ?_
 try simp only [Act.put,aA,aZ,aS]
 refine tkw 2 rfl (YieldsG.load (by rfl) _ _ rfl w.heap.size 0 rfl ([.int .u64 18446744069414583343,.int .u64 18446744073709551615,.int .u64 18446744073709551615,.int .u64 18446744073709551615,.int .u64 4294968273,.int .u64 0,.int .u64 0]) _ (Blk.lt ((((Blk.new w _ _).alloc _).alloc _).alloc _)) (Blk.range ((((Blk.new w _ _).alloc _).alloc _).alloc _)) Tryz.underlying169 rfl (by kernel_rfl)) ?_
 try simp only [Act.put,aA,aZ,aS]
 refine tkw 3 rfl (YieldsG.loadF (by rfl) _ _ rfl (w.heap.size+2) rfl (y) _ _ ((blk_new3 w _ _ _ _).alloc _) (FY.out) Tryz.underlying164 rfl (by kernel_rfl)) ?_
 try simp only [Act.put,aA,aZ,aS]
 refine tkw 4 rfl (YieldsG.call (v:=fv g) (by rfl) 171 _ (λw9=>by go_simp; try (first | with_reducible rfl | rfl)) (λw9 h9=>cG w9)) ?_
 try simp only [Act.put,aA,aZ,aS]
 refine tkw 5 rfl (YieldsG.call (v:=fv z) (by rfl) 186 _ (λw9=>by go_simp; try (first | with_reducible rfl | rfl)) (λw9 h9=>cA w9)) ?_
 try simp only [Act.put,aA,aZ,aS]
 refine wpAnyG_store 6 rfl (by kernel_rfl) (by rfl) _ _ _ rfl (w.heap.size+3) (fcs (z)) rfl rfl _ _ (blk_new4 w _ _ _ _ _) (by kernel_rfl) (by rfl) (fcs_one _) rfl (λw6 h6 w7 hB7 hL7=>?_)
 try simp only [Act.put]
 refine wpAnyG_done (by kernel_rfl) (λw8 h8=>?_)
 have hfin:=Gr.blk h8 hL7
 have hb9:=(Below.gr (below_alloc4 w _ _ _ _) h6).trans ((hB7 _ (by omega)).trans (Below.mono h8 (by have:=hL7.lt; omega)))
 go_wp2
 exact bodyPost_ret (results_cell_row rfl _ _ (w.heap.size+3) _ _ (0,0) _ rfl hfin Tryz.underlying164 rfl (by kernel_rfl)) rfl ⟨rfl,hb9⟩
end
end
section
namespace Fz
open Go.RowKit Go.Lib Sy
set_option maxHeartbeats 4000000 in
set_option maxRecDepth 100000 in
theorem mulZ (w:World) (M:Nat) (lw:Nat→Nat) (hlw:∀ t,lw t<18446744073709551616) (hM0:0<M) (hM:M+vR lw 3=18446744073709551616 ^ 4) (hnorm:∀ w x,x<(2^256)→Calls Tryz.prog 167 #[.agg (modc M lw),fv x] w (Gets w (fv (x%M)))) (x y:Nat) (hx:x<(2^256)) (hy:y<(2^256)):Calls Tryz.prog 182 #[.agg (modc M lw),fv x,fv y] w (Gets w (fv (x*y%M))):=by
 refine Sy.enter (args:=[.agg (modc M lw),fv x,fv y]) Tryz.func182 rfl kL ?_
 refine sC ?_
 refine sM 169 (modc M lw) (λg0=>?_)
 refine sM 164 (fcs x) (λg1=>?_)
 refine sM 164 (fcs y) (λg2=>?_)
 refine sM 164 (fcs 0) (λg3=>?_)
 refine sA ?_
 refine Sy.make kR 178 (rw8 (λ_=>0)) ptr kF (λg4=>?_)
 refine sG<|Sy.seq<|sC ?_
 refine sP (.int .i64 0) ?_
 refine sG<|Sy.block ?_
 refine Sy.loopX (T:=Nat→Nat) 4 (λk1 y1=>[(3,.pointer (some ⟨g0,0,none⟩)),(4,.pointer (some ⟨g1,0,none⟩)),(5,.pointer (some ⟨g2,0,none⟩)),(6,.pointer (some ⟨g3,0,none⟩)),(7,.pointer (some ⟨g4,0,none⟩)),(8,.int .i64 ((k1:Nat):Int))]) (λk1 y1=>[(g0,169,(modc M lw)),(g1,164,(fcs x)),(g2,164,(fcs y)),(g3,164,(fcs 0)),(g4,178,(rw8 y1))]) (λk1 y1=>(∀ t,y1 t<18446744073709551616)∧vR y1 8=vR (wd x) k1*vR (wd y) 4∧∀ t,k1+4≤t→y1 t=0) (λ_=>0) [true,true,true,true,true] (⟨λ_=>by show (0:Nat)<18446744073709551616; decide,by rw [vR_zero]; exact (Nat.zero_mul _).symm,λ_ _=>rfl⟩) (all_cons kR (all_cons kR (all_cons kR (all_cons kR (all_cons kR (all_cons kR all_nil)))))) kR (λk1 y1 hk1 hh1=>?_)
 refine Sy.seq<|sC ?_
 refine sP (.int .i64 ((k1:Nat):Int)) ?_
 obtain ⟨b1,hb1⟩:∃ z:Bool,z=decide (k1<4):=⟨_,rfl⟩
 refine sS (.bool b1) (Quiet.pure (exec_int .lss _ _ _ .i64 _ _ _ rfl rfl rfl (int_lss _ _ _ _ _ (by rw [hb1]; exact decide_eq_decide.2 (by omega))))) ?_
 refine sG ?_
 cases b1
 ·have lb1:¬ (k1<4):=of_decide_eq_false hb1.symm
  refine sU<|Sy.exit<|Sy.then_exit<|Sy.then_exit ?_
  obtain rfl:k1=4:=by omega
  refine Sy.in_exit<|sB ?_
  refine sS (.agg (modc M lw)) (qL 0 g0 0 7 169 169 (modc M lw) rfl Tryz.underlying169)<|sS (.agg (rw8 y1)) (Quiet.load 4 g4 0 8 178 178 (rw8 y1) _ _ rfl kR kR Tryz.underlying178 rfl kR _ kR kL)<|sS (fv (vR y1 8%M)) (qF 189 #[.agg (modc M lw),.agg (rw8 y1)] (λw=>foldZ w M lw hlw hM0 hM hnorm y1 hh1.1))<|sW 3 g3 164 (fcs 0) (fcs (vR y1 8%M)) (wS 0 164 (fcs (vR y1 8%M)) rfl) ?_
  refine sG<|Sy.ret ?_
  rw [show (fv (x*y%M):Value)=fv (vR y1 8%M) from by rw [hh1.2.1,wd4 hx,wd4 hy]]
  exact rC (v:=fv (vR y1 8%M)) 164 g3 3 (fcs (vR y1 8%M)) rfl Tryz.underlying164
 ·have lb1:k1<4:=of_decide_eq_true hb1.symm
  refine sT<|Sy.skip<|Sy.then_<|Sy.seq<|Sy.block<|sC ?_
  refine sP (.int .u64 0) ?_
  refine sG<|Sy.seq<|sC ?_
  refine sP (.int .i64 0) ?_
  refine sG<|Sy.block ?_
  refine Sy.loopX (T:=(Nat→Nat)×Nat) 4 (λk2 y2=>[(3,.pointer (some ⟨g0,0,none⟩)),(4,.pointer (some ⟨g1,0,none⟩)),(5,.pointer (some ⟨g2,0,none⟩)),(6,.pointer (some ⟨g3,0,none⟩)),(7,.pointer (some ⟨g4,0,none⟩)),(8,.int .i64 ((k1:Nat):Int)),(9,.int .u64 ((y2.2:Nat):Int)),(10,.int .i64 ((k2:Nat):Int))]) (λk2 y2=>[(g0,169,(modc M lw)),(g1,164,(fcs x)),(g2,164,(fcs y)),(g3,164,(fcs 0)),(g4,178,(rw8 y2.1))]) (λk2 y2=>(∀ t,y2.1 t<18446744073709551616)∧y2.2<18446744073709551616∧vR y2.1 8+y2.2*18446744073709551616 ^ (k1+k2)=vR y1 8+wd x k1*vR (wd y) k2*18446744073709551616 ^ k1∧∀ t,k1+4≤t→y2.1 t=0) (y1,0) [true,true,true,true,true] (⟨hh1.1,by show (0:Nat)<18446744073709551616; decide,by show vR y1 8+0*_=_+_*0*_; omega,hh1.2.2⟩) (all_cons kR (all_cons kR (all_cons kR (all_cons kR (all_cons kR (all_cons kR (all_cons kR (all_cons kR all_nil)))))))) kR (λk2 y2 hk2 hh2=>?_)
  refine Sy.seq<|sC ?_
  refine sP (.int .i64 ((k2:Nat):Int)) ?_
  obtain ⟨b2,hb2⟩:∃ z:Bool,z=decide (k2<4):=⟨_,rfl⟩
  refine sS (.bool b2) (Quiet.pure (exec_int .lss _ _ _ .i64 _ _ _ rfl rfl rfl (int_lss _ _ _ _ _ (by rw [hb2]; exact decide_eq_decide.2 (by omega))))) ?_
  refine sG ?_
  cases b2
  ·have lb2:¬ (k2<4):=of_decide_eq_false hb2.symm
   refine sU<|Sy.exit<|Sy.then_exit<|Sy.then_exit ?_
   obtain rfl:k2=4:=by omega
   refine Sy.in_exit<|Sy.then_<|Sy.region ?_
   refine sP (.int .i64 ((k1:Nat):Int))<|sS (.int .i64 ((k1+4:Nat):Int)) (Quiet.pure (exec_int .add _ _ _ .i64 _ _ _ rfl rfl rfl (int_add _ _ _ _ _ ((wrap_i64 (by omega) (by omega)).trans (by omega)))))<|sP (.int .u64 ((y2.2:Nat):Int))<|sS (.pointer (some ⟨g4,0+(k1+4)*1,none⟩)) (Quiet.pure (exec_atA 178 _ _ _ g4 0 _ (k1+4) 1 .i64 rfl rfl rfl Tryz.underlying178 kF (by omega))) ?_
   refine Sy.write kR 4 g4 178 (rw8 y2.1) (rw8 (upd y2.1 (k1+4) y2.2)) kR (Writes.one (0+(k1+4)*1) 26 (.int .u64 ((y2.2:Nat):Int)) _ _ rfl kR kR kR rfl rfl (rw8_fit _ (k:=k1+4) (by omega) (by omega)) (rw8_set _ _ (by omega) (by omega))) ?_
   refine Sy.nil<|Sy.in_<|Sy.then_<|Sy.region ?_
   refine sP (.int .i64 ((k1:Nat):Int))<|sS (.int .i64 ((k1+1:Nat):Int)) (Quiet.pure (exec_int .add _ _ _ .i64 _ _ _ rfl rfl rfl (int_add _ _ _ _ _ ((wrap_i64 (by omega) (by omega)).trans (by omega)))))<|sP (.int .i64 ((k1+1:Nat):Int)) ?_
   refine Sy.nil ?_
   have hq:=outerM hh1.2.1 hh2.2.2.1 (hh2.2.2.2 _ (Nat.le_refl _)) (by omega)
   exact Sy.againX (upd y2.1 (k1+4) y2.2) [true,true,true,true,true] (by omega) (⟨upd_lt hh2.1 hh2.2.1,hq,λt ht=>(upd_ne (by omega)).trans (hh2.2.2.2 t (by omega))⟩) (all_cons kR (all_cons kR (all_cons kR (all_cons kR (all_cons kR (all_cons kR all_nil)))))) kR
  ·have lb2:k2<4:=of_decide_eq_true hb2.symm
   refine sT<|Sy.skip<|Sy.then_<|Sy.seq<|Sy.block<|Sy.seq ?_
   refine Sy.regionD (λj=>false) kR ?_
   refine sZ 0 rfl (.int .i64 ((k1:Nat):Int))<|sD 1 rfl (.pointer (some ⟨g1,0+k1*1,none⟩)) (Quiet.pure (exec_atA 164 _ _ _ g1 0 _ k1 1 .i64 rfl rfl rfl Tryz.underlying164 kF (by omega)))<|sD 2 rfl (.int .u64 ((wd x k1:Nat):Int)) (Quiet.cell 1 g1 (0+k1*1) 164 26 (fcs x) _ _ rfl kR kR Tryz.underlying26 rfl _ (fcs_at x (k:=k1) (by omega) (by omega)))<|sZ 3 rfl (.int .i64 ((k2:Nat):Int))<|sD 4 rfl (.pointer (some ⟨g2,0+k2*1,none⟩)) (Quiet.pure (exec_atA 164 _ _ _ g2 0 _ k2 1 .i64 rfl rfl rfl Tryz.underlying164 kF (by omega)))<|sD 5 rfl (.int .u64 ((wd y k2:Nat):Int)) (Quiet.cell 2 g2 (0+k2*1) 164 26 (fcs y) _ _ rfl kR kR Tryz.underlying26 rfl _ (fcs_at y (k:=k2) (by omega) (by omega))) ?_
   obtain ⟨hi1,lo1,llo1,elo1⟩:=two_words (wd x k1) (wd y k2)
   refine sD 6 rfl (.tuple #[.int .u64 ((hi1:Nat):Int),.int .u64 ((lo1:Nat):Int)]) (qF 139 #[.int .u64 ((wd x k1:Nat):Int),.int .u64 ((wd y k2:Nat):Int)] (λw=>mulZ_any w (wd x k1) (wd y k2) hi1 lo1 (by first | assumption | exact wd_lt _ _ | exact hh1.1 _ | exact hh2.1 _ | exact hh2.2.1 | decide) (by first | assumption | exact wd_lt _ _ | exact hh1.1 _ | exact hh2.1 _ | exact hh2.2.1 | decide) llo1 elo1))<|sZ 7 rfl (.tuple #[.int .u64 ((hi1:Nat):Int),.int .u64 ((lo1:Nat):Int)])<|sZ 8 rfl (.int .u64 ((hi1:Nat):Int))<|sZ 9 rfl (.int .u64 ((lo1:Nat):Int))<|sZ 10 rfl (.int .u64 ((hi1:Nat):Int))<|sZ 11 rfl (.int .u64 ((lo1:Nat):Int)) ?_
   refine sE ?_
   refine sB ?_
   refine sP (.int .u64 ((lo1:Nat):Int))<|sP (.int .i64 ((k1:Nat):Int))<|sP (.int .i64 ((k2:Nat):Int))<|sS (.int .i64 ((k1+k2:Nat):Int)) (Quiet.pure (exec_int .add _ _ _ .i64 _ _ _ rfl rfl rfl (int_add _ _ _ _ _ ((wrap_i64 (by omega) (by omega)).trans (by omega)))))<|sS (.pointer (some ⟨g4,0+(k1+k2)*1,none⟩)) (Quiet.pure (exec_atA 178 _ _ _ g4 0 _ (k1+k2) 1 .i64 rfl rfl rfl Tryz.underlying178 kF (by omega)))<|sS (.int .u64 ((y2.1 (k1+k2):Nat):Int)) (Quiet.cell 4 g4 (0+(k1+k2)*1) 178 26 (rw8 y2.1) _ _ rfl kR kR Tryz.underlying26 rfl _ (rw8_at y2.1 (k:=k1+k2) (by omega) (by omega))) ?_
   obtain ⟨x1,c1,lx1,lc1,ex1,rx1⟩:=add0_ex (lo1) (y2.1 (k1+k2)) (by first | assumption | exact wd_lt _ _ | exact hh1.1 _ | exact hh2.1 _ | exact hh2.2.1 | decide) (by first | assumption | exact wd_lt _ _ | exact hh1.1 _ | exact hh2.1 _ | exact hh2.2.1 | decide)
   refine sS (.tuple #[.int .u64 ((x1:Nat):Int),.int .u64 ((c1:Nat):Int)]) (Quiet.pure (λw=>Eq.trans kR (rx1 w)))<|sP (.tuple #[.int .u64 ((x1:Nat):Int),.int .u64 ((c1:Nat):Int)])<|sP (.int .u64 ((x1:Nat):Int))<|sP (.int .u64 ((c1:Nat):Int))<|sP (.int .u64 ((x1:Nat):Int))<|sP (.int .u64 ((c1:Nat):Int)) ?_
   refine sA ?_
   refine sP (.int .u64 ((x1:Nat):Int))<|sP (.int .u64 ((y2.2:Nat):Int)) ?_
   obtain ⟨x2,c2,lx2,lc2,ex2,rx2⟩:=add0_ex (x1) (y2.2) (by first | assumption | exact wd_lt _ _ | exact hh1.1 _ | exact hh2.1 _ | exact hh2.2.1 | decide) (by first | assumption | exact wd_lt _ _ | exact hh1.1 _ | exact hh2.1 _ | exact hh2.2.1 | decide)
   refine sS (.tuple #[.int .u64 ((x2:Nat):Int),.int .u64 ((c2:Nat):Int)]) (Quiet.pure (λw=>Eq.trans kR (rx2 w)))<|sP (.tuple #[.int .u64 ((x2:Nat):Int),.int .u64 ((c2:Nat):Int)])<|sP (.int .u64 ((x2:Nat):Int))<|sP (.int .u64 ((c2:Nat):Int))<|sP (.int .u64 ((x2:Nat):Int))<|sP (.int .u64 ((c2:Nat):Int)) ?_
   refine sA ?_
   refine sP (.int .i64 ((k1:Nat):Int))<|sP (.int .i64 ((k2:Nat):Int))<|sS (.int .i64 ((k1+k2:Nat):Int)) (Quiet.pure (exec_int .add _ _ _ .i64 _ _ _ rfl rfl rfl (int_add _ _ _ _ _ ((wrap_i64 (by omega) (by omega)).trans (by omega)))))<|sP (.int .u64 ((x2:Nat):Int))<|sS (.pointer (some ⟨g4,0+(k1+k2)*1,none⟩)) (Quiet.pure (exec_atA 178 _ _ _ g4 0 _ (k1+k2) 1 .i64 rfl rfl rfl Tryz.underlying178 kF (by omega))) ?_
   refine Sy.write kR 4 g4 178 (rw8 y2.1) (rw8 (upd y2.1 (k1+k2) x2)) kR (Writes.one (0+(k1+k2)*1) 26 (.int .u64 ((x2:Nat):Int)) _ _ rfl kR kR kR rfl rfl (rw8_fit _ (k:=k1+k2) (by omega) (by omega)) (rw8_set _ _ (by omega) (by omega))) ?_
   refine sG<|Sy.region ?_
   refine sP (.int .u64 ((hi1:Nat):Int))<|sP (.int .u64 ((c1:Nat):Int)) ?_
   have hst:=stepZ elo1 ex1 ex2
   have hcar:=carryZ hst (by first | assumption | exact wd_lt _ _ | exact hh1.1 _ | exact hh2.1 _ | exact hh2.2.1 | decide) (by first | assumption | exact wd_lt _ _ | exact hh1.1 _ | exact hh2.1 _ | exact hh2.2.1 | decide) (by first | assumption | exact wd_lt _ _ | exact hh1.1 _ | exact hh2.1 _ | exact hh2.2.1 | decide) hh2.2.1
   refine sS (.int .u64 ((hi1+c1:Nat):Int)) (Quiet.pure (exec_int .add _ _ _ .u64 _ _ _ rfl rfl rfl (int_add _ _ _ _ _ ((wrap_u64 (by omega) (by omega)).trans (by omega)))))<|sP (.int .u64 ((c2:Nat):Int))<|sS (.int .u64 (((hi1+c1)+c2:Nat):Int)) (Quiet.pure (exec_int .add _ _ _ .u64 _ _ _ rfl rfl rfl (int_add _ _ _ _ _ ((wrap_u64 (by omega) (by omega)).trans (by omega)))))<|sP (.int .u64 (((hi1+c1)+c2:Nat):Int)) ?_
   refine Sy.nil<|Sy.in_<|Sy.then_<|Sy.region ?_
   refine sP (.int .i64 ((k2:Nat):Int))<|sS (.int .i64 ((k2+1:Nat):Int)) (Quiet.pure (exec_int .add _ _ _ .i64 _ _ _ rfl rfl rfl (int_add _ _ _ _ _ ((wrap_i64 (by omega) (by omega)).trans (by omega)))))<|sP (.int .i64 ((k2+1:Nat):Int)) ?_
   refine Sy.nil ?_
   have hin:=innerZ (vR_upd y2.1 (k1+k2) x2 8 (by omega)) hh2.2.2.1 hst (P0:=18446744073709551616 ^ k2) (by rw [Nat.add_comm,Nat.pow_add])
   exact Sy.againX ((upd y2.1 (k1+k2) x2,hi1+c1+c2)) [true,true,true,true,true] (by omega) (⟨upd_lt hh2.1 lx2,hcar,by rw [← Nat.add_assoc,Nat.pow_succ]; exact hin,λt ht=>(upd_ne (by omega)).trans (hh2.2.2.2 t ht)⟩) (all_cons kR (all_cons kR (all_cons kR (all_cons kR (all_cons kR (all_cons kR (all_cons kR (all_cons kR all_nil)))))))) kR
end Fz
end
section
section
open Go.RowKit Go.Lib
theorem mulR_any (w:World) (x y:Nat) (hx:x<(2^256)) (hy:y<(2^256)):Calls Tryz.prog 182 #[.agg #[.int .u64 18446744069414583343,.int .u64 18446744073709551615,.int .u64 18446744073709551615,.int .u64 18446744073709551615,.int .u64 4294968273,.int .u64 0,.int .u64 0],fv x,fv y] w λe w'=>e=.returned (fv (mulP x y))∧Below w.heap.size w w':=by
 have h:=Fz.mulZ w pM lackW lackW_lt pM_pos0 lack_sum (λw x hx=>by rw [mod_row]; exact normR_any w x hx) x y hx hy
 rw [mod_row] at h
 exact h
end
end
section
namespace Fz
open Go.RowKit Go.Lib Sy
def msk (j:Nat):Nat:=9223372036854775808 / 2 ^ j
theorem msk_next (j:Nat):msk j / 2=msk (j+1):=by unfold msk; rw [Nat.div_div_eq_div_mul, ← Nat.pow_succ]
theorem msk_is {j:Nat} (h:j≤63):msk j=2 ^ (63 - j):=by
 unfold msk
 have e:(9223372036854775808:Nat)=2 ^ (63 - j)*2 ^ j:=by rw [← Nat.pow_add,show 63 - j+j=63 by omega]
 rw [e]
 exact Nat.mul_div_cancel _ (Nat.two_pow_pos j)
theorem msk_pos {j:Nat} (h:j<64):0<msk j:=by rw [msk_is (by omega)]; exact Nat.two_pow_pos _
theorem msk_end:msk 64=0:=by decide
theorem msk_lt (j:Nat):msk j<18446744073709551616:=Nat.lt_of_le_of_lt (Nat.div_le_self _ _) (by decide)
theorem div_word2 (a r s:Nat) (hs:s≤63):(a+18446744073709551616*r) / 2 ^ s%2=a / 2 ^ s%2:=by
 obtain ⟨u,hu⟩:∃ u,2 ^ s*(2*u)=18446744073709551616:=by
  refine ⟨2 ^ (63 - s),?_⟩
  have:2 ^ s*2 ^ (63 - s)=2 ^ 63:=by rw [← Nat.pow_add]; congr 1; omega
  rw [show (2:Nat)*2 ^ (63 - s)=2 ^ (63 - s)*2 from Nat.mul_comm _ _, ← Nat.mul_assoc,this]
 rw [← hu,Nat.mul_assoc,Nat.add_mul_div_left _ _ (Nat.two_pow_pos s),Nat.mul_assoc,Nat.add_mul_mod_self_left]
theorem next_digit (e i s w r:Nat) (hz:e / 2 ^ (64*i)=w+18446744073709551616*r) (hs:s≤63):e / 2 ^ (64*i+s)=2*(e / 2 ^ (64*i+(s+1)))+w / 2 ^ s%2:=by
 have h1:e / 2 ^ (64*i+s)%2=w / 2 ^ s%2:=by
  rw [Nat.pow_add, ← Nat.div_div_eq_div_mul,hz,div_word2 w r s hs]
 have h2:e / 2 ^ (64*i+(s+1))=e / 2 ^ (64*i+s) / 2:=by
  rw [← Nat.add_assoc,Nat.pow_succ,Nat.div_div_eq_div_mul]
 rw [h2, ← h1]
 omega
theorem wd_digit (e i s:Nat) (hs:s≤63):e / 2 ^ (64*i+s)=2*(e / 2 ^ (64*i+(s+1)))+wd e i / 2 ^ s%2 :=
 next_digit e i s (wd e i) (e / 18446744073709551616 ^ i / 18446744073709551616) (by
  unfold wd
  rw [Nat.mod_add_div,Nat.pow_mul]) hs
theorem and_zero (a s:Nat):a &&& 2 ^ s=0↔a / 2 ^ s%2=0:=by
 have hb:a.testBit s=decide (a / 2 ^ s%2=1):=Nat.testBit_eq_decide_div_mod_eq
 constructor
 ·intro h
  have h2:(a &&& 2 ^ s).testBit s=false:=by rw [h]; simp
  rw [Nat.testBit_and,Nat.testBit_two_pow_self,Bool.and_true,hb] at h2
  have h3:¬ a / 2 ^ s%2=1:=by simpa using h2
  omega
 ·intro h
  have h2:a.testBit s=false:=by rw [hb]; simp; omega
  refine Nat.eq_of_testBit_eq λj=>?_
  rw [Nat.testBit_and,Nat.zero_testBit,Nat.testBit_two_pow]
  by_cases hj:s=j
  ·subst hj; simp [h2]
  ·simp [hj]
theorem and_nat (a b:Nat) (ha:a<18446744073709551616) (hb:b<18446744073709551616):IntKind.u64.wrap ((BitVec.ofInt IntKind.u64.bits (a:Int) &&& BitVec.ofInt IntKind.u64.bits (b:Int)).toNat:Int)=((a &&& b:Nat):Int):=by
 have hl:a &&& b<18446744073709551616:=Nat.lt_of_le_of_lt Nat.and_le_left ha
 have hw2:(BitVec.ofInt 64 (a:Int) &&& BitVec.ofInt 64 (b:Int)).toNat=a &&& b:=by
  rw [BitVec.toNat_and]
  simp only [BitVec.ofInt_natCast,BitVec.toNat_ofNat]
  rw [Nat.mod_eq_of_lt (by omega),Nat.mod_eq_of_lt (by omega)]
 show IntKind.u64.wrap ((BitVec.ofInt 64 (a:Int) &&& BitVec.ofInt 64 (b:Int)).toNat:Int)=_
 rw [hw2,wrap_u64 (by omega) (by omega)]
theorem half (a:Nat) (ha:a<18446744073709551616):IntKind.u64.wrap ((a:Int).tdiv 2)=((a / 2:Nat):Int):=by
 have e:(a:Int).tdiv 2=((a / 2:Nat):Int):=rfl
 rw [e,wrap_u64 (by omega) (by omega)]
def pz (M x e i s:Nat):Nat:=x ^ (e / 2 ^ (64*i+s))%M
theorem pz_even {M x e i j:Nat} (hj:j<64) (h:wd e i / 2 ^ (63 - j)%2=0):pz M x e i (64 - j)*pz M x e i (64 - j)%M=pz M x e i (64 - (j+1)):=by
 have q:=wd_digit e i (63 - j) (by omega)
 rw [h,Nat.add_zero,show 63 - j+1=64 - j by omega] at q
 unfold pz
 rw [show 64 - (j+1)=63 - j by omega,q, ← Nat.mul_mod, ← Nat.pow_add,Nat.two_mul]
theorem pz_odd {M x e i j:Nat} (hj:j<64) (h:¬ wd e i / 2 ^ (63 - j)%2=0):pz M x e i (64 - j)*pz M x e i (64 - j)%M*x%M=pz M x e i (64 - (j+1)):=by
 have q:=wd_digit e i (63 - j) (by omega)
 rw [show wd e i / 2 ^ (63 - j)%2=1 by omega,show 63 - j+1=64 - j by omega] at q
 unfold pz
 rw [show 64 - (j+1)=63 - j by omega,q, ← Nat.mul_mod, ← Nat.pow_add,Nat.mod_mul_mod, ← Nat.pow_succ,Nat.two_mul]
theorem pz_word {M x e i:Nat}:pz M x e (i+1) 0=pz M x e i 64:=by unfold pz; rw [Nat.add_zero,Nat.mul_add,Nat.mul_one]
theorem pz_first {M x e:Nat} (he:e<(2^256)) (hM:1<M):pz M x e 4 0=1:=by
 unfold pz
 rw [Nat.div_eq_of_lt (by rw [show 64*4+0=256 from rfl]; omega),Nat.pow_zero,Nat.mod_eq_of_lt hM]
theorem pz_last {M x e:Nat}:pz M x e 0 0=x ^ e%M:=by
 unfold pz
 rw [show 64*0+0=0 from rfl,Nat.pow_zero,Nat.div_one]
set_option maxHeartbeats 4000000 in
set_option maxRecDepth 100000 in
theorem powZ (w:World) (M:Nat) (lw:Nat→Nat) (hlw:∀ t,lw t<18446744073709551616) (hM0:0<M) (hM1:1<M) (hM:M+vR lw 3=18446744073709551616 ^ 4) (hM4:M≤(2^256)) (hnorm:∀ w x,x<(2^256)→Calls Tryz.prog 167 #[.agg (modc M lw),fv x] w (Gets w (fv (x%M)))) (hsmall:∀ w,Calls Tryz.prog 180 #[.int .u64 1] w (Gets w (fv 1))) (x e:Nat) (hx:x<(2^256)) (he:e<(2^256)):Calls Tryz.prog 181 #[.agg (modc M lw),fv x,fv e] w (Gets w (fv (x ^ e%M))):=by
 refine Sy.enter (args:=[.agg (modc M lw),fv x,fv e]) Tryz.func181 rfl kL ?_
 refine sC ?_
 refine sM 169 (modc M lw) (λg0=>?_)
 refine sM 164 (fcs x) (λg1=>?_)
 refine sM 164 (fcs e) (λg2=>?_)
 refine sM 164 (fcs 0) (λg3=>?_)
 refine sA ?_
 refine sS (fv 1) (qF 180 #[.int .u64 1] (λw=>hsmall w)) ?_
 refine sM 164 (fcs 0) (λg4=>?_)
 refine sW 4 g4 164 (fcs 0) (fcs 1) (wS 0 164 (fcs 1) rfl) ?_
 refine sG<|Sy.seq<|sC ?_
 refine sP (.int .i64 3) ?_
 refine sG<|Sy.block ?_
 refine Sy.loopX (T:=Int×Nat) 4 (λk1 y1=>[(3,.pointer (some ⟨g0,0,none⟩)),(4,.pointer (some ⟨g1,0,none⟩)),(5,.pointer (some ⟨g2,0,none⟩)),(6,.pointer (some ⟨g3,0,none⟩)),(7,.pointer (some ⟨g4,0,none⟩)),(8,.int .i64 y1.1)]) (λk1 y1=>[(g0,169,(modc M lw)),(g1,164,(fcs x)),(g2,164,(fcs e)),(g3,164,(fcs 0)),(g4,164,(fcs y1.2))]) (λk1 y1=>y1.1=3 - ((k1:Nat):Int)∧y1.2=pz M x e (4 - k1) 0) ((3:Int),1) [true,true,true,true,true] (⟨rfl,(pz_first he hM1).symm⟩) (all_cons kR (all_cons kR (all_cons kR (all_cons kR (all_cons kR (all_cons kR all_nil)))))) kR (λk1 y1 hk1 hh1=>?_)
 refine Sy.seq<|sC ?_
 refine sP (.int .i64 y1.1) ?_
 obtain ⟨b1,hb1⟩:∃ z:Bool,z=decide (y1.1 ≥ 0):=⟨_,rfl⟩
 refine sS (.bool b1) (Quiet.pure (exec_int .geq _ _ _ .i64 _ _ _ rfl rfl rfl (int_geq _ _ _ _ _ hb1.symm))) ?_
 refine sG ?_
 cases b1
 ·have lb1:¬ (y1.1 ≥ 0):=of_decide_eq_false hb1.symm
  refine sU<|Sy.exit<|Sy.then_exit<|Sy.then_exit ?_
  obtain rfl:k1=4:=by omega
  refine Sy.in_exit<|sB ?_
  refine sS (fv y1.2) (qL 4 g4 0 4 164 164 (fcs y1.2) rfl Tryz.underlying164)<|sW 3 g3 164 (fcs 0) (fcs y1.2) (wS 0 164 (fcs y1.2) rfl) ?_
  refine sG<|Sy.ret ?_
  rw [show (fv (x ^ e%M):Value)=fv y1.2 from by rw [hh1.2,show 4 - 4=0 from rfl,pz_last]]
  exact rC (v:=fv y1.2) 164 g3 3 (fcs y1.2) rfl Tryz.underlying164
 ·have lb1:y1.1 ≥ 0:=of_decide_eq_true hb1.symm
  have hq0:=hh1.1
  obtain ⟨q1,hq1⟩:∃ q:Nat,y1.1=(q:Int):=⟨y1.1.toNat,by omega⟩
  have hqk:q1+k1=3:=by omega
  refine sT<|Sy.skip<|Sy.then_<|Sy.seq<|Sy.block<|sC ?_
  refine sP (.int .u64 9223372036854775808) ?_
  refine sG<|Sy.block ?_
  refine Sy.loopX (T:=Nat×Nat) 64 (λk2 y2=>[(3,.pointer (some ⟨g0,0,none⟩)),(4,.pointer (some ⟨g1,0,none⟩)),(5,.pointer (some ⟨g2,0,none⟩)),(6,.pointer (some ⟨g3,0,none⟩)),(7,.pointer (some ⟨g4,0,none⟩)),(8,.int .i64 y1.1),(9,.int .u64 ((y2.1:Nat):Int))]) (λk2 y2=>[(g0,169,(modc M lw)),(g1,164,(fcs x)),(g2,164,(fcs e)),(g3,164,(fcs 0)),(g4,164,(fcs y2.2))]) (λk2 y2=>y2.1=msk k2∧y2.2=pz M x e q1 (64 - k2)) (9223372036854775808,y1.2) [true,true,true,true,true] (⟨rfl,by show y1.2=_; rw [hh1.2,show 4 - k1=q1+1 by omega]; exact pz_word⟩) (all_cons kR (all_cons kR (all_cons kR (all_cons kR (all_cons kR (all_cons kR (all_cons kR all_nil))))))) kR (λk2 y2 hk2 hh2=>?_)
  refine Sy.seq<|sC ?_
  refine sP (.int .u64 ((y2.1:Nat):Int)) ?_
  obtain ⟨b2,hb2⟩:∃ z:Bool,z=decide (y2.1>0):=⟨_,rfl⟩
  refine sS (.bool b2) (Quiet.pure (exec_int .gtr _ _ _ .u64 _ _ _ rfl rfl rfl (int_gtr _ _ _ _ _ (by rw [hb2]; exact decide_eq_decide.2 (by omega))))) ?_
  refine sG ?_
  cases b2
  ·have lb2:¬ (y2.1>0):=of_decide_eq_false hb2.symm
   have hk64:¬ k2<64:=λh=>by have:=msk_pos h; have:=hh2.1; omega
   refine sU<|Sy.exit<|Sy.then_exit<|Sy.then_exit ?_
   obtain rfl:k2=64:=by omega
   refine Sy.in_exit<|Sy.in_<|Sy.then_<|Sy.region ?_
   refine sP (.int .i64 y1.1)<|sS (.int .i64 (y1.1 - 1)) (Quiet.pure (exec_int .sub _ _ _ .i64 _ _ _ rfl rfl rfl (int_sub _ _ _ _ _ (wrap_i64 (by omega) (by omega)))))<|sP (.int .i64 (y1.1 - 1)) ?_
   refine Sy.nil ?_
   have hq:=hh1.1
   exact Sy.againX ((y1.1 - 1,y2.2)) [true,true,true,true,true] (by have:=hh1.1; omega) (⟨by show y1.1 - 1=_; omega,by show y2.2=_; rw [hh2.2,show 4 - (k1+1)=q1 by omega,show 64 - 64=0 from rfl]⟩) (all_cons kR (all_cons kR (all_cons kR (all_cons kR (all_cons kR (all_cons kR all_nil)))))) kR
  ·have lb2:y2.1>0:=of_decide_eq_true hb2.symm
   have hk64:k2<64:=by
    rcases Nat.lt_or_ge k2 64 with h | h
    ·exact h
    ·have e:k2=64:=by omega
     have:=hh2.1
     rw [e,msk_end] at this
     omega
   refine sT<|Sy.skip<|Sy.then_<|Sy.seq<|Sy.block<|sC ?_
   refine sS (.agg (modc M lw)) (qL 0 g0 0 7 169 169 (modc M lw) rfl Tryz.underlying169)<|sS (fv y2.2) (qL 4 g4 0 4 164 164 (fcs y2.2) rfl Tryz.underlying164)<|sS (fv y2.2) (qL 4 g4 0 4 164 164 (fcs y2.2) rfl Tryz.underlying164)<|sS (fv (y2.2*y2.2%M)) (qF 182 #[.agg (modc M lw),fv y2.2,fv y2.2] (λw=>mulZ w M lw hlw hM0 hM hnorm (y2.2) (y2.2) (by first | assumption | exact Nat.lt_of_lt_of_le (Nat.mod_lt _ hM0) hM4 | (rw [hh2.2]; exact Nat.lt_of_lt_of_le (Nat.mod_lt _ hM0) hM4)) (by first | assumption | exact Nat.lt_of_lt_of_le (Nat.mod_lt _ hM0) hM4 | (rw [hh2.2]; exact Nat.lt_of_lt_of_le (Nat.mod_lt _ hM0) hM4))))<|sW 4 g4 164 (fcs y2.2) (fcs (y2.2*y2.2%M)) (wS 0 164 (fcs (y2.2*y2.2%M)) rfl) ?_
   refine sA ?_
   refine sP (.int .i64 y1.1)<|sS (.pointer (some ⟨g2,0+q1*1,none⟩)) (Quiet.pure (exec_atA 164 _ _ _ g2 0 _ q1 1 .i64 rfl rfl (show Value.int .i64 y1.1=.int .i64 ((q1:Nat):Int) from by rw [hq1]) Tryz.underlying164 kF (by omega)))<|sS (.int .u64 ((wd e q1:Nat):Int)) (Quiet.cell 2 g2 (0+q1*1) 164 26 (fcs e) _ _ rfl kR kR Tryz.underlying26 rfl _ (fcs_at e (k:=q1) (by omega) (by omega)))<|sP (.int .u64 ((y2.1:Nat):Int))<|sS (.int .u64 (((wd e q1) &&& y2.1:Nat):Int)) (Quiet.pure (exec_int .and _ _ _ .u64 _ _ _ rfl rfl rfl (int_and _ _ _ _ _ (and_nat _ _ (wd_lt _ _) (by rw [hh2.1]; exact msk_lt _))))) ?_
   obtain ⟨b3,hb3⟩:∃ z:Bool,z=decide ((wd e q1) &&& y2.1≠0):=⟨_,rfl⟩
   refine sS (.bool b3) (Quiet.pure (exec_int .neq _ _ _ .u64 _ _ _ rfl rfl rfl (int_neq _ _ _ _ _ (by rw [hb3]; exact decide_eq_decide.2 (by omega))))) ?_
   refine sG ?_
   cases b3
   ·have lb3:¬ ((wd e q1) &&& y2.1≠0):=of_decide_eq_false hb3.symm
    have hbit:y2.1=2 ^ (63 - k2):=hh2.1.trans (msk_is (by omega))
    have hpw:y2.2*y2.2%M=pz M x e q1 (64 - (k2+1)):=by rw [hh2.2]; exact pz_even hk64 ((and_zero _ _).1 (by have:=lb3; rw [hbit] at this; omega))
    refine sU<|Sy.skip<|Sy.in_<|Sy.then_<|Sy.region ?_
    refine sP (.int .u64 ((y2.1:Nat):Int))<|sS (.int .u64 ((y2.1 / 2:Nat):Int)) (Quiet.pure (exec_int .quo _ _ _ .u64 _ _ _ rfl rfl rfl (int_quo _ _ _ _ _ (by decide) (half _ (by rw [hh2.1]; exact msk_lt _)))))<|sP (.int .u64 ((y2.1 / 2:Nat):Int)) ?_
    refine Sy.nil ?_
    have hpz:=hpw
    exact Sy.againX ((y2.1 / 2,(y2.2*y2.2%M))) [true,true,true,true,true] (hk64) (⟨by show y2.1 / 2=_; rw [hh2.1]; exact msk_next _,by show _=_; exact hpz⟩) (all_cons kR (all_cons kR (all_cons kR (all_cons kR (all_cons kR (all_cons kR (all_cons kR all_nil))))))) kR
   ·have lb3:(wd e q1) &&& y2.1≠0:=of_decide_eq_true hb3.symm
    have hbit:y2.1=2 ^ (63 - k2):=hh2.1.trans (msk_is (by omega))
    have hpw:y2.2*y2.2%M*x%M=pz M x e q1 (64 - (k2+1)):=by rw [hh2.2]; exact pz_odd hk64 (λh=>lb3 (by rw [hbit]; exact (and_zero _ _).2 h))
    refine sT<|Sy.region ?_
    refine sS (.agg (modc M lw)) (qL 0 g0 0 7 169 169 (modc M lw) rfl Tryz.underlying169)<|sS (fv (y2.2*y2.2%M)) (qL 4 g4 0 4 164 164 (fcs (y2.2*y2.2%M)) rfl Tryz.underlying164)<|sS (fv x) (qL 1 g1 0 4 164 164 (fcs x) rfl Tryz.underlying164)<|sS (fv ((y2.2*y2.2%M)*x%M)) (qF 182 #[.agg (modc M lw),fv (y2.2*y2.2%M),fv x] (λw=>mulZ w M lw hlw hM0 hM hnorm ((y2.2*y2.2%M)) (x) (by first | assumption | exact Nat.lt_of_lt_of_le (Nat.mod_lt _ hM0) hM4 | (rw [hh2.2]; exact Nat.lt_of_lt_of_le (Nat.mod_lt _ hM0) hM4)) (by first | assumption | exact Nat.lt_of_lt_of_le (Nat.mod_lt _ hM0) hM4 | (rw [hh2.2]; exact Nat.lt_of_lt_of_le (Nat.mod_lt _ hM0) hM4))))<|sW 4 g4 164 (fcs (y2.2*y2.2%M)) (fcs ((y2.2*y2.2%M)*x%M)) (wS 0 164 (fcs ((y2.2*y2.2%M)*x%M)) rfl) ?_
    refine Sy.nil<|Sy.in_<|Sy.then_<|Sy.region ?_
    refine sP (.int .u64 ((y2.1:Nat):Int))<|sS (.int .u64 ((y2.1 / 2:Nat):Int)) (Quiet.pure (exec_int .quo _ _ _ .u64 _ _ _ rfl rfl rfl (int_quo _ _ _ _ _ (by decide) (half _ (by rw [hh2.1]; exact msk_lt _)))))<|sP (.int .u64 ((y2.1 / 2:Nat):Int)) ?_
    refine Sy.nil ?_
    have hpz:=hpw
    exact Sy.againX ((y2.1 / 2,((y2.2*y2.2%M)*x%M))) [true,true,true,true,true] (hk64) (⟨by show y2.1 / 2=_; rw [hh2.1]; exact msk_next _,by show _=_; exact hpz⟩) (all_cons kR (all_cons kR (all_cons kR (all_cons kR (all_cons kR (all_cons kR (all_cons kR all_nil))))))) kR
end Fz
end
section
section
open Go.RowKit Go.Lib
def pw (x e:Nat):Nat:=x ^ e%pM
theorem pw_lt (x e:Nat):pw x e<(2^256):=mod_lt _
theorem small_at (w:World) (n:Nat) (di:Int) (hdi:di=(n:Int)) (hn:n<18446744073709551616):Calls Tryz.prog 180 #[.int .u64 di] w λe w'=>e=.returned (fv n)∧Below w.heap.size w w':=by
 subst hdi
 rw [fv_small n hn]
 go_enter Tryz.func180,Tryz.ntmps180
 go_wp2
 exact bodyPost_ret (results_cell_row rfl _ _ w.heap.size _ _ (0,0) _ rfl (heap_alloc_new w _) Tryz.underlying164 rfl (by kernel_rfl)) rfl ⟨rfl,(Below.refl _ _).alloc (Nat.le_refl _) _⟩
theorem power_any (w:World) (x e:Nat) (hx:x<(2^256)) (he:e<(2^256)):Calls Tryz.prog 181 #[.agg #[.int .u64 18446744069414583343,.int .u64 18446744073709551615,.int .u64 18446744073709551615,.int .u64 18446744073709551615,.int .u64 4294968273,.int .u64 0,.int .u64 0],fv x,fv e] w λee w'=>ee=.returned (fv (pw x e))∧Below w.heap.size w w':=by
 have h:=Fz.powZ w pM lackW lackW_lt pM_pos0 (by decide +kernel) lack_sum (by decide +kernel) (λw x hx=>by rw [mod_row]; exact normR_any w x hx) (λw=>small_at w 1 1 rfl (by decide)) x e hx he
 rw [mod_row] at h
 exact h
set_option maxHeartbeats 2000000 in
set_option maxRecDepth 100000 in
theorem invRef_any (w:World) (x:Nat) (hx:x<(2^256)):Calls Tryz.prog 166 #[.agg #[.int .u64 18446744069414583343,.int .u64 18446744073709551615,.int .u64 18446744073709551615,.int .u64 18446744073709551615,.int .u64 4294968273,.int .u64 0,.int .u64 0],fv x] w λe w'=>e=.returned (fv (pw x (115792089237316195423570985008687907853269984665640564039457584007908834671663 - 2)))∧Below w.heap.size w w':=by
 obtain ⟨p,hp⟩:∃ p,p=115792089237316195423570985008687907853269984665640564039457584007908834671663:=⟨_,rfl⟩
 obtain ⟨n2,h2⟩:∃ n,n=2:=⟨_,rfl⟩
 obtain ⟨q,hq⟩:∃ q,q=115792089237316195423570985008687907853269984665640564039457584007908834671663 - 2:=⟨_,rfl⟩
 obtain ⟨z,hz⟩:∃ z,z=pw x q:=⟨_,rfl⟩
 rw [← hq, ← hz]
 have cS:∀ w,Calls Tryz.prog 180 #[.int .u64 2] w λe w'=>e=.returned (fv n2)∧Below w.heap.size w w':=λw=>small_at w n2 2 (by rw [h2]; rfl) (by omega)
 have cM:∀ w,Calls Tryz.prog 187 #[fv p,fv n2] w λe w'=>e=.returned (fv q)∧Below w.heap.size w w':=λw=>minusR_at w p n2 q 0 rfl rfl (by omega) (by omega) (by omega) (by omega)
 have cP:∀ w,Calls Tryz.prog 181 #[.agg #[.int .u64 18446744069414583343,.int .u64 18446744073709551615,.int .u64 18446744073709551615,.int .u64 18446744073709551615,.int .u64 4294968273,.int .u64 0,.int .u64 0],fv x,fv q] w λe w'=>e=.returned (fv z)∧Below w.heap.size w w':=by
  intro w; rw [hz]; exact power_any w x q hx (by omega)
 have FP:Hid (fv p=.agg #[.int .u64 18446744069414583343,.int .u64 18446744073709551615,.int .u64 18446744073709551615,.int .u64 18446744073709551615]):=Lib.hid (by rw [hp]; exact fv_P)
 obtain ⟨x0,x1,x2,x3,fx⟩:=words_fv x hx
 have FX:=Lib.hid fx
 rw [fx]
 clear fx hx hp h2 hq hz
 go_enter Tryz.func166,Tryz.ntmps166
 go_wp2
 refine wp_region_G (λj=>j == 7) (by kernel_rfl) ?_
 try simp only [Act.put]
 refine tkw 0 rfl (YieldsG.load (by rfl) _ _ rfl w.heap.size 0 rfl ([.int .u64 18446744069414583343,.int .u64 18446744073709551615,.int .u64 18446744073709551615,.int .u64 18446744073709551615,.int .u64 4294968273,.int .u64 0,.int .u64 0]) _ (Blk.lt (((Blk.new w _ _).alloc _).alloc _)) (Blk.range (((Blk.new w _ _).alloc _).alloc _)) Tryz.underlying169 rfl (by kernel_rfl)) ?_
 try simp only [Act.put,aA,aZ,aS]
 refine tkw 1 rfl (YieldsG.loadF (by rfl) _ _ rfl (w.heap.size+1) rfl (x) _ _ ((blk_new2 w _ _ _).alloc _) (FX.out) Tryz.underlying164 rfl (by kernel_rfl)) ?_
 try simp only [Act.put,aA,aZ,aS]
 refine tk 2 rfl ?_
 try simp only [Act.put,aA,aZ,aS]
 refine tkw 3 rfl (YieldsG.loadP (by rfl) _ _ rfl w.heap.size rfl p _ (Blk.lt (((Blk.new w _ _).alloc _).alloc _)) (mod_range (((Blk.new w _ _).alloc _).alloc _)) FP.out Tryz.underlying164 rfl (by kernel_rfl)) ?_
 try simp only [Act.put,aA,aZ,aS]
 refine tkw 4 rfl (YieldsG.call (v:=fv n2) (by rfl) 180 _ (λw9=>by go_simp; try (first | with_reducible rfl | rfl)) (λw9 h9=>cS w9)) ?_
 try simp only [Act.put,aA,aZ,aS]
 refine tkw 5 rfl (YieldsG.call (v:=fv q) (by rfl) 187 _ (λw9=>by go_simp; try (first | with_reducible rfl | rfl)) (λw9 h9=>cM w9)) ?_
 try simp only [Act.put,aA,aZ,aS]
 refine tkw 6 rfl (YieldsG.call (v:=fv z) (by rfl) 181 _ (λw9=>by go_simp; try (first | with_reducible rfl | rfl)) (λw9 h9=>cP w9)) ?_
 try simp only [Act.put,aA,aZ,aS]
 refine wpAnyG_store 7 rfl (by kernel_rfl) (by rfl) _ _ _ rfl (w.heap.size+2) (fcs (z)) rfl rfl _ _ (blk_new3 w _ _ _ _) (by kernel_rfl) (by rfl) (fcs_one _) rfl (λw6 h6 w7 hB7 hL7=>?_)
 try simp only [Act.put]
 refine wpAnyG_done (by kernel_rfl) (λw8 h8=>?_)
 have hfin:=Gr.blk h8 hL7
 have hb9:=(Below.gr (below_alloc3 w _ _ _) h6).trans ((hB7 _ (by omega)).trans (Below.mono h8 (by have:=hL7.lt; omega)))
 go_wp2
 exact bodyPost_ret (results_cell_row rfl _ _ (w.heap.size+2) _ _ (0,0) _ rfl hfin Tryz.underlying164 rfl (by kernel_rfl)) rfl ⟨rfl,hb9⟩
end
end
section
section
open Go.RowKit Go.Lib
def byteN (z j:Nat):UInt8:=UInt8.ofNat (z / 2 ^ (8*j)%256)
def lowB (z:Nat):Nat→List UInt8
  | 0=>[]
  | k+1=>byteN z k::lowB z k
theorem lowB_length (z:Nat):∀ k,(lowB z k).length=k
  | 0=>rfl
  | k+1=>by rw [lowB,List.length_cons,lowB_length z k]
def bytesS (z:Nat):List UInt8:=lowB z 32
def partB (z k:Nat):List UInt8:=List.replicate (32 - k) 0++lowB z k
theorem partB_length (z k:Nat) (h:k≤32):(partB z k).length=32:=by simp [partB,lowB_length]; omega
theorem partB_full (z:Nat):partB z 32=bytesS z:=by simp [partB,bytesS]
theorem partB_set (z k:Nat) (h:k<32):((partB z k).map bv).toArray.setIfInBounds (31 - k) (bv (byteN z k))=((partB z (k+1)).map bv).toArray:=by
  rw [List.setIfInBounds_toArray]
  congr 1
  rw [← List.map_set]
  congr 1
  unfold partB
  rw [List.set_append_left _ _ (by simp; omega)]
  obtain ⟨m,hm⟩:∃ m,32 - k=m+1:=⟨31 - k,by omega⟩
  have h2:32 - (k+1)=m:=by omega
  have h3:31 - k=m:=by omega
  rw [hm,h2,h3,List.replicate_succ',List.set_append_right _ _ (by simp)]
  simp [lowB]
theorem bytesS_length (z:Nat):(bytesS z).length=32:=lowB_length z 32
theorem bv_byteN (z j:Nat):bv (byteN z j)=.int .u8 ((z / 2 ^ (8*j)%256:Nat):Int):=by
  unfold bv byteN
  congr 2
  rw [UInt8.toNat_ofNat']
  omega
theorem Blk.val {w:World} {a:Addr} {v v':Value} {g:Nat} {t:TypeId} {cs:Array Value} (h:Blk (w.setCell a v) g t cs) (e:v=v'):Blk (w.setCell a v') g t cs:=e ▸ h
theorem b32_info {l:List UInt8} (h:l.length=32):(Tryz.prog.info? 24).map (·.size)=some (l.map bv).toArray.size:=by
  simp only [List.size_toArray,List.length_map,h]
  kernel_rfl
theorem b32_one (l:List UInt8):(l.map bv).toArray.all (·.oneCell')=true:=by simp [bv,Value.oneCell']
def valB (l:List UInt8):Nat:=l.foldl (λa b=>a*256+b.toNat) 0
theorem valB_snoc (l:List UInt8) (c:UInt8):valB (l++[c])=valB l*256+c.toNat:=by simp [valB,List.foldl_append]
theorem valB_lt : ∀ (n : Nat) (l : List UInt8), l.length = n → valB l < 256 ^ n
  | 0,l,h=>by
    obtain rfl:l=[]:=List.length_eq_zero_iff.1 h
    simp [valB]
  | n+1,l,h=>by
    have hne:l≠[]:=by intro e; rw [e] at h; cases h
    have e:=List.dropLast_concat_getLast hne
    have ih:=valB_lt n l.dropLast (by rw [List.length_dropLast]; omega)
    rw [← e,valB_snoc,Nat.pow_succ]
    have:=(l.getLast hne).toNat_lt
    omega
theorem valB_append (l : List UInt8) : ∀ (n : Nat) (m : List UInt8), m.length = n → valB (l ++ m) = valB l * 256 ^ n + valB m
  | 0,m,h=>by
    obtain rfl:m=[]:=List.length_eq_zero_iff.1 h
    simp [valB]
  | n+1,m,h=>by
    have hne:m≠[]:=by intro e; rw [e] at h; cases h
    have e:=List.dropLast_concat_getLast hne
    have ih:=valB_append l n m.dropLast (by rw [List.length_dropLast]; omega)
    rw [← e, ← List.append_assoc,valB_snoc,valB_snoc,ih,Nat.pow_succ,Nat.add_mul,Nat.mul_assoc]
    omega
def wdB (l:List UInt8) (k p:Nat):Nat:=valB ((l.drop (8*p)).take (min 8 (k - 8*p)))
theorem wdB_zero (l:List UInt8) (p:Nat):wdB l 0 p=0:=by simp [wdB,valB]
theorem wdB_step (l:List UInt8) (k p:Nat) (c:UInt8) (h:l[k]? = some c) (hp:k / 8=p):wdB l (k+1) p=wdB l k p*256+c.toNat:=by
  unfold wdB
  rw [show min 8 (k+1 - 8*p)=(k - 8*p)+1 by omega,show min 8 (k - 8*p)=k - 8*p by omega,List.take_add_one,List.getElem?_drop,show 8*p+(k - 8*p)=k by omega,h]
  exact valB_snoc _ _
theorem wdB_same (l:List UInt8) (k p:Nat) (hp:k / 8≠p):wdB l (k+1) p=wdB l k p:=by
  unfold wdB
  rw [show min 8 (k+1 - 8*p)=min 8 (k - 8*p) by omega]
theorem wdB_lt (l:List UInt8) (k p:Nat) (hp:k / 8=p):wdB l k p<72057594037927936:=by
  unfold wdB
  have h:=valB_lt _ ((l.drop (8*p)).take (min 8 (k - 8*p))) rfl
  refine Nat.lt_of_lt_of_le h ?_
  have:((l.drop (8*p)).take (min 8 (k - 8*p))).length≤7:=by rw [List.length_take]; omega
  exact Nat.pow_le_pow_right (by omega) this
theorem wdB_all (l : List UInt8) (h : l.length = 32) : valB l = wdB l 32 3 + 18446744073709551616 * wdB l 32 2 + 340282366920938463463374607431768211456 * wdB l 32 1 + 6277101735386680763835789423207666416102355444464034512896 * wdB l 32 0 := by
  have e:l=(l.take 8++(l.drop 8).take 8)++((l.drop 16).take 8++(l.drop 24).take 8):=by
    conv=>lhs; rw [← List.take_append_drop 16 l, ← List.take_append_drop 8 (l.take 16), ← List.take_append_drop 8 (l.drop 16)]
    congr 2
    · rw [List.take_take]; rfl
    · rw [List.drop_take]
    · rw [List.drop_drop,List.take_of_length_le (by simp; omega)]
  have w0:wdB l 32 0=valB (l.take 8):=rfl
  have w1:wdB l 32 1=valB ((l.drop 8).take 8):=rfl
  have w2:wdB l 32 2=valB ((l.drop 16).take 8):=rfl
  have w3:wdB l 32 3=valB ((l.drop 24).take 8):=rfl
  conv=>lhs; rw [e]
  rw [valB_append _ 16 _ (by simp; omega),valB_append _ 8 _ (by simp; omega),valB_append _ 8 _ (by simp; omega),w0,w1,w2,w3]
  have p8:(256:Nat) ^ 8=18446744073709551616:=by decide
  have p16:(256:Nat) ^ 16=340282366920938463463374607431768211456:=by decide
  rw [p8,p16,Nat.add_mul,Nat.mul_assoc]
  omega
theorem wdB_lt8 (l:List UInt8) (k p:Nat):wdB l k p<18446744073709551616:=by
  unfold wdB
  have h:=valB_lt _ ((l.drop (8*p)).take (min 8 (k - 8*p))) rfl
  refine Nat.lt_of_lt_of_le h ?_
  have:((l.drop (8*p)).take (min 8 (k - 8*p))).length≤8:=by rw [List.length_take]; omega
  exact Nat.pow_le_pow_right (by omega) this
theorem or_add (w c : Nat) (hw : w < 72057594037927936) (hc : c < 256) : bits .or .u64 ((w : Int) * 256) (c : Int) = ((w * 256 + c : Nat) : Int) := by
  have e:((w:Int)*256)=((w*256:Nat):Int):=by omega
  rw [e]
  have h:w*256 ||| c=w*256+c:=by
    have:=Nat.two_pow_add_eq_or_of_lt (i:=8) (b:=c) (by omega) w
    rw [Nat.mul_comm w 256]
    exact this.symm
  have hw2:(BitVec.ofInt 64 ((w*256:Nat):Int) ||| BitVec.ofInt 64 (c:Int)).toNat=w*256+c:=by
    rw [BitVec.toNat_or]
    simp only [BitVec.ofInt_natCast,BitVec.toNat_ofNat]
    rw [Nat.mod_eq_of_lt (by omega),Nat.mod_eq_of_lt (by omega),h]
  show IntKind.u64.wrap ((BitVec.ofInt 64 ((w*256:Nat):Int) ||| BitVec.ofInt 64 (c:Int)).toNat:Int)=_
  rw [hw2,IntKind.wrap_u64]
  omega
theorem run_index_b32 (W : World) (l : List UInt8) (k : Nat) (c : UInt8) (h : l[k]? = some c) (hk : k < 32) :
    (Instr.index 24 (.agg (l.map bv).toArray) (.int .i64 (k:Int))).run Tryz.prog W=.ok (bv c) W:=by
  unfold Instr.index
  have hs:∀ W,(sizeOf 5).run Tryz.prog W=.ok 1 W:=λW=>by kernel_rfl
  have pc:(part 5 (l.map bv).toArray ((k:Int).toNat*1)).run Tryz.prog W=.ok (bv c) W:=by
    simp [part,isAgg,run_underlying Tryz.underlying5,h]
  simp only [asIntOf,Sem.run_bind,Sem.run_pure,Result.andThen_ok,run_underlying Tryz.underlying24]
  rw [if_pos ⟨by omega,by omega⟩]
  simp only [Sem.run_bind,hs,Result.andThen_ok,pc]
theorem p256 (k:Nat):(2:Nat) ^ (8*k)=256 ^ k:=by rw [Nat.pow_mul]
theorem valB_lowB (z : Nat) : ∀ k, valB (lowB z k) = z % 256 ^ k
  | 0=>by simp [lowB,valB,Nat.mod_one]
  | k + 1 => by
    have h:=valB_append [byteN z k] k (lowB z k) (lowB_length z k)
    rw [lowB]
    rw [List.singleton_append] at h
    rw [h,valB_lowB z k,Nat.mod_pow_succ]
    have e:valB [byteN z k]=z / 256 ^ k%256:=by
      have:valB [byteN z k]=(byteN z k).toNat:=by simp [valB]
      rw [this,byteN,UInt8.toNat_ofNat',p256]
      omega
    rw [e,Nat.mul_comm]
    omega
theorem valB_bytesS (z:Nat) (hz:z<(2^256)):valB (bytesS z)=z:=by
  rw [bytesS,valB_lowB]
  have:(256:Nat) ^ 32=(2^256):=by decide
  rw [this,Nat.mod_eq_of_lt hz]
theorem valB_inj : ∀ (n : Nat) (l m : List UInt8), l.length = n → m.length = n → valB l = valB m → l = m
  | 0,l,m,hl,hm,_=>by rw [List.length_eq_zero_iff.1 hl,List.length_eq_zero_iff.1 hm]
  | n+1,l,m,hl,hm,h=>by
    have nl:l≠[]:=by intro e; rw [e] at hl; cases hl
    have nm:m≠[]:=by intro e; rw [e] at hm; cases hm
    have el:=List.dropLast_concat_getLast nl
    have em:=List.dropLast_concat_getLast nm
    rw [← el, ← em,valB_snoc,valB_snoc] at h
    have c1:=(l.getLast nl).toNat_lt
    have c2:=(m.getLast nm).toNat_lt
    have hi:=valB_inj n l.dropLast m.dropLast (by rw [List.length_dropLast]; omega) (by rw [List.length_dropLast]; omega) (by omega)
    have hc:l.getLast nl=m.getLast nm:=UInt8.toNat_inj.1 (by omega)
    rw [← el, ← em,hi,hc]
theorem bytesS_valB (l : List UInt8) (h : l.length = 32) : bytesS (valB l) = l :=
  valB_inj 32 _ _ (bytesS_length _) h (valB_bytesS _ (by have := valB_lt 32 l h; have e : (256 : Nat) ^ 32 = (2^256) := by decide
                                                         omega))
theorem valB_lt32 (l:List UInt8) (h:l.length=32):valB l<(2^256):=by
  have:=valB_lt 32 l h
  have e:(256:Nat) ^ 32=(2^256):=by decide
  omega
end
end
section
section
open Go.RowKit Sp
def Src (w:World) (A:Option Addr) (m:List UInt8):Prop :=
 m≠[]→∃ b o,A=some ⟨b,o,none⟩∧b<w.heap.size∧∀ j u,m[j]? = some u→w.cell? ⟨b,o+j,none⟩=some (bv u)
theorem Src.keep {w w':World} {A:Option Addr} {m:List UInt8} (h:Src w A m) (hs:w.heap.size≤w'.heap.size) (hk:m≠[]→∀ a,A=some a→a.block<w.heap.size→w'.heap[a.block]? = w.heap[a.block]?):Src w' A m:=λhm=>by
 obtain ⟨b,o,rfl,hb,hc⟩:=h hm
 exact ⟨b,o,rfl,by omega,λj u hu=>(World.cell?_of_block (w:=w) (a:=⟨b,o+j,none⟩) (show w'.heap[b]? = w.heap[b]? from hk hm ⟨b,o,none⟩ rfl hb)).trans (hc j u hu)⟩
theorem Src.below {w w':World} {A:Option Addr} {m:List UInt8} (h:Src w A m) (hb:Below w.heap.size w w'):Src w' A m :=
 h.keep hb.size λ_ _ _ hl=>hb.block _ hl
end
end
section
section
open Go.RowKit Go.Lib
set_option maxHeartbeats 2000000 in
set_option maxRecDepth 100000 in
theorem rightR_any (w:World) (x:Nat) (hx:x<(2^256)):Calls Tryz.prog 118 #[modV,fv x] w λe w'=>e=.returned (.bool (decide (x<pM)))∧Below w.heap.size w w':=by
 obtain ⟨p,hp⟩:∃ p,p=115792089237316195423570985008687907853269984665640564039457584007908834671663:=⟨_,rfl⟩
 obtain ⟨b,hb⟩:∃ b,b=decide (x<pM):=⟨_,rfl⟩
 have cb:∀ w,Calls Tryz.prog 156 #[fv x,fv p] w λe w'=>e=.returned (.bool b)∧Below w.heap.size w w':=by
  intro w; rw [hb,pM_eq, ← hp]; exact below_at w x p rfl rfl hx (by omega)
 have hpc:fv p=.agg #[.int .u64 18446744069414583343,.int .u64 18446744073709551615,.int .u64 18446744073709551615,.int .u64 18446744073709551615]:=by rw [hp]; exact fv_P
 obtain ⟨x0,x1,x2,x3,fx⟩:=words_fv x hx
 have FX:=Lib.hid fx
 have FP:=Lib.hid hpc
 rw [fx, ← hb]
 unfold modV
 clear fx hpc hx hp hb
 go_enter Tryz.func118,Tryz.ntmps118
 go_wp2_with (first | ((with_reducible refine here_load (d:=some 5) ?_); refine wpList_load_fv rfl _ _ rfl (w.heap.size+1) rfl (x) _ _ _ (blk_new2 w _ _ _) (FX.out) Tryz.underlying164 rfl (by kernel_rfl) ?_) | ((with_reducible refine here_load (d:=some 7) ?_); refine wpList_load_part rfl _ _ rfl w.heap.size rfl p [.int .u64 18446744069414583343,.int .u64 18446744073709551615,.int .u64 18446744073709551615,.int .u64 18446744073709551615] _ (mod_range ((Blk.new w _ _).alloc _)) FP.out Tryz.underlying164 rfl (by kernel_rfl) ?_))
 refine (cb _).mono ?_
 rintro e w1 ⟨rfl,k1⟩
 go_wp2
 go_ret
 exact ⟨rfl,Below.gr (below_alloc2 w _ _) k1⟩
end
end
section
namespace Cu
open Go.RowKit Sy
set_option maxRecDepth 100000
set_option maxHeartbeats 4000000
def modcs:Array Value:=#[.int .u64 18446744069414583343,.int .u64 18446744073709551615,.int .u64 18446744073709551615,.int .u64 18446744073709551615,.int .u64 4294968273,.int .u64 0,.int .u64 0]
def mod0:Array Value:=#[.int .u64 0,.int .u64 0,.int .u64 0,.int .u64 0,.int .u64 0,.int .u64 0,.int .u64 0]
theorem refmul_c (w:World) (a b:Fp):Calls Tryz.prog 182 #[.agg modcs,fv a.val,fv b.val] w (Gets w (fv (a*b).val)):=mulR_any w a.val b.val (lt4 a) (lt4 b)
theorem refadd_c (w:World) (a b:Fp):Calls Tryz.prog 186 #[.agg modcs,fv a.val,fv b.val] w (Gets w (fv (a+b).val)):=addR_any w a.val b.val (lt4 a) (lt4 b)
theorem refsub_c (w:World) (a b:Fp):Calls Tryz.prog 185 #[.agg modcs,fv a.val,fv b.val] w (Gets w (fv (a - b).val)):=by rw [← val_sub]; exact subR_any w a.val b.val (lt4 a) (lt4 b)
theorem refneg_c (w:World) (a:Fp):Calls Tryz.prog 171 #[.agg modcs,fv a.val] w (Gets w (fv (-a).val)):=by rw [← val_neg]; exact negR_any w a.val (lt4 a)
theorem inv_pw (a:Nat):invR a=pw a (115792089237316195423570985008687907853269984665640564039457584007908834671663 - 2):=by
 have h:=invR_pow a
 rw [invR_red] at h
 rw [h, ← eInv_is]
 rfl
theorem refinv_c (w:World) (a:Fp):Calls Tryz.prog 166 #[.agg modcs,fv a.val] w (Gets w (fv (finv a).val)):=by
 have e:(finv a).val=invR a.val:=rfl
 have h:=invRef_any w a.val (lt4 a)
 rw [← inv_pw, ← e] at h
 exact h
theorem eql_num (w:World) (F:Slots) (o:Oper) (x y:Operand) (n m:Nat) {yt:TypeId} (ho:o.op=.binOp .eql 164 x y yt) (hx:evF F x=fv n) (hy:evF F y=fv m) (hn:n<K4) (hm:m<K4):(execOp (evF F) o).run Tryz.prog w=.ok (.value (.bool (decide (n=m)))) w:=by
 have h1:=Nm.run_eqGuard_fv .eql x y n m w
 have h2:=Nm.run_eql_fv w n m hn hm
 unfold execOp
 simp only [ho,hx,hy,Sem.run_bind,h1,h2,Result.andThen_ok,Sem.run_pure]
theorem neq_num (w:World) (F:Slots) (o:Oper) (x y:Operand) (n m:Nat) {yt:TypeId} (ho:o.op=.binOp .neq 164 x y yt) (hx:evF F x=fv n) (hy:evF F y=fv m) (hn:n<K4) (hm:m<K4):(execOp (evF F) o).run Tryz.prog w=.ok (.value (.bool (decide (n≠m)))) w:=by
 have h1:=Nm.run_eqGuard_fv .neq x y n m w
 have h2:=Nm.run_neq_fv w n m hn hm
 unfold execOp
 simp only [ho,hx,hy,Sem.run_bind,h1,h2,Result.andThen_ok,Sem.run_pure]
theorem small_c (w:World) (k:Nat) (hk:k<18446744073709551616):Calls Tryz.prog 180 #[.int .u64 (k:Int)] w (Gets w (fv k)):=by
 rw [fv_small k hk]
 refine Sy.enter (args:=[.int .u64 (k:Int)]) Tryz.func180 rfl kL ?_
 refine sC ?_
 refine sM 164 (fcs 0) (λg0=>?_)
 refine sA ?_
 refine sP (.int .u64 (k:Int))<|sP (.agg #[.int .u64 (k:Int),.int .u64 0,.int .u64 0,.int .u64 0])<|sW 0 g0 164 (fcs 0) #[.int .u64 (k:Int),.int .u64 0,.int .u64 0,.int .u64 0] (wS 0 164 #[.int .u64 (k:Int),.int .u64 0,.int .u64 0,.int .u64 0] rfl) ?_
 refine sG<|Sy.ret ?_
 exact Sy.ret1 rfl (.inl (Res.cell (ty':=164) g0 0 #[.int .u64 (k:Int),.int .u64 0,.int .u64 0,.int .u64 0] _ kR kR Tryz.underlying164 rfl kR kR))
theorem mulR_c (w:World) (a b:Fp):Calls Tryz.prog 164 #[fv a.val,fv b.val] w (Gets w (fv (a*b).val)):=by
 refine Sy.enter (args:=[fv a.val,fv b.val]) Tryz.func164 rfl kL ?_
 refine sC ?_
 refine sM 164 (fcs a.val) (λg0=>?_)
 refine sM 164 (fcs b.val) (λg1=>?_)
 refine sM 164 (fcs 0) (λg2=>?_)
 refine sH (λj=>j == 4) ?_
 refine sD 0 rfl (.agg modcs) (qF 119 #[] (refP_any))<|sD 1 rfl (fv a.val) (qL 0 g0 0 4 164 164 (fcs a.val) rfl Tryz.underlying164)<|sD 2 rfl (fv b.val) (qL 1 g1 0 4 164 164 (fcs b.val) rfl Tryz.underlying164) ?_
 obtain ⟨z1,hz1⟩:∃ z:Fp,z=a*b:=⟨_,rfl⟩
 refine sD 3 rfl (fv z1.val) (qF 182 #[.agg modcs,fv a.val,fv b.val] (λw=>by rw [hz1]; exact refmul_c w a b))<|sX 4 rfl 2 g2 164 (fcs 0) (fcs z1.val) (wS 0 164 (fcs z1.val) rfl) ?_
 refine sI ?_
 refine Sy.ret ?_
 rw [show (fv (a*b).val:Value)=fv z1.val from by rw [hz1]]
 exact rC (v:=fv z1.val) 164 g2 2 (fcs z1.val) rfl Tryz.underlying164
theorem addR_c (w:World) (a b:Fp):Calls Tryz.prog 165 #[fv a.val,fv b.val] w (Gets w (fv (a+b).val)):=by
 refine Sy.enter (args:=[fv a.val,fv b.val]) Tryz.func165 rfl kL ?_
 refine sC ?_
 refine sM 164 (fcs a.val) (λg0=>?_)
 refine sM 164 (fcs b.val) (λg1=>?_)
 refine sM 164 (fcs 0) (λg2=>?_)
 refine sH (λj=>j == 4) ?_
 refine sD 0 rfl (.agg modcs) (qF 119 #[] (refP_any))<|sD 1 rfl (fv a.val) (qL 0 g0 0 4 164 164 (fcs a.val) rfl Tryz.underlying164)<|sD 2 rfl (fv b.val) (qL 1 g1 0 4 164 164 (fcs b.val) rfl Tryz.underlying164) ?_
 obtain ⟨z1,hz1⟩:∃ z:Fp,z=a+b:=⟨_,rfl⟩
 refine sD 3 rfl (fv z1.val) (qF 186 #[.agg modcs,fv a.val,fv b.val] (λw=>by rw [hz1]; exact refadd_c w a b))<|sX 4 rfl 2 g2 164 (fcs 0) (fcs z1.val) (wS 0 164 (fcs z1.val) rfl) ?_
 refine sI ?_
 refine Sy.ret ?_
 rw [show (fv (a+b).val:Value)=fv z1.val from by rw [hz1]]
 exact rC (v:=fv z1.val) 164 g2 2 (fcs z1.val) rfl Tryz.underlying164
theorem subR_c (w:World) (a b:Fp):Calls Tryz.prog 163 #[fv a.val,fv b.val] w (Gets w (fv (a - b).val)):=by
 refine Sy.enter (args:=[fv a.val,fv b.val]) Tryz.func163 rfl kL ?_
 refine sC ?_
 refine sM 164 (fcs a.val) (λg0=>?_)
 refine sM 164 (fcs b.val) (λg1=>?_)
 refine sM 164 (fcs 0) (λg2=>?_)
 refine sH (λj=>j == 4) ?_
 refine sD 0 rfl (.agg modcs) (qF 119 #[] (refP_any))<|sD 1 rfl (fv a.val) (qL 0 g0 0 4 164 164 (fcs a.val) rfl Tryz.underlying164)<|sD 2 rfl (fv b.val) (qL 1 g1 0 4 164 164 (fcs b.val) rfl Tryz.underlying164) ?_
 obtain ⟨z1,hz1⟩:∃ z:Fp,z=a - b:=⟨_,rfl⟩
 refine sD 3 rfl (fv z1.val) (qF 185 #[.agg modcs,fv a.val,fv b.val] (λw=>by rw [hz1]; exact refsub_c w a b))<|sX 4 rfl 2 g2 164 (fcs 0) (fcs z1.val) (wS 0 164 (fcs z1.val) rfl) ?_
 refine sI ?_
 refine Sy.ret ?_
 rw [show (fv (a - b).val:Value)=fv z1.val from by rw [hz1]]
 exact rC (v:=fv z1.val) 164 g2 2 (fcs z1.val) rfl Tryz.underlying164
theorem zeroR_c (w:World)  : Calls Tryz.prog 154 #[] w (Gets w (pv 0 0 true)):=by
 refine Sy.enter (args:=[]) Tryz.func154 rfl kL ?_
 refine sC ?_
 refine sM 83 (pcs 0 0 false) (λg0=>?_)
 refine sA ?_
 refine sP (pv 0 0 true)<|sW 0 g0 83 (pcs 0 0 false) (pcs 0 0 true) (wS 0 83 (pcs 0 0 true) rfl) ?_
 refine sG<|Sy.ret ?_
 exact rC (v:=pv 0 0 true) 83 g0 0 (pcs 0 0 true) rfl Tryz.underlying83
theorem baseR_c (w:World)  : Calls Tryz.prog 124 #[] w (Gets w (ptv bP)):=by
 refine Sy.enter (args:=[]) Tryz.func124 rfl kL ?_
 refine sC ?_
 refine sM 83 (pcs 0 0 false) (λg0=>?_)
 refine sA ?_
 refine sP (fv 55066263022277343669578718895168534326250603453777594175500187360389116729240)<|sP (fv 32670510020758816978083085130507043184471273380659243275938904335757337482424)<|sP (pv 55066263022277343669578718895168534326250603453777594175500187360389116729240 32670510020758816978083085130507043184471273380659243275938904335757337482424 false)<|sW 0 g0 83 (pcs 0 0 false) (pcs 55066263022277343669578718895168534326250603453777594175500187360389116729240 32670510020758816978083085130507043184471273380659243275938904335757337482424 false) (wS 0 83 (pcs 55066263022277343669578718895168534326250603453777594175500187360389116729240 32670510020758816978083085130507043184471273380659243275938904335757337482424 false) rfl) ?_
 refine sG<|Sy.ret ?_
 rw [show (ptv bP:Value)=pv 55066263022277343669578718895168534326250603453777594175500187360389116729240 32670510020758816978083085130507043184471273380659243275938904335757337482424 false from by kernel_rfl]
 exact rC (v:=pv 55066263022277343669578718895168534326250603453777594175500187360389116729240 32670510020758816978083085130507043184471273380659243275938904335757337482424 false) 83 g0 0 (pcs 55066263022277343669578718895168534326250603453777594175500187360389116729240 32670510020758816978083085130507043184471273380659243275938904335757337482424 false) rfl Tryz.underlying83
theorem cubeR_c (w:World) (x:Fp):Calls Tryz.prog 153 #[fv x.val] w (Gets w (fv (x*x*x+7).val)):=by
 refine Sy.enter (args:=[fv x.val]) Tryz.func153 rfl kL ?_
 refine sC ?_
 refine sM 164 (fcs x.val) (λg0=>?_)
 refine sM 164 (fcs 0) (λg1=>?_)
 refine sH (λj=>j == 7) ?_
 refine sD 0 rfl (fv x.val) (qL 0 g0 0 4 164 164 (fcs x.val) rfl Tryz.underlying164)<|sD 1 rfl (fv x.val) (qL 0 g0 0 4 164 164 (fcs x.val) rfl Tryz.underlying164)<|sD 2 rfl (fv x.val) (qL 0 g0 0 4 164 164 (fcs x.val) rfl Tryz.underlying164) ?_
 obtain ⟨z1,hz1⟩:∃ z:Fp,z=x*x:=⟨_,rfl⟩
 refine sD 3 rfl (fv z1.val) (qF 164 #[fv x.val,fv x.val] (λw=>by rw [hz1]; exact mulR_c w x x)) ?_
 obtain ⟨z2,hz2⟩:∃ z:Fp,z=x*z1:=⟨_,rfl⟩
 refine sD 4 rfl (fv z2.val) (qF 164 #[fv x.val,fv z1.val] (λw=>by rw [hz2]; exact mulR_c w x z1)) ?_
 obtain ⟨z3,hz3⟩:∃ z:Fp,z=(7:Fp):=⟨_,rfl⟩
 refine sD 5 rfl (fv z3.val) (qF 180 #[.int .u64 7] (λw=>by rw [hz3]; exact small_c w 7 (by decide))) ?_
 obtain ⟨z4,hz4⟩:∃ z:Fp,z=z2+z3:=⟨_,rfl⟩
 refine sD 6 rfl (fv z4.val) (qF 165 #[fv z2.val,fv z3.val] (λw=>by rw [hz4]; exact addR_c w z2 z3))<|sX 7 rfl 1 g1 164 (fcs 0) (fcs z4.val) (wS 0 164 (fcs z4.val) rfl) ?_
 refine sI ?_
 refine Sy.ret ?_
 rw [show (fv (x*x*x+7).val:Value)=fv z4.val from by
  refine congrArg (λt:Fp=>fv t.val) ?_
  grobner]
 exact rC (v:=fv z4.val) 164 g1 1 (fcs z4.val) rfl Tryz.underlying164
theorem pointR_c (w:World) (x y:Nat) (hx:x<K4) (hy:y<K4):Calls Tryz.prog 155 #[fv x,fv y] w (Gets w (pv x y false)):=by
 refine Sy.enter (args:=[fv x,fv y]) Tryz.func155 rfl kL ?_
 refine sC ?_
 refine sM 164 (fcs x) (λg0=>?_)
 refine sM 164 (fcs y) (λg1=>?_)
 refine sM 83 (pcs 0 0 false) (λg2=>?_)
 refine sH (λj=>j == 5) ?_
 refine sD 0 rfl (fv x) (qL 0 g0 0 4 164 164 (fcs x) rfl Tryz.underlying164)<|sD 1 rfl (fv x) (qF 126 #[fv x] (λw=>refFe_any w x lK))<|sD 2 rfl (fv y) (qL 1 g1 0 4 164 164 (fcs y) rfl Tryz.underlying164)<|sD 3 rfl (fv y) (qF 126 #[fv y] (λw=>refFe_any w y lK))<|sZ 4 rfl (pv x y false)<|sX 5 rfl 2 g2 83 (pcs 0 0 false) (pcs x y false) (wS 0 83 (pcs x y false) rfl) ?_
 refine sI ?_
 refine Sy.ret ?_
 exact rC (v:=pv x y false) 83 g2 2 (pcs x y false) rfl Tryz.underlying83
theorem rightR_b (w:World) (x y:Nat) (i:Bool) (hx:x<K4) (hy:y<K4):Calls Tryz.prog 184 #[pv x y i] w (Gets w (.bool (rightB x y i))):=by
 refine Sy.enter (args:=[pv x y i]) Tryz.func184 rfl kL ?_
 refine sC ?_
 refine sM 83 (pcs x y i) (λg0=>?_)
 refine sP (.bool false) ?_
 refine sG<|Sy.seq<|sC ?_
 refine sP (.pointer (some ⟨g0,8,none⟩))<|sS (.bool i) (qC 0 g0 8 83 4 (pcs x y i) rfl Tryz.underlying4) ?_
 refine sG ?_
 cases i
 ·refine sU<|Sy.skip<|sB ?_
  refine sP (.pointer (some ⟨g0,0,none⟩))<|sS (fv x) (qL 0 g0 0 4 83 81 (pcs x y false) rfl Tryz.underlying81)<|sS (fv x) (qF 162 #[fv x] (λw=>refOf_any w x lK)) ?_
  refine sM 164 (fcs 0) (λg1=>?_)
  refine sW 1 g1 164 (fcs 0) (fcs x) (wS 0 164 (fcs x) rfl) ?_
  refine sA ?_
  refine sP (.pointer (some ⟨g0,4,none⟩))<|sS (fv y) (qL 0 g0 4 4 83 81 (pcs x y false) rfl Tryz.underlying81)<|sS (fv y) (qF 162 #[fv y] (λw=>refOf_any w y lK)) ?_
  refine sM 164 (fcs 0) (λg2=>?_)
  refine sW 2 g2 164 (fcs 0) (fcs y) (wS 0 164 (fcs y) rfl) ?_
  refine sA ?_
  refine sS (.agg modcs) (qF 119 #[] (refP_any)) ?_
  refine sM 169 mod0 (λg3=>?_)
  refine sW 3 g3 169 mod0 modcs (wS 0 169 modcs rfl) ?_
  refine sA ?_
  refine sS (.agg modcs) (qL 3 g3 0 7 169 169 modcs rfl Tryz.underlying169)<|sS (fv x) (qL 1 g1 0 4 164 164 (fcs x) rfl Tryz.underlying164) ?_
  obtain ⟨b1,hb1⟩:∃ z:Bool,z=decide (x<pM):=⟨_,rfl⟩
  refine sS (.bool b1) (qF 118 #[.agg modcs,fv x] (λw=>by rw [hb1]; exact rightR_any w x lK))<|sP (.bool b1) ?_
  refine sA ?_
  refine sS (.agg modcs) (qL 3 g3 0 7 169 169 modcs rfl Tryz.underlying169)<|sS (fv y) (qL 2 g2 0 4 164 164 (fcs y) rfl Tryz.underlying164) ?_
  obtain ⟨b2,hb2⟩:∃ z:Bool,z=decide (y<pM):=⟨_,rfl⟩
  refine sS (.bool b2) (qF 118 #[.agg modcs,fv y] (λw=>by rw [hb2]; exact rightR_any w y lK))<|sP (.bool b2) ?_
  refine sH (λj=>false) ?_
  refine sZ 0 rfl (.bool b1)<|sZ 1 rfl (.bool b1) ?_
  cases b1
  ·refine sQ 2 rfl<|sZ 3 rfl (.bool false)<|sZ 4 rfl (.bool false)<|sQ 5 rfl<|sQ 6 rfl<|sQ 7 rfl<|sQ 8 rfl<|sQ 9 rfl ?_
   refine sQ 10 rfl<|sZ 11 rfl (.bool false)<|sZ 12 rfl (.bool false) ?_
   refine sI ?_
   refine Sy.ret ?_
   rw [show (.bool (rightB x y false):Value)=.bool false from by rw [rb_x (of_decide_eq_false hb1.symm)]]
   exact rV (.bool false) rfl
  ·obtain ⟨ux,rfl⟩:∃ u:Fp,x=u.val:=⟨⟨x,of_decide_eq_true hb1.symm⟩,rfl⟩
   refine sZ 2 rfl (.bool b2)<|sZ 3 rfl (.bool b2)<|sZ 4 rfl (.bool b2) ?_
   cases b2
   ·refine sQ 5 rfl<|sQ 6 rfl<|sQ 7 rfl<|sQ 8 rfl<|sQ 9 rfl<|sQ 10 rfl<|sZ 11 rfl (.bool false)<|sZ 12 rfl (.bool false) ?_
    refine sI ?_
    refine Sy.ret ?_
    rw [show (.bool (rightB ux.val y false):Value)=.bool false from by rw [rb_y (of_decide_eq_false hb2.symm)]]
    exact rV (.bool false) rfl
   ·obtain ⟨uy,rfl⟩:∃ u:Fp,y=u.val:=⟨⟨y,of_decide_eq_true hb2.symm⟩,rfl⟩
    refine sD 5 rfl (fv uy.val) (qL 2 g2 0 4 164 164 (fcs uy.val) rfl Tryz.underlying164)<|sD 6 rfl (fv uy.val) (qL 2 g2 0 4 164 164 (fcs uy.val) rfl Tryz.underlying164) ?_
    obtain ⟨z1,hz1⟩:∃ z:Fp,z=uy*uy:=⟨_,rfl⟩
    refine sD 7 rfl (fv z1.val) (qF 164 #[fv uy.val,fv uy.val] (λw=>by rw [hz1]; exact mulR_c w uy uy))<|sD 8 rfl (fv ux.val) (qL 1 g1 0 4 164 164 (fcs ux.val) rfl Tryz.underlying164) ?_
    obtain ⟨z2,hz2⟩:∃ z:Fp,z=ux*ux*ux+7:=⟨_,rfl⟩
    refine sD 9 rfl (fv z2.val) (qF 153 #[fv ux.val] (λw=>by rw [hz2]; exact cubeR_c w ux)) ?_
    obtain ⟨b3,hb3⟩:∃ z:Bool,z=decide (z1.val=z2.val):=⟨_,rfl⟩
    refine sD 10 rfl (.bool b3) (Quiet.pure (λw=>by rw [hb3]; exact eql_num w _ _ _ _ _ _ rfl rfl rfl lK lK))<|sZ 11 rfl (.bool b3)<|sZ 12 rfl (.bool b3) ?_
    refine sI ?_
    refine Sy.ret ?_
    rw [show (.bool (rightB ux.val uy.val false):Value)=.bool b3 from by rw [hb3,rb_xy]; simp only [hz2,hz1]]
    exact rV (.bool b3) rfl
 ·refine sT<|Sy.seq ?_
  refine Sy.regionD (λj=>false) kR ?_
  refine sD 0 rfl (pv x y true) (qL 0 g0 0 9 83 83 (pcs x y true) rfl Tryz.underlying83)<|sD 1 rfl (pv 0 0 true) (qF 154 #[] (zeroR_c)) ?_
  obtain ⟨b4,hb4⟩:∃ z:Bool,z=sameB x y true 0 0 true:=⟨_,rfl⟩
  refine sD 2 rfl (.bool b4) (Quiet.pure (λw=>by rw [hb4]; exact eql_pt w _ _ _ _ _ _ _ _ _ _ rfl rfl rfl lK lK lK lK))<|sZ 3 rfl (.bool b4) ?_
  refine sI ?_
  refine Sy.ret<|Sy.then_ret ?_
  rw [show (.bool (rightB x y true):Value)=.bool b4 from by rw [hb4,rightB_inf]]
  exact rV (.bool b4) rfl
theorem taken_c (w:World) (x y:Nat) (i:Bool) (hx:x<K4) (hy:y<K4):Calls Tryz.prog 161 #[pv x y i] w (Gets w (ptv (dec x y i))):=by
 refine Sy.enter (args:=[pv x y i]) Tryz.func161 rfl kL ?_
 refine sC ?_
 refine sM 83 (pcs x y i) (λg0=>?_)
 refine sM 83 (pcs 0 0 false) (λg1=>?_)
 refine sA ?_
 refine sS (pv x y i) (qL 0 g0 0 9 83 83 (pcs x y i) rfl Tryz.underlying83) ?_
 obtain ⟨b1,hb1⟩:∃ z:Bool,z=rightB x y i:=⟨_,rfl⟩
 refine sS (.bool b1) (qF 184 #[pv x y i] (by rw [hb1]; exact λw=>rightR_b w x y i lK lK))<|sP (.bool b1) ?_
 refine sG<|Sy.seq<|sC ?_
 refine sP (.bool b1) ?_
 cases b1
 ·refine sP (.bool true) ?_
  refine sG<|sT<|sC ?_
  refine sS (pv 0 0 true) (qF 154 #[] (zeroR_c))<|sW 1 g1 83 (pcs 0 0 false) (pcs 0 0 true) (wS 0 83 (pcs 0 0 true) rfl) ?_
  refine sG<|Sy.ret<|Sy.then_ret ?_
  rw [show (ptv (dec x y i):Value)=pv 0 0 true from ptv_wrong x y i hb1.symm]
  exact rC (v:=pv 0 0 true) 83 g1 1 (pcs 0 0 true) rfl Tryz.underlying83
 ·refine sP (.bool false) ?_
  refine sG<|sU<|Sy.skip<|sB ?_
  refine sS (pv x y i) (qL 0 g0 0 9 83 83 (pcs x y i) rfl Tryz.underlying83)<|sW 1 g1 83 (pcs 0 0 false) (pcs x y i) (wS 0 83 (pcs x y i) rfl) ?_
  refine sG<|Sy.ret ?_
  rw [show (ptv (dec x y i):Value)=pv x y i from ptv_right x y i hb1.symm]
  exact rC (v:=pv x y i) 83 g1 1 (pcs x y i) rfl Tryz.underlying83
theorem negRe_none (w:World) (x y:Nat) (i:Bool) (hx:x<K4) (hy:y<K4) (h:dec x y i=none):Calls Tryz.prog 125 #[pv x y i] w (Gets w (ptv (Ec.neg none))):=by
 refine Sy.enter (args:=[pv x y i]) Tryz.func125 rfl kL ?_
 refine sC ?_
 refine sM 83 (pcs x y i) (λg0=>?_)
 refine sM 83 (pcs 0 0 false) (λg1=>?_)
 refine sA ?_
 refine sS (pv x y i) (qL 0 g0 0 9 83 83 (pcs x y i) rfl Tryz.underlying83)<|sS (pv 0 0 true) (qF 161 #[pv x y i] (λw=>by have hrr:=taken_c w x y i lK lK; rw [h] at hrr; exact hrr))<|sW 0 g0 83 (pcs x y i) (pcs 0 0 true) (wS 0 83 (pcs 0 0 true) rfl) ?_
 refine sG<|Sy.seq<|sC ?_
 refine sP (.pointer (some ⟨g0,8,none⟩))<|sS (.bool true) (qC 0 g0 8 83 4 (pcs 0 0 true) rfl Tryz.underlying4) ?_
 refine sG<|sT<|sC ?_
 refine sS (pv 0 0 true) (qL 0 g0 0 9 83 83 (pcs 0 0 true) rfl Tryz.underlying83)<|sW 1 g1 83 (pcs 0 0 false) (pcs 0 0 true) (wS 0 83 (pcs 0 0 true) rfl) ?_
 refine sG<|Sy.ret<|Sy.then_ret ?_
 rw [show (ptv (Ec.neg none):Value)=pv 0 0 true from rfl]
 exact rC (v:=pv 0 0 true) 83 g1 1 (pcs 0 0 true) rfl Tryz.underlying83
theorem negRe_some (w:World) (x y:Nat) (i:Bool) (hx:x<K4) (hy:y<K4) (u v:Fp) (h:dec x y i=some (u,v)):Calls Tryz.prog 125 #[pv x y i] w (Gets w (ptv (Ec.neg (some (u,v))))):=by
 refine Sy.enter (args:=[pv x y i]) Tryz.func125 rfl kL ?_
 refine sC ?_
 refine sM 83 (pcs x y i) (λg0=>?_)
 refine sM 83 (pcs 0 0 false) (λg1=>?_)
 refine sA ?_
 refine sS (pv x y i) (qL 0 g0 0 9 83 83 (pcs x y i) rfl Tryz.underlying83)<|sS (pv u.val v.val false) (qF 161 #[pv x y i] (λw=>by have hrr:=taken_c w x y i lK lK; rw [h] at hrr; exact hrr))<|sW 0 g0 83 (pcs x y i) (pcs u.val v.val false) (wS 0 83 (pcs u.val v.val false) rfl) ?_
 refine sG<|Sy.seq<|sC ?_
 refine sP (.pointer (some ⟨g0,8,none⟩))<|sS (.bool false) (qC 0 g0 8 83 4 (pcs u.val v.val false) rfl Tryz.underlying4) ?_
 refine sG<|sU<|Sy.skip ?_
 refine sR (λj=>j == 9) ?_
 refine sZ 0 rfl (.pointer (some ⟨g0,0,none⟩))<|sD 1 rfl (fv u.val) (qL 0 g0 0 4 83 81 (pcs u.val v.val false) rfl Tryz.underlying81)<|sD 2 rfl (fv u.val) (qF 162 #[fv u.val] (λw=>refOf_any w u.val lK))<|sD 3 rfl (.agg modcs) (qF 119 #[] (refP_any))<|sZ 4 rfl (.pointer (some ⟨g0,4,none⟩))<|sD 5 rfl (fv v.val) (qL 0 g0 4 4 83 81 (pcs u.val v.val false) rfl Tryz.underlying81)<|sD 6 rfl (fv v.val) (qF 162 #[fv v.val] (λw=>refOf_any w v.val lK)) ?_
 obtain ⟨z1,hz1⟩:∃ z:Fp,z = -v:=⟨_,rfl⟩
 refine sD 7 rfl (fv z1.val) (qF 171 #[.agg modcs,fv v.val] (λw=>by rw [hz1]; exact refneg_c w v))<|sD 8 rfl (pv u.val z1.val false) (qF 155 #[fv u.val,fv z1.val] (λw=>pointR_c w u.val z1.val lK lK))<|sX 9 rfl 1 g1 83 (pcs 0 0 false) (pcs u.val z1.val false) (wS 0 83 (pcs u.val z1.val false) rfl) ?_
 refine sI ?_
 refine Sy.ret ?_
 rw [show (ptv (Ec.neg (some (u,v))):Value)=pv u.val z1.val false from by rw [hz1]; rfl]
 exact rC (v:=pv u.val z1.val false) 83 g1 1 (pcs u.val z1.val false) rfl Tryz.underlying83
theorem negRe_any (w:World) (x y:Nat) (i:Bool) (hx:x<K4) (hy:y<K4):Calls Tryz.prog 125 #[pv x y i] w (Gets w (ptv (Ec.neg (dec x y i)))):=by
 rcases h:dec x y i with _ | ⟨u,v⟩
 ·exact negRe_none w x y i hx hy h
 ·exact negRe_some w x y i hx hy u v h
theorem addRe_nn (w:World) (x y:Nat) (i:Bool) (x2 y2:Nat) (i2:Bool) (hx:x<K4) (hy:y<K4) (hx2:x2<K4) (hy2:y2<K4) (h:dec x y i=none) (k:dec x2 y2 i2=none):Calls Tryz.prog 122 #[pv x y i,pv x2 y2 i2] w (Gets w (ptv none)):=by
 refine Sy.enter (args:=[pv x y i,pv x2 y2 i2]) Tryz.func122 rfl kL ?_
 refine sC ?_
 refine sM 83 (pcs x y i) (λg0=>?_)
 refine sM 83 (pcs x2 y2 i2) (λg1=>?_)
 refine sM 83 (pcs 0 0 false) (λg2=>?_)
 refine sA ?_
 refine sS (pv x y i) (qL 0 g0 0 9 83 83 (pcs x y i) rfl Tryz.underlying83)<|sS (pv 0 0 true) (qF 161 #[pv x y i] (λw=>by have hrr:=taken_c w x y i lK lK; rw [h] at hrr; exact hrr))<|sW 0 g0 83 (pcs x y i) (pcs 0 0 true) (wS 0 83 (pcs 0 0 true) rfl) ?_
 refine sA ?_
 refine sS (pv x2 y2 i2) (qL 1 g1 0 9 83 83 (pcs x2 y2 i2) rfl Tryz.underlying83)<|sS (pv 0 0 true) (qF 161 #[pv x2 y2 i2] (λw=>by have hrr:=taken_c w x2 y2 i2 lK lK; rw [k] at hrr; exact hrr))<|sW 1 g1 83 (pcs x2 y2 i2) (pcs 0 0 true) (wS 0 83 (pcs 0 0 true) rfl) ?_
 refine sG<|Sy.seq<|sC ?_
 refine sP (.pointer (some ⟨g0,8,none⟩))<|sS (.bool true) (qC 0 g0 8 83 4 (pcs 0 0 true) rfl Tryz.underlying4) ?_
 refine sG<|sT<|sC ?_
 refine sS (pv 0 0 true) (qL 1 g1 0 9 83 83 (pcs 0 0 true) rfl Tryz.underlying83)<|sW 2 g2 83 (pcs 0 0 false) (pcs 0 0 true) (wS 0 83 (pcs 0 0 true) rfl) ?_
 refine sG<|Sy.ret<|Sy.then_ret ?_
 rw [show (ptv none:Value)=pv 0 0 true from rfl]
 exact rC (v:=pv 0 0 true) 83 g2 2 (pcs 0 0 true) rfl Tryz.underlying83
theorem addRe_ns (w:World) (x y:Nat) (i:Bool) (x2 y2:Nat) (i2:Bool) (hx:x<K4) (hy:y<K4) (hx2:x2<K4) (hy2:y2<K4) (c d:Fp) (h:dec x y i=none) (k:dec x2 y2 i2=some (c,d)):Calls Tryz.prog 122 #[pv x y i,pv x2 y2 i2] w (Gets w (ptv (some (c,d)))):=by
 refine Sy.enter (args:=[pv x y i,pv x2 y2 i2]) Tryz.func122 rfl kL ?_
 refine sC ?_
 refine sM 83 (pcs x y i) (λg0=>?_)
 refine sM 83 (pcs x2 y2 i2) (λg1=>?_)
 refine sM 83 (pcs 0 0 false) (λg2=>?_)
 refine sA ?_
 refine sS (pv x y i) (qL 0 g0 0 9 83 83 (pcs x y i) rfl Tryz.underlying83)<|sS (pv 0 0 true) (qF 161 #[pv x y i] (λw=>by have hrr:=taken_c w x y i lK lK; rw [h] at hrr; exact hrr))<|sW 0 g0 83 (pcs x y i) (pcs 0 0 true) (wS 0 83 (pcs 0 0 true) rfl) ?_
 refine sA ?_
 refine sS (pv x2 y2 i2) (qL 1 g1 0 9 83 83 (pcs x2 y2 i2) rfl Tryz.underlying83)<|sS (pv c.val d.val false) (qF 161 #[pv x2 y2 i2] (λw=>by have hrr:=taken_c w x2 y2 i2 lK lK; rw [k] at hrr; exact hrr))<|sW 1 g1 83 (pcs x2 y2 i2) (pcs c.val d.val false) (wS 0 83 (pcs c.val d.val false) rfl) ?_
 refine sG<|Sy.seq<|sC ?_
 refine sP (.pointer (some ⟨g0,8,none⟩))<|sS (.bool true) (qC 0 g0 8 83 4 (pcs 0 0 true) rfl Tryz.underlying4) ?_
 refine sG<|sT<|sC ?_
 refine sS (pv c.val d.val false) (qL 1 g1 0 9 83 83 (pcs c.val d.val false) rfl Tryz.underlying83)<|sW 2 g2 83 (pcs 0 0 false) (pcs c.val d.val false) (wS 0 83 (pcs c.val d.val false) rfl) ?_
 refine sG<|Sy.ret<|Sy.then_ret ?_
 rw [show (ptv (some (c,d)):Value)=pv c.val d.val false from rfl]
 exact rC (v:=pv c.val d.val false) 83 g2 2 (pcs c.val d.val false) rfl Tryz.underlying83
theorem addRe_sn (w:World) (x y:Nat) (i:Bool) (x2 y2:Nat) (i2:Bool) (hx:x<K4) (hy:y<K4) (hx2:x2<K4) (hy2:y2<K4) (u v:Fp) (h:dec x y i=some (u,v)) (k:dec x2 y2 i2=none):Calls Tryz.prog 122 #[pv x y i,pv x2 y2 i2] w (Gets w (ptv (some (u,v)))):=by
 refine Sy.enter (args:=[pv x y i,pv x2 y2 i2]) Tryz.func122 rfl kL ?_
 refine sC ?_
 refine sM 83 (pcs x y i) (λg0=>?_)
 refine sM 83 (pcs x2 y2 i2) (λg1=>?_)
 refine sM 83 (pcs 0 0 false) (λg2=>?_)
 refine sA ?_
 refine sS (pv x y i) (qL 0 g0 0 9 83 83 (pcs x y i) rfl Tryz.underlying83)<|sS (pv u.val v.val false) (qF 161 #[pv x y i] (λw=>by have hrr:=taken_c w x y i lK lK; rw [h] at hrr; exact hrr))<|sW 0 g0 83 (pcs x y i) (pcs u.val v.val false) (wS 0 83 (pcs u.val v.val false) rfl) ?_
 refine sA ?_
 refine sS (pv x2 y2 i2) (qL 1 g1 0 9 83 83 (pcs x2 y2 i2) rfl Tryz.underlying83)<|sS (pv 0 0 true) (qF 161 #[pv x2 y2 i2] (λw=>by have hrr:=taken_c w x2 y2 i2 lK lK; rw [k] at hrr; exact hrr))<|sW 1 g1 83 (pcs x2 y2 i2) (pcs 0 0 true) (wS 0 83 (pcs 0 0 true) rfl) ?_
 refine sG<|Sy.seq<|sC ?_
 refine sP (.pointer (some ⟨g0,8,none⟩))<|sS (.bool false) (qC 0 g0 8 83 4 (pcs u.val v.val false) rfl Tryz.underlying4) ?_
 refine sG<|sU<|Sy.skip<|Sy.then_<|Sy.seq<|sC ?_
 refine sP (.pointer (some ⟨g1,8,none⟩))<|sS (.bool true) (qC 1 g1 8 83 4 (pcs 0 0 true) rfl Tryz.underlying4) ?_
 refine sG<|sT<|sC ?_
 refine sS (pv u.val v.val false) (qL 0 g0 0 9 83 83 (pcs u.val v.val false) rfl Tryz.underlying83)<|sW 2 g2 83 (pcs 0 0 false) (pcs u.val v.val false) (wS 0 83 (pcs u.val v.val false) rfl) ?_
 refine sG<|Sy.ret<|Sy.then_ret ?_
 rw [show (ptv (some (u,v)):Value)=pv u.val v.val false from rfl]
 exact rC (v:=pv u.val v.val false) 83 g2 2 (pcs u.val v.val false) rfl Tryz.underlying83
theorem addRe_ss (w:World) (x y:Nat) (i:Bool) (x2 y2:Nat) (i2:Bool) (hx:x<K4) (hy:y<K4) (hx2:x2<K4) (hy2:y2<K4) (u v c d:Fp) (h:dec x y i=some (u,v)) (k:dec x2 y2 i2=some (c,d)) (ho:v*v=u*u*u+7) (hk:d*d=c*c*c+7):Calls Tryz.prog 122 #[pv x y i,pv x2 y2 i2] w (Gets w (ptv (Ec.add finv (some (u,v)) (some (c,d))))):=by
 refine Sy.enter (args:=[pv x y i,pv x2 y2 i2]) Tryz.func122 rfl kL ?_
 refine sC ?_
 refine sM 83 (pcs x y i) (λg0=>?_)
 refine sM 83 (pcs x2 y2 i2) (λg1=>?_)
 refine sM 83 (pcs 0 0 false) (λg2=>?_)
 refine sA ?_
 refine sS (pv x y i) (qL 0 g0 0 9 83 83 (pcs x y i) rfl Tryz.underlying83)<|sS (pv u.val v.val false) (qF 161 #[pv x y i] (λw=>by have hrr:=taken_c w x y i lK lK; rw [h] at hrr; exact hrr))<|sW 0 g0 83 (pcs x y i) (pcs u.val v.val false) (wS 0 83 (pcs u.val v.val false) rfl) ?_
 refine sA ?_
 refine sS (pv x2 y2 i2) (qL 1 g1 0 9 83 83 (pcs x2 y2 i2) rfl Tryz.underlying83)<|sS (pv c.val d.val false) (qF 161 #[pv x2 y2 i2] (λw=>by have hrr:=taken_c w x2 y2 i2 lK lK; rw [k] at hrr; exact hrr))<|sW 1 g1 83 (pcs x2 y2 i2) (pcs c.val d.val false) (wS 0 83 (pcs c.val d.val false) rfl) ?_
 refine sG<|Sy.seq<|sC ?_
 refine sP (.pointer (some ⟨g0,8,none⟩))<|sS (.bool false) (qC 0 g0 8 83 4 (pcs u.val v.val false) rfl Tryz.underlying4) ?_
 refine sG<|sU<|Sy.skip<|Sy.then_<|Sy.seq<|sC ?_
 refine sP (.pointer (some ⟨g1,8,none⟩))<|sS (.bool false) (qC 1 g1 8 83 4 (pcs c.val d.val false) rfl Tryz.underlying4) ?_
 refine sG<|sU<|Sy.skip<|sB ?_
 refine sP (.pointer (some ⟨g0,0,none⟩))<|sS (fv u.val) (qL 0 g0 0 4 83 81 (pcs u.val v.val false) rfl Tryz.underlying81)<|sS (fv u.val) (qF 162 #[fv u.val] (λw=>refOf_any w u.val lK)) ?_
 refine sM 164 (fcs 0) (λg3=>?_)
 refine sW 3 g3 164 (fcs 0) (fcs u.val) (wS 0 164 (fcs u.val) rfl) ?_
 refine sA ?_
 refine sP (.pointer (some ⟨g0,4,none⟩))<|sS (fv v.val) (qL 0 g0 4 4 83 81 (pcs u.val v.val false) rfl Tryz.underlying81)<|sS (fv v.val) (qF 162 #[fv v.val] (λw=>refOf_any w v.val lK)) ?_
 refine sM 164 (fcs 0) (λg4=>?_)
 refine sW 4 g4 164 (fcs 0) (fcs v.val) (wS 0 164 (fcs v.val) rfl) ?_
 refine sA ?_
 refine sP (.pointer (some ⟨g1,0,none⟩))<|sS (fv c.val) (qL 1 g1 0 4 83 81 (pcs c.val d.val false) rfl Tryz.underlying81)<|sS (fv c.val) (qF 162 #[fv c.val] (λw=>refOf_any w c.val lK)) ?_
 refine sM 164 (fcs 0) (λg5=>?_)
 refine sW 5 g5 164 (fcs 0) (fcs c.val) (wS 0 164 (fcs c.val) rfl) ?_
 refine sA ?_
 refine sP (.pointer (some ⟨g1,4,none⟩))<|sS (fv d.val) (qL 1 g1 4 4 83 81 (pcs c.val d.val false) rfl Tryz.underlying81)<|sS (fv d.val) (qF 162 #[fv d.val] (λw=>refOf_any w d.val lK)) ?_
 refine sM 164 (fcs 0) (λg6=>?_)
 refine sW 6 g6 164 (fcs 0) (fcs d.val) (wS 0 164 (fcs d.val) rfl) ?_
 refine sA ?_
 refine sS (fv d.val) (qL 6 g6 0 4 164 164 (fcs d.val) rfl Tryz.underlying164)<|sS (fv v.val) (qL 4 g4 0 4 164 164 (fcs v.val) rfl Tryz.underlying164) ?_
 obtain ⟨z1,hz1⟩:∃ z:Fp,z=d - v:=⟨_,rfl⟩
 refine sS (fv z1.val) (qF 163 #[fv d.val,fv v.val] (λw=>by rw [hz1]; exact subR_c w d v)) ?_
 refine sM 164 (fcs 0) (λg7=>?_)
 refine sW 7 g7 164 (fcs 0) (fcs z1.val) (wS 0 164 (fcs z1.val) rfl) ?_
 refine sA ?_
 refine sS (fv c.val) (qL 5 g5 0 4 164 164 (fcs c.val) rfl Tryz.underlying164)<|sS (fv u.val) (qL 3 g3 0 4 164 164 (fcs u.val) rfl Tryz.underlying164) ?_
 obtain ⟨z2,hz2⟩:∃ z:Fp,z=c - u:=⟨_,rfl⟩
 refine sS (fv z2.val) (qF 163 #[fv c.val,fv u.val] (λw=>by rw [hz2]; exact subR_c w c u)) ?_
 refine sM 164 (fcs 0) (λg8=>?_)
 refine sW 8 g8 164 (fcs 0) (fcs z2.val) (wS 0 164 (fcs z2.val) rfl) ?_
 refine sG<|Sy.seq<|sC ?_
 refine sS (fv u.val) (qL 3 g3 0 4 164 164 (fcs u.val) rfl Tryz.underlying164)<|sS (fv c.val) (qL 5 g5 0 4 164 164 (fcs c.val) rfl Tryz.underlying164) ?_
 obtain ⟨b1,hb1⟩:∃ z:Bool,z=decide (u.val=c.val):=⟨_,rfl⟩
 refine sS (.bool b1) (Quiet.pure (λw=>by rw [hb1]; exact eql_num w _ _ _ _ _ _ rfl rfl rfl lK lK)) ?_
 refine sG ?_
 cases b1
 ·have e1:u≠c:=λe=>of_decide_eq_false hb1.symm (congrArg Fin.val e)
  refine sU<|Sy.skip ?_
  refine sR (λj=>j == 6) ?_
  refine sD 0 rfl (fv z1.val) (qL 7 g7 0 4 164 164 (fcs z1.val) rfl Tryz.underlying164)<|sD 1 rfl (.agg modcs) (qF 119 #[] (refP_any))<|sD 2 rfl (fv z2.val) (qL 8 g8 0 4 164 164 (fcs z2.val) rfl Tryz.underlying164) ?_
  obtain ⟨z3,hz3⟩:∃ z:Fp,z=finv z2:=⟨_,rfl⟩
  refine sD 3 rfl (fv z3.val) (qF 166 #[.agg modcs,fv z2.val] (λw=>by rw [hz3]; exact refinv_c w z2)) ?_
  obtain ⟨z4,hz4⟩:∃ z:Fp,z=z1*z3:=⟨_,rfl⟩
  refine sD 4 rfl (fv z4.val) (qF 164 #[fv z1.val,fv z3.val] (λw=>by rw [hz4]; exact mulR_c w z1 z3)) ?_
  refine sO 5 rfl 164 (fcs 0) (λg9=>?_)
  refine sX 6 rfl 9 g9 164 (fcs 0) (fcs z4.val) (wS 0 164 (fcs z4.val) rfl) ?_
  refine sE ?_
  refine sR (λj=>j == 8) ?_
  refine sD 0 rfl (fv z4.val) (qL 9 g9 0 4 164 164 (fcs z4.val) rfl Tryz.underlying164)<|sD 1 rfl (fv z4.val) (qL 9 g9 0 4 164 164 (fcs z4.val) rfl Tryz.underlying164) ?_
  obtain ⟨z5,hz5⟩:∃ z:Fp,z=z4*z4:=⟨_,rfl⟩
  refine sD 2 rfl (fv z5.val) (qF 164 #[fv z4.val,fv z4.val] (λw=>by rw [hz5]; exact mulR_c w z4 z4))<|sD 3 rfl (fv u.val) (qL 3 g3 0 4 164 164 (fcs u.val) rfl Tryz.underlying164) ?_
  obtain ⟨z6,hz6⟩:∃ z:Fp,z=z5 - u:=⟨_,rfl⟩
  refine sD 4 rfl (fv z6.val) (qF 163 #[fv z5.val,fv u.val] (λw=>by rw [hz6]; exact subR_c w z5 u))<|sD 5 rfl (fv c.val) (qL 5 g5 0 4 164 164 (fcs c.val) rfl Tryz.underlying164) ?_
  obtain ⟨z7,hz7⟩:∃ z:Fp,z=z6 - c:=⟨_,rfl⟩
  refine sD 6 rfl (fv z7.val) (qF 163 #[fv z6.val,fv c.val] (λw=>by rw [hz7]; exact subR_c w z6 c)) ?_
  refine sO 7 rfl 164 (fcs 0) (λg10=>?_)
  refine sX 8 rfl 10 g10 164 (fcs 0) (fcs z7.val) (wS 0 164 (fcs z7.val) rfl) ?_
  refine sE ?_
  refine sR (λj=>j == 9) ?_
  refine sD 0 rfl (fv z7.val) (qL 10 g10 0 4 164 164 (fcs z7.val) rfl Tryz.underlying164)<|sD 1 rfl (fv z4.val) (qL 9 g9 0 4 164 164 (fcs z4.val) rfl Tryz.underlying164)<|sD 2 rfl (fv u.val) (qL 3 g3 0 4 164 164 (fcs u.val) rfl Tryz.underlying164)<|sD 3 rfl (fv z7.val) (qL 10 g10 0 4 164 164 (fcs z7.val) rfl Tryz.underlying164) ?_
  obtain ⟨z8,hz8⟩:∃ z:Fp,z=u - z7:=⟨_,rfl⟩
  refine sD 4 rfl (fv z8.val) (qF 163 #[fv u.val,fv z7.val] (λw=>by rw [hz8]; exact subR_c w u z7)) ?_
  obtain ⟨z9,hz9⟩:∃ z:Fp,z=z4*z8:=⟨_,rfl⟩
  refine sD 5 rfl (fv z9.val) (qF 164 #[fv z4.val,fv z8.val] (λw=>by rw [hz9]; exact mulR_c w z4 z8))<|sD 6 rfl (fv v.val) (qL 4 g4 0 4 164 164 (fcs v.val) rfl Tryz.underlying164) ?_
  obtain ⟨z10,hz10⟩:∃ z:Fp,z=z9 - v:=⟨_,rfl⟩
  refine sD 7 rfl (fv z10.val) (qF 163 #[fv z9.val,fv v.val] (λw=>by rw [hz10]; exact subR_c w z9 v))<|sD 8 rfl (pv z7.val z10.val false) (qF 155 #[fv z7.val,fv z10.val] (λw=>pointR_c w z7.val z10.val lK lK))<|sX 9 rfl 2 g2 83 (pcs 0 0 false) (pcs z7.val z10.val false) (wS 0 83 (pcs z7.val z10.val false) rfl) ?_
  refine sI ?_
  refine Sy.ret ?_
  have ha:¬ (u=c∧v+d=0):=λt=>e1 t.1
  have hs:z4=Ec.slp finv u v c d:=by
   unfold Ec.slp
   rw [if_neg e1]
   clear h k ho hk hb1 ha e1
   grobner
  rw [show (ptv (Ec.add finv (some (u,v)) (some (c,d))):Value)=pv z7.val z10.val false from by simp only [Ec.add]; rw [if_neg ha, ← hs]; unfold Ec.y3 Ec.x3 ptv; rw [hz10,hz9,hz8,hz7,hz6,hz5]]
  exact rC (v:=pv z7.val z10.val false) 83 g2 2 (pcs z7.val z10.val false) rfl Tryz.underlying83
 ·have e1:u=c:=Fin.ext (of_decide_eq_true hb1.symm)
  refine sT<|Sy.seq<|sC ?_
  refine sS (fv v.val) (qL 4 g4 0 4 164 164 (fcs v.val) rfl Tryz.underlying164)<|sS (fv d.val) (qL 6 g6 0 4 164 164 (fcs d.val) rfl Tryz.underlying164) ?_
  obtain ⟨b2,hb2⟩:∃ z:Bool,z=decide (v.val≠d.val):=⟨_,rfl⟩
  refine sS (.bool b2) (Quiet.pure (λw=>by rw [hb2]; exact neq_num w _ _ _ _ _ _ rfl rfl rfl lK lK))<|sP (.bool b2) ?_
  cases b2
  ·have e2:v=d:=Fin.ext (Decidable.of_not_not (of_decide_eq_false hb2.symm))
   refine sS (fv v.val) (qL 4 g4 0 4 164 164 (fcs v.val) rfl Tryz.underlying164)<|sP (fv 0) ?_
   obtain ⟨b3,hb3⟩:∃ z:Bool,z=decide (v.val=0):=⟨_,rfl⟩
   refine sS (.bool b3) (Quiet.pure (λw=>by rw [hb3]; exact eql_num w _ _ _ _ _ _ rfl rfl rfl lK lK))<|sP (.bool b3) ?_
   refine sG ?_
   cases b3
   ·refine sU<|Sy.skip<|sB ?_
    refine sS (fv u.val) (qL 3 g3 0 4 164 164 (fcs u.val) rfl Tryz.underlying164)<|sS (fv u.val) (qL 3 g3 0 4 164 164 (fcs u.val) rfl Tryz.underlying164) ?_
    obtain ⟨z11,hz11⟩:∃ z:Fp,z=u*u:=⟨_,rfl⟩
    refine sS (fv z11.val) (qF 164 #[fv u.val,fv u.val] (λw=>by rw [hz11]; exact mulR_c w u u)) ?_
    refine sM 164 (fcs 0) (λg9=>?_)
    refine sW 9 g9 164 (fcs 0) (fcs z11.val) (wS 0 164 (fcs z11.val) rfl) ?_
    refine sH (λj=>j == 5) ?_
    refine sD 0 rfl (fv z11.val) (qL 9 g9 0 4 164 164 (fcs z11.val) rfl Tryz.underlying164)<|sD 1 rfl (fv z11.val) (qL 9 g9 0 4 164 164 (fcs z11.val) rfl Tryz.underlying164)<|sD 2 rfl (fv z11.val) (qL 9 g9 0 4 164 164 (fcs z11.val) rfl Tryz.underlying164) ?_
    obtain ⟨z12,hz12⟩:∃ z:Fp,z=z11+z11:=⟨_,rfl⟩
    refine sD 3 rfl (fv z12.val) (qF 165 #[fv z11.val,fv z11.val] (λw=>by rw [hz12]; exact addR_c w z11 z11)) ?_
    obtain ⟨z13,hz13⟩:∃ z:Fp,z=z11+z12:=⟨_,rfl⟩
    refine sD 4 rfl (fv z13.val) (qF 165 #[fv z11.val,fv z12.val] (λw=>by rw [hz13]; exact addR_c w z11 z12))<|sX 5 rfl 7 g7 164 (fcs z1.val) (fcs z13.val) (wS 0 164 (fcs z13.val) rfl) ?_
    refine sI ?_
    refine Sy.region ?_
    refine sS (fv v.val) (qL 4 g4 0 4 164 164 (fcs v.val) rfl Tryz.underlying164)<|sS (fv v.val) (qL 4 g4 0 4 164 164 (fcs v.val) rfl Tryz.underlying164) ?_
    obtain ⟨z14,hz14⟩:∃ z:Fp,z=v+v:=⟨_,rfl⟩
    refine sS (fv z14.val) (qF 165 #[fv v.val,fv v.val] (λw=>by rw [hz14]; exact addR_c w v v))<|sW 8 g8 164 (fcs z2.val) (fcs z14.val) (wS 0 164 (fcs z14.val) rfl) ?_
    refine sH (λj=>j == 6) ?_
    refine sD 0 rfl (fv z13.val) (qL 7 g7 0 4 164 164 (fcs z13.val) rfl Tryz.underlying164)<|sD 1 rfl (.agg modcs) (qF 119 #[] (refP_any))<|sD 2 rfl (fv z14.val) (qL 8 g8 0 4 164 164 (fcs z14.val) rfl Tryz.underlying164) ?_
    obtain ⟨z15,hz15⟩:∃ z:Fp,z=finv z14:=⟨_,rfl⟩
    refine sD 3 rfl (fv z15.val) (qF 166 #[.agg modcs,fv z14.val] (λw=>by rw [hz15]; exact refinv_c w z14)) ?_
    obtain ⟨z16,hz16⟩:∃ z:Fp,z=z13*z15:=⟨_,rfl⟩
    refine sD 4 rfl (fv z16.val) (qF 164 #[fv z13.val,fv z15.val] (λw=>by rw [hz16]; exact mulR_c w z13 z15)) ?_
    refine sO 5 rfl 164 (fcs 0) (λg10=>?_)
    refine sX 6 rfl 10 g10 164 (fcs 0) (fcs z16.val) (wS 0 164 (fcs z16.val) rfl) ?_
    refine sE ?_
    refine sR (λj=>j == 8) ?_
    refine sD 0 rfl (fv z16.val) (qL 10 g10 0 4 164 164 (fcs z16.val) rfl Tryz.underlying164)<|sD 1 rfl (fv z16.val) (qL 10 g10 0 4 164 164 (fcs z16.val) rfl Tryz.underlying164) ?_
    obtain ⟨z17,hz17⟩:∃ z:Fp,z=z16*z16:=⟨_,rfl⟩
    refine sD 2 rfl (fv z17.val) (qF 164 #[fv z16.val,fv z16.val] (λw=>by rw [hz17]; exact mulR_c w z16 z16))<|sD 3 rfl (fv u.val) (qL 3 g3 0 4 164 164 (fcs u.val) rfl Tryz.underlying164) ?_
    obtain ⟨z18,hz18⟩:∃ z:Fp,z=z17 - u:=⟨_,rfl⟩
    refine sD 4 rfl (fv z18.val) (qF 163 #[fv z17.val,fv u.val] (λw=>by rw [hz18]; exact subR_c w z17 u))<|sD 5 rfl (fv c.val) (qL 5 g5 0 4 164 164 (fcs c.val) rfl Tryz.underlying164) ?_
    obtain ⟨z19,hz19⟩:∃ z:Fp,z=z18 - c:=⟨_,rfl⟩
    refine sD 6 rfl (fv z19.val) (qF 163 #[fv z18.val,fv c.val] (λw=>by rw [hz19]; exact subR_c w z18 c)) ?_
    refine sO 7 rfl 164 (fcs 0) (λg11=>?_)
    refine sX 8 rfl 11 g11 164 (fcs 0) (fcs z19.val) (wS 0 164 (fcs z19.val) rfl) ?_
    refine sE ?_
    refine sR (λj=>j == 9) ?_
    refine sD 0 rfl (fv z19.val) (qL 11 g11 0 4 164 164 (fcs z19.val) rfl Tryz.underlying164)<|sD 1 rfl (fv z16.val) (qL 10 g10 0 4 164 164 (fcs z16.val) rfl Tryz.underlying164)<|sD 2 rfl (fv u.val) (qL 3 g3 0 4 164 164 (fcs u.val) rfl Tryz.underlying164)<|sD 3 rfl (fv z19.val) (qL 11 g11 0 4 164 164 (fcs z19.val) rfl Tryz.underlying164) ?_
    obtain ⟨z20,hz20⟩:∃ z:Fp,z=u - z19:=⟨_,rfl⟩
    refine sD 4 rfl (fv z20.val) (qF 163 #[fv u.val,fv z19.val] (λw=>by rw [hz20]; exact subR_c w u z19)) ?_
    obtain ⟨z21,hz21⟩:∃ z:Fp,z=z16*z20:=⟨_,rfl⟩
    refine sD 5 rfl (fv z21.val) (qF 164 #[fv z16.val,fv z20.val] (λw=>by rw [hz21]; exact mulR_c w z16 z20))<|sD 6 rfl (fv v.val) (qL 4 g4 0 4 164 164 (fcs v.val) rfl Tryz.underlying164) ?_
    obtain ⟨z22,hz22⟩:∃ z:Fp,z=z21 - v:=⟨_,rfl⟩
    refine sD 7 rfl (fv z22.val) (qF 163 #[fv z21.val,fv v.val] (λw=>by rw [hz22]; exact subR_c w z21 v))<|sD 8 rfl (pv z19.val z22.val false) (qF 155 #[fv z19.val,fv z22.val] (λw=>pointR_c w z19.val z22.val lK lK))<|sX 9 rfl 2 g2 83 (pcs 0 0 false) (pcs z19.val z22.val false) (wS 0 83 (pcs z19.val z22.val false) rfl) ?_
    refine sI ?_
    refine Sy.ret ?_
    have ha:¬ (u=c∧v+d=0):=λt=>no_two u v ho (fld.two v (e2 ▸ t.2))
    have hs:z16=Ec.slp finv u v c d:=by
     unfold Ec.slp
     rw [if_pos e1]
     clear h k ho hk hb1 hb2 hb3 ha e1 e2
     grobner
    rw [show (ptv (Ec.add finv (some (u,v)) (some (c,d))):Value)=pv z19.val z22.val false from by simp only [Ec.add]; rw [if_neg ha, ← hs]; unfold Ec.y3 Ec.x3 ptv; rw [hz22,hz21,hz20,hz19,hz18,hz17]]
    exact rC (v:=pv z19.val z22.val false) 83 g2 2 (pcs z19.val z22.val false) rfl Tryz.underlying83
   ·exact absurd (Fin.ext (of_decide_eq_true hb3.symm)) (no_two u v ho)
  ·have e2:v≠d:=λe=>of_decide_eq_true hb2.symm (congrArg Fin.val e)
   refine sN<|sN<|sN ?_
   refine sP (.bool true) ?_
   refine sG<|sT<|sC ?_
   refine sS (pv 0 0 true) (qF 154 #[] (zeroR_c))<|sW 2 g2 83 (pcs 0 0 false) (pcs 0 0 true) (wS 0 83 (pcs 0 0 true) rfl) ?_
   refine sG<|Sy.ret<|Sy.then_ret<|Sy.then_ret ?_
   rw [show (ptv (Ec.add finv (some (u,v)) (some (c,d))):Value)=pv 0 0 true from by simp only [Ec.add]; rw [if_pos ⟨e1,Classical.byContradiction λt=>Ec.off fld ho hk (λq=>e2 q.2) (λq=>t q.2) e1⟩]; rfl]
   exact rC (v:=pv 0 0 true) 83 g2 2 (pcs 0 0 true) rfl Tryz.underlying83
theorem addRe_any (w:World) (x y:Nat) (i:Bool) (x2 y2:Nat) (i2:Bool) (hx:x<K4) (hy:y<K4) (hx2:x2<K4) (hy2:y2<K4):Calls Tryz.prog 122 #[pv x y i,pv x2 y2 i2] w (Gets w (ptv (Ec.add finv (dec x y i) (dec x2 y2 i2)))):=by
 have o1:=dec_on x y i
 have o2:=dec_on x2 y2 i2
 rcases h:dec x y i with _ | ⟨u,v⟩ <;> rcases k:dec x2 y2 i2 with _ | ⟨c,d⟩
 ·exact addRe_nn w x y i x2 y2 i2 hx hy hx2 hy2 h k
 ·exact addRe_ns w x y i x2 y2 i2 hx hy hx2 hy2 c d h k
 ·exact addRe_sn w x y i x2 y2 i2 hx hy hx2 hy2 u v h k
 ·rw [h] at o1
  rw [k] at o2
  exact addRe_ss w x y i x2 y2 i2 hx hy hx2 hy2 u v c d h k o1 o2
end Cu
end
section
namespace Cu
open Go.RowKit Sy
end Cu
end
section
section
open Go.RowKit Go.Lib
set_option maxHeartbeats 8000000 in
set_option maxRecDepth 100000 in
theorem bytes_any (w:World) (x:Nat) (hx:x<(2^256)):Calls Tryz.prog 76 #[fv x] w λe w'=>e=.returned (.agg ((bytesS (x%pM)).map bv).toArray)∧Below w.heap.size w w':=by
 obtain ⟨z,hz⟩:∃ z,z=x%pM:=⟨_,rfl⟩
 have hzl:z<(2^256):=by rw [hz]; exact mod_lt x
 have cn:∀ w,Calls Tryz.prog 90 #[fv x] w λe w'=>e=.returned (fv z)∧Below w.heap.size w w':=by
  intro w; rw [hz]; exact norm_any w x hx
 rw [← hz]
 obtain ⟨z0,z1,z2,z3,a0,a1,a2,a3,ez,fz⟩:=words_of z hzl
 have HZ:=Lib.hid (And.intro a0 (And.intro a1 (And.intro a2 (And.intro a3 ez))))
 have FZ:=Lib.hid fz
 obtain ⟨x0,x1,x2,x3,fx⟩:=words_fv x hx
 rw [fx] at cn ⊢
 clear fx fz hz hzl a0 a1 a2 a3 ez hx
 have hZB:Hid ((List.replicate 32 (Value.int .u8 0)).toArray=((partB z 0).map bv).toArray):=Lib.hid (by simp [partB,lowB,bv])
 go_enter Tryz.func76,Tryz.ntmps76
 go_wp2_with fail
 refine (cn _).mono ?_
 rintro e w1 ⟨rfl,hb⟩
 have BR:Blk w1 (w.heap.size+1) 24 _:=Gr.blk hb (Blk.alloc (blk_new2 w _ _ _) _)
 have BB:Blk w1 (w.heap.size+2) 24 ((partB z 0).map bv).toArray:=Blk.eq_ (Gr.blk hb (blk_new3 w _ _ _ _)) hZB.out
 have hB:=Below.gr (below_alloc3 w _ _ _) hb
 have sz:=BB.lt
 clear hb cn
 go_wp2_with (first | ((with_reducible refine here_store ?_); refine wpList_store_blk rfl _ _ _ rfl (w1.heap.size) (fcs (z)) rfl rfl _ _ (Blk.new w1 _ _) (by kernel_rfl) (by rfl) (fcs_one _) ?_; intro w2 hL2 hB2 hK2; have CR:=hK2 _ (by omega) _ _ (BR.alloc _); have CB:=hK2 _ (by omega) _ _ (BB.alloc _); have hC:=(hB.alloc (by omega) _).trans (hB2 _ (by omega))))
 go_loopw [8] (λi wr=>∃ k:Nat,k≤32∧i=.int .i64 (k:Int)∧Below w.heap.size w wr∧Blk wr (w.heap.size+2) 24 ((partB z k).map bv).toArray∧Blk wr w1.heap.size 81 #[.int .u64 (z0:Int),.int .u64 (z1:Int),.int .u64 (z2:Int),.int .u64 (z3:Int)]∧Blk wr (w.heap.size+1) 24 (List.replicate 32 (Value.int .u8 0)).toArray) (λi _=>32 - (intOf i).toNat)
 case atStart=>exact ⟨0,by omega,rfl,hC,CB,hL2.eq_ (fcs_words FZ.out),CR⟩
 case round =>
  obtain ⟨k,hk,rfl,hb,hP,hN,hR⟩:=hrel
  by_cases hlt:k<32
  ·have ce:∀ j,j<32→∃ v,wr.cell? ⟨w.heap.size+1+1,j,none⟩=some v:=λj hj=>⟨_,(hP.cell j).trans (Array.getElem?_eq_getElem (by simp [partB_length z k hk]; exact hj))⟩
   obtain ⟨v,hv⟩:=ce (31 - k) (by omega)
   have ff:=hP.frozen (31 - k)
   have q0:wr.cell? ⟨w1.heap.size,0,none⟩=some (.int .u64 (z0:Int)):=hN.cell 0
   have q1:wr.cell? ⟨w1.heap.size,1,none⟩=some (.int .u64 (z1:Int)):=hN.cell 1
   have q2:wr.cell? ⟨w1.heap.size,2,none⟩=some (.int .u64 (z2:Int)):=hN.cell 2
   have q3:wr.cell? ⟨w1.heap.size,3,none⟩=some (.int .u64 (z3:Int)):=hN.cell 3
   have hPn:=hP.set_ (31 - k) (bv (byteN z k))
   rw [partB_set z k hlt] at hPn
   have HP:=Lib.hid hPn
   clear hPn ce
   have HR:=Lib.hid (And.intro hb (And.intro hN hR))
   clear hb hP hN hR hk
   have hsz:w.heap.size+2<w1.heap.size:=sz
   rcases (show k=0∨k=1∨k=2∨k=3∨k=4∨k=5∨k=6∨k=7∨k=8∨k=9∨k=10∨k=11∨k=12∨k=13∨k=14∨k=15∨k=16∨k=17∨k=18∨k=19∨k=20∨k=21∨k=22∨k=23∨k=24∨k=25∨k=26∨k=27∨k=28∨k=29∨k=30∨k=31 by omega) with rfl | rfl | rfl | rfl | rfl | rfl | rfl | rfl | rfl | rfl | rfl | rfl | rfl | rfl | rfl | rfl | rfl | rfl | rfl | rfl | rfl | rfl | rfl | rfl | rfl | rfl | rfl | rfl | rfl | rfl | rfl | rfl
   all_goals
    go_wp2
    obtain ⟨a0,a1,a2,a3,ez⟩:=HZ.out
    refine ⟨⟨_,by decide,rfl,HR.out.1.setCell (by show w.heap.size≤w.heap.size+1+1; omega) _,HP.out.val (by rw [bv_byteN]; congr 1; omega),HR.out.2.1.far (by show w1.heap.size≠w.heap.size+1+1; omega) _,HR.out.2.2.far (by show w.heap.size+1≠w.heap.size+1+1; omega) _⟩,by simp [intOf]⟩
  ·have p1:¬ (k:Int)<32:=by omega
   obtain rfl:k=32:=by omega
   rw [partB_full] at hP
   have HI:=Lib.hid (bytesS_length z)
   have HL:=Lib.hid hP
   have HR:=Lib.hid hR
   clear hN hP hR
   go_wp2_with (first | ((with_reducible refine here_load (d:=some 24) ?_); refine wpList_load_blk rfl _ _ rfl (w.heap.size+2) rfl _ _ _ HL.out Tryz.underlying24 rfl (b32_info HI.out) ?_) | ((with_reducible refine here_store ?_); refine wpList_store_blk rfl _ _ _ rfl (w.heap.size+1) ((bytesS z).map bv).toArray rfl rfl _ _ HR.out (b32_info HI.out) (by simp [HI.out]) (b32_one _) ?_; intro w9 hL9 hB9 hK9))
   exact bodyPost_ret (results_cell_row rfl _ _ (w.heap.size+1) _ _ (0,0) _ rfl hL9 Tryz.underlying24 rfl (b32_info HI.out)) rfl ⟨rfl,hb.trans (hB9 _ (by omega))⟩
end
end
end Go.Proofs.YtnbenphcpenbeaaGreatDoor
