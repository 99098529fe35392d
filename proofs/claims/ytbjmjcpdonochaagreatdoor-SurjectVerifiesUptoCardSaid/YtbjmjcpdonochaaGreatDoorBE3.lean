/-
  Texts of ours, put together: RefNum, RefMinus, SymC, SymE, RowZ, FoldZ, RefFold, RefAdd, MulZ, RefMul, PowZ, RefPow, NumB, FeOwn, RefBytes.
-/
import Derived.Test.YtbjmjcpdonochaaGreatDoorBE2
set_option linter.unusedVariables false
set_option linter.unusedSimpArgs false
set_option maxRecDepth 100000
set_option maxHeartbeats 8000000
namespace Go.Proofs.YtbjmjcpdonochaaGreatDoor
section
section
open Go.RowKit Go.Lib
def G5:Value:=.agg #[.int .u64 18446744069414583343,.int .u64 18446744073709551615,.int .u64 18446744073709551615,.int .u64 18446744073709551615,.int .u64 4294968273,.int .u64 0,.int .u64 0]
theorem LZ:fv 115792089237316195423570985008687907853269984665640564039457584007908834671663=.agg #[.int .u64 18446744069414583343,.int .u64 18446744073709551615,.int .u64 18446744073709551615,.int .u64 18446744073709551615]:=rfl
theorem Cs (w:World):Calls Tryz.prog 54 #[] w λe w'=>e=.returned G5∧Below w.heap.size w w':=by
 go_enter Tryz.func54,Tryz.ntmps54
 go_wp2
 exact bodyPost_ret (results_cell_row U _ _ w.heap.size _ _ (0,0) _ U (heap_alloc_new w _) Ey U kZ) rfl ⟨rfl,(Below.refl _ _).alloc (Nat.le_refl _) _⟩
theorem refOf_any (w:World) (n:Nat) (hn:n<(2^256)):Calls Tryz.prog 49 #[fv n] w λe w'=>e=.returned (fv n)∧Below w.heap.size w w':=by
 obtain ⟨a,b,c,d,fn⟩:=Ad n hn
 rw [fn]
 clear fn
 go_enter Tryz.func49,Tryz.ntmps49
 go_wp2
 exact bodyPost_ret (results_cell_row U _ _ (w.heap.size+1) _ _ (0,0) _ U (heap_alloc2_new w _ _) AH U kZ) rfl ⟨rfl,Ab w _ _⟩
theorem IG (w:World) (n:Nat) (hn:n<(2^256)):Calls Tryz.prog 118 #[fv n] w λe w'=>e=.returned (fv n)∧Below w.heap.size w w':=by
 obtain ⟨a,b,c,d,fn⟩:=Ad n hn
 rw [fn]
 clear fn
 go_enter Tryz.func118,Tryz.ntmps118
 go_wp2
 exact bodyPost_ret (results_cell_row U _ _ (w.heap.size+1) _ _ (0,0) _ U (heap_alloc2_new w _ _) AG U kZ) rfl ⟨rfl,Ab w _ _⟩
theorem FT {v1 v2:Value} (w:World) (x y:Nat) (h1:fv x=v1) (h2:fv y=v2) (hx:x<(2^256)) (hy:y<(2^256)):Calls Tryz.prog 111 #[v1,v2] w λe w'=>e=.returned (.bool (decide (x<y)))∧Below w.heap.size w w':=by
 subst h1 h2
 obtain ⟨x0,x1,x2,x3,a0,a1,a2,a3,ex,fx⟩:=Am x hx
 obtain ⟨y0,y1,y2,y3,b0,b1,b2,b3,ey,fy⟩:=Am y hy
 obtain ⟨r,hr⟩:=xE (decide (x<y))
 have t3:x3≠y3→r=decide ((x3:Int)<(y3:Int)):=λh=>by rw [hr]; congr 1; simp only [eq_iff_iff]; omega
 have t2:x3=y3→x2≠y2→r=decide ((x2:Int)<(y2:Int)):=λ_ h=>by rw [hr]; congr 1; simp only [eq_iff_iff]; omega
 have t1:x3=y3→x2=y2→x1≠y1→r=decide ((x1:Int)<(y1:Int)):=λ_ _ h=>by rw [hr]; congr 1; simp only [eq_iff_iff]; omega
 have t0:x3=y3→x2=y2→x1=y1→x0≠y0→r=decide ((x0:Int)<(y0:Int)):=λ_ _ _ h=>by rw [hr]; congr 1; simp only [eq_iff_iff]; omega
 have te:x3=y3→x2=y2→x1=y1→x0=y0→r=false:=λ_ _ _ _=>by rw [hr]; simp only [decide_eq_false_iff_not]; omega
 have HT:=Lib.hid (And.intro t3 (And.intro t2 (And.intro t1 (And.intro t0 te))))
 rw [fx,fy, ← hr]
 clear fx fy ex ey hx hy a0 a1 a2 a3 b0 b1 b2 b3 hr t3 t2 t1 t0 te
 go_enter Tryz.func111,Tryz.ntmps111
 go_wp2_with fail
 go_loopw [5] (λi wr=>Below w.heap.size w wr∧Blk wr w.heap.size 90 #[.int .u64 (x0:Int),.int .u64 (x1:Int),.int .u64 (x2:Int),.int .u64 (x3:Int)]∧Blk wr (w.heap.size+1) 90 #[.int .u64 (y0:Int),.int .u64 (y1:Int),.int .u64 (y2:Int),.int .u64 (y3:Int)]∧Hid ((i=.int .i64 3)∨(i=.int .i64 2∧x3=y3)∨(i=.int .i64 1∧x3=y3∧x2=y2)∨(i=.int .i64 0∧x3=y3∧x2=y2∧x1=y1)∨(i=.int .i64 (-1)∧x3=y3∧x2=y2∧x1=y1∧x0=y0))) (λi _=>(intOf i+1).toNat)
 case atStart=>exact ⟨Ab w _ _,(Blk.new w _ _).alloc _,AZ w _ _ _,Lib.hid (.inl U)⟩
 case round =>
  obtain ⟨hb,BX,BY,HI⟩:=hrel
  have lX:=BX.lt
  have lY:=BY.lt
  have qx0:wr.cell? ⟨w.heap.size,0,none⟩=some (.int .u64 (x0:Int)):=BX.cell 0
  have qy0:wr.cell? ⟨w.heap.size+1,0,none⟩=some (.int .u64 (y0:Int)):=BY.cell 0
  have qx1:wr.cell? ⟨w.heap.size,1,none⟩=some (.int .u64 (x1:Int)):=BX.cell 1
  have qy1:wr.cell? ⟨w.heap.size+1,1,none⟩=some (.int .u64 (y1:Int)):=BY.cell 1
  have qx2:wr.cell? ⟨w.heap.size,2,none⟩=some (.int .u64 (x2:Int)):=BX.cell 2
  have qy2:wr.cell? ⟨w.heap.size+1,2,none⟩=some (.int .u64 (y2:Int)):=BY.cell 2
  have qx3:wr.cell? ⟨w.heap.size,3,none⟩=some (.int .u64 (x3:Int)):=BX.cell 3
  have qy3:wr.cell? ⟨w.heap.size+1,3,none⟩=some (.int .u64 (y3:Int)):=BY.cell 3
  rcases HI.out with rfl | ⟨rfl,E⟩ | ⟨rfl,E⟩ | ⟨rfl,E⟩ | ⟨rfl,E⟩
  ·have hk:Hid (True):=Lib.hid trivial
   clear HI
   obtain ⟨b,hbd⟩:=xE (decide (x3≠y3))
   have hbb:(!((x3:Int) == (y3:Int)))=b:=by
    rw [hbd]
    by_cases h:x3=y3 <;> simp [h] <;> omega
   have HB:=Lib.hid hbd
   clear hbd
   go_wp2
   refine wp_region_G (λ_=>false) kZ ?_
   try simp only [Act.put]
   refine tk 0 U ?_
   try simp only [aPS]
   refine tk 1 U ?_
   try simp only [aPS]
   refine tkw 2 U (YieldsG.pure (v:=.int .u64 (x3:Int)) (by rfl) (λw9 h9=>by have hz:=(Below.cell (p:=⟨w.heap.size,3,none⟩) h9 lX).trans qx3; go_simp; first | done | simp [hz])) ?_
   try simp only [aPS]
   refine tk 3 U ?_
   try simp only [aPS]
   refine tk 4 U ?_
   try simp only [aPS]
   refine tkw 5 U (YieldsG.pure (v:=.int .u64 (y3:Int)) (by rfl) (λw9 h9=>by have hz:=(Below.cell (p:=⟨w.heap.size+1,3,none⟩) h9 lY).trans qy3; go_simp; first | done | simp [hz])) ?_
   try simp only [aPS]
   refine tkw 6 U (YieldsG.pure (v:=.bool b) (by rfl) (λw9 h9=>by go_simp; congr 3; all_goals (rw [HB.out]; all_goals (by_cases h:x3=y3 <;> simp [h] <;> omega)))) ?_
   try simp only [aPS]
   refine wpAnyG_done kZ (λu hu=>?_)
   have hbu:=Below.gr hb hu
   have BXu:=Gr.blk hu BX
   have BYu:=Gr.blk hu BY
   cases b
   ·have hxy:x3=y3:=by
     have:=HB.out
     simpa using this
    have HXY:=Lib.hid hxy
    clear hxy
    go_wp2
    exact ⟨⟨hbu,BXu,BYu,Lib.hid (.inr (.inl ⟨rfl,HXY.out⟩))⟩,by decide⟩
   ·have hxy:x3≠y3:=by
     have:=HB.out
     simpa using this
    have hr2:=Lib.hid (HT.out.1 hxy)
    have lXu:=BXu.lt
    have lYu:=BYu.lt
    have px:u.cell? ⟨w.heap.size,3,none⟩=some (.int .u64 (x3:Int)):=BXu.cell 3
    have py:u.cell? ⟨w.heap.size+1,3,none⟩=some (.int .u64 (y3:Int)):=BYu.cell 3
    clear hxy hk HT
    go_wp2
    refine wp_region_G (λ_=>false) kZ ?_
    try simp only [Act.put]
    refine tk 0 U ?_
    try simp only [aPS]
    refine tk 1 U ?_
    try simp only [aPS]
    refine tkw 2 U (YieldsG.pure (v:=.int .u64 (x3:Int)) (by rfl) (λw9 h9=>by have hz:=(Below.cell (p:=⟨w.heap.size,3,none⟩) h9 lXu).trans px; go_simp; first | done | simp [hz])) ?_
    try simp only [aPS]
    refine tk 3 U ?_
    try simp only [aPS]
    refine tk 4 U ?_
    try simp only [aPS]
    refine tkw 5 U (YieldsG.pure (v:=.int .u64 (y3:Int)) (by rfl) (λw9 h9=>by have hz:=(Below.cell (p:=⟨w.heap.size+1,3,none⟩) h9 lYu).trans py; go_simp; first | done | simp [hz])) ?_
    try simp only [aPS]
    refine tkw 6 U (YieldsG.pure (v:=.bool r) (by rfl) (λw9 h9=>by go_simp; congr 3; rw [hr2.out]; all_goals (apply decide_eq_decide.2; omega))) ?_
    try simp only [aPS]
    refine tk 7 U ?_
    try simp only [aPS]
    refine wpAnyG_done kZ (λu2 hu2=>?_)
    go_wp2
    go_ret
    exact ⟨rfl,Below.gr hbu hu2⟩
  ·have hk:Hid (x3=y3):=Lib.hid E
   clear HI E
   obtain ⟨b,hbd⟩:=xE (decide (x2≠y2))
   have hbb:(!((x2:Int) == (y2:Int)))=b:=by
    rw [hbd]
    by_cases h:x2=y2 <;> simp [h] <;> omega
   have HB:=Lib.hid hbd
   clear hbd
   go_wp2
   refine wp_region_G (λ_=>false) kZ ?_
   try simp only [Act.put]
   refine tk 0 U ?_
   try simp only [aPS]
   refine tk 1 U ?_
   try simp only [aPS]
   refine tkw 2 U (YieldsG.pure (v:=.int .u64 (x2:Int)) (by rfl) (λw9 h9=>by have hz:=(Below.cell (p:=⟨w.heap.size,2,none⟩) h9 lX).trans qx2; go_simp; first | done | simp [hz])) ?_
   try simp only [aPS]
   refine tk 3 U ?_
   try simp only [aPS]
   refine tk 4 U ?_
   try simp only [aPS]
   refine tkw 5 U (YieldsG.pure (v:=.int .u64 (y2:Int)) (by rfl) (λw9 h9=>by have hz:=(Below.cell (p:=⟨w.heap.size+1,2,none⟩) h9 lY).trans qy2; go_simp; first | done | simp [hz])) ?_
   try simp only [aPS]
   refine tkw 6 U (YieldsG.pure (v:=.bool b) (by rfl) (λw9 h9=>by go_simp; congr 3; all_goals (rw [HB.out]; all_goals (by_cases h:x2=y2 <;> simp [h] <;> omega)))) ?_
   try simp only [aPS]
   refine wpAnyG_done kZ (λu hu=>?_)
   have hbu:=Below.gr hb hu
   have BXu:=Gr.blk hu BX
   have BYu:=Gr.blk hu BY
   cases b
   ·have hxy:x2=y2:=by
     have:=HB.out
     simpa using this
    have HXY:=Lib.hid hxy
    clear hxy
    go_wp2
    exact ⟨⟨hbu,BXu,BYu,Lib.hid (.inr (.inr (.inl ⟨rfl,hk.out,HXY.out⟩)))⟩,by decide⟩
   ·have hxy:x2≠y2:=by
     have:=HB.out
     simpa using this
    have hr2:=Lib.hid (HT.out.2.1 hk.out hxy)
    have lXu:=BXu.lt
    have lYu:=BYu.lt
    have px:u.cell? ⟨w.heap.size,2,none⟩=some (.int .u64 (x2:Int)):=BXu.cell 2
    have py:u.cell? ⟨w.heap.size+1,2,none⟩=some (.int .u64 (y2:Int)):=BYu.cell 2
    clear hxy hk HT
    go_wp2
    refine wp_region_G (λ_=>false) kZ ?_
    try simp only [Act.put]
    refine tk 0 U ?_
    try simp only [aPS]
    refine tk 1 U ?_
    try simp only [aPS]
    refine tkw 2 U (YieldsG.pure (v:=.int .u64 (x2:Int)) (by rfl) (λw9 h9=>by have hz:=(Below.cell (p:=⟨w.heap.size,2,none⟩) h9 lXu).trans px; go_simp; first | done | simp [hz])) ?_
    try simp only [aPS]
    refine tk 3 U ?_
    try simp only [aPS]
    refine tk 4 U ?_
    try simp only [aPS]
    refine tkw 5 U (YieldsG.pure (v:=.int .u64 (y2:Int)) (by rfl) (λw9 h9=>by have hz:=(Below.cell (p:=⟨w.heap.size+1,2,none⟩) h9 lYu).trans py; go_simp; first | done | simp [hz])) ?_
    try simp only [aPS]
    refine tkw 6 U (YieldsG.pure (v:=.bool r) (by rfl) (λw9 h9=>by go_simp; congr 3; rw [hr2.out]; all_goals (apply decide_eq_decide.2; omega))) ?_
    try simp only [aPS]
    refine tk 7 U ?_
    try simp only [aPS]
    refine wpAnyG_done kZ (λu2 hu2=>?_)
    go_wp2
    go_ret
    exact ⟨rfl,Below.gr hbu hu2⟩
  ·have hk:Hid (x3=y3∧x2=y2):=Lib.hid E
   clear HI E
   obtain ⟨b,hbd⟩:=xE (decide (x1≠y1))
   have hbb:(!((x1:Int) == (y1:Int)))=b:=by
    rw [hbd]
    by_cases h:x1=y1 <;> simp [h] <;> omega
   have HB:=Lib.hid hbd
   clear hbd
   go_wp2
   refine wp_region_G (λ_=>false) kZ ?_
   try simp only [Act.put]
   refine tk 0 U ?_
   try simp only [aPS]
   refine tk 1 U ?_
   try simp only [aPS]
   refine tkw 2 U (YieldsG.pure (v:=.int .u64 (x1:Int)) (by rfl) (λw9 h9=>by have hz:=(Below.cell (p:=⟨w.heap.size,1,none⟩) h9 lX).trans qx1; go_simp; first | done | simp [hz])) ?_
   try simp only [aPS]
   refine tk 3 U ?_
   try simp only [aPS]
   refine tk 4 U ?_
   try simp only [aPS]
   refine tkw 5 U (YieldsG.pure (v:=.int .u64 (y1:Int)) (by rfl) (λw9 h9=>by have hz:=(Below.cell (p:=⟨w.heap.size+1,1,none⟩) h9 lY).trans qy1; go_simp; first | done | simp [hz])) ?_
   try simp only [aPS]
   refine tkw 6 U (YieldsG.pure (v:=.bool b) (by rfl) (λw9 h9=>by go_simp; congr 3; all_goals (rw [HB.out]; all_goals (by_cases h:x1=y1 <;> simp [h] <;> omega)))) ?_
   try simp only [aPS]
   refine wpAnyG_done kZ (λu hu=>?_)
   have hbu:=Below.gr hb hu
   have BXu:=Gr.blk hu BX
   have BYu:=Gr.blk hu BY
   cases b
   ·have hxy:x1=y1:=by
     have:=HB.out
     simpa using this
    have HXY:=Lib.hid hxy
    clear hxy
    go_wp2
    exact ⟨⟨hbu,BXu,BYu,Lib.hid (.inr (.inr (.inr (.inl ⟨rfl,hk.out.1,hk.out.2,HXY.out⟩))))⟩,by decide⟩
   ·have hxy:x1≠y1:=by
     have:=HB.out
     simpa using this
    have hr2:=Lib.hid (HT.out.2.2.1 hk.out.1 hk.out.2 hxy)
    have lXu:=BXu.lt
    have lYu:=BYu.lt
    have px:u.cell? ⟨w.heap.size,1,none⟩=some (.int .u64 (x1:Int)):=BXu.cell 1
    have py:u.cell? ⟨w.heap.size+1,1,none⟩=some (.int .u64 (y1:Int)):=BYu.cell 1
    clear hxy hk HT
    go_wp2
    refine wp_region_G (λ_=>false) kZ ?_
    try simp only [Act.put]
    refine tk 0 U ?_
    try simp only [aPS]
    refine tk 1 U ?_
    try simp only [aPS]
    refine tkw 2 U (YieldsG.pure (v:=.int .u64 (x1:Int)) (by rfl) (λw9 h9=>by have hz:=(Below.cell (p:=⟨w.heap.size,1,none⟩) h9 lXu).trans px; go_simp; first | done | simp [hz])) ?_
    try simp only [aPS]
    refine tk 3 U ?_
    try simp only [aPS]
    refine tk 4 U ?_
    try simp only [aPS]
    refine tkw 5 U (YieldsG.pure (v:=.int .u64 (y1:Int)) (by rfl) (λw9 h9=>by have hz:=(Below.cell (p:=⟨w.heap.size+1,1,none⟩) h9 lYu).trans py; go_simp; first | done | simp [hz])) ?_
    try simp only [aPS]
    refine tkw 6 U (YieldsG.pure (v:=.bool r) (by rfl) (λw9 h9=>by go_simp; congr 3; rw [hr2.out]; all_goals (apply decide_eq_decide.2; omega))) ?_
    try simp only [aPS]
    refine tk 7 U ?_
    try simp only [aPS]
    refine wpAnyG_done kZ (λu2 hu2=>?_)
    go_wp2
    go_ret
    exact ⟨rfl,Below.gr hbu hu2⟩
  ·have hk:Hid (x3=y3∧x2=y2∧x1=y1):=Lib.hid E
   clear HI E
   obtain ⟨b,hbd⟩:=xE (decide (x0≠y0))
   have hbb:(!((x0:Int) == (y0:Int)))=b:=by
    rw [hbd]
    by_cases h:x0=y0 <;> simp [h] <;> omega
   have HB:=Lib.hid hbd
   clear hbd
   go_wp2
   refine wp_region_G (λ_=>false) kZ ?_
   try simp only [Act.put]
   refine tk 0 U ?_
   try simp only [aPS]
   refine tk 1 U ?_
   try simp only [aPS]
   refine tkw 2 U (YieldsG.pure (v:=.int .u64 (x0:Int)) (by rfl) (λw9 h9=>by have hz:=(Below.cell (p:=⟨w.heap.size,0,none⟩) h9 lX).trans qx0; go_simp; first | done | simp [hz])) ?_
   try simp only [aPS]
   refine tk 3 U ?_
   try simp only [aPS]
   refine tk 4 U ?_
   try simp only [aPS]
   refine tkw 5 U (YieldsG.pure (v:=.int .u64 (y0:Int)) (by rfl) (λw9 h9=>by have hz:=(Below.cell (p:=⟨w.heap.size+1,0,none⟩) h9 lY).trans qy0; go_simp; first | done | simp [hz])) ?_
   try simp only [aPS]
   refine tkw 6 U (YieldsG.pure (v:=.bool b) (by rfl) (λw9 h9=>by go_simp; congr 3; all_goals (rw [HB.out]; all_goals (by_cases h:x0=y0 <;> simp [h] <;> omega)))) ?_
   try simp only [aPS]
   refine wpAnyG_done kZ (λu hu=>?_)
   have hbu:=Below.gr hb hu
   have BXu:=Gr.blk hu BX
   have BYu:=Gr.blk hu BY
   cases b
   ·have hxy:x0=y0:=by
     have:=HB.out
     simpa using this
    have HXY:=Lib.hid hxy
    clear hxy
    go_wp2
    exact ⟨⟨hbu,BXu,BYu,Lib.hid (.inr (.inr (.inr (.inr ⟨rfl,hk.out.1,hk.out.2.1,hk.out.2.2,HXY.out⟩))))⟩,by decide⟩
   ·have hxy:x0≠y0:=by
     have:=HB.out
     simpa using this
    have hr2:=Lib.hid (HT.out.2.2.2.1 hk.out.1 hk.out.2.1 hk.out.2.2 hxy)
    have lXu:=BXu.lt
    have lYu:=BYu.lt
    have px:u.cell? ⟨w.heap.size,0,none⟩=some (.int .u64 (x0:Int)):=BXu.cell 0
    have py:u.cell? ⟨w.heap.size+1,0,none⟩=some (.int .u64 (y0:Int)):=BYu.cell 0
    clear hxy hk HT
    go_wp2
    refine wp_region_G (λ_=>false) kZ ?_
    try simp only [Act.put]
    refine tk 0 U ?_
    try simp only [aPS]
    refine tk 1 U ?_
    try simp only [aPS]
    refine tkw 2 U (YieldsG.pure (v:=.int .u64 (x0:Int)) (by rfl) (λw9 h9=>by have hz:=(Below.cell (p:=⟨w.heap.size,0,none⟩) h9 lXu).trans px; go_simp; first | done | simp [hz])) ?_
    try simp only [aPS]
    refine tk 3 U ?_
    try simp only [aPS]
    refine tk 4 U ?_
    try simp only [aPS]
    refine tkw 5 U (YieldsG.pure (v:=.int .u64 (y0:Int)) (by rfl) (λw9 h9=>by have hz:=(Below.cell (p:=⟨w.heap.size+1,0,none⟩) h9 lYu).trans py; go_simp; first | done | simp [hz])) ?_
    try simp only [aPS]
    refine tkw 6 U (YieldsG.pure (v:=.bool r) (by rfl) (λw9 h9=>by go_simp; congr 3; rw [hr2.out]; all_goals (apply decide_eq_decide.2; omega))) ?_
    try simp only [aPS]
    refine tk 7 U ?_
    try simp only [aPS]
    refine wpAnyG_done kZ (λu2 hu2=>?_)
    go_wp2
    go_ret
    exact ⟨rfl,Below.gr hbu hu2⟩
  ·have HR:Hid (r=false):=Lib.hid (HT.out.2.2.2.2 E.1 E.2.1 E.2.2.1 E.2.2.2)
   clear HI E
   go_wp2
   go_ret
   exact ⟨by rw [HR.out]; rfl,hb⟩
end
end
section
section
open Go.RowKit Go.Lib
theorem EQ {v1 v2:Value} (w:World) (x y s k:Nat) (h1:fv x=v1) (h2:fv y=v2) (hx:x<(2^256)) (hy:y<(2^256)) (hs:s<(2^256)) (he:s+y=x+(2^256)*k):Calls Tryz.prog 112 #[v1,v2] w λe w'=>e=.returned (fv s)∧Below w.heap.size w w':=by
 subst h1 h2
 obtain ⟨x0,x1,x2,x3,a0,a1,a2,a3,ex,fx⟩:=Am x hx
 obtain ⟨y0,y1,y2,y3,b0,b1,b2,b3,ey,fy⟩:=Am y hy
 obtain ⟨s0,c0,d0,k0,e0,r0⟩:=Ir x0 y0 a0 b0
 obtain ⟨s1,c1,d1,k1,e1,r1⟩:=C0 x1 y1 c0 a1 b1 k0
 obtain ⟨s2,c2,d2,k2,e2,r2⟩:=C0 x2 y2 c1 a2 b2 k1
 obtain ⟨s3,c3,d3,k3,e3,r3⟩:=C0 x3 y3 c2 a3 b3 k2
 have fin:s0+18446744073709551616*s1+340282366920938463463374607431768211456*s2+6277101735386680763835789423207666416102355444464034512896*s3=s:=om
 have hfs:=Ch s0 s1 s2 s3 d0 d1 d2 d3
 rw [fin] at hfs
 have Zd:=Lib.hid hfs
 rw [fx,fy]
 clear fx fy ex ey hx hy hs he a0 a1 a2 a3 b0 b1 b2 b3 d0 d1 d2 d3 k0 k1 k2 k3 e0 e1 e2 e3 fin hfs
 go_enter Tryz.func112,Tryz.ntmps112
 go_wp2_with fail
 go_loopw [5,6] (λbo i wr=>Below w.heap.size w wr∧Blk wr (w.heap.size+1) 90 #[.int .u64 (y0:Int),.int .u64 (y1:Int),.int .u64 (y2:Int),.int .u64 (y3:Int)]∧Blk wr (w.heap.size+2) 90 #[.int .u64 0,.int .u64 0,.int .u64 0,.int .u64 0]∧Hid ((i=.int .i64 0∧bo=.int .u64 0∧Blk wr w.heap.size 90 #[.int .u64 (x0:Int),.int .u64 (x1:Int),.int .u64 (x2:Int),.int .u64 (x3:Int)])∨(i=.int .i64 1∧bo=.int .u64 (c0:Int)∧Blk wr w.heap.size 90 #[.int .u64 (s0:Int),.int .u64 (x1:Int),.int .u64 (x2:Int),.int .u64 (x3:Int)])∨(i=.int .i64 2∧bo=.int .u64 (c1:Int)∧Blk wr w.heap.size 90 #[.int .u64 (s0:Int),.int .u64 (s1:Int),.int .u64 (x2:Int),.int .u64 (x3:Int)])∨(i=.int .i64 3∧bo=.int .u64 (c2:Int)∧Blk wr w.heap.size 90 #[.int .u64 (s0:Int),.int .u64 (s1:Int),.int .u64 (s2:Int),.int .u64 (x3:Int)])∨(i=.int .i64 4∧bo=.int .u64 (c3:Int)∧Blk wr w.heap.size 90 #[.int .u64 (s0:Int),.int .u64 (s1:Int),.int .u64 (s2:Int),.int .u64 (s3:Int)]))) (λ_ i _=>4 - (intOf i).toNat)
 case atStart=>exact ⟨Aa w _ _ _,(AZ w _ _ _).alloc _,Ao w _ _ _ _,Lib.hid (.inl ⟨rfl,rfl,((Blk.new w _ _).alloc _).alloc _⟩)⟩
 case round =>
  obtain ⟨hb,BY,BR,HI⟩:=hrel
  have lY:=BY.lt
  have lX:w.heap.size<wr.heap.size:=om
  have hsz:w.heap.size+2<wr.heap.size:=BR.lt
  rcases HI.out with ⟨rfl,rfl,BX⟩ | ⟨rfl,rfl,BX⟩ | ⟨rfl,rfl,BX⟩ | ⟨rfl,rfl,BX⟩ | ⟨rfl,rfl,BX⟩
  ·clear HI
   have px:wr.cell? ⟨w.heap.size,0,none⟩=some (.int .u64 (x0:Int)):=BX.cell 0
   have py:wr.cell? ⟨w.heap.size+1,0,none⟩=some (.int .u64 (y0:Int)):=BY.cell 0
   go_wp2
   refine wp_region_G (λ_=>false) kZ ?_
   try simp only [Act.put]
   refine tk 0 U ?_
   try simp only [aPS]
   refine tk 1 U ?_
   try simp only [aPS]
   refine tkw 2 U (YieldsG.pure (v:=.int .u64 (x0:Int)) (by rfl) (λw9 h9=>by have hz:=(Below.cell (p:=⟨w.heap.size,0,none⟩) h9 lX).trans px; go_simp; first | done | simp [hz])) ?_
   try simp only [aPS]
   refine tk 3 U ?_
   try simp only [aPS]
   refine tk 4 U ?_
   try simp only [aPS]
   refine tkw 5 U (YieldsG.pure (v:=.int .u64 (y0:Int)) (by rfl) (λw9 h9=>by have hz:=(Below.cell (p:=⟨w.heap.size+1,0,none⟩) h9 lY).trans py; go_simp; first | done | simp [hz])) ?_
   try simp only [aPS]
   refine tk 6 U ?_
   try simp only [aPS]
   refine tkw 7 U (YieldsG.pure (v:=.tuple #[.int .u64 (s0:Int),.int .u64 (c0:Int)]) (by rfl) (λw9 h9=>by go_simp)) ?_
   try simp only [aPS]
   refine tk 8 U ?_
   try simp only [aPS]
   refine tk 9 U ?_
   try simp only [aPS]
   refine tk 10 U ?_
   try simp only [aPS]
   refine tk 11 U ?_
   try simp only [aPS]
   refine tk 12 U ?_
   try simp only [aPS]
   refine wpAnyG_done kZ (λu hu=>?_)
   have BXu:=Gr.blk hu BX
   have BYu:=Gr.blk hu BY
   have BRu:=Gr.blk hu BR
   have hbu:=Below.gr hb hu
   have pc:u.cell? ⟨w.heap.size,0,none⟩=some (.int .u64 (x0:Int)):=BXu.cell 0
   have pf:=BXu.frozen 0
   go_wp2
   refine ⟨⟨hbu.setCell (Nat.le_refl _) _,BYu.far (by show w.heap.size+1≠w.heap.size; omega) _,BRu.far (by show w.heap.size+2≠w.heap.size; omega) _,Lib.hid (.inr (.inl (⟨rfl,rfl,BXu.set_ 0 _⟩)))⟩,by decide⟩
  ·clear HI
   have px:wr.cell? ⟨w.heap.size,1,none⟩=some (.int .u64 (x1:Int)):=BX.cell 1
   have py:wr.cell? ⟨w.heap.size+1,1,none⟩=some (.int .u64 (y1:Int)):=BY.cell 1
   go_wp2
   refine wp_region_G (λ_=>false) kZ ?_
   try simp only [Act.put]
   refine tk 0 U ?_
   try simp only [aPS]
   refine tk 1 U ?_
   try simp only [aPS]
   refine tkw 2 U (YieldsG.pure (v:=.int .u64 (x1:Int)) (by rfl) (λw9 h9=>by have hz:=(Below.cell (p:=⟨w.heap.size,1,none⟩) h9 lX).trans px; go_simp; first | done | simp [hz])) ?_
   try simp only [aPS]
   refine tk 3 U ?_
   try simp only [aPS]
   refine tk 4 U ?_
   try simp only [aPS]
   refine tkw 5 U (YieldsG.pure (v:=.int .u64 (y1:Int)) (by rfl) (λw9 h9=>by have hz:=(Below.cell (p:=⟨w.heap.size+1,1,none⟩) h9 lY).trans py; go_simp; first | done | simp [hz])) ?_
   try simp only [aPS]
   refine tk 6 U ?_
   try simp only [aPS]
   refine tkw 7 U (YieldsG.pure (v:=.tuple #[.int .u64 (s1:Int),.int .u64 (c1:Int)]) (by rfl) (λw9 h9=>by go_simp)) ?_
   try simp only [aPS]
   refine tk 8 U ?_
   try simp only [aPS]
   refine tk 9 U ?_
   try simp only [aPS]
   refine tk 10 U ?_
   try simp only [aPS]
   refine tk 11 U ?_
   try simp only [aPS]
   refine tk 12 U ?_
   try simp only [aPS]
   refine wpAnyG_done kZ (λu hu=>?_)
   have BXu:=Gr.blk hu BX
   have BYu:=Gr.blk hu BY
   have BRu:=Gr.blk hu BR
   have hbu:=Below.gr hb hu
   have pc:u.cell? ⟨w.heap.size,1,none⟩=some (.int .u64 (x1:Int)):=BXu.cell 1
   have pf:=BXu.frozen 1
   go_wp2
   refine ⟨⟨hbu.setCell (Nat.le_refl _) _,BYu.far (by show w.heap.size+1≠w.heap.size; omega) _,BRu.far (by show w.heap.size+2≠w.heap.size; omega) _,Lib.hid (.inr (.inr (.inl (⟨rfl,rfl,BXu.set_ 1 _⟩))))⟩,by decide⟩
  ·clear HI
   have px:wr.cell? ⟨w.heap.size,2,none⟩=some (.int .u64 (x2:Int)):=BX.cell 2
   have py:wr.cell? ⟨w.heap.size+1,2,none⟩=some (.int .u64 (y2:Int)):=BY.cell 2
   go_wp2
   refine wp_region_G (λ_=>false) kZ ?_
   try simp only [Act.put]
   refine tk 0 U ?_
   try simp only [aPS]
   refine tk 1 U ?_
   try simp only [aPS]
   refine tkw 2 U (YieldsG.pure (v:=.int .u64 (x2:Int)) (by rfl) (λw9 h9=>by have hz:=(Below.cell (p:=⟨w.heap.size,2,none⟩) h9 lX).trans px; go_simp; first | done | simp [hz])) ?_
   try simp only [aPS]
   refine tk 3 U ?_
   try simp only [aPS]
   refine tk 4 U ?_
   try simp only [aPS]
   refine tkw 5 U (YieldsG.pure (v:=.int .u64 (y2:Int)) (by rfl) (λw9 h9=>by have hz:=(Below.cell (p:=⟨w.heap.size+1,2,none⟩) h9 lY).trans py; go_simp; first | done | simp [hz])) ?_
   try simp only [aPS]
   refine tk 6 U ?_
   try simp only [aPS]
   refine tkw 7 U (YieldsG.pure (v:=.tuple #[.int .u64 (s2:Int),.int .u64 (c2:Int)]) (by rfl) (λw9 h9=>by go_simp)) ?_
   try simp only [aPS]
   refine tk 8 U ?_
   try simp only [aPS]
   refine tk 9 U ?_
   try simp only [aPS]
   refine tk 10 U ?_
   try simp only [aPS]
   refine tk 11 U ?_
   try simp only [aPS]
   refine tk 12 U ?_
   try simp only [aPS]
   refine wpAnyG_done kZ (λu hu=>?_)
   have BXu:=Gr.blk hu BX
   have BYu:=Gr.blk hu BY
   have BRu:=Gr.blk hu BR
   have hbu:=Below.gr hb hu
   have pc:u.cell? ⟨w.heap.size,2,none⟩=some (.int .u64 (x2:Int)):=BXu.cell 2
   have pf:=BXu.frozen 2
   go_wp2
   refine ⟨⟨hbu.setCell (Nat.le_refl _) _,BYu.far (by show w.heap.size+1≠w.heap.size; omega) _,BRu.far (by show w.heap.size+2≠w.heap.size; omega) _,Lib.hid (.inr (.inr (.inr (.inl (⟨rfl,rfl,BXu.set_ 2 _⟩)))))⟩,by decide⟩
  ·clear HI
   have px:wr.cell? ⟨w.heap.size,3,none⟩=some (.int .u64 (x3:Int)):=BX.cell 3
   have py:wr.cell? ⟨w.heap.size+1,3,none⟩=some (.int .u64 (y3:Int)):=BY.cell 3
   go_wp2
   refine wp_region_G (λ_=>false) kZ ?_
   try simp only [Act.put]
   refine tk 0 U ?_
   try simp only [aPS]
   refine tk 1 U ?_
   try simp only [aPS]
   refine tkw 2 U (YieldsG.pure (v:=.int .u64 (x3:Int)) (by rfl) (λw9 h9=>by have hz:=(Below.cell (p:=⟨w.heap.size,3,none⟩) h9 lX).trans px; go_simp; first | done | simp [hz])) ?_
   try simp only [aPS]
   refine tk 3 U ?_
   try simp only [aPS]
   refine tk 4 U ?_
   try simp only [aPS]
   refine tkw 5 U (YieldsG.pure (v:=.int .u64 (y3:Int)) (by rfl) (λw9 h9=>by have hz:=(Below.cell (p:=⟨w.heap.size+1,3,none⟩) h9 lY).trans py; go_simp; first | done | simp [hz])) ?_
   try simp only [aPS]
   refine tk 6 U ?_
   try simp only [aPS]
   refine tkw 7 U (YieldsG.pure (v:=.tuple #[.int .u64 (s3:Int),.int .u64 (c3:Int)]) (by rfl) (λw9 h9=>by go_simp)) ?_
   try simp only [aPS]
   refine tk 8 U ?_
   try simp only [aPS]
   refine tk 9 U ?_
   try simp only [aPS]
   refine tk 10 U ?_
   try simp only [aPS]
   refine tk 11 U ?_
   try simp only [aPS]
   refine tk 12 U ?_
   try simp only [aPS]
   refine wpAnyG_done kZ (λu hu=>?_)
   have BXu:=Gr.blk hu BX
   have BYu:=Gr.blk hu BY
   have BRu:=Gr.blk hu BR
   have hbu:=Below.gr hb hu
   have pc:u.cell? ⟨w.heap.size,3,none⟩=some (.int .u64 (x3:Int)):=BXu.cell 3
   have pf:=BXu.frozen 3
   go_wp2
   refine ⟨⟨hbu.setCell (Nat.le_refl _) _,BYu.far (by show w.heap.size+1≠w.heap.size; omega) _,BRu.far (by show w.heap.size+2≠w.heap.size; omega) _,Lib.hid (.inr (.inr (.inr (.inr (⟨rfl,rfl,BXu.set_ 3 _⟩)))))⟩,by decide⟩
  ·clear HI
   have BS:=BX.eq_ (BO Zd.out.symm).symm
   go_wp2_with (first | ((with_reducible refine AD (d:=some 28) ?_); refine AB U _ _ U (w.heap.size) rfl (s) _ _ _ (BS) (AV s) AH U kZ ?_) | ((with_reducible refine AE ?_); refine AA U _ _ _ U (w.heap.size+2) (fcs (s)) U U _ _ (BR) kZ (by rfl) (AF _) ?_; intro w9 hL9 hB9 hK9))
   exact bodyPost_ret (results_cell_row U _ _ (w.heap.size+2) _ _ (0,0) _ U hL9 AH U kZ) rfl ⟨rfl,hb.trans (hB9 _ om)⟩
theorem CV {w:World} {g:Nat} {t:TypeId} {a b c d:Value} {r:List Value} (h:Blk w g t (a::b::c::d::r).toArray):w.rangeAt g 0 [a,b,c,d]:=λj v hj=>by
 rw [Nat.zero_add,h.cell]
 match j,hj with
 | 0,hj=>simpa using hj
 | 1,hj=>simpa using hj
 | 2,hj=>simpa using hj
 | 3,hj=>simpa using hj
 | j+4,hj=>simp at hj
theorem BI {P:Program} {ops:Array Oper} {rest:List Oper} {o:Oper} {a:Act} {w:World} {Q:Exit→Act→World→Prop} (hgd:o.guard=none) (ty:TypeId) (x:Operand) (ho:o.op=.load ty x)
  (g:Nat) (hx:a.eval x=pT g 0) (n:Nat) (cs:List Value) (d:TypeDesc) (hr:w.rangeAt g 0 cs) (hf:fv n=.agg cs.toArray)
  (hu:P.underlying ty=some d) (hd:d.isRow=true) (hi:(P.info? ty).map (·.size)=some cs.length)
  (h:wpList P ops Q rest (a.put o.dst (fv n)) w):wpList P ops Q (o::rest) a w :=
 wpList_plain hgd λK hK=>by
  have hl:=run_loadVar_mid (P:=P) w g 0 ty cs d hr hu hd hi
  unfold Oper.wp execOp
  simp only [ho,hx,Instr.loadAt,Instr.sureAddr,Sem.run_bind,Sem.run_pure,Result.andThen_ok,hl]
  rw [← hf]
  exact hK _ _ h
theorem normR_any (w:World) (x:Nat) (hx:x<(2^256)):Calls Tryz.prog 46 #[G5,fv x] w λe w'=>e=.returned (fv (x%pM))∧Below w.heap.size w w':=by
 obtain ⟨z,hz⟩:=xE (x%pM)
 obtain ⟨p,hp⟩:∃ p,p=115792089237316195423570985008687907853269984665640564039457584007908834671663:=⟨_,rfl⟩
 have hpl:p<(2^256):=om
 obtain ⟨b,hb⟩:=xE (decide (x<p))
 have cb:∀ w,Calls Tryz.prog 111 #[fv x,fv p] w λe w'=>e=.returned (.bool b)∧Below w.heap.size w w':=by
  intro w; rw [hb]; exact FT w x p U U hx hpl
 have t1:b=true→z=x:=λh=>by
  rw [hb] at h
  rw [hz]
  exact Nat.mod_eq_of_lt (by rw [DQ, ← hp]; simpa using h)
 have cm:b=false→∀ w,Calls Tryz.prog 112 #[fv x,fv p] w λe w'=>e=.returned (fv z)∧Below w.heap.size w w':=λh w=>by
  rw [hb] at h
  have hle:¬ x<p:=by simpa using h
  have hzx:z+p=x:=by rw [hz,E5 x hx,if_neg om]; omega
  exact EQ w x p z 0 U U hx hpl om om
 have hpc:fv p=.agg #[.int .u64 18446744069414583343,.int .u64 18446744073709551615,.int .u64 18446744073709551615,.int .u64 18446744073709551615]:=by rw [hp]; exact LZ
 obtain ⟨x0,x1,x2,x3,fx⟩:=Ad x hx
 have FX:=Lib.hid fx
 have FP:=Lib.hid hpc
 rw [fx, ← hz]
 unfold G5
 clear fx hpc hx hz hp hpl hb
 go_enter Tryz.func46,Tryz.ntmps46
 go_wp2_with (first | ((with_reducible refine AD (d:=some 6) ?_); refine AB U _ _ U (w.heap.size+1) rfl (x) _ _ _ ((AZ w _ _ _).alloc _) (FX.out) AH U kZ ?_) | ((with_reducible refine AD (d:=some 8) ?_); refine BI U _ _ U w.heap.size U p [.int .u64 18446744069414583343,.int .u64 18446744073709551615,.int .u64 18446744073709551615,.int .u64 18446744073709551615] _ (CV (((Blk.new w _ _).alloc _).alloc _)) FP.out AH U kZ ?_))
 refine (cb _).mono ?_
 rintro e w1 ⟨rfl,k1⟩
 have BM:Blk w1 w.heap.size 94 _:=Gr.blk k1 (((Blk.new w _ _).alloc _).alloc _)
 have BX:Blk w1 (w.heap.size+1) 90 _:=Gr.blk k1 ((AZ w _ _ _).alloc _)
 have BR:Blk w1 (w.heap.size+2) 90 _:=Gr.blk k1 (Ao w _ _ _ _)
 have hB:=Below.gr (Aa w _ _ _) k1
 clear k1 cb
 cases b
 ·have cmm:=cm U
  clear cm t1
  go_wp2_with (first | ((with_reducible refine AD (d:=some 12) ?_); refine AB U _ _ U (w.heap.size+1) rfl (x) _ _ _ (BX) (FX.out) AH U kZ ?_) | ((with_reducible refine AD (d:=some 14) ?_); refine BI U _ _ U w.heap.size U p [.int .u64 18446744069414583343,.int .u64 18446744073709551615,.int .u64 18446744073709551615,.int .u64 18446744073709551615] _ (CV (BM)) FP.out AH U kZ ?_))
  refine (cmm _).mono ?_
  rintro e w2 ⟨rfl,k2⟩
  have BR2:=Gr.blk k2 BR
  have hB2:=Below.gr hB k2
  clear k2 cmm
  go_wp2_with (first | ((with_reducible refine AE ?_); refine AA U _ _ _ U (w.heap.size+2) (fcs (z)) U U _ _ (BR2) kZ (by rfl) (AF _) ?_; intro w9 hL9 hB9 hK9))
  exact bodyPost_ret (results_cell_row U _ _ (w.heap.size+2) _ _ (0,0) _ U hL9 AH U kZ) rfl ⟨rfl,hB2.trans (hB9 _ om)⟩
 ·have HZX:=Lib.hid (t1 U)
  clear t1 cm
  go_wp2_with (first | ((with_reducible refine AD (d:=some 11) ?_); refine AB U _ _ U (w.heap.size+1) rfl (x) _ _ _ (BX) (FX.out) AH U kZ ?_) | ((with_reducible refine AE ?_); refine AA U _ _ _ U (w.heap.size+2) (fcs (x)) U U _ _ (BR) kZ (by rfl) (AF _) ?_; intro w9 hL9 hB9 hK9))
  exact bodyPost_ret (results_cell_row U _ _ (w.heap.size+2) _ _ (0,0) _ U hL9 AH U kZ) rfl ⟨by rw [HZX.out]; rfl,hB.trans (hB9 _ om)⟩
end
end
section
namespace Sy
open Go.RowKit
section
variable {P:Program} {w0:Base} {n:Nat} {Q:Exit→Act→World→Prop} {F:AK} {L:AC} {ops:Array Oper} {o:Oper} {l:List Oper} {ex:Nat→Bool} {fuel:Nat} {listed:Array Bool}
def WritesV (P:Program) (w0:Base) (F:AK) (L:AC) (o:Oper) (g:Nat) (t:TypeId) (cs':Array Value) (v:Value):Prop :=
 ∀ w,St w0 w L→∃ w',(execOp (evF F) o).run P w=.ok (.value v) w'∧w.grownBy w' (some g)∧Blk w' g t cs'
theorem writeVD (k:Nat) {oi:Oper} (hi0:ops.toList[k]? = some oi) (hr:Region.ready .any ops listed=[k]) (hex:ex k=true) (hg:Bb ops n F oi=true) (i g:Nat) (t:TypeId) (cs cs':Array Value) (v:Value) (hL:L[i]? = some (g,t,cs)) (hm:WritesV P w0 F L oi g t cs' v)
  (h:wpD P w0 n ops Q ex (BN F oi.dst v) (L.set i (g,t,cs')) fuel (listed.setIfInBounds k true)):wpD P w0 n ops Q ex F L (fuel+1) listed:=λa w ha hw =>
 wpAnyG_sole k hi0 hr (ha.wanted (AN hg).1) λw1 h1 K hK=>by
  obtain ⟨w',e1,e2,e3⟩:=hm w1 (hw.gr h1)
  unfold Oper.wp
  rw [Al hg ha,e1]
  exact hK _ _ (λe=>by rw [hex] at e; cases e) (h _ _ (ha.put (AN hg).2.2.1 _) ((hw.gr h1).set hL e2 e3))
theorem WritesV.copy (d s:Operand) (dT sT e:TypeId) (ho:o.op=.call { callee:=.builtin .copy,args:=#[d,s],argTypes:=#[dT,sT] }) (hu:P.underlying dT=some (.slice e)) (hsz:(P.info? e).map (·.size)=some 1)
  (i g f dl dc:Nat) (t:TypeId) (cs cs':Array Value) (hL:L[i]? = some (g,t,cs)) (hd:evF F d=.slice (some ⟨g,f,none⟩) dl dc)
  (j gx fx sl sc:Nat) (tx:TypeId) (cx:Array Value) (hLx:L[j]? = some (gx,tx,cx)) (hs:evF F s=.slice (some ⟨gx,fx,none⟩) sl sc)
  (news:List Value) (hnews:(cx.toList.drop fx).take (Nat.min sl dl)=news) (hn:news.length=Nat.min sl dl) (h1:∀ u∈news,u.oneCell'=true) (hfit:f+news.length≤cs.size) (hcs:setAll cs f news=cs'):WritesV P w0 F L o g t cs' (goInt news.length):=λw hw=>by
 have hb:=hw.get hL
 have hbx:=hw.get hLx
 have hth:=hb.there f news.length hfit
 have hr:=run_copy_cells (P:=P) w dT sT o.type e g f dl dc ⟨gx,fx,none⟩ sl sc news hu hsz hn (λq u hq=>by
  rw [BU,hbx.cell]
  rw [← hnews] at hq
  have hlt:q<Nat.min sl dl:=by
   have h:=(List.getElem?_eq_some_iff.1 hq).1
   rw [List.length_take] at h
   exact Nat.lt_of_lt_of_le h (Nat.min_le_left _ _)
  rw [List.getElem?_take_of_lt hlt,List.getElem?_drop] at hq
  simpa using hq) (λq hq=>(hth q hq).1) (λq hq=>(hth q hq).2) h1
 refine ⟨_,?_,only_setCells news f w (World.grownBy.refl w (some g)),hcs ▸ Blk.setCells news f w cs hb⟩
 unfold execOp
 simp only [ho,resolve,invoke,builtin,Sem.run_bind,Sem.run_pure,Result.andThen_ok,List.map_toArray,List.map_cons,List.map_nil,hs,hd,hr]
theorem Pj (w:World) (t e:TypeId) (A:Option Addr) (m len cap:Nat) (ht:P.underlying t=some (.array m e)) (hk:m≤len):(Instr.arrayAt t (.slice A len cap)).run P w=.ok (.pointer A) w:=by
 have h1:¬ len<m:=om
 simp [Instr.arrayAt,run_underlying ht,h1,Result.andThen]
theorem Hg (t e:TypeId) (x:Operand) (A:Option Addr) (m len cap:Nat) (ho:o.op=.sliceToArrayPointer t x) (hx:evF F x=.slice A len cap) (ht:P.underlying t=some (.array m e)) (hk:m≤len) (w:World) :
  (execOp (evF F) o).run P w=.ok (.value (.pointer A)) w:=by
 unfold execOp
 simp only [ho,hx,Pj w t e A m len cap ht hk,Sem.run_bind,Sem.run_pure,Result.andThen_ok]
theorem GR (l:List Value) (h:l.all (·.oneCell')=true):∀ u∈l,u.oneCell'=true:=λu hu=>List.all_eq_true.1 h u hu
end
end Sy
end
section
namespace Sy
open Go.RowKit
theorem Cl:∀ (vs:List Value) (o:Nat) (cs:Array Value),o+vs.length≤cs.size→setAll cs o vs=(cs.toList.take o++(vs++cs.toList.drop (o+vs.length))).toArray
 | [],o,cs,_=>by simp [setAll,List.take_append_drop]
 | v::r,o,cs,h=>by
  simp only [List.length_cons] at h
  rw [setAll,Cl r (o+1) _ (by simp; omega)]
  congr 1
  have hlt:o<cs.toList.length:=by simp; omega
  rw [Array.toList_setIfInBounds,List.take_set,List.take_add_one,List.drop_set_of_lt om,List.getElem?_eq_getElem hlt,List.set_append_right _ _ (by simp; omega)]
  have e:o+1+r.length=o+(r.length+1):=om
  simp [Nat.min_eq_left (Nat.le_of_lt (show o<cs.size by omega)),e]
def AO (f:Nat→List Value) (n:Nat):List Value:=(List.range n).flatMap f
section
variable {s:Nat} {f:Nat→List Value}
theorem EV (n:Nat):AO f (n+1)=AO f n++f n:=by simp [AO,List.range_succ]
theorem A1 (h:∀ k,(f k).length=s):∀ n,(AO f n).length=n*s
 | 0=>by simp [AO]
 | n+1=>by rw [EV,List.length_append,A1 h n,h,Nat.succ_mul]
theorem KJ (k:Nat):∀ m,AO f (k+m)=AO f k++AO (λj=>f (k+j)) m
 | 0=>by simp [AO]
 | m+1=>by rw [← Nat.add_assoc,EV,KJ k m,EV,List.append_assoc]
theorem DJ {n k:Nat} (hk:k<n):AO f n=AO f k++(f k++AO (λj=>f (k+1+j)) (n - k - 1)):=by
 obtain ⟨m,rfl⟩:∃ m,n=k+1+m:=⟨n - k - 1,by omega⟩
 rw [KJ,EV,List.append_assoc,show k+1+m - k - 1=m by omega]
theorem Bq {g:Nat→List Value} {n:Nat} (h:∀ k,k<n→f k=g k):AO f n=AO g n:=by
 unfold AO
 rw [List.flatMap_def,List.flatMap_def]
 exact congrArg List.flatten (List.map_congr_left λk hk=>h k (List.mem_range.1 hk))
theorem EX (h:∀ k,(f k).length=s) {n k o:Nat} (hk:k<n) (ho:o=k*s):((AO f n).drop o).take s=f k:=by
 subst ho
 rw [DJ hk,List.drop_append_of_le_length (by rw [A1 h]; exact Nat.le_refl _),List.drop_eq_nil_of_le (by rw [A1 h]; exact Nat.le_refl _),List.nil_append,List.take_append_of_le_length (by rw [h]; exact Nat.le_refl _),List.take_of_length_le (by rw [h]; exact Nat.le_refl _)]
theorem Q7 (h:∀ k,(f k).length=s) {n k o e m:Nat} (hk:k<n) (ho:o=k*s+e) (hm:e+m≤s):((AO f n).drop o).take m=((f k).drop e).take m:=by
 subst ho
 rw [← EX h hk U,List.drop_take,List.drop_drop,List.take_take,Nat.min_eq_left om]
theorem Ha (h:∀ k,(f k).length=s) {v:List Value} (hv:v.length=s) {n k o:Nat} (hk:k<n) (ho:o=k*s):setAll (AO f n).toArray o v=(AO (λj=>if j=k then v else f j) n).toArray:=by
 subst ho
 have hl:=A1 h (f:=f)
 have hks:k*s+s≤n*s:=by rw [← Nat.succ_mul]; exact Nat.mul_le_mul_right s hk
 rw [Cl _ _ _ (by simp [hl,hv]; exact hks)]
 congr 1
 rw [DJ hk,DJ (f:=λj=>if j=k then v else f j) hk]
 congr 1
 ·show (AO f k++_).take (k*s)=_
  rw [List.take_append_of_le_length (by rw [hl]; exact Nat.le_refl _),List.take_of_length_le (by rw [hl]; exact Nat.le_refl _)]
  exact Bq λj hj=>by rw [if_neg om]
 ·simp only [if_true]
  congr 1
  show (AO f k++(f k++_)).drop (k*s+v.length)=_
  rw [← List.append_assoc,List.drop_append_of_le_length (by rw [List.length_append,hl,h,hv]; exact Nat.le_refl _),List.drop_eq_nil_of_le (by rw [List.length_append,hl,h,hv]; exact Nat.le_refl _),List.nil_append]
  exact Bq λj hj=>by rw [if_neg om]
theorem KG (h:∀ k,(f k).length=s) (n:Nat) (hf:∀ k, ∀ u∈f k,u.oneCell'=true):(AO f n).toArray.all (·.oneCell')=true:=by
 rw [List.all_toArray,List.all_eq_true]
 intro u hu
 unfold AO at hu
 obtain ⟨k,_,hk⟩:=List.mem_flatMap.1 hu
 exact hf k u hk
theorem NZ {f:Nat→Value} {n k:Nat} (hk:k<n) (v:Value):(AO (λj=>[f j]) n).toArray.setIfInBounds k v=(AO (λj=>[if j=k then v else f j]) n).toArray:=by
 have h:=Ha (s:=1) (f:=λj=>[f j]) (v:=[v]) (λ_=>rfl) rfl hk (Nat.mul_one k).symm
 simp only [setAll] at h
 rw [h]
 congr 1
 exact Bq λj _=>by by_cases e:j=k <;> simp [e]
theorem Nc {f:Nat→Value} {n k:Nat} (hk:k<n):(AO (λj=>[f j]) n).toArray[k]? = some (f k):=by
 have h:=EX (s:=1) (f:=λj=>[f j]) (λ_=>rfl) hk (Nat.mul_one k).symm
 rw [List.getElem?_toArray]
 have h2:=congrArg (·[0]?) h
 simpa [List.getElem?_take,List.getElem?_drop] using h2
theorem La {f:Nat→Value} {n:Nat}:(AO (λj=>[f j]) n).toArray.size=n:=by
 have:=A1 (s:=1) (f:=λj=>[f j]) (λ_=>rfl) n
 simpa using this
theorem Lb (c:List Value) (hc:c.length=s) (hs:0<s) (n:Nat) (z:Array Value) (hz:z.toList=c):(AO (λ_=>c) n).toArray=madeCells z (n*s):=by
 have hzs:z.size=s:=by rw [← Array.length_toList,hz,hc]
 apply Array.ext'
 unfold madeCells
 apply List.ext_getElem?
 intro i
 rw [Array.toList_map,Array.toList_range,List.getElem?_map]
 by_cases hi:i<n*s
 ·have hk:i / s<n:=Nat.div_lt_of_lt_mul (by rw [Nat.mul_comm]; exact hi)
  have h:=Q7 (s:=s) (f:=λ_=>c) (λ_=>hc) (n:=n) (k:=i / s) (o:=i) (e:=i%s) (m:=1) hk (by rw [Nat.mul_comm]; exact (Nat.div_add_mod i s).symm) (Nat.mod_lt _ hs)
  have h2:=congrArg (·[0]?) h
  simp only [List.getElem?_take,List.getElem?_drop,Nat.zero_lt_one,if_true,Nat.add_zero] at h2
  rw [h2,List.getElem?_range hi]
  have hm:i%s<s:=Nat.mod_lt _ hs
  simp only [Option.map_some,hzs]
  rw [← hz]
  simp [hzs,hm]
 ·rw [List.getElem?_eq_none (by rw [A1 (s:=s) (λ_=>hc)]; omega),List.getElem?_eq_none (by simp; omega)]
  rfl
end
def upto (k:Nat) (A:Nat→List Value) (z:List Value) (j:Nat):List Value:=if j<k then A j else z
section
variable {s n k:Nat} {A:Nat→List Value} {z:List Value}
theorem Ax (hA:∀ j,(A j).length=s) (hz:z.length=s) (k:Nat):∀ j,(upto k A z j).length=s:=λj=>by
 unfold upto
 split
 ·exact hA j
 ·exact hz
theorem Ij {j:Nat} (h:j<k):upto k A z j=A j:=if_pos h
theorem Jh (hA:∀ j, ∀ u∈A j,u.oneCell'=true) (hz:∀ u∈z,u.oneCell'=true) (k:Nat):∀ j, ∀ u∈upto k A z j,u.oneCell'=true:=λj u hu=>by
 unfold upto at hu
 split at hu
 ·exact hA j u hu
 ·exact hz u hu
theorem Fe:(AO (λ_=>z) n).toArray=(AO (upto 0 A z) n).toArray:=congrArg List.toArray (Bq λj _=>by unfold upto; rw [if_neg om])
theorem upto_all:(AO (upto n A z) n).toArray=(AO A n).toArray:=congrArg List.toArray (Bq λj hj=>Ij hj)
theorem E0 (hA:∀ j,(A j).length=s) (hz:z.length=s) {v:List Value} (hv:A k=v) (hk:k<n) {o:Nat} (ho:o=k*s):setAll (AO (upto k A z) n).toArray o v=(AO (upto (k+1) A z) n).toArray:=by
 rw [Ha (Ax hA hz k) (by rw [← hv]; exact hA k) hk ho]
 refine congrArg List.toArray (Bq λj _=>?_)
 unfold upto
 by_cases e:j=k
 ·subst e
  rw [if_pos U,if_pos om,hv]
 ·rw [if_neg e]
  by_cases h:j<k
  ·rw [if_pos h,if_pos om]
  ·rw [if_neg h,if_neg om]
theorem H9 (hA:∀ j,(A j).length=1) {u v:Value} (hv:A k=[v]) (hk:k<n):(AO (upto k A [u]) n).toArray.setIfInBounds k v=(AO (upto (k+1) A [u]) n).toArray:=by
 have h:=E0 (s:=1) (z:=[u]) hA U hv hk (Nat.mul_one k).symm
 simpa only [setAll] using h
theorem Nb {f:Nat→List Value} (h:∀ j,(f j).length=s) (hk:k<n) {o:Nat} (ho:o=k*s):Value.agg (((AO f n).toArray.toList.drop o).take s).toArray=.agg (f k).toArray:=by
 rw [show (AO f n).toArray.toList=AO f n from rfl,EX h hk ho]
theorem FE {f:Nat→List Value} (h:∀ j,(f j).length=s) (hk:k<n) {o:Nat} (ho:o=k*s):o+s≤(AO f n).toArray.size:=by
 have hks:k*s+s≤n*s:=by rw [← Nat.succ_mul]; exact Nat.mul_le_mul_right s hk
 rw [List.size_toArray,A1 h]
 omega
end
section
variable {s n m:Nat} {f:Nat→List Value}
theorem HO (h:∀ j,(f j).length=s) (hm:n*s=m):Value.agg (((AO f n).toArray.toList.drop 0).take m).toArray=.agg (AO f n).toArray:=by
 rw [show (AO f n).toArray.toList=AO f n from rfl,List.drop_zero,List.take_of_length_le (by rw [A1 h,hm]; exact Nat.le_refl _)]
theorem HJ (h:∀ j,(f j).length=s) (hm:n*s=m):0+m≤(AO f n).toArray.size:=by
 rw [List.size_toArray,A1 h]; omega
theorem EW (h:∀ j,(f j).length=s) {x:Option Nat} (hx:x=some (n*s)):x=some (AO f n).toArray.size:=by
 rw [hx,List.size_toArray,A1 h]
theorem IR (h:∀ j,(f j).length=s) (hm:n*s=m) {cs:Array Value} (hc:cs.size=m):0+(AO f n).toArray.size≤cs.size:=by
 rw [List.size_toArray,A1 h]; omega
theorem KF (h:∀ j,(f j).length=s) {cs:Array Value} (hc:cs.size=n*s):setAll cs 0 (AO f n).toArray.toList=(AO f n).toArray:=by
 have hl:(AO f n).toArray.toList.length=cs.size:=by
  rw [hc]
  exact A1 h n
 rw [Cl _ _ _ om,List.take_zero,List.drop_eq_nil_of_le (by rw [Array.length_toList]; omega)]
 simp
theorem KH (h:∀ j,(f j).length=1) {k o:Nat} (hk:k<n) (ho:o=k*1):o<(AO f n).toArray.size:=by
 rw [List.size_toArray,A1 h]; omega
end
section
variable {P:Program} {w0:Base} {n:Nat} {Q:Exit→Act→World→Prop} {F:AK} {L:AC} {ops:Array Oper} {o:Oper} {l:List Oper}
theorem CF {w:World} {g:Nat} {t:TypeId} {cs:Array Value} (h:Blk w g t cs) {o:Nat} {vs:List Value} (e:(cs.toList.drop o).take vs.length=vs):w.rangeAt g o vs:=λj v hj=>by
 rw [h.cell]
 rw [← e] at hj
 have hlt:j<vs.length:=by
  have h:=(List.getElem?_eq_some_iff.1 hj).1
  rw [List.length_take] at h
  exact Nat.lt_of_lt_of_le h (Nat.min_le_left _ _)
 rw [List.getElem?_take_of_lt hlt,List.getElem?_drop] at hj
 simpa using hj
theorem Gs {w:World} {g o:Nat} {a b:List Value} (h:w.rangeAt g o (a++b)):w.rangeAt g o a:=λj v hj=>h j v (by rw [List.getElem?_append_left (List.getElem?_eq_some_iff.1 hj).1]; exact hj)
theorem F3 {w:World} {g o n:Nat} {a b:List Value} (h:w.rangeAt g o (a++b)) (hn:a.length=n):w.rangeAt g (o+n) b:=λj v hj=>by
 rw [Nat.add_assoc]
 refine h (n+j) v ?_
 rw [List.getElem?_append_right om,show n+j - a.length=j by omega]
 exact hj
theorem Gt {w:World} {g o n s k:Nat} {f:Nat→List Value} (h:w.rangeAt g o (AO f n)) (hs:∀ j,(f j).length=s) (hk:k<n):w.rangeAt g (o+k*s) (f k):=λj v hj=>by
 rw [Nat.add_assoc]
 refine h (k*s+j) v ?_
 have e:=EX hs hk U
 rw [← e] at hj
 have hlt:j<s:=by
  have h:=(List.getElem?_eq_some_iff.1 hj).1
  rw [List.length_take] at h
  exact Nat.lt_of_lt_of_le h (Nat.min_le_left _ _)
 rw [List.getElem?_take_of_lt hlt,List.getElem?_drop] at hj
 exact hj
theorem AU (op:BinOp) (t:TypeId) (x y:Operand) {yt:TypeId} (k:IntKind) {k':IntKind} (a b:Int) (v:Value) (ho:o.op=.binOp op t x y yt) (hx:evF F x=.int k a) (hy:evF F y=.int k' b) (h:∀ w,(binOp op t (.int k a) (.int k' b)).run P w=.ok v w) (w:World) :
  (execOp (evF F) o).run P w=.ok (.value v) w:=by
 have h1:(eqGuard op t x y (.int k a) (.int k' b)).run P w=.ok () w:=by
  unfold eqGuard
  cases op <;> rfl
 unfold execOp
 simp only [ho,hx,hy,Sem.run_bind,h1,h w,Result.andThen_ok,Sem.run_pure]
theorem D3 {z:Int} (h0 : -9223372036854775808≤z) (h1:z<9223372036854775808):IntKind.i64.wrap z=z:=by
 unfold IntKind.wrap; simp [IntKind.bits,IntKind.signed]; omega
theorem wrap_u64 {z:Int} (h0:0≤z) (h1:z<18446744073709551616):IntKind.u64.wrap z=z:=by
 unfold IntKind.wrap; simp [IntKind.bits,IntKind.signed]; omega
theorem Pw {z:Int} (h0:0≤z) (h1:z<256):IntKind.u8.wrap z=z:=by
 unfold IntKind.wrap; simp [IntKind.bits,IntKind.signed]; omega
theorem FB (t:TypeId) (k:IntKind) (a b c:Int) (h:k.wrap (a+b)=c) (w:World):(binOp .add t (.int k a) (.int k b)).run P w=.ok (.int k c) w:=by simp [binOp,Op.intArith,h]
theorem MS (t:TypeId) (k:IntKind) (a b c:Int) (h:k.wrap (a - b)=c) (w:World):(binOp .sub t (.int k a) (.int k b)).run P w=.ok (.int k c) w:=by simp [binOp,Op.intArith,h]
theorem Q0 (t:TypeId) (k:IntKind) (a b c:Int) (h:k.wrap (a*b)=c) (w:World):(binOp .mul t (.int k a) (.int k b)).run P w=.ok (.int k c) w:=by simp [binOp,Op.intArith,h]
theorem Co (t:TypeId) (k:IntKind) (a b c:Int) (hb:b≠0) (h:k.wrap (a.tdiv b)=c) (w:World):(binOp .quo t (.int k a) (.int k b)).run P w=.ok (.int k c) w:=by simp [binOp,Op.intDiv,hb,h]
theorem JE (t:TypeId) (k:IntKind) (a b c:Int) (h:k.wrap ((BitVec.ofInt k.bits a &&& BitVec.ofInt k.bits b).toNat:Int)=c) (w:World):(binOp .and t (.int k a) (.int k b)).run P w=.ok (.int k c) w:=by
 simp only [binOp,ne_eq,not_true_eq_false,if_false,Op.intBits,Sem.run_pure]
 rw [h]
theorem Qz (t:TypeId) (k k':IntKind) (a b c:Int) (hb:¬ b<0) (h:a.fdiv (2 ^ min b.toNat k.bits)=c) (w:World):(binOp .shr t (.int k a) (.int k' b)).run P w=.ok (.int k c) w:=by
 simp only [binOp,Op.shift,if_neg hb,Sem.run_pure,h]
theorem JD (t:TypeId) (k:IntKind) (a b:Int) (c:Bool) (h:decide (a<b)=c) (w:World):(binOp .lss t (.int k a) (.int k b)).run P w=.ok (.bool c) w:=by simp [binOp,Op.intCmp, ← h]
theorem MT (t:TypeId) (k:IntKind) (a b:Int) (c:Bool) (h:decide (a≤b)=c) (w:World):(binOp .leq t (.int k a) (.int k b)).run P w=.ok (.bool c) w:=by simp [binOp,Op.intCmp, ← h]
theorem C1 (t:TypeId) (k:IntKind) (a b:Int) (c:Bool) (h:decide (a>b)=c) (w:World):(binOp .gtr t (.int k a) (.int k b)).run P w=.ok (.bool c) w:=by simp [binOp,Op.intCmp, ← h]
theorem ET (t:TypeId) (k:IntKind) (a b:Int) (c:Bool) (h:decide (a ≥ b)=c) (w:World):(binOp .geq t (.int k a) (.int k b)).run P w=.ok (.bool c) w:=by simp [binOp,Op.intCmp, ← h]
theorem Q1 (t:TypeId) (k:IntKind) (a b:Int) (c:Bool) (h:decide (a=b)=c) (w:World):(binOp .eql t (.int k a) (.int k b)).run P w=.ok (.bool c) w:=by
 simp only [binOp,ne_eq,not_true_eq_false,if_false,Op.intCmp,Sem.run_pure, ← h]
 rfl
theorem Ds (t:TypeId) (k:IntKind) (a b:Int) (c:Bool) (h:decide (a≠b)=c) (w:World):(binOp .neq t (.int k a) (.int k b)).run P w=.ok (.bool c) w:=by
 simp only [binOp,ne_eq,not_true_eq_false,if_false,Op.intCmp,Sem.run_pure, ← h]
 by_cases e:a=b <;> simp [e]
theorem qad {P:Program} {w0:Base} {F:AK} {L:AC} {o:Oper} {t:TypeId} {x y:Operand} {yt:TypeId} {a b:Int} {c:Int} (ho:o.op=.binOp .add t x y yt) (hx:evF F x=.int .i64 a) (hy:evF F y=.int .i64 b) (h:IntKind.i64.wrap (a + b)=c:=by exact (D3 om om).trans om):Quiet P w0 F L o (.int .i64 c):=Quiet.pure (AU .add t x y .i64 a b _ ho hx hy (FB t .i64 a b c h))
theorem qsb {P:Program} {w0:Base} {F:AK} {L:AC} {o:Oper} {t:TypeId} {x y:Operand} {yt:TypeId} {a b:Int} {c:Int} (ho:o.op=.binOp .sub t x y yt) (hx:evF F x=.int .i64 a) (hy:evF F y=.int .i64 b) (h:IntKind.i64.wrap (a - b)=c:=by exact (D3 om om).trans om):Quiet P w0 F L o (.int .i64 c):=Quiet.pure (AU .sub t x y .i64 a b _ ho hx hy (MS t .i64 a b c h))
theorem qml {P:Program} {w0:Base} {F:AK} {L:AC} {o:Oper} {t:TypeId} {x y:Operand} {yt:TypeId} {a b:Int} {c:Int} (ho:o.op=.binOp .mul t x y yt) (hx:evF F x=.int .i64 a) (hy:evF F y=.int .i64 b) (h:IntKind.i64.wrap (a * b)=c:=by exact (D3 om om).trans om):Quiet P w0 F L o (.int .i64 c):=Quiet.pure (AU .mul t x y .i64 a b _ ho hx hy (Q0 t .i64 a b c h))
theorem qls {P:Program} {w0:Base} {F:AK} {L:AC} {o:Oper} {t:TypeId} {x y:Operand} {yt:TypeId} {a b:Int} {c:Bool} {p:Prop} [Decidable p] (ho:o.op=.binOp .lss t x y yt) (hx:evF F x=.int .i64 a) (hy:evF F y=.int .i64 b) (hb:c=decide p) (h:(a < b)↔p:=by omega):Quiet P w0 F L o (.bool c):=Quiet.pure (AU .lss t x y .i64 a b _ ho hx hy (JD t .i64 a b c (by rw [hb]; exact decide_eq_decide.2 h)))
theorem qle {P:Program} {w0:Base} {F:AK} {L:AC} {o:Oper} {t:TypeId} {x y:Operand} {yt:TypeId} {a b:Int} {c:Bool} {p:Prop} [Decidable p] (ho:o.op=.binOp .leq t x y yt) (hx:evF F x=.int .i64 a) (hy:evF F y=.int .i64 b) (hb:c=decide p) (h:(a ≤ b)↔p:=by omega):Quiet P w0 F L o (.bool c):=Quiet.pure (AU .leq t x y .i64 a b _ ho hx hy (MT t .i64 a b c (by rw [hb]; exact decide_eq_decide.2 h)))
theorem qgt {P:Program} {w0:Base} {F:AK} {L:AC} {o:Oper} {t:TypeId} {x y:Operand} {yt:TypeId} {a b:Int} {c:Bool} {p:Prop} [Decidable p] (ho:o.op=.binOp .gtr t x y yt) (hx:evF F x=.int .i64 a) (hy:evF F y=.int .i64 b) (hb:c=decide p) (h:(a > b)↔p:=by omega):Quiet P w0 F L o (.bool c):=Quiet.pure (AU .gtr t x y .i64 a b _ ho hx hy (C1 t .i64 a b c (by rw [hb]; exact decide_eq_decide.2 h)))
theorem qge {P:Program} {w0:Base} {F:AK} {L:AC} {o:Oper} {t:TypeId} {x y:Operand} {yt:TypeId} {a b:Int} {c:Bool} {p:Prop} [Decidable p] (ho:o.op=.binOp .geq t x y yt) (hx:evF F x=.int .i64 a) (hy:evF F y=.int .i64 b) (hb:c=decide p) (h:(a ≥ b)↔p:=by omega):Quiet P w0 F L o (.bool c):=Quiet.pure (AU .geq t x y .i64 a b _ ho hx hy (ET t .i64 a b c (by rw [hb]; exact decide_eq_decide.2 h)))
theorem qeq {P:Program} {w0:Base} {F:AK} {L:AC} {o:Oper} {t:TypeId} {x y:Operand} {yt:TypeId} {a b:Int} {c:Bool} {p:Prop} [Decidable p] (ho:o.op=.binOp .eql t x y yt) (hx:evF F x=.int .i64 a) (hy:evF F y=.int .i64 b) (hb:c=decide p) (h:(a = b)↔p:=by omega):Quiet P w0 F L o (.bool c):=Quiet.pure (AU .eql t x y .i64 a b _ ho hx hy (Q1 t .i64 a b c (by rw [hb]; exact decide_eq_decide.2 h)))
theorem qne {P:Program} {w0:Base} {F:AK} {L:AC} {o:Oper} {t:TypeId} {x y:Operand} {yt:TypeId} {a b:Int} {c:Bool} {p:Prop} [Decidable p] (ho:o.op=.binOp .neq t x y yt) (hx:evF F x=.int .i64 a) (hy:evF F y=.int .i64 b) (hb:c=decide p) (h:(a ≠ b)↔p:=by omega):Quiet P w0 F L o (.bool c):=Quiet.pure (AU .neq t x y .i64 a b _ ho hx hy (Ds t .i64 a b c (by rw [hb]; exact decide_eq_decide.2 h)))
theorem BT (t e:TypeId) (x kx:Operand) (g f len cap k s:Nat) (ki:IntKind) (ho:o.op=.indexAddr t x kx) (hx:evF F x=.slice (some ⟨g,f,none⟩) len cap) (hkx:evF F kx=.int ki (k:Int)) (ht:P.underlying t=some (.slice e)) (hsz:∀ w,(sizeOf e).run P w=.ok s w) (hk:k<len) (w:World) :
  (execOp (evF F) o).run P w=.ok (.value (.pointer (some ⟨g,f+k*s,none⟩))) w:=by
 have h0:(0:Int)≤k:=om
 have h1:((k:Int).toNat)=k:=om
 unfold execOp
 simp [ho,hx,hkx,Instr.indexAt,asIntOf,run_underlying ht,hsz,h0,hk,BU,Result.andThen]
theorem Au (t e:TypeId) (x kx:Operand) (g f m k s:Nat) (ki:IntKind) (ho:o.op=.indexAddr t x kx) (hx:evF F x=pT g f) (hkx:evF F kx=.int ki (k:Int)) (ht:P.underlying t=some (.array m e)) (hsz:∀ w,(sizeOf e).run P w=.ok s w) (hk:k<m) (w:World) :
  (execOp (evF F) o).run P w=.ok (.value (.pointer (some ⟨g,f+k*s,none⟩))) w:=by
 have h0:(0:Int)≤k:=om
 unfold execOp
 simp [ho,hx,hkx,Instr.indexAt,asIntOf,run_underlying ht,hsz,h0,hk,BU,Result.andThen,Instr.sureAddr]
theorem Hd (t:TypeId) (x lx:Operand) (g f len cap lo s:Nat) (kl:IntKind) (ho:o.op=.slice t x (some lx) none none) (hx:evF F x=.slice (some ⟨g,f,none⟩) len cap) (hl:evF F lx=.int kl (lo:Int)) (ht:P.underlying t=some (.slice (P.elem t))) (hsz:∀ w,(sizeOf (P.elem t)).run P w=.ok s w) (h1:lo≤len) (h2:lo<cap) (w:World) :
  (execOp (evF F) o).run P w=.ok (.value (.slice (some ⟨g,f+lo*s,none⟩) (len - lo) (cap - lo))) w:=by
 have hne:¬ cap=lo:=om
 have e:(Instr.sliceAt t (.slice (some ⟨g,f,none⟩) len cap) (some (.int kl (lo:Int))) none none).run P w=.ok (.slice (some ⟨g,f+lo*s,none⟩) (len - lo) (cap - lo)) w:=by
  rw [run_sliceAt_slice w t _ _ _ _ ht,run_slice_l w t (some ⟨g,f,none⟩) len cap ht kl lo om om]
  simp [hsz,sliced,hne,BU,Result.andThen]
 unfold execOp
 simp only [ho,hx,hl,Option.map_some,Option.map_none,e,Sem.run_bind,Sem.run_pure,Result.andThen_ok]
theorem KM (t:TypeId) (x lx hx' mx':Operand) (g f len cap lo hi mx s:Nat) (kl kh km:IntKind) (ho:o.op=.slice t x (some lx) (some hx') (some mx')) (hx:evF F x=.slice (some ⟨g,f,none⟩) len cap) (hl:evF F lx=.int kl (lo:Int)) (hh:evF F hx'=.int kh (hi:Int)) (hm:evF F mx'=.int km (mx:Int)) (ht:P.underlying t=some (.slice (P.elem t))) (hsz:∀ w,(sizeOf (P.elem t)).run P w=.ok s w)
  (h1:lo≤hi) (h2:hi≤mx) (h3:mx≤cap) (h4:lo<mx) (w:World):(execOp (evF F) o).run P w=.ok (.value (.slice (some ⟨g,f+lo*s,none⟩) (hi - lo) (mx - lo))) w:=by
 have hne:¬ mx=lo:=om
 have e:(Instr.sliceAt t (.slice (some ⟨g,f,none⟩) len cap) (some (.int kl (lo:Int))) (some (.int kh (hi:Int))) (some (.int km (mx:Int)))).run P w=.ok (.slice (some ⟨g,f+lo*s,none⟩) (hi - lo) (mx - lo)) w:=by
  rw [run_sliceAt_slice w t _ _ _ _ ht,run_slice_lhm w t (some ⟨g,f,none⟩) len cap ht kl kh km lo hi mx om om om om]
  simp [hsz,sliced,hne,BU,Result.andThen]
 unfold execOp
 simp only [ho,hx,hl,hh,hm,Option.map_some,e,Sem.run_bind,Sem.run_pure,Result.andThen_ok]
theorem He (x y:Operand) {ts:Array TypeId} (k:IntKind) (a b c:Nat) (ho:o.op=.call { callee:=.builtin .min,args:=#[x,y],argTypes:=ts }) (hx:evF F x=.int k (a:Int)) (hy:evF F y=.int k (b:Int)) (h:min a b=c) (w:World):(execOp (evF F) o).run P w=.ok (.value (.int k (c:Int))) w:=by
 have e:(if (b:Int)<(a:Int) then (b:Int) else (a:Int))=(c:Int):=by split <;> omega
 unfold execOp
 simp [ho,hx,hy,resolve,invoke,builtin,Builtin.min_,Builtin.min2,Sem.run_bind,Result.andThen]
 omega
theorem Hf (t e:TypeId) (x kx:Operand) (cs:Array Value) (m k:Nat) (ki:IntKind) (d:TypeDesc) (c:Value) (ho:o.op=.index t x kx) (hx:evF F x=.agg cs) (hkx:evF F kx=.int ki (k:Int)) (ht:P.underlying t=some (.array m e)) (he:P.underlying e=some d) (hd:d.isRow=false) (hsz:∀ w,(sizeOf e).run P w=.ok 1 w) (hk:k<m) (hc:cs[k]? = some c) (w:World) :
  (execOp (evF F) o).run P w=.ok (.value c) w:=by
 have h0:(0:Int)≤k:=om
 have ha:(isAgg e).run P w=.ok false w:=by
  cases d <;> first | (cases hd; done) | simp [isAgg,underlying,he]
 have pc:(part e cs ((k:Int).toNat*1)).run P w=.ok c w:=by
  simp [part,ha,hc,Result.andThen]
 unfold execOp
 simp only [ho,hx,hkx,Instr.index,asIntOf,Sem.run_bind,Sem.run_pure,Result.andThen_ok,run_underlying ht]
 rw [if_pos ⟨by omega,by omega⟩]
 simp only [Sem.run_bind,hsz,Result.andThen_ok,pc,Sem.run_pure]
def Ml {T:Type} (w0:Base) (n N:Nat) (FF:Nat→T→AK) (LL:Nat→T→AC) (H:Nat→T→Prop) (k:Nat):Act→World→Prop:=λa w=>k<N∧∃ y,H (k+1) y∧Fr w0.ds a n (FF (k+1) y)∧St w0 w (LL (k+1) y)
theorem loopX {T:Type} {c:Code} (N:Nat) (FF:Nat→T→AK) (LL:Nat→T→AC) (H:Nat→T→Prop) (x0:T) (m:List Bool) (h0:H 0 x0) (hF:∀ p∈FF 0 x0,F.lookup p.1=some p.2) (hL:sel L m=LL 0 x0)
  (hr:∀ k x,k≤N→H k x→wpC P w0 n (Exit.then (Ml w0 n N FF LL H k) Q) (FF k x) (LL k x) c):wpC P w0 n Q F L (.loop c) :=
 KB N (λk a w=>∃ x,H k x∧Fr w0.ds a n (FF k x)∧St w0 w (LL k x)) (λ_ _ ha hw=>⟨x0,h0,ha.all hF,hL ▸ hw.less (CL L m)⟩)
  λk hk a w ⟨x,hx,ha,hw⟩=>hr k x hk hx a w ha hw
theorem againX {T:Type} {N:Nat} {FF:Nat→T→AK} {LL:Nat→T→AC} {H:Nat→T→Prop} {k:Nat} {R:Exit→Act→World→Prop} (y:T) (m:List Bool) (hk:k<N) (hy:H (k+1) y) (hF:∀ p∈FF (k+1) y,F.lookup p.1=some p.2) (hL:sel L m=LL (k+1) y) :
  X w0 n (Exit.then (Ml w0 n N FF LL H k) R) F L .normal:=λ_ _ ha hw=>⟨hk,y,hy,ha.all hF,hL ▸ hw.less (CL L m)⟩
def Ru (w0:Base) (n N:Nat) (FF:Nat→AK) (LL:Nat→AC) (k:Nat):Act→World→Prop:=λa w=>k<N∧Fr w0.ds a n (FF (k+1))∧St w0 w (LL (k+1))
theorem loopK {c:Code} (N:Nat) (FF:Nat→AK) (LL:Nat→AC) (m:List Bool) {M:AC} (hF:∀ p∈FF 0,F.lookup p.1=some p.2) (hL:sel L m=M) (hM:M=LL 0)
  (hr:∀ k,k≤N→wpC P w0 n (Exit.then (Ru w0 n N FF LL k) Q) (FF k) (LL k) c):wpC P w0 n Q F L (.loop c) :=
 KB N (λk a w=>Fr w0.ds a n (FF k)∧St w0 w (LL k)) (λ_ _ ha hw=>⟨ha.all hF,hM ▸ hL ▸ hw.less (CL L m)⟩)
  λk hk a w ⟨ha,hw⟩=>hr k hk a w ha hw
theorem againK {N:Nat} {FF:Nat→AK} {LL:Nat→AC} {k:Nat} {R:Exit→Act→World→Prop} (m:List Bool) {M:AC} (hk:k<N) (hF:∀ p∈FF (k+1),F.lookup p.1=some p.2) (hL:sel L m=M) (hM:M=LL (k+1)) :
  X w0 n (Exit.then (Ru w0 n N FF LL k) R) F L .normal:=λ_ _ ha hw=>⟨hk,ha.all hF,hM ▸ hL ▸ hw.less (CL L m)⟩
theorem AL {x y:Nat×TypeId×Array Value} {l m:AC} (h:x=y) (k:l=m):x::l=y::m:=by rw [h,k]
theorem beq {g:Nat} {t:TypeId} {a b:Array Value} (h:a=b):(g,t,a)=(g,t,b):=by rw [h]
def Rv (w0:Base) (n N:Nat) (H:Nat→Prop) (FF:Nat→AK) (LL:Nat→AC) (k:Nat):Act→World→Prop:=λa w=>k<N∧H (k+1)∧Fr w0.ds a n (FF (k+1))∧St w0 w (LL (k+1))
theorem loopH {c:Code} (N:Nat) (H:Nat→Prop) (FF:Nat→AK) (LL:Nat→AC) (m:List Bool) {M:AC} (h0:H 0) (hF:∀ p∈FF 0,F.lookup p.1=some p.2) (hL:sel L m=M) (hM:M=LL 0)
  (hr:∀ k,k≤N→H k→wpC P w0 n (Exit.then (Rv w0 n N H FF LL k) Q) (FF k) (LL k) c):wpC P w0 n Q F L (.loop c) :=
 KB N (λk a w=>H k∧Fr w0.ds a n (FF k)∧St w0 w (LL k)) (λ_ _ ha hw=>⟨h0,ha.all hF,hM ▸ hL ▸ hw.less (CL L m)⟩)
  λk hk a w ⟨hh,ha,hw⟩=>hr k hk hh a w ha hw
theorem againH {N:Nat} {H:Nat→Prop} {FF:Nat→AK} {LL:Nat→AC} {k:Nat} {R:Exit→Act→World→Prop} (m:List Bool) {M:AC} (hk:k<N) (hh:H (k+1)) (hF:∀ p∈FF (k+1),F.lookup p.1=some p.2) (hL:sel L m=M) (hM:M=LL (k+1)) :
  X w0 n (Exit.then (Rv w0 n N H FF LL k) R) F L .normal:=λ_ _ ha hw=>⟨hk,hh,ha.all hF,hM ▸ hL ▸ hw.less (CL L m)⟩
theorem Makes.slice (t e:TypeId) (i:TypeInfo) (z:Value) (s b:Nat) (x y:Operand) (kl kc:IntKind) (m:Nat) (c:List Value) (ho:o.op=.makeSlice t x y) (hx:evF F x=.int kl (m:Int)) (hy:evF F y=.int kc (m:Int)) (ht:P.underlying t=some (.slice e)) (hi:P.info? e=some i) (hz:i.zero=some z) (hs:i.size=s) (hs0:0<s) (hb:i.bytes=b)
  (hc:z.cells.toList=c) (hcl:c.length=s) (hbytes:b*m≤281474976710656) (h63:m≤9223372036854775807):Makes P F o e (AO (λ_=>c) m).toArray (λg=>.slice (pA g) m m):=λw=>by
 subst hs hb
 have hb:(i.bytes:Int)*(m:Int)≤281474976710656:=by
  have h:((i.bytes*m:Nat):Int)≤281474976710656:=om
  rwa [Int.natCast_mul] at h
 have hr:=run_make (P:=P) w t e i z ht hi hz kl kc m m om (Int.le_refl _) hb om
 simp only [Int.toNat_natCast] at hr
 unfold execOp
 simp only [ho,hx,hy,Sem.run_bind,Sem.run_pure,hr,Result.andThen_ok]
 rw [Lb c hcl hs0 m z.cells hc]
end
end Sy
end
section
namespace Fz
open Go.RowKit Go.Lib Sy
def vR (R:Nat→Nat):Nat→Nat
 | 0=>0
 | n+1=>vR R n+R n*18446744073709551616 ^ n
def upd (R:Nat→Nat) (k y:Nat):Nat→Nat:=λt=>if t=k then y else R t
theorem Ik {R:Nat→Nat} {k y t:Nat} (h:t≠k):upd R k y t=R t:=if_neg h
theorem Ff {R:Nat→Nat} {k y:Nat} (h:∀ t,R t<18446744073709551616) (hy:y<18446744073709551616) (t:Nat):upd R k y t<18446744073709551616:=by
 unfold upd
 split
 ·exact hy
 ·exact h t
theorem GF {R S:Nat→Nat}:∀ n,(∀ t,t<n→R t=S t)→vR R n=vR S n
 | 0,_=>rfl
 | n+1,h=>by
  show vR R n+_=vR S n+_
  rw [GF n λt ht=>h t om,h n om]
theorem Fc (R:Nat→Nat) (k y:Nat):∀ n,k<n→vR (upd R k y) n+R k*18446744073709551616 ^ k=vR R n+y*18446744073709551616 ^ k
 | 0,h=>absurd h (Nat.not_lt_zero _)
 | n+1,h=>by
  show vR (upd R k y) n+upd R k y n*_+_=vR R n+R n*_+_
  by_cases e:k=n
  ·subst e
   rw [show upd R k y k=y from if_pos U,GF (R:=upd R k y) (S:=R) k λt ht=>if_neg om]
   omega
  ·have h2:=Fc R k y n om
   rw [show upd R k y n=R n from if_neg om]
   omega
theorem GY {R:Nat→Nat} (h:∀ t,R t<18446744073709551616):∀ n,vR R n<18446744073709551616 ^ n
 | 0=>Nat.one_pos
 | n+1=>by
  have h1:=GY h n
  have h2:=h n
  show vR R n+R n*_<_
  rw [Nat.pow_succ]
  have h3:(R n+1)*18446744073709551616 ^ n≤18446744073709551616*18446744073709551616 ^ n:=Nat.mul_le_mul_right _ h2
  rw [Nat.add_mul,Nat.one_mul] at h3
  rw [Nat.mul_comm (18446744073709551616 ^ n)]
  omega
theorem D5 (R:Nat→Nat) (a:Nat):∀ n,vR R (a+n)=vR R a+vR (λt=>R (a+t)) n*18446744073709551616 ^ a
 | 0=>by
  show vR R a=vR R a+0*_
  rw [Nat.zero_mul,Nat.add_zero]
 | n+1=>by
  show vR R (a+n)+R (a+n)*18446744073709551616 ^ (a+n)=vR R a+(vR _ n+R (a+n)*_)*_
  rw [D5 R a n,Nat.add_mul,Nat.mul_assoc, ← Nat.pow_add,Nat.add_comm n a,Nat.add_assoc]
theorem GE:∀ n,vR (λ_=>0) n=0
 | 0=>rfl
 | n+1=>by
  show vR _ n+0*_=0
  rw [GE n,Nat.zero_mul]
def cpy (R:Nat→Nat) (k:Nat):Nat→Nat:=λt=>if t<k then R t else 0
theorem Sl {R:Nat→Nat} (h:∀ t,R t<18446744073709551616) (k t:Nat):cpy R k t<18446744073709551616:=by
 unfold cpy
 split
 ·exact h t
 ·decide
theorem PV (R:Nat→Nat) (k:Nat):upd (cpy R k) k (R k)=cpy R (k+1):=by
 funext t
 unfold upd cpy
 by_cases e:t=k
 ·rw [if_pos e,if_pos om,e]
 ·rw [if_neg e]
  by_cases l:t<k
  ·rw [if_pos l,if_pos om]
  ·rw [if_neg l,if_neg om]
theorem Ry (R:Nat→Nat):vR (cpy R 4) 8=vR R 4:=by
 rw [show (8:Nat)=4+4 from rfl,D5,GF (R:=cpy R 4) (S:=R) 4 (λt ht=>if_pos ht),GF (R:=λt=>cpy R 4 (4+t)) (S:=λ_=>0) 4 (λt _=>if_neg om),GE,Nat.zero_mul,Nat.add_zero]
def rw8 (R:Nat→Nat):Array Value:=#[.int .u64 ((R 0:Nat):Int),.int .u64 ((R 1:Nat):Int),.int .u64 ((R 2:Nat):Int),.int .u64 ((R 3:Nat):Int),.int .u64 ((R 4:Nat):Int),.int .u64 ((R 5:Nat):Int),.int .u64 ((R 6:Nat):Int),.int .u64 ((R 7:Nat):Int)]
theorem Rq {k:Nat} (h:k<8):k=0∨k=1∨k=2∨k=3∨k=4∨k=5∨k=6∨k=7:=om
theorem Fi (R:Nat→Nat) {k o:Nat} (h:k<8) (ho:o=k):(rw8 R)[o]? = some (.int .u64 ((R k:Nat):Int)):=by
 subst ho
 rcases Rq h with rfl | rfl | rfl | rfl | rfl | rfl | rfl | rfl <;> rfl
theorem Do (R:Nat→Nat) (y:Nat) {k o:Nat} (h:k<8) (ho:o=k):(rw8 R).setIfInBounds o (.int .u64 ((y:Nat):Int))=rw8 (upd R k y):=by
 subst ho
 rcases Rq h with rfl | rfl | rfl | rfl | rfl | rfl | rfl | rfl <;> rfl
theorem Dp (R:Nat→Nat) {k o:Nat} (h:k<8) (ho:o=k):o<(rw8 R).size:=by
 subst ho
 exact h
def modc (M:Nat) (lw:Nat→Nat):Array Value:=((fcs M).toList++([.int .u64 ((lw 0:Nat):Int),.int .u64 ((lw 1:Nat):Int),.int .u64 ((lw 2:Nat):Int)]:List Value)).toArray
theorem Qq (M:Nat) (lw:Nat→Nat) {j o:Nat} (h:j<3) (ho:o=4+j):(modc M lw)[o]? = some (.int .u64 ((lw j:Nat):Int)):=by
 subst ho
 have:j=0∨j=1∨j=2:=om
 rcases this with rfl | rfl | rfl <;> rfl
def wd (x:Nat) (t:Nat):Nat:=x / 18446744073709551616 ^ t%18446744073709551616
theorem wd_lt (x t:Nat):wd x t<18446744073709551616:=Nat.mod_lt _ dZ
theorem Nx (x:Nat):∀ n,vR (wd x) n=x%18446744073709551616 ^ n
 | 0=>by rw [Nat.pow_zero,Nat.mod_one]; rfl
 | n+1=>by
  show vR (wd x) n+wd x n*_=_
  rw [Nx x n,Nat.mod_pow_succ,Nat.mul_comm]
  rfl
theorem Hc (x:Nat) {k o:Nat} (h:k<4) (ho:o=k):(fcs x)[o]? = some (.int .u64 ((wd x k:Nat):Int)):=by
 subst ho
 have:o=0∨o=1∨o=2∨o=3:=om
 have e0:wd x 0=x%18446744073709551616:=by unfold wd; rw [Nat.pow_zero,Nat.div_one]
 have e1:wd x 1=x / 18446744073709551616%18446744073709551616:=by unfold wd; rw [Nat.pow_one]
 rcases this with rfl | rfl | rfl | rfl
 ·rw [e0]; rfl
 ·rw [e1]; rfl
 ·rfl
 ·rfl
theorem K3 {R:Nat→Nat} (h:∀ t,R t<18446744073709551616):Value.agg #[.int .u64 ((R 0:Nat):Int),.int .u64 ((R 1:Nat):Int),.int .u64 ((R 2:Nat):Int),.int .u64 ((R 3:Nat):Int)]=fv (vR R 4):=by
 rw [Ch _ _ _ _ (h 0) (h 1) (h 2) (h 3)]
 congr 1
 show _=0+R 0*1+R 1*18446744073709551616+R 2*340282366920938463463374607431768211456+R 3*6277101735386680763835789423207666416102355444464034512896
 omega
theorem Rg {hi lo x k y l e d r c:Nat} (h1:lo+18446744073709551616*hi=e*d) (h2:x+18446744073709551616*k=lo+r) (h3:y+18446744073709551616*l=x+c):y+18446744073709551616*(hi+k+l)=e*d+r+c:=om
theorem Pb {hi k l y e d r c:Nat} (h:y+18446744073709551616*(hi+k+l)=e*d+r+c) (he:e<18446744073709551616) (hd:d<18446744073709551616) (hr:r<18446744073709551616) (hc:c<18446744073709551616):hi+k+l<18446744073709551616:=by
 have h2:e*d≤18446744073709551615*18446744073709551615:=Nat.mul_le_mul om om
 omega
theorem LX {v v' r P c c' y e d V LS Bi P0:Nat} (h1:v'+r*P=v+y*P) (h2:v+c*P=V+e*LS*Bi) (h3:y+18446744073709551616*c'=e*d+r+c) (hp:P=P0*Bi):v'+c'*(P*18446744073709551616)=V+e*(LS+d*P0)*Bi:=by
 grind
theorem So {v v' r P c l x V:Nat} (h1:v'+r*P=v+x*P) (h2:v+c*P=V) (h3:x+18446744073709551616*l=r+c):v'+l*(P*18446744073709551616)=V:=by
 grind
theorem LD (a b:Nat) (ha:a<18446744073709551616) (hb:b<18446744073709551616):IntKind.u64.wrap ((BitVec.ofInt IntKind.u64.bits (a:Int) ||| BitVec.ofInt IntKind.u64.bits (b:Int)).toNat:Int)=((a ||| b:Nat):Int):=by
 have hl:a ||| b<18446744073709551616:=Nat.or_lt_two_pow (n:=64) ha hb
 have hw2:(BitVec.ofInt 64 (a:Int) ||| BitVec.ofInt 64 (b:Int)).toNat=a ||| b:=by
  rw [BitVec.toNat_or]
  simp only [BitVec.ofInt_natCast,BitVec.toNat_ofNat]
  rw [Nat.mod_eq_of_lt om,Nat.mod_eq_of_lt om]
 show IntKind.u64.wrap ((BitVec.ofInt 64 (a:Int) ||| BitVec.ofInt 64 (b:Int)).toNat:Int)=_
 rw [hw2,wrap_u64 om om]
theorem LW {P:Program} (t:TypeId) (k:IntKind) (a b c:Int) (h:k.wrap ((BitVec.ofInt k.bits a ||| BitVec.ofInt k.bits b).toNat:Int)=c) (w:World):(binOp .or t (.int k a) (.int k b)).run P w=.ok (.int k c) w:=by
 simp only [binOp,ne_eq,not_true_eq_false,if_false,Op.intBits,Sem.run_pure]
 rw [h]
theorem J7 (w:World) (x y hi lo:Nat) (hx:x<18446744073709551616) (hy:y<18446744073709551616) (hlo:lo<18446744073709551616) (he:lo+18446744073709551616*hi=x*y) :
  Calls Tryz.prog 175 #[.int .u64 ((x:Nat):Int),.int .u64 ((y:Nat):Int)] w (Gets w (.tuple #[.int .u64 ((hi:Nat):Int),.int .u64 ((lo:Nat):Int)])) :=
 (DF w x y hi lo hx hy hlo he).mono λe w' ⟨h1,h2⟩=>⟨h1,by rw [h2]; exact Below.refl _ _⟩
theorem H_ (x y:Nat):∃ hi lo:Nat,lo<18446744073709551616∧lo+18446744073709551616*hi=x*y:=⟨x*y / 18446744073709551616,x*y%18446744073709551616,Nat.mod_lt _ dZ,Nat.mod_add_div _ _⟩
theorem Og {x y i c:Nat} {y1 z:Nat→Nat} (h1:vR y1 8=vR (wd x) i*vR (wd y) 4) (h2:vR z 8+c*18446744073709551616 ^ (i+4)=vR y1 8+wd x i*vR (wd y) 4*18446744073709551616 ^ i) (h3:z (i+4)=0) (hi:i<4):vR (upd z (i+4) c) 8=vR (wd x) (i+1)*vR (wd y) 4:=by
 have h4:=Fc z (i+4) c 8 om
 rw [h3,Nat.zero_mul,Nat.add_zero] at h4
 show _=(vR (wd x) i+wd x i*_)*_
 rw [h4,h2,h1]
 grind
theorem wd4 {x:Nat} (hx:x<(2^256)):vR (wd x) 4=x:=by
 rw [Nx]
 exact Nat.mod_eq_of_lt hx
end Fz
end
section
namespace Fz
open Go.RowKit Go.Lib Sy
theorem Qb {y:Nat→Nat} (h:¬ (((y 4 ||| y 5) ||| y 6) ||| y 7>0)):y 4=0∧y 5=0∧y 6=0∧y 7=0:=by
 have h0:((y 4 ||| y 5) ||| y 6) ||| y 7=0:=om
 rw [Nat.or_eq_zero_iff,Nat.or_eq_zero_iff,Nat.or_eq_zero_iff] at h0
 exact ⟨h0.1.1.1,h0.1.1.2,h0.1.2,h0.2⟩
theorem RY (y:Nat→Nat):vR (λt=>y (4+t)) 4=0+y 4*1+y 5*18446744073709551616+y 6*340282366920938463463374607431768211456+y 7*6277101735386680763835789423207666416102355444464034512896:=rfl
theorem Py {y:Nat→Nat} (n k:Nat) (hn:n=k+k) (e:vR (λt=>y (k+t)) k=0):vR y n=vR y k:=by
 subst hn
 have s:=D5 y k k
 rw [e,Nat.zero_mul,Nat.add_zero] at s
 exact s
theorem Rx {y:Nat→Nat} (h:y 4=0∧y 5=0∧y 6=0∧y 7=0):vR y 8=vR y 4:=Py 8 4 U (by
 rw [RY]
 obtain ⟨h1,h2,h3,h4⟩:=h
 omega)
theorem SN {M:Nat} {lw y z:Nat→Nat} (_:∀ t,lw t<18446744073709551616) (hM0:0<M) (hM:M+vR lw 3=18446744073709551616 ^ 4) (_:∀ t,y t<18446744073709551616) (h:vR z 8=vR y 4+vR (λt=>y (4+t)) 4*vR lw 3) (ho:((y 4 ||| y 5) ||| y 6) ||| y 7>0):vR z 8%M=vR y 8%M∧vR z 8<vR y 8:=by
 have e:vR y 8=vR z 8+vR (λt=>y (4+t)) 4*M:=by
  rw [show (8:Nat)=4+4 from rfl,D5 y, ← hM,show (4+4:Nat)=8 from rfl,h,Nat.mul_add]
  omega
 have hp:0<vR (λt=>y (4+t)) 4:=by
  rw [RY]
  rcases Nat.eq_zero_or_pos (y 4) with h4 | h4
  ·rcases Nat.eq_zero_or_pos (y 5) with h5 | h5
   ·rcases Nat.eq_zero_or_pos (y 6) with h6 | h6
    ·rcases Nat.eq_zero_or_pos (y 7) with h7 | h7
     ·rw [h4,h5,h6,h7] at ho
      exact absurd ho dZ
     ·omega
    ·omega
   ·omega
  ·omega
 have hpos:0<vR (λt=>y (4+t)) 4*M:=Nat.mul_pos hp hM0
 refine ⟨?_,by omega⟩
 rw [e,Nat.add_mul_mod_self_right]
theorem Ti {lw y y3 z:Nat→Nat} {c i n:Nat} (hlw:∀ t,lw t<18446744073709551616) (hy:∀ t,y t<18446744073709551616) (h3:vR y3 8=vR y 4+vR (λt=>y (4+t)) i*vR lw 3) (hz:∀ t,z t<18446744073709551616) (h:vR z 8+c*18446744073709551616 ^ n=vR y3 8+y (4+i)*vR lw 3*18446744073709551616 ^ i) (hi:i<4) (hc:c=0∨n=8) :
  vR z 8=vR y 4+vR (λt=>y (4+t)) (i+1)*vR lw 3:=by
 have e:vR y3 8+y (4+i)*vR lw 3*18446744073709551616 ^ i=vR y 4+vR (λt=>y (4+t)) (i+1)*vR lw 3:=by
  show _=_+(vR (λt=>y (4+t)) i+y (4+i)*_)*_
  rw [h3]
  grind
 rw [e] at h
 rcases hc with rfl | rfl
 ·rw [Nat.zero_mul,Nat.add_zero] at h
  exact h
 ·have h1:=GY hy 4
  have h2:=GY (R:=λt=>y (4+t)) (λt=>hy _) (i+1)
  have h4:=GY hlw 3
  have h5:18446744073709551616 ^ (i+1)≤18446744073709551616 ^ 4:=Nat.pow_le_pow_right dZ om
  have h6:vR (λt=>y (4+t)) (i+1)*vR lw 3≤18446744073709551616 ^ 4*18446744073709551616 ^ 3:=Nat.mul_le_mul om om
  have h7:(18446744073709551616 ^ 4+18446744073709551616 ^ 4*18446744073709551616 ^ 3:Nat)<18446744073709551616 ^ 8:=dZ
  rcases Nat.eq_zero_or_pos c with rfl | hp
  ·rw [Nat.zero_mul,Nat.add_zero] at h
   exact h
  ·have h8:1*18446744073709551616 ^ 8≤c*18446744073709551616 ^ 8:=Nat.mul_le_mul_right _ hp
   omega
theorem foldZ (w:World) (M:Nat) (lw:Nat→Nat) (hlw:∀ t,lw t<18446744073709551616) (hM0:0<M) (hM:M+vR lw 3=18446744073709551616 ^ 4) (hnorm:∀ w x,x<(2^256)→Calls Tryz.prog 46 #[.agg (modc M lw),fv x] w (Gets w (fv (x%M)))) (R:Nat→Nat) (hR:∀ t,R t<18446744073709551616):Calls Tryz.prog 177 #[.agg (modc M lw),.agg (rw8 R)] w (Gets w (fv (vR R 8%M))):=by
 obtain ⟨V,hV⟩:=xE (vR R 8%M)
 obtain ⟨V0,hV0⟩:=xE (vR R 8)
 rw [← hV]
 refine Sy.enter (args:=[.agg (modc M lw),.agg (rw8 R)]) Tryz.func177 U kL<|sC<|sM 94 (modc M lw) (λg0=>?_)
 refine Sy.make kR 206 (rw8 R) ptr kF (λg1=>?_)
 refine sM 90 (fcs 0) (λg2=>?_)
 refine sG<|Sy.seq<|Sy.block<|Sy.loopX (T:=Nat→Nat) V0 (λk1 y1=>[(2,pT g0 0),(3,pT g1 0),(4,pT g2 0)]) (λk1 y1=>[(g0,94,(modc M lw)),(g1,206,(rw8 y1)),(g2,90,(fcs 0))]) (λk1 y1=>(∀ t,y1 t<18446744073709551616)∧vR y1 8%M=V∧vR y1 8+k1≤V0) R [true,true,true] (⟨hR,hV.symm,by show vR R 8+0≤V0; omega⟩) ac3 kR (λk1 y1 hk1 hh1=>?_)
 refine Sy.seq<|sC<|sP (pT g1 4)<|sS (.int .u64 ((y1 4:Nat):Int)) (Quiet.cell 1 g1 4 206 40 (rw8 y1) _ _ U kR kR Bh U _ kR)<|sP (pT g1 5)<|sS (.int .u64 ((y1 5:Nat):Int)) (Quiet.cell 1 g1 5 206 40 (rw8 y1) _ _ U kR kR Bh U _ kR)<|sS (.int .u64 (((y1 4) ||| (y1 5):Nat):Int)) (Quiet.pure (AU .or _ _ _ .u64 _ _ _ U U U (LW _ _ _ _ _ (LD _ _ (hh1.1 _) (hh1.1 _)))))<|sP (pT g1 6)<|sS (.int .u64 ((y1 6:Nat):Int)) (Quiet.cell 1 g1 6 206 40 (rw8 y1) _ _ U kR kR Bh U _ kR)<|sS (.int .u64 ((((y1 4) ||| (y1 5)) ||| (y1 6):Nat):Int)) (Quiet.pure (AU .or _ _ _ .u64 _ _ _ U U U (LW _ _ _ _ _ (LD _ _ (Nat.or_lt_two_pow (n:=64) (hh1.1 _) (hh1.1 _)) (hh1.1 _)))))<|sP (pT g1 7)<|sS (.int .u64 ((y1 7:Nat):Int)) (Quiet.cell 1 g1 7 206 40 (rw8 y1) _ _ U kR kR Bh U _ kR)<|sS (.int .u64 (((((y1 4) ||| (y1 5)) ||| (y1 6)) ||| (y1 7):Nat):Int)) (Quiet.pure (AU .or _ _ _ .u64 _ _ _ U U U (LW _ _ _ _ _ (LD _ _ (Nat.or_lt_two_pow (n:=64) (Nat.or_lt_two_pow (n:=64) (hh1.1 _) (hh1.1 _)) (hh1.1 _)) (hh1.1 _))))) ?_
 obtain ⟨b1,hb1⟩:=xE (decide ((((y1 4) ||| (y1 5)) ||| (y1 6)) ||| (y1 7)>0))
 refine sS (.bool b1) (Quiet.pure (AU .gtr _ _ _ .u64 _ _ _ U U U (C1 _ _ _ _ _ (by rw [hb1]; exact decide_eq_decide.2 om))))<|sG ?_
 cases b1
 ·have lb1:=dN hb1
  refine sU<|Sy.exit<|Sy.then_exit<|Sy.then_exit ?_
  have hz:=Qb lb1
  have hlow:=Rx hz
  refine Sy.in_exit<|sB<|sS (.agg (modc M lw)) (qL 0 g0 0 7 94 94 (modc M lw) rfl Ey)<|sP (pT g1 0)<|sS (.int .u64 ((y1 0:Nat):Int)) (Quiet.cell 1 g1 0 206 40 (rw8 y1) _ _ U kR kR Bh U _ kR)<|sP (pT g1 1)<|sS (.int .u64 ((y1 1:Nat):Int)) (Quiet.cell 1 g1 1 206 40 (rw8 y1) _ _ U kR kR Bh U _ kR)<|sP (pT g1 2)<|sS (.int .u64 ((y1 2:Nat):Int)) (Quiet.cell 1 g1 2 206 40 (rw8 y1) _ _ U kR kR Bh U _ kR)<|sP (pT g1 3)<|sS (.int .u64 ((y1 3:Nat):Int)) (Quiet.cell 1 g1 3 206 40 (rw8 y1) _ _ U kR kR Bh U _ kR)<|sS (fv (vR y1 4)) (Quiet.pure (λw=>by rw [← K3 hh1.1]; kernel_rfl))<|sS (fv ((vR y1 4)%M)) (qF 46 #[.agg (modc M lw),fv (vR y1 4)] (λw=>hnorm w _ (GY hh1.1 4)))<|sW 2 g2 90 (fcs 0) (fcs ((vR y1 4)%M)) (wS 0 90 (fcs ((vR y1 4)%M)) U)<|sG<|Sy.ret ?_
  rw [show (fv V:Value)=fv ((vR y1 4)%M) from by rw [← hh1.2.1,hlow]]
  exact rC (v:=fv ((vR y1 4)%M)) 90 g2 2 (fcs ((vR y1 4)%M)) U AH
 ·have lb1:=dY hb1
  refine sT<|Sy.skip<|Sy.then_<|Sy.block<|sC<|Sy.make kR 206 (rw8 (λ_=>0)) ptr kF (λg3=>?_)
  refine sG<|Sy.seq<|sC<|sP (.int .i64 0)<|sG<|Sy.block<|Sy.loopK 4 (λk2=>[(2,pT g0 0),(3,pT g1 0),(4,pT g2 0),(5,pT g3 0),(6,iZ k2)]) (λk2=>[(g0,94,(modc M lw)),(g1,206,(rw8 y1)),(g2,90,(fcs 0)),(g3,206,(rw8 (cpy y1 k2)))]) [true,true,true,true] (M:=[(g0,94,(modc M lw)),(g1,206,(rw8 y1)),(g2,90,(fcs 0)),(g3,206,(rw8 (λ_=>0)))]) ac5 kR (AL U (AL U (AL U (AL (beq kR) rfl)))) (λk2 hk2=>?_)
  refine Sy.seq<|sC<|sP (iZ k2) ?_
  obtain ⟨b2,hb2⟩:=xE (decide (k2<4))
  refine sS (.bool b2) (qls U U U hb2)<|sG ?_
  cases b2
  ·have lb2:=dN hb2
   refine sU<|Sy.exit<|Sy.then_exit<|Sy.then_exit ?_
   obtain rfl:k2=4:=om
   refine Sy.in_exit<|Sy.then_<|Sy.seq<|sC<|sP (.int .i64 0)<|sG<|Sy.block<|Sy.loopX (T:=Nat→Nat) 4 (λk3 y3=>[(2,pT g0 0),(3,pT g1 0),(4,pT g2 0),(5,pT g3 0),(7,iZ k3)]) (λk3 y3=>[(g0,94,(modc M lw)),(g1,206,(rw8 y1)),(g2,90,(fcs 0)),(g3,206,(rw8 y3))]) (λk3 y3=>(∀ t,y3 t<18446744073709551616)∧vR y3 8=vR y1 4+vR (λt=>y1 (4+t)) k3*vR lw 3) (cpy y1 4) [true,true,true,true] (⟨Sl hh1.1 4,(Ry y1).trans (by show _=_+0*_; rw [Nat.zero_mul,Nat.add_zero])⟩) ac5 kR (λk3 y3 hk3 hh3=>?_)
   refine Sy.seq<|sC<|sP (iZ k3) ?_
   obtain ⟨b3,hb3⟩:=xE (decide (k3<4))
   refine sS (.bool b3) (qls U U U hb3)<|sG ?_
   cases b3
   ·have lb3:=dN hb3
    refine sU<|Sy.exit<|Sy.then_exit<|Sy.then_exit ?_
    obtain rfl:k3=4:=om
    refine Sy.in_exit<|Sy.then_<|Sy.region<|sS (.agg (rw8 y3)) (Quiet.load 3 g3 0 8 206 206 (rw8 y3) _ _ U kR kR Cz U kR _ kR kL)<|Sy.write kR 1 g1 206 (rw8 y1) (rw8 y3) kR (Writes.store 0 206 (rw8 y3) _ _ U kR kR kR kL kR kR)<|Sy.nil<|Sy.in_ ?_
    have hf:=SN hlw hM0 hM hh1.1 hh3.2 lb1
    obtain ⟨hf1,hf2⟩:=hf
    exact Sy.againX (y3) [true,true,true,false] (by have:=hh1.2.2; omega) (⟨hh3.1,hf1.trans hh1.2.1,by have:=hh1.2.2; omega⟩) ac3 kR
   ·have lb3:=dY hb3
    refine sT<|Sy.skip<|Sy.then_<|Sy.seq<|Sy.block<|sC<|sP (.int .u64 0)<|sG<|Sy.seq<|sC<|sP (.int .i64 0)<|sG<|Sy.block<|Sy.loopX (T:=(Nat→Nat)×Nat) 3 (λk4 y4=>[(2,pT g0 0),(3,pT g1 0),(4,pT g2 0),(5,pT g3 0),(7,iZ k3),(8,.int .u64 ((y4.2:Nat):Int)),(9,iZ k4)]) (λk4 y4=>[(g0,94,(modc M lw)),(g1,206,(rw8 y1)),(g2,90,(fcs 0)),(g3,206,(rw8 y4.1))]) (λk4 y4=>(∀ t,y4.1 t<18446744073709551616)∧y4.2<18446744073709551616∧vR y4.1 8+y4.2*18446744073709551616 ^ (k3+k4)=vR y3 8+y1 (4+k3)*vR lw k4*18446744073709551616 ^ k3) (y3,0) [true,true,true,true] (⟨hh3.1,by show (0:Nat)<18446744073709551616; decide,by show vR y3 8+0*_=_+_*0*_; omega⟩) ac7 kR (λk4 y4 hk4 hh4=>?_)
    refine Sy.seq<|sC<|sP (iZ k4) ?_
    obtain ⟨b4,hb4⟩:=xE (decide (k4<3))
    refine sS (.bool b4) (qls U U U hb4)<|sG ?_
    cases b4
    ·have lb4:=dN hb4
     refine sU<|Sy.exit<|Sy.then_exit<|Sy.then_exit ?_
     obtain rfl:k4=3:=om
     refine Sy.in_exit<|sB<|sP (iZ k3)<|sS (iZ (k3+3)) (qad U U U)<|sP (iZ (k3+3))<|sG<|Sy.block<|Sy.loopX (T:=(Nat→Nat)×Nat) (5 - k3) (λk5 y5=>[(2,pT g0 0),(3,pT g1 0),(4,pT g2 0),(5,pT g3 0),(7,iZ k3),(8,.int .u64 ((y5.2:Nat):Int)),(16,iZ (k3+3+k5))]) (λk5 y5=>[(g0,94,(modc M lw)),(g1,206,(rw8 y1)),(g2,90,(fcs 0)),(g3,206,(rw8 y5.1))]) (λk5 y5=>(∀ t,y5.1 t<18446744073709551616)∧y5.2<18446744073709551616∧vR y5.1 8+y5.2*18446744073709551616 ^ (k3+3+k5)=vR y3 8+y1 (4+k3)*vR lw 3*18446744073709551616 ^ k3) y4 [true,true,true,true] (⟨hh4.1,hh4.2.1,hh4.2.2⟩) ac7 kR (λk5 y5 hk5 hh5=>?_)
     refine Sy.seq<|sC<|sP (iZ (k3+3+k5)) ?_
     obtain ⟨b5,hb5⟩:=xE (decide (k3+3+k5<8))
     refine sS (.bool b5) (qls U U U hb5)<|sP (.bool b5) ?_
     cases b5
     ·have lb5:=dN hb5
      refine sN<|sN<|sP (.bool false)<|sG<|sU<|Sy.exit<|Sy.then_exit<|Sy.then_exit ?_
      have hfin:=Ti hlw hh1.1 hh3.2 hh5.1 hh5.2.2 om (by first | (left; omega) | (right; omega))
      refine Sy.in_exit<|Sy.in_<|Sy.then_<|Sy.region<|sP (iZ k3)<|sS (iZ (k3+1)) (qad U U U)<|sP (iZ (k3+1))<|Sy.nil ?_
      have hq:=hfin
      exact Sy.againX (y5.1) [true,true,true,true] om (⟨hh5.1,hq⟩) ac5 kR
     ·have lb5:=dY hb5
      refine sP (.int .u64 ((y5.2:Nat):Int)) ?_
      obtain ⟨b6,hb6⟩:=xE (decide (y5.2>0))
      refine sS (.bool b6) (Quiet.pure (AU .gtr _ _ _ .u64 _ _ _ U U U (C1 _ _ _ _ _ (by rw [hb6]; exact decide_eq_decide.2 om))))<|sP (.bool b6)<|sG ?_
      cases b6
      ·have lb6:=dN hb6
       refine sU<|Sy.exit<|Sy.then_exit<|Sy.then_exit ?_
       have hfin:=Ti hlw hh1.1 hh3.2 hh5.1 hh5.2.2 om (by first | (left; omega) | (right; omega))
       refine Sy.in_exit<|Sy.in_<|Sy.then_<|Sy.region<|sP (iZ k3)<|sS (iZ (k3+1)) (qad U U U)<|sP (iZ (k3+1))<|Sy.nil ?_
       have hq:=hfin
       exact Sy.againX (y5.1) [true,true,true,true] om (⟨hh5.1,hq⟩) ac5 kR
      ·have lb6:=dY hb6
       refine sT<|Sy.skip<|Sy.then_<|Sy.seq<|Sy.block<|sC<|sP (iZ (k3+3+k5))<|sS (.pointer (some ⟨g3,0+(k3+3+k5)*1,none⟩)) (Quiet.pure (Au 206 _ _ _ g3 0 _ (k3+3+k5) 1 .i64 U U U Cz kF om))<|sS (.int .u64 ((y5.1 (k3+3+k5):Nat):Int)) (Quiet.cell 3 g3 (0+(k3+3+k5)*1) 206 40 (rw8 y5.1) _ _ U kR kR Bh U _ (Fi y5.1 (k:=k3+3+k5) om om))<|sP (.int .u64 ((y5.2:Nat):Int)) ?_
       obtain ⟨x1,c1,lx1,lc1,ex1,rx1⟩:=Cq (y5.1 (k3+3+k5)) (y5.2) (by first | assumption | exact hR _ | exact hlw _ | exact wd_lt _ _ | exact hh1.1 _ | exact hh3.1 _ | exact hh4.1 _ | exact hh5.1 _ | exact hh5.2.1 | exact hh4.2.1 | decide) (by first | assumption | exact hR _ | exact hlw _ | exact wd_lt _ _ | exact hh1.1 _ | exact hh3.1 _ | exact hh4.1 _ | exact hh5.1 _ | exact hh5.2.1 | exact hh4.2.1 | decide)
       refine sS (.tuple #[.int .u64 ((x1:Nat):Int),.int .u64 ((c1:Nat):Int)]) (Quiet.pure (λw=>Eq.trans kR (rx1 w)))<|sP (.tuple #[.int .u64 ((x1:Nat):Int),.int .u64 ((c1:Nat):Int)])<|sP (.int .u64 ((x1:Nat):Int))<|sP (.int .u64 ((c1:Nat):Int))<|sP (.int .u64 ((x1:Nat):Int))<|sP (.int .u64 ((c1:Nat):Int))<|sA<|sP (iZ (k3+3+k5))<|sP (.int .u64 ((x1:Nat):Int))<|sS (.pointer (some ⟨g3,0+(k3+3+k5)*1,none⟩)) (Quiet.pure (Au 206 _ _ _ g3 0 _ (k3+3+k5) 1 .i64 U U U Cz kF om))<|Sy.write kR 3 g3 206 (rw8 y5.1) (rw8 (upd y5.1 (k3+3+k5) x1)) kR (Writes.one (0+(k3+3+k5)*1) 40 (.int .u64 ((x1:Nat):Int)) _ _ U kR kR kR U U (Dp _ (k:=k3+3+k5) om om) (Do _ _ om om))<|sG<|Sy.region<|sP (.int .u64 ((c1:Nat):Int))<|sP (.int .u64 ((c1:Nat):Int))<|Sy.nil<|Sy.in_<|Sy.then_<|Sy.region<|sP (iZ (k3+3+k5))<|sS (iZ ((k3+3+k5)+1)) (qad U U U)<|sP (iZ ((k3+3+k5)+1))<|Sy.nil ?_
       have hin:=So (Fc y5.1 (k3+3+k5) x1 8 om) hh5.2.2 ex1
       exact Sy.againX ((upd y5.1 (k3+3+k5) x1,c1)) [true,true,true,true] om (⟨Ff hh5.1 lx1,by omega,by rw [← Nat.add_assoc,Nat.pow_succ]; exact hin⟩) ac7 kR
    ·have lb4:=dY hb4
     refine sT<|Sy.skip<|Sy.then_<|Sy.seq<|Sy.block<|Sy.seq<|Sy.regionD (λj=>false) kR<|sZ 0 U (iZ k3)<|sD 1 U (iZ (4+k3)) (qad U U U)<|sD 2 U (.pointer (some ⟨g1,0+(4+k3)*1,none⟩)) (Quiet.pure (Au 206 _ _ _ g1 0 _ (4+k3) 1 .i64 U U U Cz kF om))<|sD 3 U (.int .u64 ((y1 (4+k3):Nat):Int)) (Quiet.cell 1 g1 (0+(4+k3)*1) 206 40 (rw8 y1) _ _ U kR kR Bh U _ (Fi y1 (k:=4+k3) om om))<|sZ 4 U (iZ k4)<|sZ 5 U (pT g0 4)<|sD 6 U (.pointer (some ⟨g0,4+k4*1,none⟩)) (Quiet.pure (Au 92 _ _ _ g0 4 _ k4 1 .i64 U U U Tt kF om))<|sD 7 U (.int .u64 ((lw k4:Nat):Int)) (Quiet.cell 0 g0 (4+k4*1) 94 40 (modc M lw) _ _ U kR kR Bh U _ (Qq M lw (j:=k4) om om)) ?_
     obtain ⟨hi1,lo1,llo1,elo1⟩:=H_ (y1 (4+k3)) (lw k4)
     refine sD 8 U (.tuple #[.int .u64 ((hi1:Nat):Int),.int .u64 ((lo1:Nat):Int)]) (qF 175 #[.int .u64 ((y1 (4+k3):Nat):Int),.int .u64 ((lw k4:Nat):Int)] (λw=>J7 w (y1 (4+k3)) (lw k4) hi1 lo1 (by first | assumption | exact hR _ | exact hlw _ | exact wd_lt _ _ | exact hh1.1 _ | exact hh3.1 _ | exact hh4.1 _ | exact hh5.1 _ | exact hh5.2.1 | exact hh4.2.1 | decide) (by first | assumption | exact hR _ | exact hlw _ | exact wd_lt _ _ | exact hh1.1 _ | exact hh3.1 _ | exact hh4.1 _ | exact hh5.1 _ | exact hh5.2.1 | exact hh4.2.1 | decide) llo1 elo1))<|sZ 9 U (.tuple #[.int .u64 ((hi1:Nat):Int),.int .u64 ((lo1:Nat):Int)])<|sZ 10 U (.int .u64 ((hi1:Nat):Int))<|sZ 11 U (.int .u64 ((lo1:Nat):Int))<|sZ 12 U (.int .u64 ((hi1:Nat):Int))<|sZ 13 U (.int .u64 ((lo1:Nat):Int))<|sE<|sB<|sP (.int .u64 ((lo1:Nat):Int))<|sP (iZ k3)<|sP (iZ k4)<|sS (iZ (k3+k4)) (qad U U U)<|sS (.pointer (some ⟨g3,0+(k3+k4)*1,none⟩)) (Quiet.pure (Au 206 _ _ _ g3 0 _ (k3+k4) 1 .i64 U U U Cz kF om))<|sS (.int .u64 ((y4.1 (k3+k4):Nat):Int)) (Quiet.cell 3 g3 (0+(k3+k4)*1) 206 40 (rw8 y4.1) _ _ U kR kR Bh U _ (Fi y4.1 (k:=k3+k4) om om)) ?_
     obtain ⟨x2,c2,lx2,lc2,ex2,rx2⟩:=Cq (lo1) (y4.1 (k3+k4)) (by first | assumption | exact hR _ | exact hlw _ | exact wd_lt _ _ | exact hh1.1 _ | exact hh3.1 _ | exact hh4.1 _ | exact hh5.1 _ | exact hh5.2.1 | exact hh4.2.1 | decide) (by first | assumption | exact hR _ | exact hlw _ | exact wd_lt _ _ | exact hh1.1 _ | exact hh3.1 _ | exact hh4.1 _ | exact hh5.1 _ | exact hh5.2.1 | exact hh4.2.1 | decide)
     refine sS (.tuple #[.int .u64 ((x2:Nat):Int),.int .u64 ((c2:Nat):Int)]) (Quiet.pure (λw=>Eq.trans kR (rx2 w)))<|sP (.tuple #[.int .u64 ((x2:Nat):Int),.int .u64 ((c2:Nat):Int)])<|sP (.int .u64 ((x2:Nat):Int))<|sP (.int .u64 ((c2:Nat):Int))<|sP (.int .u64 ((x2:Nat):Int))<|sP (.int .u64 ((c2:Nat):Int))<|sA<|sP (.int .u64 ((x2:Nat):Int))<|sP (.int .u64 ((y4.2:Nat):Int)) ?_
     obtain ⟨x3,c3,lx3,lc3,ex3,rx3⟩:=Cq (x2) (y4.2) (by first | assumption | exact hR _ | exact hlw _ | exact wd_lt _ _ | exact hh1.1 _ | exact hh3.1 _ | exact hh4.1 _ | exact hh5.1 _ | exact hh5.2.1 | exact hh4.2.1 | decide) (by first | assumption | exact hR _ | exact hlw _ | exact wd_lt _ _ | exact hh1.1 _ | exact hh3.1 _ | exact hh4.1 _ | exact hh5.1 _ | exact hh5.2.1 | exact hh4.2.1 | decide)
     refine sS (.tuple #[.int .u64 ((x3:Nat):Int),.int .u64 ((c3:Nat):Int)]) (Quiet.pure (λw=>Eq.trans kR (rx3 w)))<|sP (.tuple #[.int .u64 ((x3:Nat):Int),.int .u64 ((c3:Nat):Int)])<|sP (.int .u64 ((x3:Nat):Int))<|sP (.int .u64 ((c3:Nat):Int))<|sP (.int .u64 ((x3:Nat):Int))<|sP (.int .u64 ((c3:Nat):Int))<|sA<|sP (iZ k3)<|sP (iZ k4)<|sS (iZ (k3+k4)) (qad U U U)<|sP (.int .u64 ((x3:Nat):Int))<|sS (.pointer (some ⟨g3,0+(k3+k4)*1,none⟩)) (Quiet.pure (Au 206 _ _ _ g3 0 _ (k3+k4) 1 .i64 U U U Cz kF om))<|Sy.write kR 3 g3 206 (rw8 y4.1) (rw8 (upd y4.1 (k3+k4) x3)) kR (Writes.one (0+(k3+k4)*1) 40 (.int .u64 ((x3:Nat):Int)) _ _ U kR kR kR U U (Dp _ (k:=k3+k4) om om) (Do _ _ om om))<|sG<|Sy.region<|sP (.int .u64 ((hi1:Nat):Int))<|sP (.int .u64 ((c2:Nat):Int)) ?_
     have hst:=Rg elo1 ex2 ex3
     have hcar:=Pb hst (by first | assumption | exact hR _ | exact hlw _ | exact wd_lt _ _ | exact hh1.1 _ | exact hh3.1 _ | exact hh4.1 _ | exact hh5.1 _ | exact hh5.2.1 | exact hh4.2.1 | decide) (by first | assumption | exact hR _ | exact hlw _ | exact wd_lt _ _ | exact hh1.1 _ | exact hh3.1 _ | exact hh4.1 _ | exact hh5.1 _ | exact hh5.2.1 | exact hh4.2.1 | decide) (by first | assumption | exact hR _ | exact hlw _ | exact wd_lt _ _ | exact hh1.1 _ | exact hh3.1 _ | exact hh4.1 _ | exact hh5.1 _ | exact hh5.2.1 | exact hh4.2.1 | decide) hh4.2.1
     refine sS (.int .u64 ((hi1+c2:Nat):Int)) (Quiet.pure (AU .add _ _ _ .u64 _ _ _ U U U (FB _ _ _ _ _ ((wrap_u64 om om).trans om))))<|sP (.int .u64 ((c3:Nat):Int))<|sS (.int .u64 (((hi1+c2)+c3:Nat):Int)) (Quiet.pure (AU .add _ _ _ .u64 _ _ _ U U U (FB _ _ _ _ _ ((wrap_u64 om om).trans om))))<|sP (.int .u64 (((hi1+c2)+c3:Nat):Int))<|Sy.nil<|Sy.in_<|Sy.then_<|Sy.region<|sP (iZ k4)<|sS (iZ (k4+1)) (qad U U U)<|sP (iZ (k4+1))<|Sy.nil ?_
     have hin:=LX (Fc y4.1 (k3+k4) x3 8 om) hh4.2.2 hst (P0:=18446744073709551616 ^ k4) (by rw [Nat.add_comm,Nat.pow_add])
     exact Sy.againX ((upd y4.1 (k3+k4) x3,hi1+c2+c3)) [true,true,true,true] om (⟨Ff hh4.1 lx3,hcar,by rw [← Nat.add_assoc,Nat.pow_succ]; exact hin⟩) ac7 kR
  ·have lb2:=dY hb2
   refine sT<|Sy.skip<|Sy.then_<|Sy.seq<|Sy.block<|Sy.region<|sP (iZ k2)<|sP (iZ k2)<|sS (.pointer (some ⟨g1,0+k2*1,none⟩)) (Quiet.pure (Au 206 _ _ _ g1 0 _ k2 1 .i64 U U U Cz kF om))<|sS (.int .u64 ((y1 k2:Nat):Int)) (Quiet.cell 1 g1 (0+k2*1) 206 40 (rw8 y1) _ _ U kR kR Bh U _ (Fi y1 (k:=k2) om om))<|sS (.pointer (some ⟨g3,0+k2*1,none⟩)) (Quiet.pure (Au 206 _ _ _ g3 0 _ k2 1 .i64 U U U Cz kF om))<|Sy.write kR 3 g3 206 (rw8 (cpy y1 k2)) (rw8 (upd (cpy y1 k2) k2 (y1 k2))) kR (Writes.one (0+k2*1) 40 (.int .u64 ((y1 k2:Nat):Int)) _ _ U kR kR kR U U (Dp _ (k:=k2) om om) (Do _ _ om om))<|Sy.nil<|Sy.in_<|Sy.then_<|Sy.region<|sP (iZ k2)<|sS (iZ (k2+1)) (qad U U U)<|sP (iZ (k2+1))<|Sy.nil ?_
   exact Sy.againK [true,true,true,true] (M:=[(g0,94,(modc M lw)),(g1,206,(rw8 y1)),(g2,90,(fcs 0)),(g3,206,(rw8 (upd (cpy y1 k2) k2 (y1 k2))))]) om ac5 kR (AL U (AL U (AL U (AL (beq (congrArg rw8 (PV _ _))) U))))
end Fz
end
section
section
open Go.RowKit Go.Lib
def Mr (a b c d e f g h:Nat):Nat:=a+18446744073709551616*b+340282366920938463463374607431768211456*c+6277101735386680763835789423207666416102355444464034512896*d+(2^256)*e+2135987035920910082395021706169552114602704522356652769947041607822219725780640550022962086936576*f+39402006196394479212279040100143613805079739270465446667948293404245721771497210611414266254884915640806627990306816*g+726838724295606890549323807888004534353641360687318060281490199180639288113397923326191050713763565560762521606266177933534601628614656*h
def r8 (a b c d e f g h:Nat):Nat→Nat
 | 0=>a
 | 1=>b
 | 2=>c
 | 3=>d
 | 4=>e
 | 5=>f
 | 6=>g
 | 7=>h
 | _=>0
theorem SK (a b c d e f g h:Nat):Fz.vR (r8 a b c d e f g h) 8=Mr a b c d e f g h:=by
 show 0+a*1+b*18446744073709551616+c*340282366920938463463374607431768211456+d*6277101735386680763835789423207666416102355444464034512896+e*(2^256)+f*2135987035920910082395021706169552114602704522356652769947041607822219725780640550022962086936576+g*39402006196394479212279040100143613805079739270465446667948293404245721771497210611414266254884915640806627990306816+h*726838724295606890549323807888004534353641360687318060281490199180639288113397923326191050713763565560762521606266177933534601628614656=Mr a b c d e f g h
 unfold Mr
 omega
def IP:Nat→Nat
 | 0=>4294968273
 | 1=>0
 | 2=>0
 | _=>0
theorem G9:∀ t,IP t<18446744073709551616
 | 0=>by decide
 | 1=>by decide
 | 2=>by decide
 | _+3=>by show 0<_; decide
theorem EP:Fz.modc pM IP=#[.int .u64 18446744069414583343,.int .u64 18446744073709551615,.int .u64 18446744073709551615,.int .u64 18446744073709551615,.int .u64 4294968273,.int .u64 0,.int .u64 0]:=kZ
theorem G8:pM+Fz.vR IP 3=18446744073709551616 ^ 4:=by decide +kernel
theorem I_:0<pM:=by decide +kernel
theorem O' (w:World) (d0 d1 d2 d3 d4 d5 d6 d7:Nat) (hd:d0<18446744073709551616∧d1<18446744073709551616∧d2<18446744073709551616∧d3<18446744073709551616∧d4<18446744073709551616∧d5<18446744073709551616∧d6<18446744073709551616∧d7<18446744073709551616):Calls Tryz.prog 177 #[.agg #[.int .u64 18446744069414583343,.int .u64 18446744073709551615,.int .u64 18446744073709551615,.int .u64 18446744073709551615,.int .u64 4294968273,.int .u64 0,.int .u64 0],.agg #[.int .u64 (d0:Int),.int .u64 (d1:Int),.int .u64 (d2:Int),.int .u64 (d3:Int),.int .u64 (d4:Int),.int .u64 (d5:Int),.int .u64 (d6:Int),.int .u64 (d7:Int)]] w λe w'=>e=.returned (fv (Mr d0 d1 d2 d3 d4 d5 d6 d7%pM))∧Below w.heap.size w w':=by
 have h:=Fz.foldZ w pM IP G9 I_ G8 (λw x hx=>by rw [EP]; exact normR_any w x hx) (r8 d0 d1 d2 d3 d4 d5 d6 d7) (λt=>by
  obtain ⟨h0,h1,h2,h3,h4,h5,h6,h7⟩:=hd
  rcases t with _ | _ | _ | _ | _ | _ | _ | _ | t <;> first | assumption | exact Nat.zero_lt_succ _)
 rw [SK,EP] at h
 exact h
end
end
section
section
open Go.RowKit Go.Lib
theorem FV (w:World) (a b c d:Obj):Below w.heap.size w ((((w.alloc a).alloc b).alloc c).alloc d):=(Aa w a b c).alloc (by simp <;> omega) _
theorem JO (w:World) (a b c d e:Obj):Below w.heap.size w (((((w.alloc a).alloc b).alloc c).alloc d).alloc e):=(FV w a b c d).alloc (by simp <;> omega) _
theorem Pg (w:World) (a b c d:Obj) (t:TypeId) (cs:Array Value):Blk (((((w.alloc a).alloc b).alloc c).alloc d).alloc (.cells cs t)) (w.heap.size+4) t cs:=by
 have h:=Blk.new ((((w.alloc a).alloc b).alloc c).alloc d) t cs
 have e:((((w.alloc a).alloc b).alloc c).alloc d).heap.size=w.heap.size+4:=by simp
 rwa [e] at h
section
variable {P:Program} {ops:Array Oper}
theorem YieldsG.loadP {o:Oper} {a:Act} {w:World} {d:TypeDesc} (hw:Region.wanted o (yielded ops a.tmps)=true) (ty:TypeId) (x:Operand) (ho:o.op=.load ty x)
  (g:Nat) (hx:a.eval x=pT g 0) (n:Nat) (cs:List Value) (hl:g<w.heap.size) (hr:w.rangeAt g 0 cs) (hf:fv n=.agg cs.toArray)
  (hu:P.underlying ty=some d) (hd:d.isRow=true) (hi:(P.info? ty).map (·.size)=some cs.length):YieldsG P ops o (fv n) a w:=by
 rw [hf]
 exact YieldsG.load hw ty x ho g 0 hx cs d hl hr hu hd hi
end
theorem Kr (w:World) (x y:Nat) (hx:x<(2^256)) (hy:y<(2^256)):Calls Tryz.prog 143 #[.agg #[.int .u64 18446744069414583343,.int .u64 18446744073709551615,.int .u64 18446744073709551615,.int .u64 18446744073709551615,.int .u64 4294968273,.int .u64 0,.int .u64 0],fv x,fv y] w λe w'=>e=.returned (fv (Dx x y))∧Below w.heap.size w w':=by
 obtain ⟨x0,x1,x2,x3,a0,a1,a2,a3,ex,fx⟩:=Am x hx
 obtain ⟨y0,y1,y2,y3,b0,b1,b2,b3,ey,fy⟩:=Am y hy
 obtain ⟨s0,c0,d0,k0,e0,r0⟩:=Cq x0 y0 a0 b0
 obtain ⟨s1,c1,d1,k1,e1,r1⟩:=C3 x1 y1 c0 a1 b1 k0
 obtain ⟨s2,c2,d2,k2,e2,r2⟩:=C3 x2 y2 c1 a2 b2 k1
 obtain ⟨s3,c3,d3,k3,e3,r3⟩:=C3 x3 y3 c2 a3 b3 k2
 have fin:Mr s0 s1 s2 s3 c3 0 0 0=x+y:=by simp only [Mr]; omega
 obtain ⟨z,hz⟩:=xE (Dx x y)
 have cF:∀ w,Calls Tryz.prog 177 #[.agg #[.int .u64 18446744069414583343,.int .u64 18446744073709551615,.int .u64 18446744073709551615,.int .u64 18446744073709551615,.int .u64 4294968273,.int .u64 0,.int .u64 0],.agg #[.int .u64 (s0:Int),.int .u64 (s1:Int),.int .u64 (s2:Int),.int .u64 (s3:Int),.int .u64 (c3:Int),.int .u64 0,.int .u64 0,.int .u64 0]] w λe w'=>e=.returned (fv z)∧Below w.heap.size w w':=by
  intro w
  have h:=O' w s0 s1 s2 s3 c3 0 0 0 ⟨d0,d1,d2,d3,by omega,by omega,by omega,by omega⟩
  rw [fin] at h
  rw [hz]
  exact h
 rw [fx,fy, ← hz]
 clear fx fy ex ey hx hy hz a0 a1 a2 a3 b0 b1 b2 b3 d0 d1 d2 d3 k0 k1 k2 k3 e0 e1 e2 e3 fin
 go_enter Tryz.func143,Tryz.ntmps143
 go_wp2_with fail
 go_loopw [8,9] (λbo i wr=>Below w.heap.size w wr∧Blk wr w.heap.size 94 #[.int .u64 18446744069414583343,.int .u64 18446744073709551615,.int .u64 18446744073709551615,.int .u64 18446744073709551615,.int .u64 4294968273,.int .u64 0,.int .u64 0]∧Blk wr (w.heap.size+1) 90 #[.int .u64 (x0:Int),.int .u64 (x1:Int),.int .u64 (x2:Int),.int .u64 (x3:Int)]∧Blk wr (w.heap.size+2) 90 #[.int .u64 (y0:Int),.int .u64 (y1:Int),.int .u64 (y2:Int),.int .u64 (y3:Int)]∧Blk wr (w.heap.size+3) 90 #[.int .u64 0,.int .u64 0,.int .u64 0,.int .u64 0]∧Hid ((i=.int .i64 0∧bo=.int .u64 0∧Blk wr (w.heap.size+4) 206 #[.int .u64 0,.int .u64 0,.int .u64 0,.int .u64 0,.int .u64 0,.int .u64 0,.int .u64 0,.int .u64 0])∨(i=.int .i64 1∧bo=.int .u64 (c0:Int)∧Blk wr (w.heap.size+4) 206 #[.int .u64 (s0:Int),.int .u64 0,.int .u64 0,.int .u64 0,.int .u64 0,.int .u64 0,.int .u64 0,.int .u64 0])∨(i=.int .i64 2∧bo=.int .u64 (c1:Int)∧Blk wr (w.heap.size+4) 206 #[.int .u64 (s0:Int),.int .u64 (s1:Int),.int .u64 0,.int .u64 0,.int .u64 0,.int .u64 0,.int .u64 0,.int .u64 0])∨(i=.int .i64 3∧bo=.int .u64 (c2:Int)∧Blk wr (w.heap.size+4) 206 #[.int .u64 (s0:Int),.int .u64 (s1:Int),.int .u64 (s2:Int),.int .u64 0,.int .u64 0,.int .u64 0,.int .u64 0,.int .u64 0])∨(i=.int .i64 4∧bo=.int .u64 (c3:Int)∧Blk wr (w.heap.size+4) 206 #[.int .u64 (s0:Int),.int .u64 (s1:Int),.int .u64 (s2:Int),.int .u64 (s3:Int),.int .u64 0,.int .u64 0,.int .u64 0,.int .u64 0]))) (λ_ i _=>4 - (intOf i).toNat)
 case atStart=>exact ⟨JO w _ _ _ _ _,(((((Blk.new w _ _).alloc _).alloc _).alloc _).alloc _),((((AZ w _ _ _).alloc _).alloc _).alloc _),(((Ao w _ _ _ _).alloc _).alloc _),((FN w _ _ _ _ _).alloc _),Lib.hid (.inl ⟨rfl,rfl,Pg w _ _ _ _ _ _⟩)⟩
 case round =>
  obtain ⟨hb,BM,BX,BY,BR,HI⟩:=hrel
  have lX:=BX.lt
  have lY:=BY.lt
  have lR:=BR.lt
  rcases HI.out with ⟨rfl,rfl,BW⟩ | ⟨rfl,rfl,BW⟩ | ⟨rfl,rfl,BW⟩ | ⟨rfl,rfl,BW⟩ | ⟨rfl,rfl,BW⟩
  ·clear HI
   have px:wr.cell? ⟨w.heap.size+1,0,none⟩=some (.int .u64 (x0:Int)):=BX.cell 0
   have py:wr.cell? ⟨w.heap.size+2,0,none⟩=some (.int .u64 (y0:Int)):=BY.cell 0
   go_wp2
   refine wp_region_G (λ_=>false) kZ ?_
   try simp only [Act.put]
   refine tk 0 U ?_
   try simp only [aPS]
   refine tk 1 U ?_
   try simp only [aPS]
   refine tkw 2 U (YieldsG.pure (v:=.int .u64 (x0:Int)) (by rfl) (λw9 h9=>by have hz:=(Below.cell (p:=⟨w.heap.size+1,0,none⟩) h9 lX).trans px; go_simp; first | done | simp [hz])) ?_
   try simp only [aPS]
   refine tk 3 U ?_
   try simp only [aPS]
   refine tk 4 U ?_
   try simp only [aPS]
   refine tkw 5 U (YieldsG.pure (v:=.int .u64 (y0:Int)) (by rfl) (λw9 h9=>by have hz:=(Below.cell (p:=⟨w.heap.size+2,0,none⟩) h9 lY).trans py; go_simp; first | done | simp [hz])) ?_
   try simp only [aPS]
   refine tk 6 U ?_
   try simp only [aPS]
   refine tkw 7 U (YieldsG.pure (v:=.tuple #[.int .u64 (s0:Int),.int .u64 (c0:Int)]) (by rfl) (λw9 h9=>by go_simp)) ?_
   try simp only [aPS]
   refine tk 8 U ?_
   try simp only [aPS]
   refine tk 9 U ?_
   try simp only [aPS]
   refine tk 10 U ?_
   try simp only [aPS]
   refine tk 11 U ?_
   try simp only [aPS]
   refine tk 12 U ?_
   try simp only [aPS]
   refine wpAnyG_done kZ (λu hu=>?_)
   have BM:=Gr.blk hu BM
   have BX:=Gr.blk hu BX
   have BY:=Gr.blk hu BY
   have BR:=Gr.blk hu BR
   have BW:=Gr.blk hu BW
   have hb:=Below.gr hb hu
   have pc:u.cell? ⟨w.heap.size+4,0,none⟩=some (.int .u64 0):=BW.cell 0
   have pf:=BW.frozen 0
   clear hu px py
   go_wp2
   refine ⟨⟨hb.setCell (by show w.heap.size≤w.heap.size+4; omega) _,BM.far (by show w.heap.size≠w.heap.size+4; omega) _,BX.far (by show w.heap.size+1≠w.heap.size+4; omega) _,BY.far (by show w.heap.size+2≠w.heap.size+4; omega) _,BR.far (by show w.heap.size+3≠w.heap.size+4; omega) _,Lib.hid (.inr (.inl (⟨rfl,rfl,BW.set_ 0 _⟩)))⟩,by decide⟩
  ·clear HI
   have px:wr.cell? ⟨w.heap.size+1,1,none⟩=some (.int .u64 (x1:Int)):=BX.cell 1
   have py:wr.cell? ⟨w.heap.size+2,1,none⟩=some (.int .u64 (y1:Int)):=BY.cell 1
   go_wp2
   refine wp_region_G (λ_=>false) kZ ?_
   try simp only [Act.put]
   refine tk 0 U ?_
   try simp only [aPS]
   refine tk 1 U ?_
   try simp only [aPS]
   refine tkw 2 U (YieldsG.pure (v:=.int .u64 (x1:Int)) (by rfl) (λw9 h9=>by have hz:=(Below.cell (p:=⟨w.heap.size+1,1,none⟩) h9 lX).trans px; go_simp; first | done | simp [hz])) ?_
   try simp only [aPS]
   refine tk 3 U ?_
   try simp only [aPS]
   refine tk 4 U ?_
   try simp only [aPS]
   refine tkw 5 U (YieldsG.pure (v:=.int .u64 (y1:Int)) (by rfl) (λw9 h9=>by have hz:=(Below.cell (p:=⟨w.heap.size+2,1,none⟩) h9 lY).trans py; go_simp; first | done | simp [hz])) ?_
   try simp only [aPS]
   refine tk 6 U ?_
   try simp only [aPS]
   refine tkw 7 U (YieldsG.pure (v:=.tuple #[.int .u64 (s1:Int),.int .u64 (c1:Int)]) (by rfl) (λw9 h9=>by go_simp)) ?_
   try simp only [aPS]
   refine tk 8 U ?_
   try simp only [aPS]
   refine tk 9 U ?_
   try simp only [aPS]
   refine tk 10 U ?_
   try simp only [aPS]
   refine tk 11 U ?_
   try simp only [aPS]
   refine tk 12 U ?_
   try simp only [aPS]
   refine wpAnyG_done kZ (λu hu=>?_)
   have BM:=Gr.blk hu BM
   have BX:=Gr.blk hu BX
   have BY:=Gr.blk hu BY
   have BR:=Gr.blk hu BR
   have BW:=Gr.blk hu BW
   have hb:=Below.gr hb hu
   have pc:u.cell? ⟨w.heap.size+4,1,none⟩=some (.int .u64 0):=BW.cell 1
   have pf:=BW.frozen 1
   clear hu px py
   go_wp2
   refine ⟨⟨hb.setCell (by show w.heap.size≤w.heap.size+4; omega) _,BM.far (by show w.heap.size≠w.heap.size+4; omega) _,BX.far (by show w.heap.size+1≠w.heap.size+4; omega) _,BY.far (by show w.heap.size+2≠w.heap.size+4; omega) _,BR.far (by show w.heap.size+3≠w.heap.size+4; omega) _,Lib.hid (.inr (.inr (.inl (⟨rfl,rfl,BW.set_ 1 _⟩))))⟩,by decide⟩
  ·clear HI
   have px:wr.cell? ⟨w.heap.size+1,2,none⟩=some (.int .u64 (x2:Int)):=BX.cell 2
   have py:wr.cell? ⟨w.heap.size+2,2,none⟩=some (.int .u64 (y2:Int)):=BY.cell 2
   go_wp2
   refine wp_region_G (λ_=>false) kZ ?_
   try simp only [Act.put]
   refine tk 0 U ?_
   try simp only [aPS]
   refine tk 1 U ?_
   try simp only [aPS]
   refine tkw 2 U (YieldsG.pure (v:=.int .u64 (x2:Int)) (by rfl) (λw9 h9=>by have hz:=(Below.cell (p:=⟨w.heap.size+1,2,none⟩) h9 lX).trans px; go_simp; first | done | simp [hz])) ?_
   try simp only [aPS]
   refine tk 3 U ?_
   try simp only [aPS]
   refine tk 4 U ?_
   try simp only [aPS]
   refine tkw 5 U (YieldsG.pure (v:=.int .u64 (y2:Int)) (by rfl) (λw9 h9=>by have hz:=(Below.cell (p:=⟨w.heap.size+2,2,none⟩) h9 lY).trans py; go_simp; first | done | simp [hz])) ?_
   try simp only [aPS]
   refine tk 6 U ?_
   try simp only [aPS]
   refine tkw 7 U (YieldsG.pure (v:=.tuple #[.int .u64 (s2:Int),.int .u64 (c2:Int)]) (by rfl) (λw9 h9=>by go_simp)) ?_
   try simp only [aPS]
   refine tk 8 U ?_
   try simp only [aPS]
   refine tk 9 U ?_
   try simp only [aPS]
   refine tk 10 U ?_
   try simp only [aPS]
   refine tk 11 U ?_
   try simp only [aPS]
   refine tk 12 U ?_
   try simp only [aPS]
   refine wpAnyG_done kZ (λu hu=>?_)
   have BM:=Gr.blk hu BM
   have BX:=Gr.blk hu BX
   have BY:=Gr.blk hu BY
   have BR:=Gr.blk hu BR
   have BW:=Gr.blk hu BW
   have hb:=Below.gr hb hu
   have pc:u.cell? ⟨w.heap.size+4,2,none⟩=some (.int .u64 0):=BW.cell 2
   have pf:=BW.frozen 2
   clear hu px py
   go_wp2
   refine ⟨⟨hb.setCell (by show w.heap.size≤w.heap.size+4; omega) _,BM.far (by show w.heap.size≠w.heap.size+4; omega) _,BX.far (by show w.heap.size+1≠w.heap.size+4; omega) _,BY.far (by show w.heap.size+2≠w.heap.size+4; omega) _,BR.far (by show w.heap.size+3≠w.heap.size+4; omega) _,Lib.hid (.inr (.inr (.inr (.inl (⟨rfl,rfl,BW.set_ 2 _⟩)))))⟩,by decide⟩
  ·clear HI
   have px:wr.cell? ⟨w.heap.size+1,3,none⟩=some (.int .u64 (x3:Int)):=BX.cell 3
   have py:wr.cell? ⟨w.heap.size+2,3,none⟩=some (.int .u64 (y3:Int)):=BY.cell 3
   go_wp2
   refine wp_region_G (λ_=>false) kZ ?_
   try simp only [Act.put]
   refine tk 0 U ?_
   try simp only [aPS]
   refine tk 1 U ?_
   try simp only [aPS]
   refine tkw 2 U (YieldsG.pure (v:=.int .u64 (x3:Int)) (by rfl) (λw9 h9=>by have hz:=(Below.cell (p:=⟨w.heap.size+1,3,none⟩) h9 lX).trans px; go_simp; first | done | simp [hz])) ?_
   try simp only [aPS]
   refine tk 3 U ?_
   try simp only [aPS]
   refine tk 4 U ?_
   try simp only [aPS]
   refine tkw 5 U (YieldsG.pure (v:=.int .u64 (y3:Int)) (by rfl) (λw9 h9=>by have hz:=(Below.cell (p:=⟨w.heap.size+2,3,none⟩) h9 lY).trans py; go_simp; first | done | simp [hz])) ?_
   try simp only [aPS]
   refine tk 6 U ?_
   try simp only [aPS]
   refine tkw 7 U (YieldsG.pure (v:=.tuple #[.int .u64 (s3:Int),.int .u64 (c3:Int)]) (by rfl) (λw9 h9=>by go_simp)) ?_
   try simp only [aPS]
   refine tk 8 U ?_
   try simp only [aPS]
   refine tk 9 U ?_
   try simp only [aPS]
   refine tk 10 U ?_
   try simp only [aPS]
   refine tk 11 U ?_
   try simp only [aPS]
   refine tk 12 U ?_
   try simp only [aPS]
   refine wpAnyG_done kZ (λu hu=>?_)
   have BM:=Gr.blk hu BM
   have BX:=Gr.blk hu BX
   have BY:=Gr.blk hu BY
   have BR:=Gr.blk hu BR
   have BW:=Gr.blk hu BW
   have hb:=Below.gr hb hu
   have pc:u.cell? ⟨w.heap.size+4,3,none⟩=some (.int .u64 0):=BW.cell 3
   have pf:=BW.frozen 3
   clear hu px py
   go_wp2
   refine ⟨⟨hb.setCell (by show w.heap.size≤w.heap.size+4; omega) _,BM.far (by show w.heap.size≠w.heap.size+4; omega) _,BX.far (by show w.heap.size+1≠w.heap.size+4; omega) _,BY.far (by show w.heap.size+2≠w.heap.size+4; omega) _,BR.far (by show w.heap.size+3≠w.heap.size+4; omega) _,Lib.hid (.inr (.inr (.inr (.inr (⟨rfl,rfl,BW.set_ 3 _⟩)))))⟩,by decide⟩
  ·clear HI
   have pc:wr.cell? ⟨w.heap.size+4,4,none⟩=some (.int .u64 0):=BW.cell 4
   have pf:=BW.frozen 4
   have BM4:Blk (wr.setCell ⟨w.heap.size+4,4,none⟩ (.int .u64 (c3:Int))) w.heap.size 94 #[.int .u64 18446744069414583343,.int .u64 18446744073709551615,.int .u64 18446744073709551615,.int .u64 18446744073709551615,.int .u64 4294968273,.int .u64 0,.int .u64 0]:=BM.far (by show w.heap.size≠w.heap.size+4; omega) _
   have BW4:Blk (wr.setCell ⟨w.heap.size+4,4,none⟩ (.int .u64 (c3:Int))) (w.heap.size+4) 206 #[.int .u64 (s0:Int),.int .u64 (s1:Int),.int .u64 (s2:Int),.int .u64 (s3:Int),.int .u64 (c3:Int),.int .u64 0,.int .u64 0,.int .u64 0]:=BW.set_ 4 _
   have BR4:Blk (wr.setCell ⟨w.heap.size+4,4,none⟩ (.int .u64 (c3:Int))) (w.heap.size+3) 90 #[.int .u64 0,.int .u64 0,.int .u64 0,.int .u64 0]:=BR.far (by show w.heap.size+3≠w.heap.size+4; omega) _
   have hb4:Below w.heap.size w (wr.setCell ⟨w.heap.size+4,4,none⟩ (.int .u64 (c3:Int))):=hb.setCell (by show w.heap.size≤w.heap.size+4; omega) _
   have H4:=Lib.hid (And.intro BM4 (And.intro BW4 (And.intro BR4 hb4)))
   clear BM BX BY BR BW hb BM4 BW4 BR4 hb4
   go_wp2_with (first | ((with_reducible refine AD (d:=some 33) ?_); refine A0 U _ _ U w.heap.size U _ _ _ H4.out.1 Ey U kZ ?_) | ((with_reducible refine AD (d:=some 34) ?_); refine A0 U _ _ U (w.heap.size+4) rfl _ _ _ H4.out.2.1 Cz U kZ ?_))
   refine (cF _).mono ?_
   rintro e u ⟨rfl,hu⟩
   have BRu:=Gr.blk hu H4.out.2.2.1
   have hbu:=Below.gr H4.out.2.2.2 hu
   clear hu H4 cF
   go_wp2_with (first | ((with_reducible refine AE ?_); refine AA U _ _ _ U (w.heap.size+3) (fcs (z)) U U _ _ (BRu) kZ (by rfl) (AF _) ?_; intro w9 hL9 hB9 hK9))
   exact bodyPost_ret (results_cell_row U _ _ (w.heap.size+3) _ _ (0,0) _ U hL9 AH U kZ) rfl ⟨rfl,hbu.trans (hB9 _ om)⟩
theorem J6 (w:World) (x:Nat) (hx:x<(2^256)):Calls Tryz.prog 190 #[.agg #[.int .u64 18446744069414583343,.int .u64 18446744073709551615,.int .u64 18446744073709551615,.int .u64 18446744073709551615,.int .u64 4294968273,.int .u64 0,.int .u64 0],fv x] w λe w'=>e=.returned (fv (negP x))∧Below w.heap.size w w':=by
 obtain ⟨n,hn⟩:=xE (x%pM)
 have np:n<115792089237316195423570985008687907853269984665640564039457584007908834671663:=by rw [hn]; exact mod_lt_p x
 obtain ⟨p,hp⟩:∃ p,p=115792089237316195423570985008687907853269984665640564039457584007908834671663:=⟨_,rfl⟩
 obtain ⟨q,hq⟩:=xE (p - n)
 obtain ⟨g,hg⟩:=xE (negP x)
 have hgq:q%pM=g:=by rw [hg,negP, ← hn,hq,hp]; rfl
 have cN:∀ w,Calls Tryz.prog 46 #[.agg #[.int .u64 18446744069414583343,.int .u64 18446744073709551615,.int .u64 18446744073709551615,.int .u64 18446744073709551615,.int .u64 4294968273,.int .u64 0,.int .u64 0],fv x] w λe w'=>e=.returned (fv n)∧Below w.heap.size w w':=by
  intro w; rw [hn]; exact normR_any w x hx
 have cM:∀ w,Calls Tryz.prog 112 #[fv p,fv n] w λe w'=>e=.returned (fv q)∧Below w.heap.size w w':=λw=>EQ w p n q 0 U U om om om om
 have cG:∀ w,Calls Tryz.prog 46 #[.agg #[.int .u64 18446744069414583343,.int .u64 18446744073709551615,.int .u64 18446744073709551615,.int .u64 18446744073709551615,.int .u64 4294968273,.int .u64 0,.int .u64 0],fv q] w λe w'=>e=.returned (fv g)∧Below w.heap.size w w':=by
  intro w; rw [← hgq]; exact normR_any w q om
 have FP:Hid (fv p=.agg #[.int .u64 18446744069414583343,.int .u64 18446744073709551615,.int .u64 18446744073709551615,.int .u64 18446744073709551615]):=Lib.hid (by rw [hp]; exact LZ)
 obtain ⟨x0,x1,x2,x3,fx⟩:=Ad x hx
 have FX:=Lib.hid fx
 rw [fx, ← hg]
 clear fx hx hn np hp hq hg hgq
 go_enter Tryz.func190,Tryz.ntmps190
 go_wp2
 refine wp_region_G (λj=>j == 8) kZ ?_
 try simp only [Act.put]
 refine tkw 0 U (YieldsG.load (by rfl) _ _ U w.heap.size 0 U ([.int .u64 18446744069414583343,.int .u64 18446744073709551615,.int .u64 18446744073709551615,.int .u64 18446744073709551615,.int .u64 4294968273,.int .u64 0,.int .u64 0]) _ (Blk.lt (((Blk.new w _ _).alloc _).alloc _)) (Blk.range (((Blk.new w _ _).alloc _).alloc _)) Ey U kZ) ?_
 try simp only [aPS]
 refine tk 1 U ?_
 try simp only [aPS]
 refine tkw 2 U (YieldsG.loadP (by rfl) _ _ U w.heap.size U p _ (Blk.lt (((Blk.new w _ _).alloc _).alloc _)) (CV (((Blk.new w _ _).alloc _).alloc _)) FP.out AH U kZ) ?_
 try simp only [aPS]
 refine tkw 3 U (YieldsG.load (by rfl) _ _ U w.heap.size 0 U ([.int .u64 18446744069414583343,.int .u64 18446744073709551615,.int .u64 18446744073709551615,.int .u64 18446744073709551615,.int .u64 4294968273,.int .u64 0,.int .u64 0]) _ (Blk.lt (((Blk.new w _ _).alloc _).alloc _)) (Blk.range (((Blk.new w _ _).alloc _).alloc _)) Ey U kZ) ?_
 try simp only [aPS]
 refine tkw 4 U (YieldsG.loadF (by rfl) _ _ U (w.heap.size+1) rfl (x) _ _ ((AZ w _ _ _).alloc _) (FX.out) AH U kZ) ?_
 try simp only [aPS]
 refine tkw 5 U (YieldsG.call (v:=fv n) (by rfl) 46 _ (λw9=>by go_simp; try (first | with_reducible rfl | rfl)) (λw9 h9=>cN w9)) ?_
 try simp only [aPS]
 refine tkw 6 U (YieldsG.call (v:=fv q) (by rfl) 112 _ (λw9=>by go_simp; try (first | with_reducible rfl | rfl)) (λw9 h9=>cM w9)) ?_
 try simp only [aPS]
 refine tkw 7 U (YieldsG.call (v:=fv g) (by rfl) 46 _ (λw9=>by go_simp; try (first | with_reducible rfl | rfl)) (λw9 h9=>cG w9)) ?_
 try simp only [aPS]
 refine A9 8 U kZ (by rfl) _ _ _ U (w.heap.size+2) (fcs (g)) U U _ _ (Ao w _ _ _ _) kZ (by rfl) (AF _) rfl (λw6 h6 w7 hB7 hL7=>?_)
 try simp only [Act.put]
 refine wpAnyG_done kZ (λw8 h8=>?_)
 have hfin:=Gr.blk h8 hL7
 have hb9:=(Below.gr (Aa w _ _ _) h6).trans ((hB7 _ om).trans (Below.mono h8 (by have:=hL7.lt; omega)))
 go_wp2
 exact bodyPost_ret (results_cell_row U _ _ (w.heap.size+2) _ _ (0,0) _ U hfin AH U kZ) rfl ⟨rfl,hb9⟩
theorem R5 (x y:Nat):Dx x (negP y)=subP x y:=by
 unfold Dx negP subP
 rw [Nat.add_mod_mod]
theorem N7 (w:World) (x y:Nat) (hx:x<(2^256)) (hy:y<(2^256)):Calls Tryz.prog 128 #[.agg #[.int .u64 18446744069414583343,.int .u64 18446744073709551615,.int .u64 18446744073709551615,.int .u64 18446744073709551615,.int .u64 4294968273,.int .u64 0,.int .u64 0],fv x,fv y] w λe w'=>e=.returned (fv (subP x y))∧Below w.heap.size w w':=by
 obtain ⟨g,hg⟩:=xE (negP y)
 obtain ⟨z,hz⟩:=xE (subP x y)
 have cG:∀ w,Calls Tryz.prog 190 #[.agg #[.int .u64 18446744069414583343,.int .u64 18446744073709551615,.int .u64 18446744073709551615,.int .u64 18446744073709551615,.int .u64 4294968273,.int .u64 0,.int .u64 0],fv y] w λe w'=>e=.returned (fv g)∧Below w.heap.size w w':=by
  intro w; rw [hg]; exact J6 w y hy
 have cA:∀ w,Calls Tryz.prog 143 #[.agg #[.int .u64 18446744069414583343,.int .u64 18446744073709551615,.int .u64 18446744073709551615,.int .u64 18446744073709551615,.int .u64 4294968273,.int .u64 0,.int .u64 0],fv x,fv g] w λe w'=>e=.returned (fv z)∧Below w.heap.size w w':=by
  intro w; rw [hz, ← R5, ← hg]; exact Kr w x g hx (by rw [hg]; exact JC _)
 obtain ⟨x0,x1,x2,x3,fx⟩:=Ad x hx
 obtain ⟨y0,y1,y2,y3,fy⟩:=Ad y hy
 have FX:=Lib.hid fx
 have FY:=Lib.hid fy
 rw [fx,fy, ← hz]
 clear fx fy hx hy hg hz
 go_enter Tryz.func128,Tryz.ntmps128
 go_wp2
 refine wp_region_G (λj=>j == 6) kZ ?_
 try simp only [Act.put]
 refine tkw 0 U (YieldsG.load (by rfl) _ _ U w.heap.size 0 U ([.int .u64 18446744069414583343,.int .u64 18446744073709551615,.int .u64 18446744073709551615,.int .u64 18446744073709551615,.int .u64 4294968273,.int .u64 0,.int .u64 0]) _ (Blk.lt ((((Blk.new w _ _).alloc _).alloc _).alloc _)) (Blk.range ((((Blk.new w _ _).alloc _).alloc _).alloc _)) Ey U kZ) ?_
 try simp only [aPS]
 refine tkw 1 U (YieldsG.loadF (by rfl) _ _ U (w.heap.size+1) rfl (x) _ _ (((AZ w _ _ _).alloc _).alloc _) (FX.out) AH U kZ) ?_
 try simp only [aPS]
 refine tkw 2 U (YieldsG.load (by rfl) _ _ U w.heap.size 0 U ([.int .u64 18446744069414583343,.int .u64 18446744073709551615,.int .u64 18446744073709551615,.int .u64 18446744073709551615,.int .u64 4294968273,.int .u64 0,.int .u64 0]) _ (Blk.lt ((((Blk.new w _ _).alloc _).alloc _).alloc _)) (Blk.range ((((Blk.new w _ _).alloc _).alloc _).alloc _)) Ey U kZ) ?_
 try simp only [aPS]
 refine tkw 3 U (YieldsG.loadF (by rfl) _ _ U (w.heap.size+2) rfl (y) _ _ ((Ao w _ _ _ _).alloc _) (FY.out) AH U kZ) ?_
 try simp only [aPS]
 refine tkw 4 U (YieldsG.call (v:=fv g) (by rfl) 190 _ (λw9=>by go_simp; try (first | with_reducible rfl | rfl)) (λw9 h9=>cG w9)) ?_
 try simp only [aPS]
 refine tkw 5 U (YieldsG.call (v:=fv z) (by rfl) 143 _ (λw9=>by go_simp; try (first | with_reducible rfl | rfl)) (λw9 h9=>cA w9)) ?_
 try simp only [aPS]
 refine A9 6 U kZ (by rfl) _ _ _ U (w.heap.size+3) (fcs (z)) U U _ _ (FN w _ _ _ _ _) kZ (by rfl) (AF _) rfl (λw6 h6 w7 hB7 hL7=>?_)
 try simp only [Act.put]
 refine wpAnyG_done kZ (λw8 h8=>?_)
 have hfin:=Gr.blk h8 hL7
 have hb9:=(Below.gr (FV w _ _ _ _) h6).trans ((hB7 _ om).trans (Below.mono h8 (by have:=hL7.lt; omega)))
 go_wp2
 exact bodyPost_ret (results_cell_row U _ _ (w.heap.size+3) _ _ (0,0) _ U hfin AH U kZ) rfl ⟨rfl,hb9⟩
end
end
section
namespace Fz
open Go.RowKit Go.Lib Sy
theorem mulZ (w:World) (M:Nat) (lw:Nat→Nat) (hlw:∀ t,lw t<18446744073709551616) (hM0:0<M) (hM:M+vR lw 3=18446744073709551616 ^ 4) (hnorm:∀ w x,x<(2^256)→Calls Tryz.prog 46 #[.agg (modc M lw),fv x] w (Gets w (fv (x%M)))) (x y:Nat) (hx:x<(2^256)) (hy:y<(2^256)):Calls Tryz.prog 117 #[.agg (modc M lw),fv x,fv y] w (Gets w (fv (x*y%M))):=by
 refine Sy.enter (args:=[.agg (modc M lw),fv x,fv y]) Tryz.func117 U kL<|sC<|sM 94 (modc M lw) (λg0=>?_)
 refine sM 90 (fcs x) (λg1=>?_)
 refine sM 90 (fcs y) (λg2=>?_)
 refine sM 90 (fcs 0) (λg3=>?_)
 refine sA<|Sy.make kR 206 (rw8 (λ_=>0)) ptr kF (λg4=>?_)
 refine sG<|Sy.seq<|sC<|sP (.int .i64 0)<|sG<|Sy.block<|Sy.loopX (T:=Nat→Nat) 4 (λk1 y1=>[(3,pT g0 0),(4,pT g1 0),(5,pT g2 0),(6,pT g3 0),(7,pT g4 0),(8,iZ k1)]) (λk1 y1=>[(g0,94,(modc M lw)),(g1,90,(fcs x)),(g2,90,(fcs y)),(g3,90,(fcs 0)),(g4,206,(rw8 y1))]) (λk1 y1=>(∀ t,y1 t<18446744073709551616)∧vR y1 8=vR (wd x) k1*vR (wd y) 4∧∀ t,k1+4≤t→y1 t=0) (λ_=>0) [true,true,true,true,true] (⟨λ_=>by show (0:Nat)<18446744073709551616; decide,by rw [GE]; exact (Nat.zero_mul _).symm,λ_ _=>rfl⟩) ac6 kR (λk1 y1 hk1 hh1=>?_)
 refine Sy.seq<|sC<|sP (iZ k1) ?_
 obtain ⟨b1,hb1⟩:=xE (decide (k1<4))
 refine sS (.bool b1) (qls U U U hb1)<|sG ?_
 cases b1
 ·have lb1:=dN hb1
  refine sU<|Sy.exit<|Sy.then_exit<|Sy.then_exit ?_
  obtain rfl:k1=4:=om
  refine Sy.in_exit<|sB<|sS (.agg (modc M lw)) (qL 0 g0 0 7 94 94 (modc M lw) rfl Ey)<|sS (.agg (rw8 y1)) (Quiet.load 4 g4 0 8 206 206 (rw8 y1) _ _ U kR kR Cz U kR _ kR kL)<|sS (fv (vR y1 8%M)) (qF 177 #[.agg (modc M lw),.agg (rw8 y1)] (λw=>foldZ w M lw hlw hM0 hM hnorm y1 hh1.1))<|sW 3 g3 90 (fcs 0) (fcs (vR y1 8%M)) (wS 0 90 (fcs (vR y1 8%M)) U)<|sG<|Sy.ret ?_
  rw [show (fv (x*y%M):Value)=fv (vR y1 8%M) from by rw [hh1.2.1,wd4 hx,wd4 hy]]
  exact rC (v:=fv (vR y1 8%M)) 90 g3 3 (fcs (vR y1 8%M)) U AH
 ·have lb1:=dY hb1
  refine sT<|Sy.skip<|Sy.then_<|Sy.seq<|Sy.block<|sC<|sP (.int .u64 0)<|sG<|Sy.seq<|sC<|sP (.int .i64 0)<|sG<|Sy.block<|Sy.loopX (T:=(Nat→Nat)×Nat) 4 (λk2 y2=>[(3,pT g0 0),(4,pT g1 0),(5,pT g2 0),(6,pT g3 0),(7,pT g4 0),(8,iZ k1),(9,.int .u64 ((y2.2:Nat):Int)),(10,iZ k2)]) (λk2 y2=>[(g0,94,(modc M lw)),(g1,90,(fcs x)),(g2,90,(fcs y)),(g3,90,(fcs 0)),(g4,206,(rw8 y2.1))]) (λk2 y2=>(∀ t,y2.1 t<18446744073709551616)∧y2.2<18446744073709551616∧vR y2.1 8+y2.2*18446744073709551616 ^ (k1+k2)=vR y1 8+wd x k1*vR (wd y) k2*18446744073709551616 ^ k1∧∀ t,k1+4≤t→y2.1 t=0) (y1,0) [true,true,true,true,true] (⟨hh1.1,by show (0:Nat)<18446744073709551616; decide,by show vR y1 8+0*_=_+_*0*_; omega,hh1.2.2⟩) ac8 kR (λk2 y2 hk2 hh2=>?_)
  refine Sy.seq<|sC<|sP (iZ k2) ?_
  obtain ⟨b2,hb2⟩:=xE (decide (k2<4))
  refine sS (.bool b2) (qls U U U hb2)<|sG ?_
  cases b2
  ·have lb2:=dN hb2
   refine sU<|Sy.exit<|Sy.then_exit<|Sy.then_exit ?_
   obtain rfl:k2=4:=om
   refine Sy.in_exit<|Sy.then_<|Sy.region<|sP (iZ k1)<|sS (iZ (k1+4)) (qad U U U)<|sP (.int .u64 ((y2.2:Nat):Int))<|sS (.pointer (some ⟨g4,0+(k1+4)*1,none⟩)) (Quiet.pure (Au 206 _ _ _ g4 0 _ (k1+4) 1 .i64 U U U Cz kF om))<|Sy.write kR 4 g4 206 (rw8 y2.1) (rw8 (upd y2.1 (k1+4) y2.2)) kR (Writes.one (0+(k1+4)*1) 40 (.int .u64 ((y2.2:Nat):Int)) _ _ U kR kR kR U U (Dp _ (k:=k1+4) om om) (Do _ _ om om))<|Sy.nil<|Sy.in_<|Sy.then_<|Sy.region<|sP (iZ k1)<|sS (iZ (k1+1)) (qad U U U)<|sP (iZ (k1+1))<|Sy.nil ?_
   have hq:=Og hh1.2.1 hh2.2.2.1 (hh2.2.2.2 _ (Nat.le_refl _)) om
   exact Sy.againX (upd y2.1 (k1+4) y2.2) [true,true,true,true,true] om (⟨Ff hh2.1 hh2.2.1,hq,λt ht=>(Ik om).trans (hh2.2.2.2 t om)⟩) ac6 kR
  ·have lb2:=dY hb2
   refine sT<|Sy.skip<|Sy.then_<|Sy.seq<|Sy.block<|Sy.seq<|Sy.regionD (λj=>false) kR<|sZ 0 U (iZ k1)<|sD 1 U (.pointer (some ⟨g1,0+k1*1,none⟩)) (Quiet.pure (Au 90 _ _ _ g1 0 _ k1 1 .i64 U U U AH kF om))<|sD 2 U (.int .u64 ((wd x k1:Nat):Int)) (Quiet.cell 1 g1 (0+k1*1) 90 40 (fcs x) _ _ U kR kR Bh U _ (Hc x (k:=k1) om om))<|sZ 3 U (iZ k2)<|sD 4 U (.pointer (some ⟨g2,0+k2*1,none⟩)) (Quiet.pure (Au 90 _ _ _ g2 0 _ k2 1 .i64 U U U AH kF om))<|sD 5 U (.int .u64 ((wd y k2:Nat):Int)) (Quiet.cell 2 g2 (0+k2*1) 90 40 (fcs y) _ _ U kR kR Bh U _ (Hc y (k:=k2) om om)) ?_
   obtain ⟨hi1,lo1,llo1,elo1⟩:=H_ (wd x k1) (wd y k2)
   refine sD 6 U (.tuple #[.int .u64 ((hi1:Nat):Int),.int .u64 ((lo1:Nat):Int)]) (qF 175 #[.int .u64 ((wd x k1:Nat):Int),.int .u64 ((wd y k2:Nat):Int)] (λw=>J7 w (wd x k1) (wd y k2) hi1 lo1 (by first | assumption | exact wd_lt _ _ | exact hh1.1 _ | exact hh2.1 _ | exact hh2.2.1 | decide) (by first | assumption | exact wd_lt _ _ | exact hh1.1 _ | exact hh2.1 _ | exact hh2.2.1 | decide) llo1 elo1))<|sZ 7 U (.tuple #[.int .u64 ((hi1:Nat):Int),.int .u64 ((lo1:Nat):Int)])<|sZ 8 U (.int .u64 ((hi1:Nat):Int))<|sZ 9 U (.int .u64 ((lo1:Nat):Int))<|sZ 10 U (.int .u64 ((hi1:Nat):Int))<|sZ 11 U (.int .u64 ((lo1:Nat):Int))<|sE<|sB<|sP (.int .u64 ((lo1:Nat):Int))<|sP (iZ k1)<|sP (iZ k2)<|sS (iZ (k1+k2)) (qad U U U)<|sS (.pointer (some ⟨g4,0+(k1+k2)*1,none⟩)) (Quiet.pure (Au 206 _ _ _ g4 0 _ (k1+k2) 1 .i64 U U U Cz kF om))<|sS (.int .u64 ((y2.1 (k1+k2):Nat):Int)) (Quiet.cell 4 g4 (0+(k1+k2)*1) 206 40 (rw8 y2.1) _ _ U kR kR Bh U _ (Fi y2.1 (k:=k1+k2) om om)) ?_
   obtain ⟨x1,c1,lx1,lc1,ex1,rx1⟩:=Cq (lo1) (y2.1 (k1+k2)) (by first | assumption | exact wd_lt _ _ | exact hh1.1 _ | exact hh2.1 _ | exact hh2.2.1 | decide) (by first | assumption | exact wd_lt _ _ | exact hh1.1 _ | exact hh2.1 _ | exact hh2.2.1 | decide)
   refine sS (.tuple #[.int .u64 ((x1:Nat):Int),.int .u64 ((c1:Nat):Int)]) (Quiet.pure (λw=>Eq.trans kR (rx1 w)))<|sP (.tuple #[.int .u64 ((x1:Nat):Int),.int .u64 ((c1:Nat):Int)])<|sP (.int .u64 ((x1:Nat):Int))<|sP (.int .u64 ((c1:Nat):Int))<|sP (.int .u64 ((x1:Nat):Int))<|sP (.int .u64 ((c1:Nat):Int))<|sA<|sP (.int .u64 ((x1:Nat):Int))<|sP (.int .u64 ((y2.2:Nat):Int)) ?_
   obtain ⟨x2,c2,lx2,lc2,ex2,rx2⟩:=Cq (x1) (y2.2) (by first | assumption | exact wd_lt _ _ | exact hh1.1 _ | exact hh2.1 _ | exact hh2.2.1 | decide) (by first | assumption | exact wd_lt _ _ | exact hh1.1 _ | exact hh2.1 _ | exact hh2.2.1 | decide)
   refine sS (.tuple #[.int .u64 ((x2:Nat):Int),.int .u64 ((c2:Nat):Int)]) (Quiet.pure (λw=>Eq.trans kR (rx2 w)))<|sP (.tuple #[.int .u64 ((x2:Nat):Int),.int .u64 ((c2:Nat):Int)])<|sP (.int .u64 ((x2:Nat):Int))<|sP (.int .u64 ((c2:Nat):Int))<|sP (.int .u64 ((x2:Nat):Int))<|sP (.int .u64 ((c2:Nat):Int))<|sA<|sP (iZ k1)<|sP (iZ k2)<|sS (iZ (k1+k2)) (qad U U U)<|sP (.int .u64 ((x2:Nat):Int))<|sS (.pointer (some ⟨g4,0+(k1+k2)*1,none⟩)) (Quiet.pure (Au 206 _ _ _ g4 0 _ (k1+k2) 1 .i64 U U U Cz kF om))<|Sy.write kR 4 g4 206 (rw8 y2.1) (rw8 (upd y2.1 (k1+k2) x2)) kR (Writes.one (0+(k1+k2)*1) 40 (.int .u64 ((x2:Nat):Int)) _ _ U kR kR kR U U (Dp _ (k:=k1+k2) om om) (Do _ _ om om))<|sG<|Sy.region<|sP (.int .u64 ((hi1:Nat):Int))<|sP (.int .u64 ((c1:Nat):Int)) ?_
   have hst:=Rg elo1 ex1 ex2
   have hcar:=Pb hst (by first | assumption | exact wd_lt _ _ | exact hh1.1 _ | exact hh2.1 _ | exact hh2.2.1 | decide) (by first | assumption | exact wd_lt _ _ | exact hh1.1 _ | exact hh2.1 _ | exact hh2.2.1 | decide) (by first | assumption | exact wd_lt _ _ | exact hh1.1 _ | exact hh2.1 _ | exact hh2.2.1 | decide) hh2.2.1
   refine sS (.int .u64 ((hi1+c1:Nat):Int)) (Quiet.pure (AU .add _ _ _ .u64 _ _ _ U U U (FB _ _ _ _ _ ((wrap_u64 om om).trans om))))<|sP (.int .u64 ((c2:Nat):Int))<|sS (.int .u64 (((hi1+c1)+c2:Nat):Int)) (Quiet.pure (AU .add _ _ _ .u64 _ _ _ U U U (FB _ _ _ _ _ ((wrap_u64 om om).trans om))))<|sP (.int .u64 (((hi1+c1)+c2:Nat):Int))<|Sy.nil<|Sy.in_<|Sy.then_<|Sy.region<|sP (iZ k2)<|sS (iZ (k2+1)) (qad U U U)<|sP (iZ (k2+1))<|Sy.nil ?_
   have hin:=LX (Fc y2.1 (k1+k2) x2 8 om) hh2.2.2.1 hst (P0:=18446744073709551616 ^ k2) (by rw [Nat.add_comm,Nat.pow_add])
   exact Sy.againX ((upd y2.1 (k1+k2) x2,hi1+c1+c2)) [true,true,true,true,true] om (⟨Ff hh2.1 lx2,hcar,by rw [← Nat.add_assoc,Nat.pow_succ]; exact hin,λt ht=>(Ik om).trans (hh2.2.2.2 t ht)⟩) ac8 kR
end Fz
end
section
section
open Go.RowKit Go.Lib
theorem Oq (w:World) (x y:Nat) (hx:x<(2^256)) (hy:y<(2^256)):Calls Tryz.prog 117 #[.agg #[.int .u64 18446744069414583343,.int .u64 18446744073709551615,.int .u64 18446744073709551615,.int .u64 18446744073709551615,.int .u64 4294968273,.int .u64 0,.int .u64 0],fv x,fv y] w λe w'=>e=.returned (fv (mulP x y))∧Below w.heap.size w w':=by
 have h:=Fz.mulZ w pM IP G9 I_ G8 (λw x hx=>by rw [EP]; exact normR_any w x hx) x y hx hy
 rw [EP] at h
 exact h
end
end
section
namespace Fz
open Go.RowKit Go.Lib Sy
def msk (j:Nat):Nat:=9223372036854775808 / 2 ^ j
theorem J8 (j:Nat):msk j / 2=msk (j+1):=by unfold msk; rw [Nat.div_div_eq_div_mul, ← Nat.pow_succ]
theorem LT {j:Nat} (h:j≤63):msk j=2 ^ (63 - j):=by
 unfold msk
 have e:(9223372036854775808:Nat)=2 ^ (63 - j)*2 ^ j:=by rw [← Nat.pow_add,show 63 - j+j=63 by omega]
 rw [e]
 exact Nat.mul_div_cancel _ (Nat.two_pow_pos j)
theorem Qo {j:Nat} (h:j<64):0<msk j:=by rw [LT om]; exact Nat.two_pow_pos _
theorem Qp:msk 64=0:=dZ
theorem LR (j:Nat):msk j<18446744073709551616:=Nat.lt_of_le_of_lt (Nat.div_le_self _ _) dZ
theorem Nn (a r s:Nat) (hs:s≤63):(a+18446744073709551616*r) / 2 ^ s%2=a / 2 ^ s%2:=by
 obtain ⟨u,hu⟩:∃ u,2 ^ s*(2*u)=18446744073709551616:=by
  refine ⟨2 ^ (63 - s),?_⟩
  have:2 ^ s*2 ^ (63 - s)=2 ^ 63:=by rw [← Nat.pow_add]; congr 1; omega
  rw [show (2:Nat)*2 ^ (63 - s)=2 ^ (63 - s)*2 from Nat.mul_comm _ _, ← Nat.mul_assoc,this]
 rw [← hu,Nat.mul_assoc,Nat.add_mul_div_left _ _ (Nat.two_pow_pos s),Nat.mul_assoc,Nat.add_mul_mod_self_left]
theorem LJ (e i s w r:Nat) (hz:e / 2 ^ (64*i)=w+18446744073709551616*r) (hs:s≤63):e / 2 ^ (64*i+s)=2*(e / 2 ^ (64*i+(s+1)))+w / 2 ^ s%2:=by
 have h1:e / 2 ^ (64*i+s)%2=w / 2 ^ s%2:=by
  rw [Nat.pow_add, ← Nat.div_div_eq_div_mul,hz,Nn w r s hs]
 have h2:e / 2 ^ (64*i+(s+1))=e / 2 ^ (64*i+s) / 2:=by
  rw [← Nat.add_assoc,Nat.pow_succ,Nat.div_div_eq_div_mul]
 rw [h2, ← h1]
 omega
theorem Jb (e i s:Nat) (hs:s≤63):e / 2 ^ (64*i+s)=2*(e / 2 ^ (64*i+(s+1)))+wd e i / 2 ^ s%2 :=
 LJ e i s (wd e i) (e / 18446744073709551616 ^ i / 18446744073709551616) (by
  unfold wd
  rw [Nat.mod_add_div,Nat.pow_mul]) hs
theorem Kn (a s:Nat):a &&& 2 ^ s=0↔a / 2 ^ s%2=0:=by
 have hb:a.testBit s=decide (a / 2 ^ s%2=1):=Nat.testBit_eq_decide_div_mod_eq
 constructor
 ·intro h
  have h2:(a &&& 2 ^ s).testBit s=false:=by rw [h]; simp
  rw [Nat.testBit_and,Nat.testBit_two_pow_self,Bool.and_true,hb] at h2
  have h3:¬ a / 2 ^ s%2=1:=by simpa using h2
  omega
 ·intro h
  have h2:a.testBit s=false:=by rw [hb]; simp; omega
  refine Nat.eq_of_testBit_eq λj=>?_
  rw [Nat.testBit_and,Nat.zero_testBit,Nat.testBit_two_pow]
  by_cases hj:s=j
  ·subst hj; simp [h2]
  ·simp [hj]
theorem RU (a b:Nat) (ha:a<18446744073709551616) (hb:b<18446744073709551616):IntKind.u64.wrap ((BitVec.ofInt IntKind.u64.bits (a:Int) &&& BitVec.ofInt IntKind.u64.bits (b:Int)).toNat:Int)=((a &&& b:Nat):Int):=by
 have hl:a &&& b<18446744073709551616:=Nat.lt_of_le_of_lt Nat.and_le_left ha
 have hw2:(BitVec.ofInt 64 (a:Int) &&& BitVec.ofInt 64 (b:Int)).toNat=a &&& b:=by
  rw [BitVec.toNat_and]
  simp only [BitVec.ofInt_natCast,BitVec.toNat_ofNat]
  rw [Nat.mod_eq_of_lt om,Nat.mod_eq_of_lt om]
 show IntKind.u64.wrap ((BitVec.ofInt 64 (a:Int) &&& BitVec.ofInt 64 (b:Int)).toNat:Int)=_
 rw [hw2,wrap_u64 om om]
theorem Te (a:Nat) (ha:a<18446744073709551616):IntKind.u64.wrap ((a:Int).tdiv 2)=((a / 2:Nat):Int):=by
 have e:(a:Int).tdiv 2=((a / 2:Nat):Int):=rfl
 rw [e,wrap_u64 om om]
def pz (M x e i s:Nat):Nat:=x ^ (e / 2 ^ (64*i+s))%M
theorem QQ {M x e i j:Nat} (hj:j<64) (h:wd e i / 2 ^ (63 - j)%2=0):pz M x e i (64 - j)*pz M x e i (64 - j)%M=pz M x e i (64 - (j+1)):=by
 have q:=Jb e i (63 - j) om
 rw [h,Nat.add_zero,show 63 - j+1=64 - j by omega] at q
 unfold pz
 rw [show 64 - (j+1)=63 - j by omega,q, ← Nat.mul_mod, ← Nat.pow_add,Nat.two_mul]
theorem SL {M x e i j:Nat} (hj:j<64) (h:¬ wd e i / 2 ^ (63 - j)%2=0):pz M x e i (64 - j)*pz M x e i (64 - j)%M*x%M=pz M x e i (64 - (j+1)):=by
 have q:=Jb e i (63 - j) om
 rw [show wd e i / 2 ^ (63 - j)%2=1 by omega,show 63 - j+1=64 - j by omega] at q
 unfold pz
 rw [show 64 - (j+1)=63 - j by omega,q, ← Nat.mul_mod, ← Nat.pow_add,Nat.mod_mul_mod, ← Nat.pow_succ,Nat.two_mul]
theorem QO {M x e i:Nat}:pz M x e (i+1) 0=pz M x e i 64:=by unfold pz; rw [Nat.add_zero,Nat.mul_add,Nat.mul_one]
theorem OY {M x e:Nat} (he:e<(2^256)) (hM:1<M):pz M x e 4 0=1:=by
 unfold pz
 rw [Nat.div_eq_of_lt (by rw [show 64*4+0=256 from rfl]; omega),Nat.pow_zero,Nat.mod_eq_of_lt hM]
theorem QP {M x e:Nat}:pz M x e 0 0=x ^ e%M:=by
 unfold pz
 rw [show 64*0+0=0 from rfl,Nat.pow_zero,Nat.div_one]
theorem powZ (w:World) (M:Nat) (lw:Nat→Nat) (hlw:∀ t,lw t<18446744073709551616) (hM0:0<M) (hM1:1<M) (hM:M+vR lw 3=18446744073709551616 ^ 4) (hM4:M≤(2^256)) (hnorm:∀ w x,x<(2^256)→Calls Tryz.prog 46 #[.agg (modc M lw),fv x] w (Gets w (fv (x%M)))) (hsmall:∀ w,Calls Tryz.prog 115 #[.int .u64 1] w (Gets w (fv 1))) (x e:Nat) (hx:x<(2^256)) (he:e<(2^256)):Calls Tryz.prog 116 #[.agg (modc M lw),fv x,fv e] w (Gets w (fv (x ^ e%M))):=by
 refine Sy.enter (args:=[.agg (modc M lw),fv x,fv e]) Tryz.func116 U kL<|sC<|sM 94 (modc M lw) (λg0=>?_)
 refine sM 90 (fcs x) (λg1=>?_)
 refine sM 90 (fcs e) (λg2=>?_)
 refine sM 90 (fcs 0) (λg3=>?_)
 refine sA<|sS (fv 1) (qF 115 #[.int .u64 1] (λw=>hsmall w))<|sM 90 (fcs 0) (λg4=>?_)
 refine sW 4 g4 90 (fcs 0) (fcs 1) (wS 0 90 (fcs 1) rfl)<|sG<|Sy.seq<|sC<|sP (.int .i64 3)<|sG<|Sy.block<|Sy.loopX (T:=Int×Nat) 4 (λk1 y1=>[(3,pT g0 0),(4,pT g1 0),(5,pT g2 0),(6,pT g3 0),(7,pT g4 0),(8,.int .i64 y1.1)]) (λk1 y1=>[(g0,94,(modc M lw)),(g1,90,(fcs x)),(g2,90,(fcs e)),(g3,90,(fcs 0)),(g4,90,(fcs y1.2))]) (λk1 y1=>y1.1=3 - ((k1:Nat):Int)∧y1.2=pz M x e (4 - k1) 0) ((3:Int),1) [true,true,true,true,true] (⟨rfl,(OY he hM1).symm⟩) ac6 kR (λk1 y1 hk1 hh1=>?_)
 refine Sy.seq<|sC<|sP (.int .i64 y1.1) ?_
 obtain ⟨b1,hb1⟩:=xE (decide (y1.1 ≥ 0))
 refine sS (.bool b1) (Quiet.pure (AU .geq _ _ _ .i64 _ _ _ U U U (ET _ _ _ _ _ hb1.symm)))<|sG ?_
 cases b1
 ·have lb1:=dN hb1
  refine sU<|Sy.exit<|Sy.then_exit<|Sy.then_exit ?_
  obtain rfl:k1=4:=om
  refine Sy.in_exit<|sB<|sS (fv y1.2) (qL 4 g4 0 4 90 90 (fcs y1.2) rfl AH)<|sW 3 g3 90 (fcs 0) (fcs y1.2) (wS 0 90 (fcs y1.2) rfl)<|sG<|Sy.ret ?_
  rw [show (fv (x ^ e%M):Value)=fv y1.2 from by rw [hh1.2,show 4 - 4=0 from rfl,QP]]
  exact rC (v:=fv y1.2) 90 g3 3 (fcs y1.2) rfl AH
 ·have lb1:=dY hb1
  have hq0:=hh1.1
  obtain ⟨q1,hq1⟩:∃ q:Nat,y1.1=(q:Int):=⟨y1.1.toNat,by omega⟩
  have hqk:q1+k1=3:=om
  refine sT<|Sy.skip<|Sy.then_<|Sy.seq<|Sy.block<|sC<|sP (.int .u64 9223372036854775808)<|sG<|Sy.block<|Sy.loopX (T:=Nat×Nat) 64 (λk2 y2=>[(3,pT g0 0),(4,pT g1 0),(5,pT g2 0),(6,pT g3 0),(7,pT g4 0),(8,.int .i64 y1.1),(9,.int .u64 ((y2.1:Nat):Int))]) (λk2 y2=>[(g0,94,(modc M lw)),(g1,90,(fcs x)),(g2,90,(fcs e)),(g3,90,(fcs 0)),(g4,90,(fcs y2.2))]) (λk2 y2=>y2.1=msk k2∧y2.2=pz M x e q1 (64 - k2)) (9223372036854775808,y1.2) [true,true,true,true,true] (⟨rfl,by show y1.2=_; rw [hh1.2,show 4 - k1=q1+1 by omega]; exact QO⟩) ac7 kR (λk2 y2 hk2 hh2=>?_)
  refine Sy.seq<|sC<|sP (.int .u64 ((y2.1:Nat):Int)) ?_
  obtain ⟨b2,hb2⟩:=xE (decide (y2.1>0))
  refine sS (.bool b2) (Quiet.pure (AU .gtr _ _ _ .u64 _ _ _ U U U (C1 _ _ _ _ _ (by rw [hb2]; exact decide_eq_decide.2 om))))<|sG ?_
  cases b2
  ·have lb2:=dN hb2
   have hk64:¬ k2<64:=λh=>by have:=Qo h; have:=hh2.1; omega
   refine sU<|Sy.exit<|Sy.then_exit<|Sy.then_exit ?_
   obtain rfl:k2=64:=om
   refine Sy.in_exit<|Sy.in_<|Sy.then_<|Sy.region<|sP (.int .i64 y1.1)<|sS (.int .i64 (y1.1 - 1)) (Quiet.pure (AU .sub _ _ _ .i64 _ _ _ U U U (MS _ _ _ _ _ (D3 om om))))<|sP (.int .i64 (y1.1 - 1))<|Sy.nil ?_
   have hq:=hh1.1
   exact Sy.againX ((y1.1 - 1,y2.2)) [true,true,true,true,true] (by have:=hh1.1; omega) (⟨by show y1.1 - 1=_; omega,by show y2.2=_; rw [hh2.2,show 4 - (k1+1)=q1 by omega,show 64 - 64=0 from rfl]⟩) ac6 kR
  ·have lb2:=dY hb2
   have hk64:k2<64:=by
    rcases Nat.lt_or_ge k2 64 with h | h
    ·exact h
    ·have e:k2=64:=om
     have:=hh2.1
     rw [e,Qp] at this
     omega
   refine sT<|Sy.skip<|Sy.then_<|Sy.seq<|Sy.block<|sC<|sS (.agg (modc M lw)) (qL 0 g0 0 7 94 94 (modc M lw) rfl Ey)<|sS (fv y2.2) (qL 4 g4 0 4 90 90 (fcs y2.2) rfl AH)<|sS (fv y2.2) (qL 4 g4 0 4 90 90 (fcs y2.2) rfl AH)<|sS (fv (y2.2*y2.2%M)) (qF 117 #[.agg (modc M lw),fv y2.2,fv y2.2] (λw=>mulZ w M lw hlw hM0 hM hnorm (y2.2) (y2.2) (by first | assumption | exact Nat.lt_of_lt_of_le (Nat.mod_lt _ hM0) hM4 | (rw [hh2.2]; exact Nat.lt_of_lt_of_le (Nat.mod_lt _ hM0) hM4)) (by first | assumption | exact Nat.lt_of_lt_of_le (Nat.mod_lt _ hM0) hM4 | (rw [hh2.2]; exact Nat.lt_of_lt_of_le (Nat.mod_lt _ hM0) hM4))))<|sW 4 g4 90 (fcs y2.2) (fcs (y2.2*y2.2%M)) (wS 0 90 (fcs (y2.2*y2.2%M)) U)<|sA<|sP (.int .i64 y1.1)<|sS (.pointer (some ⟨g2,0+q1*1,none⟩)) (Quiet.pure (Au 90 _ _ _ g2 0 _ q1 1 .i64 U U (show Value.int .i64 y1.1=iZ q1 from by rw [hq1]) AH kF om))<|sS (.int .u64 ((wd e q1:Nat):Int)) (Quiet.cell 2 g2 (0+q1*1) 90 40 (fcs e) _ _ U kR kR Bh U _ (Hc e (k:=q1) om om))<|sP (.int .u64 ((y2.1:Nat):Int))<|sS (.int .u64 (((wd e q1) &&& y2.1:Nat):Int)) (Quiet.pure (AU .and _ _ _ .u64 _ _ _ U U U (JE _ _ _ _ _ (RU _ _ (wd_lt _ _) (by rw [hh2.1]; exact LR _))))) ?_
   obtain ⟨b3,hb3⟩:=xE (decide ((wd e q1) &&& y2.1≠0))
   refine sS (.bool b3) (Quiet.pure (AU .neq _ _ _ .u64 _ _ _ U U U (Ds _ _ _ _ _ (by rw [hb3]; exact decide_eq_decide.2 om))))<|sG ?_
   cases b3
   ·have lb3:=dN hb3
    have hbit:y2.1=2 ^ (63 - k2):=hh2.1.trans (LT om)
    have hpw:y2.2*y2.2%M=pz M x e q1 (64 - (k2+1)):=by rw [hh2.2]; exact QQ hk64 ((Kn _ _).1 (by have:=lb3; rw [hbit] at this; omega))
    refine sU<|Sy.skip<|Sy.in_<|Sy.then_<|Sy.region<|sP (.int .u64 ((y2.1:Nat):Int))<|sS (.int .u64 ((y2.1 / 2:Nat):Int)) (Quiet.pure (AU .quo _ _ _ .u64 _ _ _ U U U (Co _ _ _ _ _ dZ (Te _ (by rw [hh2.1]; exact LR _)))))<|sP (.int .u64 ((y2.1 / 2:Nat):Int))<|Sy.nil ?_
    have hpz:=hpw
    exact Sy.againX ((y2.1 / 2,(y2.2*y2.2%M))) [true,true,true,true,true] (hk64) (⟨by show y2.1 / 2=_; rw [hh2.1]; exact J8 _,by show _=_; exact hpz⟩) ac7 kR
   ·have lb3:=dY hb3
    have hbit:y2.1=2 ^ (63 - k2):=hh2.1.trans (LT om)
    have hpw:y2.2*y2.2%M*x%M=pz M x e q1 (64 - (k2+1)):=by rw [hh2.2]; exact SL hk64 (λh=>lb3 (by rw [hbit]; exact (Kn _ _).2 h))
    refine sT<|Sy.region<|sS (.agg (modc M lw)) (qL 0 g0 0 7 94 94 (modc M lw) rfl Ey)<|sS (fv (y2.2*y2.2%M)) (qL 4 g4 0 4 90 90 (fcs (y2.2*y2.2%M)) U AH)<|sS (fv x) (qL 1 g1 0 4 90 90 (fcs x) rfl AH)<|sS (fv ((y2.2*y2.2%M)*x%M)) (qF 117 #[.agg (modc M lw),fv (y2.2*y2.2%M),fv x] (λw=>mulZ w M lw hlw hM0 hM hnorm ((y2.2*y2.2%M)) (x) (by first | assumption | exact Nat.lt_of_lt_of_le (Nat.mod_lt _ hM0) hM4 | (rw [hh2.2]; exact Nat.lt_of_lt_of_le (Nat.mod_lt _ hM0) hM4)) (by first | assumption | exact Nat.lt_of_lt_of_le (Nat.mod_lt _ hM0) hM4 | (rw [hh2.2]; exact Nat.lt_of_lt_of_le (Nat.mod_lt _ hM0) hM4))))<|sW 4 g4 90 (fcs (y2.2*y2.2%M)) (fcs ((y2.2*y2.2%M)*x%M)) (wS 0 90 (fcs ((y2.2*y2.2%M)*x%M)) U)<|Sy.nil<|Sy.in_<|Sy.then_<|Sy.region<|sP (.int .u64 ((y2.1:Nat):Int))<|sS (.int .u64 ((y2.1 / 2:Nat):Int)) (Quiet.pure (AU .quo _ _ _ .u64 _ _ _ U U U (Co _ _ _ _ _ dZ (Te _ (by rw [hh2.1]; exact LR _)))))<|sP (.int .u64 ((y2.1 / 2:Nat):Int))<|Sy.nil ?_
    have hpz:=hpw
    exact Sy.againX ((y2.1 / 2,((y2.2*y2.2%M)*x%M))) [true,true,true,true,true] (hk64) (⟨by show y2.1 / 2=_; rw [hh2.1]; exact J8 _,by show _=_; exact hpz⟩) ac7 kR
end Fz
end
section
section
open Go.RowKit Go.Lib
def pw (x e:Nat):Nat:=x ^ e%pM
theorem Jn (w:World) (n:Nat) (di:Int) (hdi:di=(n:Int)) (hn:n<18446744073709551616):Calls Tryz.prog 115 #[.int .u64 di] w λe w'=>e=.returned (fv n)∧Below w.heap.size w w':=by
 subst hdi
 rw [G_ n hn]
 go_enter Tryz.func115,Tryz.ntmps115
 go_wp2
 exact bodyPost_ret (results_cell_row U _ _ w.heap.size _ _ (0,0) _ U (heap_alloc_new w _) AH U kZ) rfl ⟨rfl,(Below.refl _ _).alloc (Nat.le_refl _) _⟩
theorem M' (w:World) (x e:Nat) (hx:x<(2^256)) (he:e<(2^256)):Calls Tryz.prog 116 #[.agg #[.int .u64 18446744069414583343,.int .u64 18446744073709551615,.int .u64 18446744073709551615,.int .u64 18446744073709551615,.int .u64 4294968273,.int .u64 0,.int .u64 0],fv x,fv e] w λee w'=>ee=.returned (fv (pw x e))∧Below w.heap.size w w':=by
 have h:=Fz.powZ w pM IP G9 I_ (by decide +kernel) G8 (by decide +kernel) (λw x hx=>by rw [EP]; exact normR_any w x hx) (λw=>Jn w 1 1 U dZ) x e hx he
 rw [EP] at h
 exact h
theorem LV (w:World) (x:Nat) (hx:x<(2^256)):Calls Tryz.prog 53 #[.agg #[.int .u64 18446744069414583343,.int .u64 18446744073709551615,.int .u64 18446744073709551615,.int .u64 18446744073709551615,.int .u64 4294968273,.int .u64 0,.int .u64 0],fv x] w λe w'=>e=.returned (fv (pw x (115792089237316195423570985008687907853269984665640564039457584007908834671663 - 2)))∧Below w.heap.size w w':=by
 obtain ⟨p,hp⟩:∃ p,p=115792089237316195423570985008687907853269984665640564039457584007908834671663:=⟨_,rfl⟩
 obtain ⟨n2,h2⟩:∃ n,n=2:=⟨_,rfl⟩
 obtain ⟨q,hq⟩:=xE (115792089237316195423570985008687907853269984665640564039457584007908834671663 - 2)
 obtain ⟨z,hz⟩:=xE (pw x q)
 rw [← hq, ← hz]
 have cS:∀ w,Calls Tryz.prog 115 #[.int .u64 2] w λe w'=>e=.returned (fv n2)∧Below w.heap.size w w':=λw=>Jn w n2 2 (by rw [h2]; rfl) om
 have cM:∀ w,Calls Tryz.prog 112 #[fv p,fv n2] w λe w'=>e=.returned (fv q)∧Below w.heap.size w w':=λw=>EQ w p n2 q 0 U U om om om om
 have cP:∀ w,Calls Tryz.prog 116 #[.agg #[.int .u64 18446744069414583343,.int .u64 18446744073709551615,.int .u64 18446744073709551615,.int .u64 18446744073709551615,.int .u64 4294968273,.int .u64 0,.int .u64 0],fv x,fv q] w λe w'=>e=.returned (fv z)∧Below w.heap.size w w':=by
  intro w; rw [hz]; exact M' w x q hx om
 have FP:Hid (fv p=.agg #[.int .u64 18446744069414583343,.int .u64 18446744073709551615,.int .u64 18446744073709551615,.int .u64 18446744073709551615]):=Lib.hid (by rw [hp]; exact LZ)
 obtain ⟨x0,x1,x2,x3,fx⟩:=Ad x hx
 have FX:=Lib.hid fx
 rw [fx]
 clear fx hx hp h2 hq hz
 go_enter Tryz.func53,Tryz.ntmps53
 go_wp2
 refine wp_region_G (λj=>j == 7) kZ ?_
 try simp only [Act.put]
 refine tkw 0 U (YieldsG.load (by rfl) _ _ U w.heap.size 0 U ([.int .u64 18446744069414583343,.int .u64 18446744073709551615,.int .u64 18446744073709551615,.int .u64 18446744073709551615,.int .u64 4294968273,.int .u64 0,.int .u64 0]) _ (Blk.lt (((Blk.new w _ _).alloc _).alloc _)) (Blk.range (((Blk.new w _ _).alloc _).alloc _)) Ey U kZ) ?_
 try simp only [aPS]
 refine tkw 1 U (YieldsG.loadF (by rfl) _ _ U (w.heap.size+1) rfl (x) _ _ ((AZ w _ _ _).alloc _) (FX.out) AH U kZ) ?_
 try simp only [aPS]
 refine tk 2 U ?_
 try simp only [aPS]
 refine tkw 3 U (YieldsG.loadP (by rfl) _ _ U w.heap.size U p _ (Blk.lt (((Blk.new w _ _).alloc _).alloc _)) (CV (((Blk.new w _ _).alloc _).alloc _)) FP.out AH U kZ) ?_
 try simp only [aPS]
 refine tkw 4 U (YieldsG.call (v:=fv n2) (by rfl) 115 _ (λw9=>by go_simp; try (first | with_reducible rfl | rfl)) (λw9 h9=>cS w9)) ?_
 try simp only [aPS]
 refine tkw 5 U (YieldsG.call (v:=fv q) (by rfl) 112 _ (λw9=>by go_simp; try (first | with_reducible rfl | rfl)) (λw9 h9=>cM w9)) ?_
 try simp only [aPS]
 refine tkw 6 U (YieldsG.call (v:=fv z) (by rfl) 116 _ (λw9=>by go_simp; try (first | with_reducible rfl | rfl)) (λw9 h9=>cP w9)) ?_
 try simp only [aPS]
 refine A9 7 U kZ (by rfl) _ _ _ U (w.heap.size+2) (fcs (z)) U U _ _ (Ao w _ _ _ _) kZ (by rfl) (AF _) rfl (λw6 h6 w7 hB7 hL7=>?_)
 try simp only [Act.put]
 refine wpAnyG_done kZ (λw8 h8=>?_)
 have hfin:=Gr.blk h8 hL7
 have hb9:=(Below.gr (Aa w _ _ _) h6).trans ((hB7 _ om).trans (Below.mono h8 (by have:=hL7.lt; omega)))
 go_wp2
 exact bodyPost_ret (results_cell_row U _ _ (w.heap.size+2) _ _ (0,0) _ U hfin AH U kZ) rfl ⟨rfl,hb9⟩
end
end
section
section
open Go.RowKit Go.Lib
def B8 (z j:Nat):UInt8:=UInt8.ofNat (z / 2 ^ (8*j)%256)
def EA (z:Nat):Nat→List UInt8
 | 0=>[]
 | k+1=>B8 z k::EA z k
theorem DV (z:Nat):∀ k,(EA z k).length=k
 | 0=>rfl
 | k+1=>by rw [EA,List.length_cons,DV z k]
def AY (z:Nat):List UInt8:=EA z 32
def DC (z k:Nat):List UInt8:=List.replicate (32 - k) 0++EA z k
theorem E9 (z k:Nat) (h:k≤32):(DC z k).length=32:=by simp [DC,DV]; omega
theorem Gy (z:Nat):DC z 32=AY z:=by simp [DC,AY]
theorem IL (z k:Nat) (h:k<32):((DC z k).map bv).toArray.setIfInBounds (31 - k) (bv (B8 z k))=((DC z (k+1)).map bv).toArray:=by
 rw [List.setIfInBounds_toArray]
 congr 1
 rw [← List.map_set]
 congr 1
 unfold DC
 rw [List.set_append_left _ _ (by simp; omega)]
 obtain ⟨m,hm⟩:∃ m,32 - k=m+1:=⟨31 - k,by omega⟩
 have h2:32 - (k+1)=m:=om
 have h3:31 - k=m:=om
 rw [hm,h2,h3,List.replicate_succ',List.set_append_right _ _ (by simp)]
 simp [EA]
theorem AQ (z:Nat):(AY z).length=32:=DV z 32
theorem Kd (z j:Nat):bv (B8 z j)=.int .u8 ((z / 2 ^ (8*j)%256:Nat):Int):=by
 unfold bv B8
 congr 2
 rw [UInt8.toNat_ofNat']
 omega
theorem Blk.val {w:World} {a:Addr} {v v':Value} {g:Nat} {t:TypeId} {cs:Array Value} (h:Blk (w.setCell a v) g t cs) (e:v=v'):Blk (w.setCell a v') g t cs:=e ▸ h
theorem Ce {l:List UInt8} (h:l.length=32):(Tryz.prog.info? 22).map (·.size)=some (l.map bv).toArray.size:=by
 simp only [List.size_toArray,List.length_map,h]
 kernel_rfl
theorem Me (l:List UInt8):(l.map bv).toArray.all (·.oneCell')=true:=by simp [bv,Value.oneCell']
def Ai (l:List UInt8):Nat:=l.foldl (λa b=>a*256+b.toNat) 0
theorem EI (l:List UInt8) (c:UInt8):Ai (l++[c])=Ai l*256+c.toNat:=by simp [Ai,List.foldl_append]
theorem Ex:∀ (n:Nat) (l:List UInt8),l.length=n→Ai l<256 ^ n
 | 0,l,h=>by
  obtain rfl:l=[]:=List.length_eq_zero_iff.1 h
  simp [Ai]
 | n+1,l,h=>by
  have hne:l≠[]:=by intro e; rw [e] at h; cases h
  have e:=List.dropLast_concat_getLast hne
  have ih:=Ex n l.dropLast (by rw [List.length_dropLast]; omega)
  rw [← e,EI,Nat.pow_succ]
  have:=(l.getLast hne).toNat_lt
  omega
theorem Cr (l:List UInt8):∀ (n:Nat) (m:List UInt8),m.length=n→Ai (l++m)=Ai l*256 ^ n+Ai m
 | 0,m,h=>by
  obtain rfl:m=[]:=List.length_eq_zero_iff.1 h
  simp [Ai]
 | n+1,m,h=>by
  have hne:m≠[]:=by intro e; rw [e] at h; cases h
  have e:=List.dropLast_concat_getLast hne
  have ih:=Cr l n m.dropLast (by rw [List.length_dropLast]; omega)
  rw [← e, ← List.append_assoc,EI,EI,ih,Nat.pow_succ,Nat.add_mul,Nat.mul_assoc]
  omega
def wdB (l:List UInt8) (k p:Nat):Nat:=Ai ((l.drop (8*p)).take (min 8 (k - 8*p)))
theorem Br (l:List UInt8) (p:Nat):wdB l 0 p=0:=by simp [wdB,Ai]
theorem Bu (l:List UInt8) (k p:Nat) (c:UInt8) (h:l[k]? = some c) (hp:k / 8=p):wdB l (k+1) p=wdB l k p*256+c.toNat:=by
 unfold wdB
 rw [show min 8 (k+1 - 8*p)=(k - 8*p)+1 by omega,show min 8 (k - 8*p)=k - 8*p by omega,List.take_add_one,List.getElem?_drop,show 8*p+(k - 8*p)=k by omega,h]
 exact EI _ _
theorem Ah (l:List UInt8) (k p:Nat) (hp:k / 8≠p):wdB l (k+1) p=wdB l k p:=by
 unfold wdB
 rw [show min 8 (k+1 - 8*p)=min 8 (k - 8*p) by omega]
theorem Cx (l:List UInt8) (k p:Nat) (hp:k / 8=p):wdB l k p<72057594037927936:=by
 unfold wdB
 have h:=Ex _ ((l.drop (8*p)).take (min 8 (k - 8*p))) U
 refine Nat.lt_of_lt_of_le h ?_
 have:((l.drop (8*p)).take (min 8 (k - 8*p))).length≤7:=by rw [List.length_take]; omega
 exact Nat.pow_le_pow_right om this
theorem Ii (l:List UInt8) (h:l.length=32):Ai l=wdB l 32 3+18446744073709551616*wdB l 32 2+340282366920938463463374607431768211456*wdB l 32 1+6277101735386680763835789423207666416102355444464034512896*wdB l 32 0:=by
 have e:l=(l.take 8++(l.drop 8).take 8)++((l.drop 16).take 8++(l.drop 24).take 8):=by
  conv=>lhs; rw [← List.take_append_drop 16 l, ← List.take_append_drop 8 (l.take 16), ← List.take_append_drop 8 (l.drop 16)]
  congr 2
  ·rw [List.take_take]; rfl
  ·rw [List.drop_take]
  ·rw [List.drop_drop,List.take_of_length_le (by simp; omega)]
 have w0:wdB l 32 0=Ai (l.take 8):=rfl
 have w1:wdB l 32 1=Ai ((l.drop 8).take 8):=rfl
 have w2:wdB l 32 2=Ai ((l.drop 16).take 8):=rfl
 have w3:wdB l 32 3=Ai ((l.drop 24).take 8):=rfl
 conv=>lhs; rw [e]
 rw [Cr _ 16 _ (by simp; omega),Cr _ 8 _ (by simp; omega),Cr _ 8 _ (by simp; omega),w0,w1,w2,w3]
 have p8:(256:Nat) ^ 8=18446744073709551616:=dZ
 have p16:(256:Nat) ^ 16=340282366920938463463374607431768211456:=dZ
 rw [p8,p16,Nat.add_mul,Nat.mul_assoc]
 omega
theorem CK (l:List UInt8) (k p:Nat):wdB l k p<18446744073709551616:=by
 unfold wdB
 have h:=Ex _ ((l.drop (8*p)).take (min 8 (k - 8*p))) U
 refine Nat.lt_of_lt_of_le h ?_
 have:((l.drop (8*p)).take (min 8 (k - 8*p))).length≤8:=by rw [List.length_take]; omega
 exact Nat.pow_le_pow_right om this
theorem I' (w c:Nat) (hw:w<72057594037927936) (hc:c<256):bits .or .u64 ((w:Int)*256) (c:Int)=((w*256+c:Nat):Int):=by
 have e:((w:Int)*256)=((w*256:Nat):Int):=om
 rw [e]
 have h:w*256 ||| c=w*256+c:=by
  have:=Nat.two_pow_add_eq_or_of_lt (i:=8) (b:=c) om w
  rw [Nat.mul_comm w 256]
  exact this.symm
 have hw2:(BitVec.ofInt 64 ((w*256:Nat):Int) ||| BitVec.ofInt 64 (c:Int)).toNat=w*256+c:=by
  rw [BitVec.toNat_or]
  simp only [BitVec.ofInt_natCast,BitVec.toNat_ofNat]
  rw [Nat.mod_eq_of_lt om,Nat.mod_eq_of_lt om,h]
 show IntKind.u64.wrap ((BitVec.ofInt 64 ((w*256:Nat):Int) ||| BitVec.ofInt 64 (c:Int)).toNat:Int)=_
 rw [hw2,IntKind.wrap_u64]
 omega
theorem Hu (W:World) (l:List UInt8) (k:Nat) (c:UInt8) (h:l[k]? = some c) (hk:k<32) :
  (Instr.index 22 (.agg (l.map bv).toArray) (.int .i64 (k:Int))).run Tryz.prog W=.ok (bv c) W:=by
 unfold Instr.index
 have hs:∀ W,(sizeOf 5).run Tryz.prog W=.ok 1 W:=λW=>by kernel_rfl
 have pc:(part 5 (l.map bv).toArray ((k:Int).toNat*1)).run Tryz.prog W=.ok (bv c) W:=by
  simp [part,isAgg,run_underlying uy5,h]
 simp only [asIntOf,Sem.run_bind,Sem.run_pure,Result.andThen_ok,run_underlying GZ]
 rw [if_pos ⟨by omega,by omega⟩]
 simp only [Sem.run_bind,hs,Result.andThen_ok,pc]
theorem Tw (k:Nat):(2:Nat) ^ (8*k)=256 ^ k:=by rw [Nat.pow_mul]
theorem H7 (z:Nat):∀ k,Ai (EA z k)=z%256 ^ k
 | 0=>by simp [EA,Ai,Nat.mod_one]
 | k+1=>by
  have h:=Cr [B8 z k] k (EA z k) (DV z k)
  rw [EA]
  rw [List.singleton_append] at h
  rw [h,H7 z k,Nat.mod_pow_succ]
  have e:Ai [B8 z k]=z / 256 ^ k%256:=by
   have:Ai [B8 z k]=(B8 z k).toNat:=by simp [Ai]
   rw [this,B8,UInt8.toNat_ofNat',Tw]
   omega
  rw [e,Nat.mul_comm]
  omega
theorem Jd (z:Nat) (hz:z<(2^256)):Ai (AY z)=z:=by
 rw [AY,H7]
 have:(256:Nat) ^ 32=(2^256):=dZ
 rw [this,Nat.mod_eq_of_lt hz]
theorem B9 (l:List UInt8) (h:l.length=32):Ai l<(2^256):=by
 have:=Ex 32 l h
 have e:(256:Nat) ^ 32=(2^256):=dZ
 omega
end
end
section
section
open Go.RowKit Sp
def Src (w:World) (A:Option Addr) (m:List UInt8):Prop :=
 m≠[]→∃ b o,A=some ⟨b,o,none⟩∧b<w.heap.size∧∀ j u,m[j]? = some u→w.cell? ⟨b,o+j,none⟩=some (bv u)
theorem Src.of_blk {w:World} {g:Nat} {t:TypeId} {m:List UInt8} (h:Blk w g t (m.map bv).toArray):Src w (pA g) m:=λ_ =>
 ⟨g,0,rfl,h.lt,λj u hu=>by rw [Nat.zero_add]; exact (h.cell j).trans (by simp [hu])⟩
theorem addr_add (g o n:Nat):(⟨g,o,none⟩:Addr).add n=⟨g,o+n,none⟩:=by
 unfold Addr.add; split <;> simp_all
theorem oneCell_bv (l:List UInt8):∀ v∈l.map bv,v.oneCell'=true:=λv hv=>by
 obtain ⟨x,_,rfl⟩:=List.mem_map.1 hv
 rfl
def OwnB (w:World) (base:Nat) (v:Value) (l:List UInt8):Prop:=w.ownsRow base 5 1 v l.length (l.map bv)
theorem infoByte:(Tryz.prog.info? 5).map (λi=>(i.zero,i.size,i.bytes))=some (some (.int .u8 0),1,1):=kZ
theorem OwnB.form {w:World} {base:Nat} {v:Value} {l:List UInt8} (h:OwnB w base v l) (hl:0<l.length) :
  ∃ g cap,v=.slice (pA g) l.length cap∧base≤g∧g<w.heap.size:=World.ownsRow.form h hl
theorem OwnB.form' {w:World} {base:Nat} {v:Value} {l:List UInt8} (h:OwnB w base v l) (hl:0<l.length) :
  ∃ g n cap,v=.slice (pA g) n cap∧Hid (n=l.length)∧base≤g∧g<w.heap.size:=by
 obtain ⟨g,cap,h1,h2,h3⟩:=h.form hl
 exact ⟨g,l.length,cap,h1,Lib.hid U,h2,h3⟩
theorem OwnB.alloc {w:World} {base:Nat} {v:Value} {l:List UInt8} (h:OwnB w base v l) (o:Obj):OwnB (w.alloc o) base v l:=World.ownsRow.alloc h o
theorem OwnB.nil (w:World) (base:Nat):OwnB w base (.slice none 0 0) []:=World.ownsRow_nil w base _ _
theorem below_own {B base:Nat} {w0 w w':World} {v:Value} {l:List UInt8} (h:Below B w0 w) (hown:OwnB w base v l) (hg:w.grownBy w' v.ownBlock) (hB:B≤base) (hw:B≤w.heap.size):Below B w0 w' :=
 h.grown hg hw (λk hk=>Nat.le_trans hB (World.ownsRow.lt hown k hk).1)
theorem run_append_of_nil {P:Program} (w:World) (base:Nat) (t ty e:TypeId) (i:TypeInfo) (size:Nat) (ht:P.underlying t=some (.slice e)) (hi:P.info? e=some i)
  (v:Value) (n:Nat) (xs:List Value) (hown:w.ownsRow base e size v n xs) (c:Nat):(Builtin.append_ #[t,t] ty #[v,.slice none 0 c]).run P w=.ok v w:=by
 rcases hown.2 with ⟨rfl,rfl⟩ | ⟨g,cap,cur,rfl,_,_,hnc,_⟩
 ·simp [Builtin.append_,run_underlying ht,sizeOf,typeInfo,hi,Builtin.lenOf,Builtin.firstCells]
 ·simp [Builtin.append_,run_underlying ht,sizeOf,typeInfo,hi,Builtin.lenOf,Builtin.firstCells,hnc,storeCells]
theorem run_append_bytes (w:World) (base:Nat) (v:Value) (l m:List UInt8) (hown:OwnB w base v l) (A:Option Addr) (c:Nat) (hsrc:Src w A m) (hlen:l.length+m.length≤140737488355328) (hbase:base≤w.heap.size) (ty:TypeId) :
  ∃ v' w',(Builtin.append_ #[24,24] ty #[v,.slice A m.length c]).run Tryz.prog w=.ok v' w'∧OwnB w' base v' (l++m)∧w.grownBy w' v.ownBlock:=by
 obtain ⟨i,hi,hz0,hz1,hz2⟩:=info_parts infoByte
 by_cases hm:m=[]
 ·subst hm
  cases A with
  | none=>exact ⟨v,w,run_append_of_nil w base _ _ _ i 1 CI hi v _ _ hown c,by simpa using hown,World.grownBy.refl w _⟩
  | some ad =>
   obtain ⟨v',w',h1,h2,h3,_⟩:=run_append_own (P:=Tryz.prog) w base 24 ty 5 i (.int .u8 0) 1 1 CI hi hz0 hz1 hz2 U dZ v l.length (l.map bv) hown ad 0 c [] rfl (by simp) (by simp)
    (by simp [maxLen]; simp at hlen; omega) (by simp at hlen; omega) hbase
   exact ⟨v',w',h1,by simpa [OwnB] using h2,h3⟩
 ·obtain ⟨b,o,rfl,_,hc⟩:=hsrc hm
  obtain ⟨v',w',h1,h2,h3,_⟩:=run_append_own (P:=Tryz.prog) w base 24 ty 5 i (.int .u8 0) 1 1 CI hi hz0 hz1 hz2 U dZ v l.length (l.map bv) hown ⟨b,o,none⟩ m.length c (m.map bv) (by simp)
   (λj u hu=>by
    rw [addr_add]
    rw [List.getElem?_map] at hu
    obtain ⟨x,hx,rfl⟩:=Option.map_eq_some_iff.1 hu
    exact hc j x hx) (oneCell_bv m) (by simp [maxLen]; omega) om hbase
  exact ⟨v',w',h1,by simpa [OwnB] using h2,h3⟩
theorem wpList_append_bytes {w:World} {ops:Array Oper} {rest:List Oper} {o:Oper} {a:Act} {Q:Exit→Act→World→Prop} (hgd:o.guard=none) (s x:Operand)
  (ho:o.op=.call { callee:=.builtin .append,args:=#[s,x],argTypes:=#[24,24] }) (base:Nat) (v:Value) (l:List UInt8) (hs:a.eval s=v) (hown:OwnB w base v l)
  (A:Option Addr) (m:List UInt8) (c:Nat) (hx:a.eval x=.slice A m.length c) (hsrc:Src w A m) (hlen:l.length+m.length≤140737488355328) (hbase:base≤w.heap.size)
  (h:∀ v' w',OwnB w' base v' (l++m)→w.grownBy w' v.ownBlock→wpList Tryz.prog ops Q rest (a.put o.dst v') w'):wpList Tryz.prog ops Q (o::rest) a w:=by
 refine wpList_plain hgd λK hK=>?_
 obtain ⟨v',w',hrun,h2,h3⟩:=run_append_bytes w base v l m hown A c hsrc hlen hbase o.type
 unfold Oper.wp execOp
 simp only [ho,resolve,invoke,builtin,Sem.run_bind,Sem.run_pure,Result.andThen_ok,List.map_toArray,List.map_cons,List.map_nil,hs,hx,hrun]
 exact hK _ _ (h v' w' h2 h3)
end
end
section
section
open Go.RowKit Go.Lib
theorem rightR_any (w : World) (x : Nat) (hx : x < (2^256)) : Calls Tryz.prog 172 #[G5, fv x] w fun e w' => e = .returned (.bool (decide (x < pM))) ∧ Below w.heap.size w w' := by
  obtain ⟨p,hp⟩:∃ p,p=115792089237316195423570985008687907853269984665640564039457584007908834671663:=⟨_,rfl⟩
  obtain ⟨b,hb⟩:=xE (decide (x<pM))
  have cb:∀ w,Calls Tryz.prog 111 #[fv x,fv p] w λe w'=>e=.returned (.bool b)∧Below w.heap.size w w':=by
    intro w; rw [hb,DQ, ← hp]; exact FT w x p U U hx om
  have hpc:fv p=.agg #[.int .u64 18446744069414583343,.int .u64 18446744073709551615,.int .u64 18446744073709551615,.int .u64 18446744073709551615]:=by rw [hp]; exact LZ
  obtain ⟨x0,x1,x2,x3,fx⟩:=Ad x hx
  have FX:=Lib.hid fx
  have FP:=Lib.hid hpc
  rw [fx, ← hb]
  unfold G5
  clear fx hpc hx hp hb
  go_enter Tryz.func172,Tryz.ntmps172
  go_wp2_with (first | ((with_reducible refine AD (d:=some 5) ?_); refine AB U _ _ U (w.heap.size+1) rfl (x) _ _ _ (AZ w _ _ _) (FX.out) AH U kZ ?_) | ((with_reducible refine AD (d:=some 7) ?_); refine BI U _ _ U w.heap.size U p [.int .u64 18446744069414583343,.int .u64 18446744073709551615,.int .u64 18446744073709551615,.int .u64 18446744073709551615] _ (CV ((Blk.new w _ _).alloc _)) FP.out AH U kZ ?_))
  refine (cb _).mono ?_
  rintro e w1 ⟨rfl,k1⟩
  go_wp2
  go_ret
  exact ⟨rfl,Below.gr (Ab w _ _) k1⟩
theorem PP (a r s : Nat) (hs : s ≤ 56) : (a + 18446744073709551616 * r) / 2 ^ s % 256 = a / 2 ^ s % 256 := by
  obtain ⟨u,hu⟩:∃ u,2 ^ s*(256*u)=18446744073709551616:=by
    refine ⟨2 ^ (56 - s),?_⟩
    have:2 ^ s*2 ^ (56 - s)=2 ^ 56:=by rw [← Nat.pow_add]; congr 1; omega
    rw [show (256:Nat)*2 ^ (56 - s)=2 ^ (56 - s)*256 from Nat.mul_comm _ _, ← Nat.mul_assoc,this]
  rw [← hu,Nat.mul_assoc,Nat.add_mul_div_left _ _ (Nat.two_pow_pos s),Nat.mul_assoc,Nat.add_mul_mod_self_left]
theorem Dn (z i s w r:Nat) (hz:z / 2 ^ (64*i)=w+18446744073709551616*r) (hs:s≤56):z / 2 ^ (64*i+s)%256=w / 2 ^ s%256:=by
  rw [Nat.pow_add, ← Nat.div_div_eq_div_mul,hz,PP w r s hs]
theorem J' (z : Nat) : ∀ (k j : Nat), j < k → (EA z k)[j]? = some (B8 z (k - 1 - j))
  | 0,j,h=>by omega
  | k+1,0,_=>by simp [EA]
  | k+1,j+1,h=>by
    rw [EA,List.getElem?_cons_succ,J' z k j om]
    congr 2
    omega
theorem Dm (z n:Nat) (h:n<32):(AY z).take n++[B8 z (31 - n)]=(AY z).take (n+1):=by
  rw [List.take_add_one,AY,J' z 32 n h]
  rfl
theorem Lp (w : World) (z : Nat) (hz : z < (2^256)) : Calls Tryz.prog 108 #[fv z] w fun e w' => ∃ g cap, e = .returned (.slice (some ⟨g, 0, none⟩) 32 cap) ∧ OwnB w' (w.heap.size + 1) (.slice (some ⟨g, 0, none⟩) 32 cap) (AY z) ∧ g < w'.heap.size ∧ Below w.heap.size w w' := by
  obtain ⟨z0,z1,z2,z3,a0,a1,a2,a3,ez,fz⟩:=Am z hz
  have s0:=λs hs=>Dn z 0 s z0 (z1+18446744073709551616*z2+340282366920938463463374607431768211456*z3) om hs
  have s1:=λs hs=>Dn z 1 s z1 (z2+18446744073709551616*z3) om hs
  have s2:=λs hs=>Dn z 2 s z2 z3 om hs
  have s3:=λs hs=>Dn z 3 s z3 0 om hs
  have HS:=Lib.hid (And.intro s0 (And.intro s1 (And.intro s2 s3)))
  rw [fz]
  clear ez fz hz a0 a1 a2 a3 s0 s1 s2 s3
  go_enter Tryz.func108,Tryz.ntmps108
  go_wp2_with fail
  go_loopw [3,4] (λv i wr=>Below w.heap.size w wr∧Blk wr w.heap.size 90 #[.int .u64 (z0:Int),.int .u64 (z1:Int),.int .u64 (z2:Int),.int .u64 (z3:Int)]∧Hid ((i=.int .i64 3∧OwnB wr (w.heap.size+1) v ((AY z).take 0))∨(i=.int .i64 2∧OwnB wr (w.heap.size+1) v ((AY z).take 8))∨(i=.int .i64 1∧OwnB wr (w.heap.size+1) v ((AY z).take 16))∨(i=.int .i64 0∧OwnB wr (w.heap.size+1) v ((AY z).take 24))∨(i=.int .i64 (-1)∧OwnB wr (w.heap.size+1) v ((AY z).take 32)))) (λ_ i _=>(intOf i+1).toNat)
  case atStart=>exact ⟨(Below.refl _ _).alloc (Nat.le_refl _) _,Blk.new w _ _,Lib.hid (.inl ⟨rfl,OwnB.nil _ _⟩)⟩
  case round =>
    obtain ⟨hb,BZ,HI⟩:=hrel
    rcases HI.out with ⟨rfl,hown⟩ | ⟨rfl,hown⟩ | ⟨rfl,hown⟩ | ⟨rfl,hown⟩ | ⟨rfl,hown⟩
    · clear HI
      go_wp2_with fail
      go_loopw [3,5] (λv s wr=>∃ t:Nat,t≤8∧s=.int .i64 (56 - 8*(t:Int))∧Below w.heap.size w wr∧Blk wr w.heap.size 90 #[.int .u64 (z0:Int),.int .u64 (z1:Int),.int .u64 (z2:Int),.int .u64 (z3:Int)]∧OwnB wr (w.heap.size+1) v ((AY z).take (0+t))) (λ_ s _=>(intOf s+8).toNat)
      case atStart=>exact ⟨0,by omega,rfl,hb,BZ,hown⟩
      case round =>
        clear hb BZ hown
        obtain ⟨t,ht,rfl,hb,BZ,hown⟩:=hrel
        by_cases hlt:t<8
        · obtain ⟨s, hs⟩ : ∃ s, s = 56 - 8 * t := ⟨_, rfl⟩
          have hs1:(56 - 8*(t:Int))=(s:Int):=om
          obtain ⟨x,hx⟩:=xE (B8 z (31 - (0+t)))
          have hxe:(z3:Int) / 2 ^ s%256=(x.toNat:Int):=by
            have h:=HS.out.2.2.2 s om
            have e:8*(31 - (0+t))=64*3+s:=om
            rw [hx,B8,UInt8.toNat_ofNat',e,h]
            have:((z3:Int) / 2 ^ s%256)=((z3 / 2 ^ s%256:Nat):Int):=by push_cast; rfl
            rw [this]
            omega
          have hlen:((AY z).take (0+t)).length≤32:=by rw [List.length_take,AQ]; omega
          have HX:=Lib.hid (And.intro hx (And.intro hxe hlen))
          have pc:wr.cell? ⟨w.heap.size,3,none⟩=some (.int .u64 (z3:Int)):=BZ.cell 3
          have hsl:s≤56:=om
          have HT:=Lib.hid hs
          have lz:=BZ.lt
          rw [hs1]
          clear hx hxe hlen hs
          go_wp2_with (at_builtin
                       refine wpList_append_bytes U (.tmp 14) (.tmp 21) rfl (w.heap.size+1) _ ((AY z).take (0+t)) U (hown.alloc _) (some ⟨wr.heap.size,0,none⟩) [x] 1 U (Src.of_blk (Blk.eq_ (Blk.new wr 5 _) (by rw [HX.out.2.1]; rfl))) (by have:=HX.out.2.2; simp only [List.length_singleton]; omega) (by simp <;> omega) ?_
                       intro v3 w3 hv3 hg3
                       have hb3:=below_own (hb.alloc om _) (hown.alloc _) hg3 (Nat.le_succ _) (by simp <;> omega)
                       have BZ3:=Blk.grown (BZ.alloc _) hg3 (λe=>by have:=(World.ownsRow.lt hown _ e.symm).1; omega)
                       rw [HX.out.1,Dm z (0+t) om] at hv3)
          go_roundw
          case rel=>exact ⟨t+1,by omega,by congr 1; omega,hb3,BZ3,hv3⟩
          case measure=>simp [intOf]; omega
        · obtain rfl:t=8:=om
          go_wp2
          refine ⟨⟨hb,BZ,Lib.hid (.inr (.inl (⟨rfl,hown⟩)))⟩,by decide⟩
    · clear HI
      go_wp2_with fail
      go_loopw [3,5] (λv s wr=>∃ t:Nat,t≤8∧s=.int .i64 (56 - 8*(t:Int))∧Below w.heap.size w wr∧Blk wr w.heap.size 90 #[.int .u64 (z0:Int),.int .u64 (z1:Int),.int .u64 (z2:Int),.int .u64 (z3:Int)]∧OwnB wr (w.heap.size+1) v ((AY z).take (8+t))) (λ_ s _=>(intOf s+8).toNat)
      case atStart=>exact ⟨0,by omega,rfl,hb,BZ,hown⟩
      case round =>
        clear hb BZ hown
        obtain ⟨t,ht,rfl,hb,BZ,hown⟩:=hrel
        by_cases hlt:t<8
        · obtain ⟨s, hs⟩ : ∃ s, s = 56 - 8 * t := ⟨_, rfl⟩
          have hs1:(56 - 8*(t:Int))=(s:Int):=om
          obtain ⟨x,hx⟩:=xE (B8 z (31 - (8+t)))
          have hxe:(z2:Int) / 2 ^ s%256=(x.toNat:Int):=by
            have h:=HS.out.2.2.1 s om
            have e:8*(31 - (8+t))=64*2+s:=om
            rw [hx,B8,UInt8.toNat_ofNat',e,h]
            have:((z2:Int) / 2 ^ s%256)=((z2 / 2 ^ s%256:Nat):Int):=by push_cast; rfl
            rw [this]
            omega
          have hlen:((AY z).take (8+t)).length≤32:=by rw [List.length_take,AQ]; omega
          have HX:=Lib.hid (And.intro hx (And.intro hxe hlen))
          have pc:wr.cell? ⟨w.heap.size,2,none⟩=some (.int .u64 (z2:Int)):=BZ.cell 2
          have hsl:s≤56:=om
          have HT:=Lib.hid hs
          have lz:=BZ.lt
          rw [hs1]
          clear hx hxe hlen hs
          go_wp2_with (at_builtin
                       refine wpList_append_bytes U (.tmp 14) (.tmp 21) rfl (w.heap.size+1) _ ((AY z).take (8+t)) U (hown.alloc _) (some ⟨wr.heap.size,0,none⟩) [x] 1 U (Src.of_blk (Blk.eq_ (Blk.new wr 5 _) (by rw [HX.out.2.1]; rfl))) (by have:=HX.out.2.2; simp only [List.length_singleton]; omega) (by simp <;> omega) ?_
                       intro v3 w3 hv3 hg3
                       have hb3:=below_own (hb.alloc om _) (hown.alloc _) hg3 (Nat.le_succ _) (by simp <;> omega)
                       have BZ3:=Blk.grown (BZ.alloc _) hg3 (λe=>by have:=(World.ownsRow.lt hown _ e.symm).1; omega)
                       rw [HX.out.1,Dm z (8+t) om] at hv3)
          go_roundw
          case rel=>exact ⟨t+1,by omega,by congr 1; omega,hb3,BZ3,hv3⟩
          case measure=>simp [intOf]; omega
        · obtain rfl:t=8:=om
          go_wp2
          refine ⟨⟨hb,BZ,Lib.hid (.inr (.inr (.inl (⟨rfl,hown⟩))))⟩,by decide⟩
    · clear HI
      go_wp2_with fail
      go_loopw [3,5] (λv s wr=>∃ t:Nat,t≤8∧s=.int .i64 (56 - 8*(t:Int))∧Below w.heap.size w wr∧Blk wr w.heap.size 90 #[.int .u64 (z0:Int),.int .u64 (z1:Int),.int .u64 (z2:Int),.int .u64 (z3:Int)]∧OwnB wr (w.heap.size+1) v ((AY z).take (16+t))) (λ_ s _=>(intOf s+8).toNat)
      case atStart=>exact ⟨0,by omega,rfl,hb,BZ,hown⟩
      case round =>
        clear hb BZ hown
        obtain ⟨t,ht,rfl,hb,BZ,hown⟩:=hrel
        by_cases hlt:t<8
        · obtain ⟨s, hs⟩ : ∃ s, s = 56 - 8 * t := ⟨_, rfl⟩
          have hs1:(56 - 8*(t:Int))=(s:Int):=om
          obtain ⟨x,hx⟩:=xE (B8 z (31 - (16+t)))
          have hxe:(z1:Int) / 2 ^ s%256=(x.toNat:Int):=by
            have h:=HS.out.2.1 s om
            have e:8*(31 - (16+t))=64*1+s:=om
            rw [hx,B8,UInt8.toNat_ofNat',e,h]
            have:((z1:Int) / 2 ^ s%256)=((z1 / 2 ^ s%256:Nat):Int):=by push_cast; rfl
            rw [this]
            omega
          have hlen:((AY z).take (16+t)).length≤32:=by rw [List.length_take,AQ]; omega
          have HX:=Lib.hid (And.intro hx (And.intro hxe hlen))
          have pc:wr.cell? ⟨w.heap.size,1,none⟩=some (.int .u64 (z1:Int)):=BZ.cell 1
          have hsl:s≤56:=om
          have HT:=Lib.hid hs
          have lz:=BZ.lt
          rw [hs1]
          clear hx hxe hlen hs
          go_wp2_with (at_builtin
                       refine wpList_append_bytes U (.tmp 14) (.tmp 21) rfl (w.heap.size+1) _ ((AY z).take (16+t)) U (hown.alloc _) (some ⟨wr.heap.size,0,none⟩) [x] 1 U (Src.of_blk (Blk.eq_ (Blk.new wr 5 _) (by rw [HX.out.2.1]; rfl))) (by have:=HX.out.2.2; simp only [List.length_singleton]; omega) (by simp <;> omega) ?_
                       intro v3 w3 hv3 hg3
                       have hb3:=below_own (hb.alloc om _) (hown.alloc _) hg3 (Nat.le_succ _) (by simp <;> omega)
                       have BZ3:=Blk.grown (BZ.alloc _) hg3 (λe=>by have:=(World.ownsRow.lt hown _ e.symm).1; omega)
                       rw [HX.out.1,Dm z (16+t) om] at hv3)
          go_roundw
          case rel=>exact ⟨t+1,by omega,by congr 1; omega,hb3,BZ3,hv3⟩
          case measure=>simp [intOf]; omega
        · obtain rfl:t=8:=om
          go_wp2
          refine ⟨⟨hb,BZ,Lib.hid (.inr (.inr (.inr (.inl (⟨rfl,hown⟩)))))⟩,by decide⟩
    · clear HI
      go_wp2_with fail
      go_loopw [3,5] (λv s wr=>∃ t:Nat,t≤8∧s=.int .i64 (56 - 8*(t:Int))∧Below w.heap.size w wr∧Blk wr w.heap.size 90 #[.int .u64 (z0:Int),.int .u64 (z1:Int),.int .u64 (z2:Int),.int .u64 (z3:Int)]∧OwnB wr (w.heap.size+1) v ((AY z).take (24+t))) (λ_ s _=>(intOf s+8).toNat)
      case atStart=>exact ⟨0,by omega,rfl,hb,BZ,hown⟩
      case round =>
        clear hb BZ hown
        obtain ⟨t,ht,rfl,hb,BZ,hown⟩:=hrel
        by_cases hlt:t<8
        · obtain ⟨s, hs⟩ : ∃ s, s = 56 - 8 * t := ⟨_, rfl⟩
          have hs1:(56 - 8*(t:Int))=(s:Int):=om
          obtain ⟨x,hx⟩:=xE (B8 z (31 - (24+t)))
          have hxe:(z0:Int) / 2 ^ s%256=(x.toNat:Int):=by
            have h:=HS.out.1 s om
            have e:8*(31 - (24+t))=64*0+s:=om
            rw [hx,B8,UInt8.toNat_ofNat',e,h]
            have:((z0:Int) / 2 ^ s%256)=((z0 / 2 ^ s%256:Nat):Int):=by push_cast; rfl
            rw [this]
            omega
          have hlen:((AY z).take (24+t)).length≤32:=by rw [List.length_take,AQ]; omega
          have HX:=Lib.hid (And.intro hx (And.intro hxe hlen))
          have pc:wr.cell? ⟨w.heap.size,0,none⟩=some (.int .u64 (z0:Int)):=BZ.cell 0
          have hsl:s≤56:=om
          have HT:=Lib.hid hs
          have lz:=BZ.lt
          rw [hs1]
          clear hx hxe hlen hs
          go_wp2_with (at_builtin
                       refine wpList_append_bytes U (.tmp 14) (.tmp 21) rfl (w.heap.size+1) _ ((AY z).take (24+t)) U (hown.alloc _) (some ⟨wr.heap.size,0,none⟩) [x] 1 U (Src.of_blk (Blk.eq_ (Blk.new wr 5 _) (by rw [HX.out.2.1]; rfl))) (by have:=HX.out.2.2; simp only [List.length_singleton]; omega) (by simp <;> omega) ?_
                       intro v3 w3 hv3 hg3
                       have hb3:=below_own (hb.alloc om _) (hown.alloc _) hg3 (Nat.le_succ _) (by simp <;> omega)
                       have BZ3:=Blk.grown (BZ.alloc _) hg3 (λe=>by have:=(World.ownsRow.lt hown _ e.symm).1; omega)
                       rw [HX.out.1,Dm z (24+t) om] at hv3)
          go_roundw
          case rel=>exact ⟨t+1,by omega,by congr 1; omega,hb3,BZ3,hv3⟩
          case measure=>simp [intOf]; omega
        · obtain rfl:t=8:=om
          go_wp2
          refine ⟨⟨hb,BZ,Lib.hid (.inr (.inr (.inr (.inr (⟨rfl,hown⟩)))))⟩,by decide⟩
    · clear HI
      rw [List.take_of_length_le (by rw [AQ]; exact Nat.le_refl _)] at hown
      obtain ⟨g,n,cap,rfl,hn,_,hl⟩:=hown.form' (by rw [AQ]; omega)
      have hn32:n=32:=by rw [hn.out,AQ]
      subst hn32
      go_wp2
      go_ret
      exact ⟨g,cap,rfl,hown,hl,hb⟩
end
end
end Go.Proofs.YtbjmjcpdonochaaGreatDoor
