/-
  Texts of ours, put together: ScLow, CrvP, CrvQ, EcW, CrvR, CrvS, CrvT, CrvU, ScBase, ScOps, SigA, ScEq, ScB32, SigB, SymX, SigC, SymV.
-/
import Derived.Test.YtgggdbjakcpanabGreatDoorSX4
set_option linter.unusedVariables false
set_option linter.unusedSimpArgs false
namespace Go.Proofs.YtgggdbjakcpanabGreatDoor
section
namespace Sc
open Go.RowKit Go.Lib
theorem order_any (w:World):Calls Tryz.prog 53 #[] w λe w'=>e=.returned (fv 115792089237316195423570985008687907852837564279074904382605163141518161494337)∧Below w.heap.size w w':=by
 go_enter Tryz.func53,Tryz.ntmps53
 go_wp2
 exact bodyPost_ret (results_cell_row rfl _ _ w.heap.size _ _ (0,0) _ rfl (heap_alloc_new w _) Tryz.underlying30 rfl (by kernel_rfl)) rfl ⟨rfl,(Below.refl _ _).alloc (Nat.le_refl _) _⟩
set_option maxHeartbeats 8000000 in
set_option maxRecDepth 100000 in
theorem minus_any (w:World) (x y:Nat) (hx:x<(2^256)) (hy:y<(2^256)):Calls Tryz.prog 52 #[fv x,fv y] w λe w'=>(∃ s k:Nat,s<(2^256)∧k≤1∧s+y=x+(2^256)*k∧e=.returned (.tuple #[fv s,.int .u64 (k:Int)]))∧Below w.heap.size w w':=by
 obtain ⟨x0,x1,x2,x3,a0,a1,a2,a3,ex,fx⟩:=words_of x hx
 obtain ⟨y0,y1,y2,y3,b0,b1,b2,b3,ey,fy⟩:=words_of y hy
 rw [fx,fy]
 obtain ⟨s0,c0,d0,k0,e0,r0⟩:=sub0_ex x0 y0 a0 b0
 obtain ⟨s1,c1,d1,k1,e1,r1⟩:=subc_ex x1 y1 c0 a1 b1 k0
 obtain ⟨s2,c2,d2,k2,e2,r2⟩:=subc_ex x2 y2 c1 a2 b2 k1
 obtain ⟨s3,c3,d3,k3,e3,r3⟩:=subc_ex x3 y3 c2 a3 b3 k2
 have fin:s0+18446744073709551616*s1+340282366920938463463374607431768211456*s2+6277101735386680763835789423207666416102355444464034512896*s3+y=x+(2^256)*c3:=by omega
 have hs:=Lib.hid (fv_mk s0 s1 s2 s3 d0 d1 d2 d3)
 have hlt:=Lib.hid (fv_lt s0 s1 s2 s3 d0 d1 d2 d3)
 have HF:=Lib.hid fin
 have HK:=Lib.hid k3
 clear ex ey fx fy e0 e1 e2 e3 a0 a1 a2 a3 b0 b1 b2 b3 d0 d1 d2 d3 k0 k1 k2 k3 fin hx hy
 go_enter Tryz.func52,Tryz.ntmps52
 go_wp2_with fail
 go_loopw [5,7] (λbo i wr=>Below w.heap.size w wr∧Blk wr w.heap.size 30 #[.int .u64 (x0:Int),.int .u64 (x1:Int),.int .u64 (x2:Int),.int .u64 (x3:Int)]∧Blk wr (w.heap.size+1) 30 #[.int .u64 (y0:Int),.int .u64 (y1:Int),.int .u64 (y2:Int),.int .u64 (y3:Int)]∧Hid ((i=.int .i64 0∧bo=.int .u64 0∧Blk wr (w.heap.size+2) 30 #[.int .u64 0,.int .u64 0,.int .u64 0,.int .u64 0])∨(i=.int .i64 1∧bo=.int .u64 (c0:Int)∧Blk wr (w.heap.size+2) 30 #[.int .u64 (s0:Int),.int .u64 0,.int .u64 0,.int .u64 0])∨(i=.int .i64 2∧bo=.int .u64 (c1:Int)∧Blk wr (w.heap.size+2) 30 #[.int .u64 (s0:Int),.int .u64 (s1:Int),.int .u64 0,.int .u64 0])∨(i=.int .i64 3∧bo=.int .u64 (c2:Int)∧Blk wr (w.heap.size+2) 30 #[.int .u64 (s0:Int),.int .u64 (s1:Int),.int .u64 (s2:Int),.int .u64 0])∨(i=.int .i64 4∧bo=.int .u64 (c3:Int)∧Blk wr (w.heap.size+2) 30 #[.int .u64 (s0:Int),.int .u64 (s1:Int),.int .u64 (s2:Int),.int .u64 (s3:Int)]))) (λ_ i _=>4 - (RowKit.intOf i).toNat)
 case atStart=>exact ⟨below_alloc3 w _ _ _,((Blk.new w _ _).alloc _).alloc _,(blk_new2 w _ _ _).alloc _,Lib.hid (.inl ⟨rfl,rfl,blk_new3 w _ _ _ _⟩)⟩
 case round =>
  obtain ⟨hb,BX,BY,HI⟩:=hrel
  have lX:=BX.lt
  have lY:=BY.lt
  rcases HI.out with ⟨rfl,rfl,BW⟩ | ⟨rfl,rfl,BW⟩ | ⟨rfl,rfl,BW⟩ | ⟨rfl,rfl,BW⟩ | ⟨rfl,rfl,BW⟩
  ·clear HI
   have px:wr.cell? ⟨w.heap.size,0,none⟩=some (.int .u64 (x0:Int)):=BX.cell 0
   have py:wr.cell? ⟨w.heap.size+1,0,none⟩=some (.int .u64 (y0:Int)):=BY.cell 0
   go_wp2
   refine wp_region_G (λj=>j == 13) (by kernel_rfl) ?_
   try simp only [Act.put]
   refine tk 0 rfl ?_
   try simp only [Act.put,aA,aZ,aS]
   refine tk 1 rfl ?_
   try simp only [Act.put,aA,aZ,aS]
   refine tk 2 rfl ?_
   try simp only [Act.put,aA,aZ,aS]
   refine tkw 3 rfl (YieldsG.pure (v:=.int .u64 (x0:Int)) (by rfl) (λw9 h9=>by have hz:=(Below.cell (p:=⟨w.heap.size,0,none⟩) h9 lX).trans px; go_simp; first | done | simp [hz])) ?_
   try simp only [Act.put,aA,aZ,aS]
   refine tk 4 rfl ?_
   try simp only [Act.put,aA,aZ,aS]
   refine tk 5 rfl ?_
   try simp only [Act.put,aA,aZ,aS]
   refine tkw 6 rfl (YieldsG.pure (v:=.int .u64 (y0:Int)) (by rfl) (λw9 h9=>by have hz:=(Below.cell (p:=⟨w.heap.size+1,0,none⟩) h9 lY).trans py; go_simp; first | done | simp [hz])) ?_
   try simp only [Act.put,aA,aZ,aS]
   refine tk 7 rfl ?_
   try simp only [Act.put,aA,aZ,aS]
   refine tkw 8 rfl (YieldsG.pure (v:=.tuple #[.int .u64 (s0:Int),.int .u64 (c0:Int)]) (by rfl) (λw9 h9=>by go_simp)) ?_
   try simp only [Act.put,aA,aZ,aS]
   refine tk 9 rfl ?_
   try simp only [Act.put,aA,aZ,aS]
   refine tk 10 rfl ?_
   try simp only [Act.put,aA,aZ,aS]
   refine wpAnyG_takeA 11 rfl (by kernel_rfl) (λ_ _ _ h=>h) (λ_=>YieldsG.pure (by rfl) (λw9 _=>by go_simp; try with_reducible rfl)) ?_
   try simp only [Act.put,aA,aZ,aS]
   refine tk 12 rfl ?_
   try simp only [Act.put,aA,aZ,aS]
   refine wpAnyG_sole 13 rfl (by kernel_rfl) (by rfl) (λu hu K hK=>?_)
   have BX:=Gr.blk hu BX
   have BY:=Gr.blk hu BY
   have BW:=Gr.blk hu BW
   have hb:=Below.gr hb hu
   have pc:u.cell? ⟨w.heap.size+2,0,none⟩=some (.int .u64 0):=BW.cell 0
   have pf:=BW.frozen 0
   clear hu px py
   go_simp
   refine hK _ _ (λe=>by cases e) ?_
   clear hK K
   have hb:=hb.setCell (p:=⟨w.heap.size+2,0,none⟩) (by show w.heap.size≤w.heap.size+2; omega) (.int .u64 (s0:Int))
   have BX:=BX.far (p:=⟨w.heap.size+2,0,none⟩) (by show w.heap.size≠w.heap.size+2; omega) (.int .u64 (s0:Int))
   have BY:=BY.far (p:=⟨w.heap.size+2,0,none⟩) (by show w.heap.size+1≠w.heap.size+2; omega) (.int .u64 (s0:Int))
   have BW:=BW.set_ 0 (.int .u64 (s0:Int))
   refine wpAnyG_takeA 14 rfl (by kernel_rfl) (λ_ _ _ h=>h) (λ_=>YieldsG.pure (by rfl) (λw9 _=>by go_simp; try with_reducible rfl)) ?_
   try simp only [Act.put,aA,aZ,aS]
   refine wpAnyG_done (by kernel_rfl) (λv hv=>?_)
   have hb:=Below.gr hb hv
   have BX:=Gr.blk hv BX
   have BY:=Gr.blk hv BY
   have BW:=Gr.blk hv BW
   clear hv pc pf
   go_wp2
   refine ⟨⟨hb,BX,BY,Lib.hid (.inr (.inl (⟨rfl,rfl,BW⟩)))⟩,by decide⟩
  ·clear HI
   have px:wr.cell? ⟨w.heap.size,1,none⟩=some (.int .u64 (x1:Int)):=BX.cell 1
   have py:wr.cell? ⟨w.heap.size+1,1,none⟩=some (.int .u64 (y1:Int)):=BY.cell 1
   go_wp2
   refine wp_region_G (λj=>j == 13) (by kernel_rfl) ?_
   try simp only [Act.put]
   refine tk 0 rfl ?_
   try simp only [Act.put,aA,aZ,aS]
   refine tk 1 rfl ?_
   try simp only [Act.put,aA,aZ,aS]
   refine tk 2 rfl ?_
   try simp only [Act.put,aA,aZ,aS]
   refine tkw 3 rfl (YieldsG.pure (v:=.int .u64 (x1:Int)) (by rfl) (λw9 h9=>by have hz:=(Below.cell (p:=⟨w.heap.size,1,none⟩) h9 lX).trans px; go_simp; first | done | simp [hz])) ?_
   try simp only [Act.put,aA,aZ,aS]
   refine tk 4 rfl ?_
   try simp only [Act.put,aA,aZ,aS]
   refine tk 5 rfl ?_
   try simp only [Act.put,aA,aZ,aS]
   refine tkw 6 rfl (YieldsG.pure (v:=.int .u64 (y1:Int)) (by rfl) (λw9 h9=>by have hz:=(Below.cell (p:=⟨w.heap.size+1,1,none⟩) h9 lY).trans py; go_simp; first | done | simp [hz])) ?_
   try simp only [Act.put,aA,aZ,aS]
   refine tk 7 rfl ?_
   try simp only [Act.put,aA,aZ,aS]
   refine tkw 8 rfl (YieldsG.pure (v:=.tuple #[.int .u64 (s1:Int),.int .u64 (c1:Int)]) (by rfl) (λw9 h9=>by go_simp)) ?_
   try simp only [Act.put,aA,aZ,aS]
   refine tk 9 rfl ?_
   try simp only [Act.put,aA,aZ,aS]
   refine tk 10 rfl ?_
   try simp only [Act.put,aA,aZ,aS]
   refine wpAnyG_takeA 11 rfl (by kernel_rfl) (λ_ _ _ h=>h) (λ_=>YieldsG.pure (by rfl) (λw9 _=>by go_simp; try with_reducible rfl)) ?_
   try simp only [Act.put,aA,aZ,aS]
   refine tk 12 rfl ?_
   try simp only [Act.put,aA,aZ,aS]
   refine wpAnyG_sole 13 rfl (by kernel_rfl) (by rfl) (λu hu K hK=>?_)
   have BX:=Gr.blk hu BX
   have BY:=Gr.blk hu BY
   have BW:=Gr.blk hu BW
   have hb:=Below.gr hb hu
   have pc:u.cell? ⟨w.heap.size+2,1,none⟩=some (.int .u64 0):=BW.cell 1
   have pf:=BW.frozen 1
   clear hu px py
   go_simp
   refine hK _ _ (λe=>by cases e) ?_
   clear hK K
   have hb:=hb.setCell (p:=⟨w.heap.size+2,1,none⟩) (by show w.heap.size≤w.heap.size+2; omega) (.int .u64 (s1:Int))
   have BX:=BX.far (p:=⟨w.heap.size+2,1,none⟩) (by show w.heap.size≠w.heap.size+2; omega) (.int .u64 (s1:Int))
   have BY:=BY.far (p:=⟨w.heap.size+2,1,none⟩) (by show w.heap.size+1≠w.heap.size+2; omega) (.int .u64 (s1:Int))
   have BW:=BW.set_ 1 (.int .u64 (s1:Int))
   refine wpAnyG_takeA 14 rfl (by kernel_rfl) (λ_ _ _ h=>h) (λ_=>YieldsG.pure (by rfl) (λw9 _=>by go_simp; try with_reducible rfl)) ?_
   try simp only [Act.put,aA,aZ,aS]
   refine wpAnyG_done (by kernel_rfl) (λv hv=>?_)
   have hb:=Below.gr hb hv
   have BX:=Gr.blk hv BX
   have BY:=Gr.blk hv BY
   have BW:=Gr.blk hv BW
   clear hv pc pf
   go_wp2
   refine ⟨⟨hb,BX,BY,Lib.hid (.inr (.inr (.inl (⟨rfl,rfl,BW⟩))))⟩,by decide⟩
  ·clear HI
   have px:wr.cell? ⟨w.heap.size,2,none⟩=some (.int .u64 (x2:Int)):=BX.cell 2
   have py:wr.cell? ⟨w.heap.size+1,2,none⟩=some (.int .u64 (y2:Int)):=BY.cell 2
   go_wp2
   refine wp_region_G (λj=>j == 13) (by kernel_rfl) ?_
   try simp only [Act.put]
   refine tk 0 rfl ?_
   try simp only [Act.put,aA,aZ,aS]
   refine tk 1 rfl ?_
   try simp only [Act.put,aA,aZ,aS]
   refine tk 2 rfl ?_
   try simp only [Act.put,aA,aZ,aS]
   refine tkw 3 rfl (YieldsG.pure (v:=.int .u64 (x2:Int)) (by rfl) (λw9 h9=>by have hz:=(Below.cell (p:=⟨w.heap.size,2,none⟩) h9 lX).trans px; go_simp; first | done | simp [hz])) ?_
   try simp only [Act.put,aA,aZ,aS]
   refine tk 4 rfl ?_
   try simp only [Act.put,aA,aZ,aS]
   refine tk 5 rfl ?_
   try simp only [Act.put,aA,aZ,aS]
   refine tkw 6 rfl (YieldsG.pure (v:=.int .u64 (y2:Int)) (by rfl) (λw9 h9=>by have hz:=(Below.cell (p:=⟨w.heap.size+1,2,none⟩) h9 lY).trans py; go_simp; first | done | simp [hz])) ?_
   try simp only [Act.put,aA,aZ,aS]
   refine tk 7 rfl ?_
   try simp only [Act.put,aA,aZ,aS]
   refine tkw 8 rfl (YieldsG.pure (v:=.tuple #[.int .u64 (s2:Int),.int .u64 (c2:Int)]) (by rfl) (λw9 h9=>by go_simp)) ?_
   try simp only [Act.put,aA,aZ,aS]
   refine tk 9 rfl ?_
   try simp only [Act.put,aA,aZ,aS]
   refine tk 10 rfl ?_
   try simp only [Act.put,aA,aZ,aS]
   refine wpAnyG_takeA 11 rfl (by kernel_rfl) (λ_ _ _ h=>h) (λ_=>YieldsG.pure (by rfl) (λw9 _=>by go_simp; try with_reducible rfl)) ?_
   try simp only [Act.put,aA,aZ,aS]
   refine tk 12 rfl ?_
   try simp only [Act.put,aA,aZ,aS]
   refine wpAnyG_sole 13 rfl (by kernel_rfl) (by rfl) (λu hu K hK=>?_)
   have BX:=Gr.blk hu BX
   have BY:=Gr.blk hu BY
   have BW:=Gr.blk hu BW
   have hb:=Below.gr hb hu
   have pc:u.cell? ⟨w.heap.size+2,2,none⟩=some (.int .u64 0):=BW.cell 2
   have pf:=BW.frozen 2
   clear hu px py
   go_simp
   refine hK _ _ (λe=>by cases e) ?_
   clear hK K
   have hb:=hb.setCell (p:=⟨w.heap.size+2,2,none⟩) (by show w.heap.size≤w.heap.size+2; omega) (.int .u64 (s2:Int))
   have BX:=BX.far (p:=⟨w.heap.size+2,2,none⟩) (by show w.heap.size≠w.heap.size+2; omega) (.int .u64 (s2:Int))
   have BY:=BY.far (p:=⟨w.heap.size+2,2,none⟩) (by show w.heap.size+1≠w.heap.size+2; omega) (.int .u64 (s2:Int))
   have BW:=BW.set_ 2 (.int .u64 (s2:Int))
   refine wpAnyG_takeA 14 rfl (by kernel_rfl) (λ_ _ _ h=>h) (λ_=>YieldsG.pure (by rfl) (λw9 _=>by go_simp; try with_reducible rfl)) ?_
   try simp only [Act.put,aA,aZ,aS]
   refine wpAnyG_done (by kernel_rfl) (λv hv=>?_)
   have hb:=Below.gr hb hv
   have BX:=Gr.blk hv BX
   have BY:=Gr.blk hv BY
   have BW:=Gr.blk hv BW
   clear hv pc pf
   go_wp2
   refine ⟨⟨hb,BX,BY,Lib.hid (.inr (.inr (.inr (.inl (⟨rfl,rfl,BW⟩)))))⟩,by decide⟩
  ·clear HI
   have px:wr.cell? ⟨w.heap.size,3,none⟩=some (.int .u64 (x3:Int)):=BX.cell 3
   have py:wr.cell? ⟨w.heap.size+1,3,none⟩=some (.int .u64 (y3:Int)):=BY.cell 3
   go_wp2
   refine wp_region_G (λj=>j == 13) (by kernel_rfl) ?_
   try simp only [Act.put]
   refine tk 0 rfl ?_
   try simp only [Act.put,aA,aZ,aS]
   refine tk 1 rfl ?_
   try simp only [Act.put,aA,aZ,aS]
   refine tk 2 rfl ?_
   try simp only [Act.put,aA,aZ,aS]
   refine tkw 3 rfl (YieldsG.pure (v:=.int .u64 (x3:Int)) (by rfl) (λw9 h9=>by have hz:=(Below.cell (p:=⟨w.heap.size,3,none⟩) h9 lX).trans px; go_simp; first | done | simp [hz])) ?_
   try simp only [Act.put,aA,aZ,aS]
   refine tk 4 rfl ?_
   try simp only [Act.put,aA,aZ,aS]
   refine tk 5 rfl ?_
   try simp only [Act.put,aA,aZ,aS]
   refine tkw 6 rfl (YieldsG.pure (v:=.int .u64 (y3:Int)) (by rfl) (λw9 h9=>by have hz:=(Below.cell (p:=⟨w.heap.size+1,3,none⟩) h9 lY).trans py; go_simp; first | done | simp [hz])) ?_
   try simp only [Act.put,aA,aZ,aS]
   refine tk 7 rfl ?_
   try simp only [Act.put,aA,aZ,aS]
   refine tkw 8 rfl (YieldsG.pure (v:=.tuple #[.int .u64 (s3:Int),.int .u64 (c3:Int)]) (by rfl) (λw9 h9=>by go_simp)) ?_
   try simp only [Act.put,aA,aZ,aS]
   refine tk 9 rfl ?_
   try simp only [Act.put,aA,aZ,aS]
   refine tk 10 rfl ?_
   try simp only [Act.put,aA,aZ,aS]
   refine wpAnyG_takeA 11 rfl (by kernel_rfl) (λ_ _ _ h=>h) (λ_=>YieldsG.pure (by rfl) (λw9 _=>by go_simp; try with_reducible rfl)) ?_
   try simp only [Act.put,aA,aZ,aS]
   refine tk 12 rfl ?_
   try simp only [Act.put,aA,aZ,aS]
   refine wpAnyG_sole 13 rfl (by kernel_rfl) (by rfl) (λu hu K hK=>?_)
   have BX:=Gr.blk hu BX
   have BY:=Gr.blk hu BY
   have BW:=Gr.blk hu BW
   have hb:=Below.gr hb hu
   have pc:u.cell? ⟨w.heap.size+2,3,none⟩=some (.int .u64 0):=BW.cell 3
   have pf:=BW.frozen 3
   clear hu px py
   go_simp
   refine hK _ _ (λe=>by cases e) ?_
   clear hK K
   have hb:=hb.setCell (p:=⟨w.heap.size+2,3,none⟩) (by show w.heap.size≤w.heap.size+2; omega) (.int .u64 (s3:Int))
   have BX:=BX.far (p:=⟨w.heap.size+2,3,none⟩) (by show w.heap.size≠w.heap.size+2; omega) (.int .u64 (s3:Int))
   have BY:=BY.far (p:=⟨w.heap.size+2,3,none⟩) (by show w.heap.size+1≠w.heap.size+2; omega) (.int .u64 (s3:Int))
   have BW:=BW.set_ 3 (.int .u64 (s3:Int))
   refine wpAnyG_takeA 14 rfl (by kernel_rfl) (λ_ _ _ h=>h) (λ_=>YieldsG.pure (by rfl) (λw9 _=>by go_simp; try with_reducible rfl)) ?_
   try simp only [Act.put,aA,aZ,aS]
   refine wpAnyG_done (by kernel_rfl) (λv hv=>?_)
   have hb:=Below.gr hb hv
   have BX:=Gr.blk hv BX
   have BY:=Gr.blk hv BY
   have BW:=Gr.blk hv BW
   clear hv pc pf
   go_wp2
   refine ⟨⟨hb,BX,BY,Lib.hid (.inr (.inr (.inr (.inr (⟨rfl,rfl,BW⟩)))))⟩,by decide⟩
  ·clear HI
   obtain ⟨s,hsd⟩:∃ s,s=s0+18446744073709551616*s1+340282366920938463463374607431768211456*s2+6277101735386680763835789423207666416102355444464034512896*s3:=⟨_,rfl⟩
   have hf:=hs.out
   have hl:=hlt.out
   have hn:=HF.out
   rw [← hsd] at hf hl hn
   have BS:=BW.eq_ (fcs_words hf.symm).symm
   have HS:=Lib.hid (And.intro hl hn)
   clear hf hl hn hsd
   go_wp2_with (first | ((with_reducible refine here_load (d:=some 24) ?_); refine wpList_load_fv rfl _ _ rfl (w.heap.size+2) rfl (s) _ _ _ (BS) (fv_fcs s) Tryz.underlying30 rfl (by kernel_rfl) ?_) | ((with_reducible refine here_store ?_); refine wpList_store_blk rfl _ _ _ rfl (w.heap.size+2) (fcs (s)) rfl rfl _ _ (BS) (by kernel_rfl) (by rfl) (fcs_one _) ?_; intro w9 hL9 hB9 hK9))
   exact bodyPost_ret (res_cell_tmp rfl _ _ (w.heap.size+2) _ _ _ _ rfl hL9 rfl Tryz.underlying30 rfl (by kernel_rfl)) rfl ⟨⟨s,c3,HS.out.1,HK.out,HS.out.2,rfl⟩,hb.trans (hB9 _ (by omega))⟩
theorem minus_fv (w:World) (x y s k:Nat) (hx:x<(2^256)) (hy:y<(2^256)) (hs:s<(2^256)) (he:s+y=x+(2^256)*k) :
  Calls Tryz.prog 52 #[fv x,fv y] w λe w'=>e=.returned (.tuple #[fv s,.int .u64 (k:Int)])∧Below w.heap.size w w':=by
 refine (minus_any w x y hx hy).mono ?_
 rintro e w' ⟨⟨s',k',hs',hk',he',rfl⟩,hb⟩
 obtain rfl:k'=k:=by omega
 obtain rfl:s'=s:=by omega
 exact ⟨rfl,hb⟩
theorem order_at (w:World) (p:Nat) (hp:p=115792089237316195423570985008687907852837564279074904382605163141518161494337):Calls Tryz.prog 53 #[] w λe w'=>e=.returned (fv p)∧Below w.heap.size w w':=by
 subst hp; exact order_any w
set_option maxHeartbeats 2000000 in
set_option maxRecDepth 100000 in
theorem reduce_at (w:World) (x k z:Nat) (dk:Int) (hdk:dk=(k:Int)) (hx:x<(2^256)) (hk:k≤1) (h2:x+(2^256)*k<115792089237316195423570985008687907852837564279074904382605163141518161494337+115792089237316195423570985008687907852837564279074904382605163141518161494337) (hz:z=(x+(2^256)*k)%pM):Calls Tryz.prog 55 #[fv x,.int .u64 dk] w λe w'=>e=.returned (fv z)∧Below w.heap.size w w':=by
 subst hdk
 obtain ⟨p,hp⟩:∃ p,p=115792089237316195423570985008687907852837564279074904382605163141518161494337:=⟨_,rfl⟩
 rw [pM_eq, ← hp] at hz
 rw [← hp] at h2
 have hpl:p<(2^256):=by omega
 obtain ⟨s,b,hs,hb,he⟩:∃ s b:Nat,s<(2^256)∧b≤1∧s+p=x+(2^256)*b:=by
  by_cases h:p≤x
  ·exact ⟨x - p,0,by omega,by omega,by omega⟩
  ·exact ⟨x+(2^256) - p,1,by omega,by omega,by omega⟩
 have cm:=λw=>minus_fv w x p s b hx hpl hs he
 have co:=λw=>order_at w p hp
 have t1:b>k→z=x:=λh=>by
  obtain rfl:k=0:=by omega
  rw [hz,Nat.mod_eq_of_lt (by omega)]; omega
 have t2:¬ b>k→z=s:=λh=>by
  rw [hz,Nat.mod_eq_sub_mod (by omega),Nat.mod_eq_of_lt (by omega)]
  rcases (show k=0∨k=1 by omega) with rfl | rfl <;> omega
 obtain ⟨x0,x1,x2,x3,fx⟩:=words_fv x hx
 have FX:=Lib.hid fx
 rw [fx]
 clear fx hx hz hp h2 hpl hs hb he hk
 go_enter Tryz.func55,Tryz.ntmps55
 go_wp2
 refine wp_region_G (λj=>j == 7) (by kernel_rfl) ?_
 try simp only [Act.put]
 refine tkw 0 rfl (YieldsG.loadF (by rfl) _ _ rfl (w.heap.size) rfl (x) _ _ ((Blk.new w _ _).alloc _) (FX.out) Tryz.underlying30 rfl (by kernel_rfl)) ?_
 try simp only [Act.put,aA,aZ,aS]
 refine tkw 1 rfl (YieldsG.call (v:=fv p) (by rfl) 53 _ (λw9=>by go_simp; try (first | with_reducible rfl | rfl)) (λw9 h9=>co w9)) ?_
 try simp only [Act.put,aA,aZ,aS]
 refine tkw 2 rfl (YieldsG.call (v:=.tuple #[fv s,.int .u64 (b:Int)]) (by rfl) 52 _ (λw9=>by go_simp; try (first | with_reducible rfl | rfl)) (λw9 h9=>cm w9)) ?_
 try simp only [Act.put,aA,aZ,aS]
 refine tk 3 rfl ?_
 try simp only [Act.put,aA,aZ,aS]
 refine tk 4 rfl ?_
 try simp only [Act.put,aA,aZ,aS]
 refine wpAnyG_takeA 5 rfl (by kernel_rfl) (λ_ _ _ h=>h) (λ_=>YieldsG.pure (by rfl) (λw9 _=>by go_simp; try with_reducible rfl)) ?_
 try simp only [Act.put,aA,aZ,aS]
 refine wpAnyG_sole 6 rfl (by kernel_rfl) (by rfl) (λw3 h3 K hK=>?_)
 go_simp
 refine hK _ _ (λ_=>gr_alloc _ _) ?_
 clear hK K
 try simp only [Act.put,aA,aZ,aS]
 refine wpAnyG_store 7 rfl (by kernel_rfl) (by rfl) _ _ _ rfl (w3.heap.size) (fcs (s)) rfl rfl _ _ (Blk.new w3 _ _) (by kernel_rfl) (by rfl) (fcs_one _) rfl (λw6 h6 w7 hB7 hL7=>?_)
 try simp only [Act.put]
 refine wpAnyG_takeA 8 rfl (by kernel_rfl) (λ_ _ _ h=>h) (λ_=>YieldsG.pure (by rfl) (λw9 _=>by go_simp; try with_reducible rfl)) ?_
 try simp only [Act.put,aA,aZ,aS]
 refine wpAnyG_done (by kernel_rfl) (λw8 h8=>?_)
 have BS:=Gr.blk h8 hL7
 have hsz:w.heap.size+2≤w3.heap.size:=by have:=h3.size; simp at this; omega
 have BX:Blk w8 w.heap.size 30 _:=Gr.blk h8 (Blk.below (B:=w3.heap.size) (Gr.blk h6 (Blk.alloc (Gr.blk h3 ((Blk.new w _ _).alloc _)) _)) (hB7 _ (Nat.le_refl _)) (by omega))
 have BR:Blk w8 (w.heap.size+1) 30 _:=Gr.blk h8 (Blk.below (B:=w3.heap.size) (Gr.blk h6 (Blk.alloc (Gr.blk h3 (blk_new2 w _ _ _)) _)) (hB7 _ (Nat.le_refl _)) (by omega))
 have hB:Below w.heap.size w w8:=Below.gr ((Below.gr ((Below.gr (below_alloc2 w _ _) h3).alloc (by omega) _) h6).trans (hB7 _ (by omega))) h8
 clear h3 h6 hB7 hL7 h8 cm co
 by_cases hbk:b>k
 ·have HZ:=Lib.hid (t1 hbk)
  have p0:(b:Int)>(k:Int):=by omega
  clear t1 t2 hbk
  go_wp2_with (first | ((with_reducible refine here_load (d:=some 16) ?_); refine wpList_load_fv rfl _ _ rfl (w.heap.size) rfl (x) _ _ _ (BX) (FX.out) Tryz.underlying30 rfl (by kernel_rfl) ?_) | ((with_reducible refine here_store ?_); refine wpList_store_blk rfl _ _ _ rfl (w.heap.size+1) (fcs (x)) rfl rfl _ _ (BR) (by kernel_rfl) (by rfl) (fcs_one _) ?_; intro w9 hL9 hB9 hK9))
  exact bodyPost_ret (results_cell_row rfl _ _ (w.heap.size+1) _ _ (0,0) _ rfl hL9 Tryz.underlying30 rfl (by kernel_rfl)) rfl ⟨by rw [HZ.out]; rfl,hB.trans (hB9 _ (by omega))⟩
 ·have HZ:=Lib.hid (t2 hbk)
  have p0:¬ (b:Int)>(k:Int):=by omega
  clear t1 t2 hbk
  go_wp2_with (first | ((with_reducible refine here_load (d:=some 17) ?_); refine wpList_load_fv rfl _ _ rfl (w3.heap.size) rfl (s) _ _ _ (BS) (fv_fcs s) Tryz.underlying30 rfl (by kernel_rfl) ?_) | ((with_reducible refine here_store ?_); refine wpList_store_blk rfl _ _ _ rfl (w.heap.size+1) (fcs (s)) rfl rfl _ _ (BR) (by kernel_rfl) (by rfl) (fcs_one _) ?_; intro w9 hL9 hB9 hK9))
  exact bodyPost_ret (results_cell_row rfl _ _ (w.heap.size+1) _ _ (0,0) _ rfl hL9 Tryz.underlying30 rfl (by kernel_rfl)) rfl ⟨by rw [HZ.out]; rfl,hB.trans (hB9 _ (by omega))⟩
set_option maxHeartbeats 1000000 in
theorem norm_any (w:World) (x:Nat) (hx:x<(2^256)):Calls Tryz.prog 54 #[fv x] w λe w'=>e=.returned (fv (x%pM))∧Below w.heap.size w w':=by
 obtain ⟨z,hz⟩:∃ z,z=x%pM:=⟨_,rfl⟩
 have cr:=λw=>reduce_at w x 0 z 0 rfl hx (by omega) (by omega) (by rw [hz]; rfl)
 obtain ⟨x0,x1,x2,x3,fx⟩:=words_fv x hx
 have FX:=Lib.hid fx
 rw [fx] at cr ⊢
 rw [← hz]
 clear fx hx hz
 go_enter Tryz.func54,Tryz.ntmps54
 go_wp2_with fail
 refine (cr _).mono ?_
 rintro e w1 ⟨rfl,hb1⟩
 have hg:=Below.gr (below_alloc2 w _ _) hb1
 have hR:Blk w1 (w.heap.size+1) 30 _:=Gr.blk hb1 (blk_new2 w _ _ _)
 go_wp2_with (first | ((with_reducible refine here_store ?_); refine wpList_store_blk rfl _ _ _ rfl (w.heap.size+1) (fcs (z)) rfl rfl _ _ (hR) (by kernel_rfl) (by rfl) (fcs_one _) ?_; intro w4 hL hB4 hK4))
 exact bodyPost_ret (results_cell_row rfl _ _ (w.heap.size+1) _ _ (0,0) _ rfl hL Tryz.underlying30 rfl (by kernel_rfl)) rfl ⟨rfl,hg.trans (hB4 _ (by omega))⟩
set_option maxHeartbeats 8000000 in
set_option maxRecDepth 100000 in
theorem bytes_any (w:World) (x:Nat) (hx:x<(2^256)):Calls Tryz.prog 29 #[fv x] w λe w'=>e=.returned (.agg ((bytesS (x%pM)).map bv).toArray)∧Below w.heap.size w w':=by
 obtain ⟨z,hz⟩:∃ z,z=x%pM:=⟨_,rfl⟩
 have hzl:z<(2^256):=by rw [hz]; exact mod_lt x
 have cn:∀ w,Calls Tryz.prog 54 #[fv x] w λe w'=>e=.returned (fv z)∧Below w.heap.size w w':=by
  intro w; rw [hz]; exact norm_any w x hx
 rw [← hz]
 obtain ⟨z0,z1,z2,z3,a0,a1,a2,a3,ez,fz⟩:=words_of z hzl
 have HZ:=Lib.hid (And.intro a0 (And.intro a1 (And.intro a2 (And.intro a3 ez))))
 have FZ:=Lib.hid fz
 obtain ⟨x0,x1,x2,x3,fx⟩:=words_fv x hx
 rw [fx] at cn ⊢
 clear fx fz hz hzl a0 a1 a2 a3 ez hx
 have hZB:Hid ((List.replicate 32 (Value.int .u8 0)).toArray=((partB z 0).map bv).toArray):=Lib.hid (by simp [partB,lowB,bv])
 go_enter Tryz.func29,Tryz.ntmps29
 go_wp2_with fail
 refine (cn _).mono ?_
 rintro e w1 ⟨rfl,hb⟩
 have BR:Blk w1 (w.heap.size+1) 26 _:=Gr.blk hb (Blk.alloc (blk_new2 w _ _ _) _)
 have BB:Blk w1 (w.heap.size+2) 26 ((partB z 0).map bv).toArray:=Blk.eq_ (Gr.blk hb (blk_new3 w _ _ _ _)) hZB.out
 have hB:=Below.gr (below_alloc3 w _ _ _) hb
 have sz:=BB.lt
 clear hb cn
 go_wp2_with (first | ((with_reducible refine here_store ?_); refine wpList_store_blk rfl _ _ _ rfl (w1.heap.size) (fcs (z)) rfl rfl _ _ (Blk.new w1 _ _) (by kernel_rfl) (by rfl) (fcs_one _) ?_; intro w2 hL2 hB2 hK2; have CR:=hK2 _ (by omega) _ _ (BR.alloc _); have CB:=hK2 _ (by omega) _ _ (BB.alloc _); have hC:=(hB.alloc (by omega) _).trans (hB2 _ (by omega))))
 go_loopw [8] (λi wr=>∃ k:Nat,k≤32∧i=.int .i64 (k:Int)∧Below w.heap.size w wr∧Blk wr (w.heap.size+2) 26 ((partB z k).map bv).toArray∧Blk wr w1.heap.size 30 #[.int .u64 (z0:Int),.int .u64 (z1:Int),.int .u64 (z2:Int),.int .u64 (z3:Int)]∧Blk wr (w.heap.size+1) 26 (List.replicate 32 (Value.int .u8 0)).toArray) (λi _=>32 - (RowKit.intOf i).toNat)
 case atStart=>exact ⟨0,by omega,rfl,hC,CB,hL2.eq_ (fcs_words FZ.out),CR⟩
 case round =>
  obtain ⟨k,hk,rfl,hb,hP,hN,hR⟩:=hrel
  by_cases hlt:k<32
  ·have ce:∀ j,j<32→∃ v,wr.cell? ⟨w.heap.size+1+1,j,none⟩=some v:=λj hj=>⟨_,(hP.cell j).trans (Array.getElem?_eq_getElem (by simp [partB_length z k hk]; exact hj))⟩
   obtain ⟨v,hv⟩:=ce (31 - k) (by omega)
   have ff:=hP.frozen (31 - k)
   have q0:wr.cell? ⟨w1.heap.size,0,none⟩=some (.int .u64 (z0:Int)):=hN.cell 0
   have q1:wr.cell? ⟨w1.heap.size,1,none⟩=some (.int .u64 (z1:Int)):=hN.cell 1
   have q2:wr.cell? ⟨w1.heap.size,2,none⟩=some (.int .u64 (z2:Int)):=hN.cell 2
   have q3:wr.cell? ⟨w1.heap.size,3,none⟩=some (.int .u64 (z3:Int)):=hN.cell 3
   have hPn:=hP.set_ (31 - k) (bv (byteN z k))
   rw [partB_set z k hlt] at hPn
   have HP:=Lib.hid hPn
   clear hPn ce
   have HR:=Lib.hid (And.intro hb (And.intro hN hR))
   clear hb hP hN hR hk
   have hsz:w.heap.size+2<w1.heap.size:=sz
   rcases (show k=0∨k=1∨k=2∨k=3∨k=4∨k=5∨k=6∨k=7∨k=8∨k=9∨k=10∨k=11∨k=12∨k=13∨k=14∨k=15∨k=16∨k=17∨k=18∨k=19∨k=20∨k=21∨k=22∨k=23∨k=24∨k=25∨k=26∨k=27∨k=28∨k=29∨k=30∨k=31 by omega) with rfl | rfl | rfl | rfl | rfl | rfl | rfl | rfl | rfl | rfl | rfl | rfl | rfl | rfl | rfl | rfl | rfl | rfl | rfl | rfl | rfl | rfl | rfl | rfl | rfl | rfl | rfl | rfl | rfl | rfl | rfl | rfl
   all_goals
    go_wp2
    obtain ⟨a0,a1,a2,a3,ez⟩:=HZ.out
    refine ⟨⟨_,by decide,rfl,HR.out.1.setCell (by show w.heap.size≤w.heap.size+1+1; omega) _,HP.out.val (by rw [bv_byteN]; congr 1; omega),HR.out.2.1.far (by show w1.heap.size≠w.heap.size+1+1; omega) _,HR.out.2.2.far (by show w.heap.size+1≠w.heap.size+1+1; omega) _⟩,by simp [RowKit.intOf]⟩
  ·have p1:¬ (k:Int)<32:=by omega
   obtain rfl:k=32:=by omega
   rw [partB_full] at hP
   have HI:=Lib.hid (bytesS_length z)
   have HL:=Lib.hid hP
   have HR:=Lib.hid hR
   clear hN hP hR
   go_wp2_with (first | ((with_reducible refine here_load (d:=some 24) ?_); refine wpList_load_blk rfl _ _ rfl (w.heap.size+2) rfl _ _ _ HL.out Tryz.underlying26 rfl (b32_info HI.out) ?_) | ((with_reducible refine here_store ?_); refine wpList_store_blk rfl _ _ _ rfl (w.heap.size+1) ((bytesS z).map bv).toArray rfl rfl _ _ HR.out (b32_info HI.out) (by simp [HI.out]) (b32_one _) ?_; intro w9 hL9 hB9 hK9))
   exact bodyPost_ret (results_cell_row rfl _ _ (w.heap.size+1) _ _ (0,0) _ rfl hL9 Tryz.underlying26 rfl (b32_info HI.out)) rfl ⟨rfl,hb.trans (hB9 _ (by omega))⟩
end Sc
end
section
namespace Cu
open Go.RowKit Sy
set_option maxRecDepth 100000
set_option maxHeartbeats 4000000
def dg (m j:Nat):Nat:=m / 16 ^ (63 - j)%16
def dgA (m j:Nat):List Value:=[.int .u8 ((dg m j:Nat):Int)]
theorem dgA_len (m:Nat):∀ j,(dgA m j).length=1:=λ_=>rfl
theorem byte_get (m k:Nat) (hk:k<32):((bytesS m).getD k 0).toNat=m / 2 ^ (8*(31 - k))%256:=by
 have h:∀ n j,j<n→(lowB m n).getD j 0=byteN m (n - 1 - j):=by
  intro n
  induction n with
  | zero=>intro j hj; omega
  | succ n ih =>
   intro j hj
   cases j with
   | zero=>rfl
   | succ j =>
    show (lowB m n).getD j 0=_
    rw [ih j (by omega)]
    congr 1
    omega
 unfold bytesS
 rw [h 32 k hk,show 32 - 1 - k=31 - k by omega]
 unfold byteN
 rw [UInt8.toNat_ofNat']
 omega
theorem p16 (k:Nat):(2:Nat) ^ (8*k)=16 ^ (2*k):=by
 rw [show 8*k=4*(2*k) by omega,Nat.pow_mul]
theorem dg_hi (m k:Nat) (hk:k<32):((bytesS m).getD k 0).toNat / 16=dg m (2*k):=by
 rw [byte_get m k hk,p16]
 unfold dg
 rw [show 63 - 2*k=2*(31 - k)+1 by omega,Nat.pow_succ, ← Nat.div_div_eq_div_mul]
 omega
theorem dg_lo (m k:Nat) (hk:k<32):((bytesS m).getD k 0).toNat%16=dg m (2*k+1):=by
 rw [byte_get m k hk,p16]
 unfold dg
 rw [show 63 - (2*k+1)=2*(31 - k) by omega]
 omega
theorem exec_hi (F:Slots) (o:Oper) (t:TypeId) (x y:Operand) {yt:TypeId} (b:UInt8) (d:Nat) (ho:o.op=.binOp .shr t x y yt) (hx:evF F x=bv b) (hy:evF F y=.int .u64 4) (h:b.toNat / 16=d) (w:World):(execOp (evF F) o).run Tryz.prog w=.ok (.value (.int .u8 ((d:Nat):Int))) w :=
 exec_int .shr t x y .u8 (b.toNat:Int) 4 _ ho hx hy (int_shr t .u8 .u64 _ _ _ (by decide) (by
  show Int.fdiv (b.toNat:Int) ((16:Nat):Int)=_
  rw [← h,Int.fdiv_eq_ediv_of_nonneg _ (by omega)]
  omega)) w
theorem and15:∀ n:Fin 256,IntKind.u8.wrap ((BitVec.ofInt 8 ((n.val:Nat):Int) &&& BitVec.ofInt 8 15).toNat:Int)=((n.val%16:Nat):Int):=by decide +kernel
theorem exec_lo (F:Slots) (o:Oper) (t:TypeId) (x y:Operand) {yt:TypeId} (b:UInt8) (d:Nat) (ho:o.op=.binOp .and t x y yt) (hx:evF F x=bv b) (hy:evF F y=.int .u8 15) (h:b.toNat%16=d) (w:World):(execOp (evF F) o).run Tryz.prog w=.ok (.value (.int .u8 ((d:Nat):Int))) w :=
 exec_int .and t x y .u8 (b.toNat:Int) 15 _ ho hx hy (int_and t .u8 _ _ _ (by
  rw [← h]
  exact and15 ⟨b.toNat,b.toNat_lt⟩)) w
theorem digits_c (w:World) (x:Nat) (hx:x<K4):Calls Tryz.prog 111 #[fv x] w (Gets w (.agg (flat (dgA (x%Sc.pM)) 64).toArray)):=by
 obtain ⟨m,hm⟩:∃ m,m=x%Sc.pM:=⟨_,rfl⟩
 obtain ⟨l,hl0⟩:∃ l,l=bytesS m:=⟨_,rfl⟩
 have hl:l.length=32:=by rw [hl0]; exact bytesS_length m
 have cB:∀ w,Calls Tryz.prog 29 #[fv x] w (Gets w (.agg (l.map bv).toArray)):=λw=>by rw [hl0,hm]; exact Sc.bytes_any w x hx
 rw [← hm]
 refine Sy.enter (args:=[fv x]) Tryz.func111 rfl kL ?_
 refine sC ?_
 refine sM 30 (fcs x) (λg0=>?_)
 refine Sy.make kR 35 (flat (λ_=>[.int .u8 0]) 64).toArray ptr kF (λg1=>?_)
 refine sA ?_
 refine Sy.make kR 35 (flat (λ_=>[.int .u8 0]) 64).toArray ptr kF (λg2=>?_)
 refine sG<|Sy.seq<|sC ?_
 refine sS (fv x) (qL 0 g0 0 4 30 30 (fcs x) rfl Tryz.underlying30)<|sS (.agg (l.map bv).toArray) (qF 29 #[fv x] (cB))<|sP (.int .i64 0) ?_
 refine sG<|Sy.block ?_
 refine Sy.loopK 32 (λk1=>[(2,.pointer (some ⟨g1,0,none⟩)),(3,.pointer (some ⟨g2,0,none⟩)),(7,.agg (l.map bv).toArray),(8,.int .i64 ((k1:Nat):Int))]) (λk1=>[(g1,35,(flat (λ_=>[.int .u8 0]) 64).toArray),(g2,35,(flat (upto (2*k1) (dgA m) [.int .u8 0]) 64).toArray)]) [false,true,true] (M:=[(g1,35,(flat (λ_=>[.int .u8 0]) 64).toArray),(g2,35,(flat (λ_=>[.int .u8 0]) 64).toArray)]) (all_cons kR (all_cons kR (all_cons kR (all_cons kR all_nil)))) kR (bcons rfl (bcons (beq (upto_zero)) rfl)) (λk1 hk1=>?_)
 refine sC ?_
 obtain ⟨b1,hb1⟩:∃ z:Bool,z=decide (k1<32):=⟨_,rfl⟩
 refine sS (.bool b1) (Quiet.pure (exec_int .lss _ _ _ .i64 _ _ _ rfl rfl rfl (int_lss _ _ _ _ _ (by rw [hb1]; exact decide_eq_decide.2 (by omega))))) ?_
 refine sG<|Sy.seq ?_
 cases b1
 ·have lb1:¬ (k1<32):=of_decide_eq_false hb1.symm
  refine sU<|Sy.exit<|Sy.then_exit<|Sy.then_exit ?_
  obtain rfl:k1=32:=by omega
  refine Sy.in_exit<|sB ?_
  refine sS (.agg (flat (upto (2*32) (dgA m) [.int .u8 0]) 64).toArray) (Quiet.load 1 g2 0 64 35 35 (flat (upto (2*32) (dgA m) [.int .u8 0]) 64).toArray _ _ rfl kR kR Tryz.underlying35 rfl kR _ (flat_whole (upto_len (dgA_len m) rfl _) rfl) (flat_wsize (upto_len (dgA_len m) rfl _) rfl)) ?_
  refine Sy.write kR 0 g1 35 (flat (λ_=>[.int .u8 0]) 64).toArray (flat (upto (2*32) (dgA m) [.int .u8 0]) 64).toArray kR (Writes.store 0 35 (flat (upto (2*32) (dgA m) [.int .u8 0]) 64).toArray _ _ rfl kR kR (flat_info (upto_len (dgA_len m) rfl _) kR) (flat_over (upto_len (dgA_len m) rfl _) rfl kR) (flat_one (upto_len (dgA_len m) rfl _) _ (upto_one (λ_ u hu=>by rw [List.mem_singleton.1 hu]; rfl) (λu hu=>by rw [List.mem_singleton.1 hu]; rfl) _)) (flat_put (upto_len (dgA_len m) rfl _) kR)) ?_
  refine sG<|Sy.ret ?_
  rw [show (.agg (flat (dgA m) 64).toArray:Value)=.agg (flat (upto (2*32) (dgA m) [.int .u8 0]) 64).toArray from congrArg Value.agg upto_all.symm]
  exact Sy.ret1 rfl (v:=.agg (flat (upto (2*32) (dgA m) [.int .u8 0]) 64).toArray) (.inl (Res.cell (ty':=35) g1 0 (flat (upto (2*32) (dgA m) [.int .u8 0]) 64).toArray _ kR kR Tryz.underlying35 rfl (flat_info (upto_len (dgA_len m) rfl _) kR) rfl))
 ·have lb1:k1<32:=of_decide_eq_true hb1.symm
  refine sT<|Sy.skip<|Sy.then_<|Sy.seq<|Sy.block<|sC ?_
  refine sP (.int .i64 ((k1:Nat):Int))<|sS (bv (l.getD k1 0)) (Quiet.pure (exec_idx _ _ _ _ _ 32 k1 .i64 _ _ rfl rfl rfl Tryz.underlying26 Tryz.underlying5 rfl kF (by omega) (key_at l hl k1 (by omega))))<|sP (.int .i64 ((k1:Nat):Int))<|sP (bv (l.getD k1 0)) ?_
  refine sG<|Sy.region ?_
  refine sP (.int .i64 ((k1:Nat):Int))<|sS (.int .i64 ((2*k1:Nat):Int)) (Quiet.pure (exec_int .mul _ _ _ .i64 _ _ _ rfl rfl rfl (int_mul _ _ _ _ _ ((wrap_i64 (by omega) (by omega)).trans (by omega)))))<|sP (.int .i64 ((k1:Nat):Int))<|sS (.int .i64 ((2*k1:Nat):Int)) (Quiet.pure (exec_int .mul _ _ _ .i64 _ _ _ rfl rfl rfl (int_mul _ _ _ _ _ ((wrap_i64 (by omega) (by omega)).trans (by omega)))))<|sS (.int .i64 (((2*k1)+1:Nat):Int)) (Quiet.pure (exec_int .add _ _ _ .i64 _ _ _ rfl rfl rfl (int_add _ _ _ _ _ ((wrap_i64 (by omega) (by omega)).trans (by omega)))))<|sP (bv (l.getD k1 0))<|sS (.int .u8 ((dg m (2*k1):Nat):Int)) (Quiet.pure (exec_hi _ _ _ _ _ (l.getD k1 0) _ rfl rfl rfl (by rw [hl0]; exact dg_hi m k1 (by omega))))<|sP (bv (l.getD k1 0)) ?_
  refine sS (.int .u8 ((dg m (2*k1+1):Nat):Int)) (Quiet.pure (exec_lo _ _ _ _ _ (l.getD k1 0) _ rfl rfl rfl (by rw [hl0]; exact dg_lo m k1 (by omega))))<|sS (.pointer (some ⟨g2,0+(2*k1)*1,none⟩)) (Quiet.pure (exec_atA 35 _ _ _ g2 0 _ (2*k1) 1 .i64 rfl rfl rfl Tryz.underlying35 kF (by omega))) ?_
  refine Sy.write kR 1 g2 35 (flat (upto (2*k1) (dgA m) [.int .u8 0]) 64).toArray (flat (upto (2*k1+1) (dgA m) [.int .u8 0]) 64).toArray kR (Writes.one (0+(2*k1)*1) 5 (.int .u8 ((dg m (2*k1):Nat):Int)) _ _ rfl kR kR kR rfl rfl (flat_lt1 (upto_len (dgA_len m) rfl _) (k:=2*k1) (by omega) (by omega)) ((congrArg (Array.setIfInBounds _ · _) (show 0+(2*k1)*1=2*k1 by omega)).trans (upto_set1 (dgA_len m) (rfl) (by omega)))) ?_
  refine sS (.pointer (some ⟨g2,0+((2*k1)+1)*1,none⟩)) (Quiet.pure (exec_atA 35 _ _ _ g2 0 _ ((2*k1)+1) 1 .i64 rfl rfl rfl Tryz.underlying35 kF (by omega))) ?_
  refine Sy.write kR 1 g2 35 (flat (upto (2*k1+1) (dgA m) [.int .u8 0]) 64).toArray (flat (upto (2*k1+1+1) (dgA m) [.int .u8 0]) 64).toArray kR (Writes.one (0+((2*k1)+1)*1) 5 (.int .u8 ((dg m (2*k1+1):Nat):Int)) _ _ rfl kR kR kR rfl rfl (flat_lt1 (upto_len (dgA_len m) rfl _) (k:=2*k1+1) (by omega) (by omega)) ((congrArg (Array.setIfInBounds _ · _) (show 0+((2*k1)+1)*1=2*k1+1 by omega)).trans (upto_set1 (dgA_len m) (rfl) (by omega)))) ?_
  refine Sy.nil<|Sy.in_<|Sy.then_<|Sy.region ?_
  refine sS (.int .i64 ((k1+1:Nat):Int)) (Quiet.pure (exec_int .add _ _ _ .i64 _ _ _ rfl rfl rfl (int_add _ _ _ _ _ ((wrap_i64 (by omega) (by omega)).trans (by omega)))))<|sP (.int .i64 ((k1+1:Nat):Int)) ?_
  refine Sy.nil ?_
  exact Sy.againK [true,true] (M:=[(g1,35,(flat (λ_=>[.int .u8 0]) 64).toArray),(g2,35,(flat (upto (2*k1+1+1) (dgA m) [.int .u8 0]) 64).toArray)]) (by omega) (all_cons kR (all_cons kR (all_cons kR (all_cons kR all_nil)))) kR (bcons rfl (bcons (beq (congrArg (λt=>(flat (upto t (dgA m) [.int .u8 0]) 64).toArray) (show 2*k1+1+1=2*(k1+1) by omega))) rfl))
def tws (x y z:Nat):List Value:=fws x++(fws y++fws z)
def jws (a:J):List Value:=tws a.x.val a.y.val a.z.val
def fewL (a:J):Nat→J
 | 0=>⟨0,0,0⟩
 | k+1=>addJ (fewL a k) a
theorem fewL_rep {a:J} {P:Pt} (hP:Ec.On P) (h:Ec.Rep a P):∀ k,Ec.Rep (fewL a k) (Ec.nm finv k P)
 | 0=>rfl
 | k+1=>addJ_rep (hP.nm fld k) hP (fewL_rep hP h k) h
def fewA (a:J) (j:Nat):List Value:=jws (fewL a j)
theorem fewA_len (a:J):∀ j,(fewA a j).length=12:=λ_=>rfl
theorem few_first (a:J):(flat (λ_=>tws 0 0 0) 16).toArray=(flat (upto 1 (fewA a) (tws 0 0 0)) 16).toArray:=congrArg List.toArray (flat_congr λj _=>by
 unfold upto
 split
 ·obtain rfl:j=0:=by omega
  rfl
 ·rfl)
theorem jws_one (a:J):∀ u∈jws a,u.oneCell'=true:=λu hu=>by
 unfold jws tws fws at hu
 simp [qv] at hu
 rcases hu with rfl | rfl | rfl | rfl | rfl | rfl | rfl | rfl | rfl | rfl | rfl | rfl <;> rfl
theorem few_c (w:World) (P:Pt) (x y:Nat) (i:Bool) (hP:ptv P=pv x y i):Calls Tryz.prog 112 #[pv x y i] w (Gets w (.agg (flat (fewA (threeJ P)) 16).toArray)):=by
 obtain ⟨a,ha⟩:∃ a,a=threeJ P:=⟨_,rfl⟩
 have c3:∀ w,Calls Tryz.prog 124 #[pv x y i] w (Gets w (tv a.x.val a.y.val a.z.val)):=λw=>by
  have h:=three_c w P
  rw [hP, ← ha] at h
  exact h
 rw [← ha]
 refine Sy.enter (args:=[pv x y i]) Tryz.func112 rfl kL ?_
 refine sC ?_
 refine sM 66 (pcs x y i) (λg0=>?_)
 refine Sy.make kR 166 (flat (λ_=>tws 0 0 0) 16).toArray ptr kF (λg1=>?_)
 refine sA ?_
 refine Sy.make kR 166 (flat (λ_=>tws 0 0 0) 16).toArray ptr kF (λg2=>?_)
 refine sA ?_
 refine sS (pv x y i) (qL 0 g0 0 9 66 66 (pcs x y i) rfl Tryz.underlying66)<|sS (tv a.x.val a.y.val a.z.val) (qF 124 #[pv x y i] (c3)) ?_
 refine sM 132 (tcs 0 0 0) (λg3=>?_)
 refine sW 3 g3 132 (tcs 0 0 0) (tcs a.x.val a.y.val a.z.val) (wS 0 132 (tcs a.x.val a.y.val a.z.val) rfl) ?_
 refine sG<|Sy.seq<|sC ?_
 refine sP (.int .i64 1) ?_
 refine sG<|Sy.block ?_
 refine Sy.loopK 15 (λk1=>[(2,.pointer (some ⟨g1,0,none⟩)),(3,.pointer (some ⟨g2,0,none⟩)),(4,.pointer (some ⟨g3,0,none⟩)),(5,.int .i64 ((k1+1:Nat):Int))]) (λk1=>[(g1,166,(flat (λ_=>tws 0 0 0) 16).toArray),(g2,166,(flat (upto (k1+1) (fewA a) (tws 0 0 0)) 16).toArray),(g3,132,(tcs a.x.val a.y.val a.z.val))]) [false,true,true,true] (M:=[(g1,166,(flat (λ_=>tws 0 0 0) 16).toArray),(g2,166,(flat (λ_=>tws 0 0 0) 16).toArray),(g3,132,(tcs a.x.val a.y.val a.z.val))]) (all_cons kR (all_cons kR (all_cons kR (all_cons kR all_nil)))) kR (bcons rfl (bcons (beq (few_first a)) (bcons rfl rfl))) (λk1 hk1=>?_)
 refine Sy.seq<|sC ?_
 refine sP (.int .i64 ((k1+1:Nat):Int)) ?_
 obtain ⟨b1,hb1⟩:∃ z:Bool,z=decide (k1+1<16):=⟨_,rfl⟩
 refine sS (.bool b1) (Quiet.pure (exec_int .lss _ _ _ .i64 _ _ _ rfl rfl rfl (int_lss _ _ _ _ _ (by rw [hb1]; exact decide_eq_decide.2 (by omega))))) ?_
 refine sG ?_
 cases b1
 ·have lb1:¬ (k1+1<16):=of_decide_eq_false hb1.symm
  refine sU<|Sy.exit<|Sy.then_exit<|Sy.then_exit ?_
  obtain rfl:k1=15:=by omega
  refine Sy.in_exit<|sB ?_
  refine sS (.agg (flat (upto (15+1) (fewA a) (tws 0 0 0)) 16).toArray) (Quiet.load 1 g2 0 192 166 166 (flat (upto (15+1) (fewA a) (tws 0 0 0)) 16).toArray _ _ rfl kR kR Tryz.underlying166 rfl kR _ (flat_whole (upto_len (fewA_len a) rfl _) rfl) (flat_wsize (upto_len (fewA_len a) rfl _) rfl)) ?_
  refine Sy.write kR 0 g1 166 (flat (λ_=>tws 0 0 0) 16).toArray (flat (upto (15+1) (fewA a) (tws 0 0 0)) 16).toArray kR (Writes.store 0 166 (flat (upto (15+1) (fewA a) (tws 0 0 0)) 16).toArray _ _ rfl kR kR (flat_info (upto_len (fewA_len a) rfl _) kR) (flat_over (upto_len (fewA_len a) rfl _) rfl kR) (flat_one (upto_len (fewA_len a) rfl _) _ (upto_one (λ_=>jws_one _) (jws_one ⟨0,0,0⟩) _)) (flat_put (upto_len (fewA_len a) rfl _) kR)) ?_
  refine sG<|Sy.ret ?_
  rw [show (.agg (flat (fewA a) 16).toArray:Value)=.agg (flat (upto (15+1) (fewA a) (tws 0 0 0)) 16).toArray from congrArg Value.agg upto_all.symm]
  exact Sy.ret1 rfl (v:=.agg (flat (upto (15+1) (fewA a) (tws 0 0 0)) 16).toArray) (.inl (Res.cell (ty':=166) g1 0 (flat (upto (15+1) (fewA a) (tws 0 0 0)) 16).toArray _ kR kR Tryz.underlying166 rfl (flat_info (upto_len (fewA_len a) rfl _) kR) rfl))
 ·have lb1:k1+1<16:=of_decide_eq_true hb1.symm
  refine sT<|Sy.skip<|Sy.then_<|Sy.seq<|Sy.block ?_
  refine Sy.regionD (λj=>j == 8) kR ?_
  refine sZ 0 rfl (.int .i64 ((k1+1:Nat):Int))<|sZ 1 rfl (.int .i64 ((k1+1:Nat):Int))<|sD 2 rfl (.int .i64 (((k1+1) - 1:Nat):Int)) (Quiet.pure (exec_int .sub _ _ _ .i64 _ _ _ rfl rfl rfl (int_sub _ _ _ _ _ ((wrap_i64 (by omega) (by omega)).trans (by omega)))))<|sD 3 rfl (.pointer (some ⟨g2,0+((k1+1) - 1)*12,none⟩)) (Quiet.pure (exec_atA 166 _ _ _ g2 0 _ ((k1+1) - 1) 12 .i64 rfl rfl rfl Tryz.underlying166 kF (by omega)))<|sD 4 rfl (tv ((fewL a ((k1+1) - 1)).x.val) ((fewL a ((k1+1) - 1)).y.val) ((fewL a ((k1+1) - 1)).z.val)) (Quiet.load 1 g2 (0+((k1+1) - 1)*12) 12 166 132 (flat (upto (k1+1) (fewA a) (tws 0 0 0)) 16).toArray _ _ rfl kR kR Tryz.underlying132 rfl kR _ ((flat_load (upto_len (fewA_len a) rfl _) (k:=(k1+1) - 1) (by omega) (by omega)).trans ((congrArg (λl:List Value=>Value.agg l.toArray) (upto_lt (by omega))).trans kR)) (flat_fit (upto_len (fewA_len a) rfl _) (k:=(k1+1) - 1) (by omega) (by omega)))<|sD 5 rfl (tv a.x.val a.y.val a.z.val) (qL 2 g3 0 12 132 132 (tcs a.x.val a.y.val a.z.val) rfl Tryz.underlying132) ?_
  obtain ⟨j1,hj1⟩:∃ z:J,z=addJ (fewL a ((k1+1) - 1)) a:=⟨_,rfl⟩
  refine sD 6 rfl (tv j1.x.val j1.y.val j1.z.val) (qF 76 #[tv ((fewL a ((k1+1) - 1)).x.val) ((fewL a ((k1+1) - 1)).y.val) ((fewL a ((k1+1) - 1)).z.val),tv a.x.val a.y.val a.z.val] (λw=>by rw [hj1]; exact addJ_c w (fewL a ((k1+1) - 1)) a))<|sD 7 rfl (.pointer (some ⟨g2,0+(k1+1)*12,none⟩)) (Quiet.pure (exec_atA 166 _ _ _ g2 0 _ (k1+1) 12 .i64 rfl rfl rfl Tryz.underlying166 kF (by omega))) ?_
  refine Sy.writeD 8 rfl kR (by rfl) kR 1 g2 166 (flat (upto (k1+1) (fewA a) (tws 0 0 0)) 16).toArray (flat (upto (k1+1+1) (fewA a) (tws 0 0 0)) 16).toArray kR (Writes.store (0+(k1+1)*12) 132 (tcs j1.x.val j1.y.val j1.z.val) _ _ rfl kR kR kR (flat_fit (upto_len (fewA_len a) rfl _) (k:=k1+1) (by omega) (by omega)) kR (upto_set (v:=(tcs j1.x.val j1.y.val j1.z.val).toList) (fewA_len a) rfl (by rw [hj1]; rfl) (by omega) (by omega))) ?_
  refine sE ?_
  refine Sy.in_<|Sy.then_<|Sy.region ?_
  refine sP (.int .i64 ((k1+1:Nat):Int))<|sS (.int .i64 (((k1+1)+1:Nat):Int)) (Quiet.pure (exec_int .add _ _ _ .i64 _ _ _ rfl rfl rfl (int_add _ _ _ _ _ ((wrap_i64 (by omega) (by omega)).trans (by omega)))))<|sP (.int .i64 (((k1+1)+1:Nat):Int)) ?_
  refine Sy.nil ?_
  exact Sy.againK [true,true,true] (M:=[(g1,166,(flat (λ_=>tws 0 0 0) 16).toArray),(g2,166,(flat (upto (k1+1+1) (fewA a) (tws 0 0 0)) 16).toArray),(g3,132,(tcs a.x.val a.y.val a.z.val))]) (by omega) (all_cons kR (all_cons kR (all_cons kR (all_cons kR all_nil)))) kR (bcons rfl (bcons rfl (bcons rfl rfl)))
end Cu
end
section
namespace Cu
open Go.RowKit Sy
set_option maxRecDepth 100000
set_option maxHeartbeats 4000000
structure Trm where
 k:Nat
 x:Nat
 y:Nat
 i:Bool
def trcs (k x y:Nat) (i:Bool):Array Value:=(fws k++(fws x++(fws y++[Value.bool i]))).toArray
def trv (k x y:Nat) (i:Bool):Value:=.agg (trcs k x y i)
def Trm.cells (t:Trm):List Value:=fws t.k++(fws t.x++(fws t.y++[Value.bool t.i]))
def Trm.ok (t:Trm):Prop:=t.k<K4∧t.x<K4∧t.y<K4
def Trm.pt (t:Trm):Pt:=dec t.x t.y t.i
def Trm.kn (t:Trm):Nat:=t.k%Sc.pM
def tmA (t:Trm):List Value:=flat (dgA t.kn) 64++flat (fewA (threeJ t.pt)) 16
def tmcs (t:Trm):Array Value:=(tmA t).toArray
theorem tmA_len (T:Nat→Trm):∀ j,(tmA (T j)).length=256:=λ_=>by
 unfold tmA
 rw [List.length_append,flat_len (dgA_len _),flat_len (fewA_len _)]
def zt:List Value:=List.replicate 64 (.int .u8 0)++List.replicate 192 (.int .u64 0)
noncomputable def infTm:TypeInfo:=(Tryz.prog.info? 169).getD default
theorem info_tm:Tryz.prog.info? 169=some infTm:=by kernel_rfl
theorem dg_lt (m j:Nat):dg m j<16:=Nat.mod_lt _ (by decide)
theorem few_p (w:World) (P:Pt):Calls Tryz.prog 112 #[ptv P] w (Gets w (.agg (flat (fewA (threeJ P)) 16).toArray)):=by
 rcases P with _ | ⟨u,v⟩
 ·exact few_c w none 0 0 true rfl
 ·exact few_c w (some (u,v)) u.val v.val false rfl
def dbN (a:J):Nat→J
 | 0=>a
 | j+1=>dblJ (dbN a j)
def inJ (T:Nat→Trm) (i:Nat) (a:J):Nat→J
 | 0=>a
 | j+1=>addJ (inJ T i a j) (fewL (threeJ (T j).pt) (dg (T j).kn i))
def muJ (T:Nat→Trm) (n:Nat):Nat→J
 | 0=>⟨0,0,0⟩
 | i+1=>inJ T i (dbN (muJ T n i) 4) n
theorem at_c (w:World) (g off i:Nat) (t:Trm) (hg:g<w.heap.size) (hi:i<64) (hr:w.rangeAt g off (tmA t)):Calls Tryz.prog 113 #[.pointer (some ⟨g,off,none⟩),.int .i64 ((i:Nat):Int)] w (Gets w (tv (fewL (threeJ t.pt) (dg t.kn i)).x.val (fewL (threeJ t.pt) (dg t.kn i)).y.val (fewL (threeJ t.pt) (dg t.kn i)).z.val)):=by
 have hd:=dg_lt t.kn i
 refine Sy.enter (args:=[.pointer (some ⟨g,off,none⟩),.int .i64 ((i:Nat):Int)]) Tryz.func113 rfl kL ?_
 refine sC ?_
 refine sM 132 (tcs 0 0 0) (λg0=>?_)
 refine sH (λj=>j == 11) ?_
 refine sZ 0 rfl (.pointer (some ⟨g,off,none⟩))<|sZ 1 rfl (.pointer (some ⟨g,off,none⟩))<|sZ 2 rfl (.int .i64 ((i:Nat):Int))<|sZ 3 rfl (.pointer (some ⟨g,off,none⟩))<|sZ 4 rfl (.pointer (some ⟨g,off,none⟩))<|sD 5 rfl (.pointer (some ⟨g,off+i*1,none⟩)) (Quiet.pure (exec_atA 35 _ _ _ g off _ i 1 .i64 rfl rfl rfl Tryz.underlying35 kF (by omega)))<|sD 6 rfl (.int .u8 ((dg t.kn i:Nat):Int)) (Quiet.thereOne g (off+i*1) 5 _ _ rfl kR hg _ (range_flat (range_left hr) (dgA_len t.kn) hi 0 _ rfl) Tryz.underlying5 rfl)<|sZ 7 rfl (.pointer (some ⟨g,off,none⟩)) ?_
 refine sZ 8 rfl (.pointer (some ⟨g,off+64,none⟩))<|sD 9 rfl (.pointer (some ⟨g,off+64+(dg t.kn i)*12,none⟩)) (Quiet.pure (exec_atA 166 _ _ _ g (off+64) _ (dg t.kn i) 12 .u8 rfl rfl rfl Tryz.underlying166 kF (by omega)))<|sD 10 rfl (tv ((fewL (threeJ t.pt) (dg t.kn i)).x.val) ((fewL (threeJ t.pt) (dg t.kn i)).y.val) ((fewL (threeJ t.pt) (dg t.kn i)).z.val)) (Quiet.there g (off+64+(dg t.kn i)*12) 12 132 (fewA (threeJ t.pt) (dg t.kn i)) _ _ rfl kR hg (range_flat (range_right hr (flat_len (dgA_len t.kn) 64)) (fewA_len _) hd) Tryz.underlying132 rfl kR rfl _ kR)<|sX 11 rfl 0 g0 132 (tcs 0 0 0) (tcs ((fewL (threeJ t.pt) (dg t.kn i)).x.val) ((fewL (threeJ t.pt) (dg t.kn i)).y.val) ((fewL (threeJ t.pt) (dg t.kn i)).z.val)) (wS 0 132 (tcs ((fewL (threeJ t.pt) (dg t.kn i)).x.val) ((fewL (threeJ t.pt) (dg t.kn i)).y.val) ((fewL (threeJ t.pt) (dg t.kn i)).z.val)) rfl) ?_
 refine sI ?_
 refine Sy.ret ?_
 exact rC (v:=tv ((fewL (threeJ t.pt) (dg t.kn i)).x.val) ((fewL (threeJ t.pt) (dg t.kn i)).y.val) ((fewL (threeJ t.pt) (dg t.kn i)).z.val)) 132 g0 0 (tcs ((fewL (threeJ t.pt) (dg t.kn i)).x.val) ((fewL (threeJ t.pt) (dg t.kn i)).y.val) ((fewL (threeJ t.pt) (dg t.kn i)).z.val)) rfl Tryz.underlying132
theorem multi_c (w:World) (b o n c:Nat) (T:Nat→Trm) (hb:b<w.heap.size) (hn:n≤32) (hok:∀ j,(T j).ok) (hT:∀ j,j<n→w.rangeAt b (o+j*13) (T j).cells):Calls Tryz.prog 77 #[.slice (some ⟨b,o,none⟩) n c] w (Gets w (tv (muJ T n 64).x.val (muJ T n 64).y.val (muJ T n 64).z.val)):=by
 refine Sy.enter (args:=[.slice (some ⟨b,o,none⟩) n c]) Tryz.func77 rfl kL ?_
 refine sC ?_
 refine sM 132 (tcs 0 0 0) (λg0=>?_)
 refine sA ?_
 refine sP (.slice (some ⟨b,o,none⟩) n c)<|sP (.int .i64 ((n:Nat):Int)) ?_
 refine Sy.make kR 169 (flat (λ_=>zt) n).toArray (λg=>.slice (some ⟨g,0,none⟩) n n) (Makes.slice 164 169 _ (.agg zt.toArray) 256 1600 _ _ .i64 .i64 n zt rfl rfl rfl Tryz.underlying164 info_tm kR kR (by decide) kR kR kR (by omega) (by omega)) (λg1=>?_)
 refine sP (.slice (some ⟨g1,0,none⟩) n n) ?_
 refine sG<|Sy.seq<|sC ?_
 refine sP (.slice (some ⟨b,o,none⟩) n c)<|sP (.int .i64 ((n:Nat):Int))<|sP (.int .i64 0) ?_
 refine sG<|Sy.block ?_
 refine Sy.loopK n (λk1=>[(2,.pointer (some ⟨g0,0,none⟩)),(3,.slice (some ⟨g1,0,none⟩) n n),(12,.slice (some ⟨b,o,none⟩) n c),(13,.int .i64 ((n:Nat):Int)),(14,.int .i64 ((k1:Nat):Int))]) (λk1=>[(g0,132,(tcs 0 0 0)),(g1,169,(flat (upto k1 (λj=>tmA (T j)) zt) n).toArray)]) [true,true] (M:=[(g0,132,(tcs 0 0 0)),(g1,169,(flat (λ_=>zt) n).toArray)]) (all_cons kR (all_cons kR (all_cons kR (all_cons kR (all_cons kR all_nil))))) kR (bcons rfl (bcons (beq (upto_zero)) rfl)) (λk1 hk1=>?_)
 refine sC ?_
 obtain ⟨b1,hb1⟩:∃ z:Bool,z=decide (k1<n):=⟨_,rfl⟩
 refine sS (.bool b1) (Quiet.pure (exec_int .lss _ _ _ .i64 _ _ _ rfl rfl rfl (int_lss _ _ _ _ _ (by rw [hb1]; exact decide_eq_decide.2 (by omega))))) ?_
 refine sG<|Sy.seq ?_
 cases b1
 ·have lb1:¬ (k1<n):=of_decide_eq_false hb1.symm
  refine sU<|Sy.exit<|Sy.then_exit<|Sy.then_exit ?_
  obtain rfl:n=k1:=by omega
  refine Sy.in_exit<|sB ?_
  refine sM 132 (tcs 0 0 0) (λg2=>?_)
  refine sG<|Sy.seq<|sC ?_
  refine sP (.int .i64 0) ?_
  refine sG<|Sy.block ?_
  refine Sy.loopK 64 (λk2=>[(2,.pointer (some ⟨g0,0,none⟩)),(3,.slice (some ⟨g1,0,none⟩) n n),(6,.pointer (some ⟨g2,0,none⟩)),(31,.int .i64 ((k2:Nat):Int))]) (λk2=>[(g0,132,(tcs 0 0 0)),(g1,169,(flat ((λj=>tmA (T j))) n).toArray),(g2,132,(tcs ((muJ T n k2).x.val) ((muJ T n k2).y.val) ((muJ T n k2).z.val)))]) [true,true,true] (M:=[(g0,132,(tcs 0 0 0)),(g1,169,(flat (upto n (λj=>tmA (T j)) zt) n).toArray),(g2,132,(tcs 0 0 0))]) (all_cons kR (all_cons kR (all_cons kR (all_cons kR all_nil)))) kR (bcons rfl (bcons (beq (upto_all)) (bcons rfl rfl))) (λk2 hk2=>?_)
  refine sC ?_
  obtain ⟨b2,hb2⟩:∃ z:Bool,z=decide (k2<64):=⟨_,rfl⟩
  refine sS (.bool b2) (Quiet.pure (exec_int .lss _ _ _ .i64 _ _ _ rfl rfl rfl (int_lss _ _ _ _ _ (by rw [hb2]; exact decide_eq_decide.2 (by omega))))) ?_
  refine sG<|Sy.seq ?_
  cases b2
  ·have lb2:¬ (k2<64):=of_decide_eq_false hb2.symm
   refine sU<|Sy.exit<|Sy.then_exit<|Sy.then_exit ?_
   obtain rfl:k2=64:=by omega
   refine Sy.in_exit<|sB ?_
   refine sS (tv ((muJ T n 64).x.val) ((muJ T n 64).y.val) ((muJ T n 64).z.val)) (qL 2 g2 0 12 132 132 (tcs ((muJ T n 64).x.val) ((muJ T n 64).y.val) ((muJ T n 64).z.val)) rfl Tryz.underlying132)<|sW 0 g0 132 (tcs 0 0 0) (tcs ((muJ T n 64).x.val) ((muJ T n 64).y.val) ((muJ T n 64).z.val)) (wS 0 132 (tcs ((muJ T n 64).x.val) ((muJ T n 64).y.val) ((muJ T n 64).z.val)) rfl) ?_
   refine sG<|Sy.ret ?_
   exact rC (v:=tv ((muJ T n 64).x.val) ((muJ T n 64).y.val) ((muJ T n 64).z.val)) 132 g0 0 (tcs ((muJ T n 64).x.val) ((muJ T n 64).y.val) ((muJ T n 64).z.val)) rfl Tryz.underlying132
  ·have lb2:k2<64:=of_decide_eq_true hb2.symm
   refine sT<|Sy.skip<|Sy.then_<|Sy.seq<|Sy.block<|sC ?_
   refine sP (.int .i64 ((k2:Nat):Int))<|sP (.int .i64 ((k2:Nat):Int)) ?_
   refine sG<|Sy.seq<|sC ?_
   refine sP (.int .i64 0) ?_
   refine sG<|Sy.block ?_
   refine Sy.loopK 4 (λk3=>[(2,.pointer (some ⟨g0,0,none⟩)),(3,.slice (some ⟨g1,0,none⟩) n n),(6,.pointer (some ⟨g2,0,none⟩)),(7,.int .i64 ((k2:Nat):Int)),(31,.int .i64 ((k2:Nat):Int)),(34,.int .i64 ((k3:Nat):Int))]) (λk3=>[(g0,132,(tcs 0 0 0)),(g1,169,(flat ((λj=>tmA (T j))) n).toArray),(g2,132,(tcs ((dbN (muJ T n k2) k3).x.val) ((dbN (muJ T n k2) k3).y.val) ((dbN (muJ T n k2) k3).z.val)))]) [true,true,true] (M:=[(g0,132,(tcs 0 0 0)),(g1,169,(flat ((λj=>tmA (T j))) n).toArray),(g2,132,(tcs ((muJ T n k2).x.val) ((muJ T n k2).y.val) ((muJ T n k2).z.val)))]) (all_cons kR (all_cons kR (all_cons kR (all_cons kR (all_cons kR (all_cons kR all_nil)))))) kR (bcons rfl (bcons rfl (bcons rfl rfl))) (λk3 hk3=>?_)
   refine sC ?_
   obtain ⟨b3,hb3⟩:∃ z:Bool,z=decide (k3<4):=⟨_,rfl⟩
   refine sS (.bool b3) (Quiet.pure (exec_int .lss _ _ _ .i64 _ _ _ rfl rfl rfl (int_lss _ _ _ _ _ (by rw [hb3]; exact decide_eq_decide.2 (by omega))))) ?_
   refine sG<|Sy.seq ?_
   cases b3
   ·have lb3:¬ (k3<4):=of_decide_eq_false hb3.symm
    refine sU<|Sy.exit<|Sy.then_exit<|Sy.then_exit ?_
    obtain rfl:k3=4:=by omega
    refine Sy.in_exit<|sB ?_
    refine sP (.slice (some ⟨g1,0,none⟩) n n)<|sP (.int .i64 ((n:Nat):Int))<|sP (.int .i64 0) ?_
    refine sG<|Sy.block ?_
    refine Sy.loopK n (λk4=>[(2,.pointer (some ⟨g0,0,none⟩)),(3,.slice (some ⟨g1,0,none⟩) n n),(6,.pointer (some ⟨g2,0,none⟩)),(7,.int .i64 ((k2:Nat):Int)),(31,.int .i64 ((k2:Nat):Int)),(40,.int .i64 ((n:Nat):Int)),(41,.int .i64 ((k4:Nat):Int))]) (λk4=>[(g0,132,(tcs 0 0 0)),(g1,169,(flat ((λj=>tmA (T j))) n).toArray),(g2,132,(tcs ((inJ T k2 (dbN (muJ T n k2) 4) k4).x.val) ((inJ T k2 (dbN (muJ T n k2) 4) k4).y.val) ((inJ T k2 (dbN (muJ T n k2) 4) k4).z.val)))]) [true,true,true] (M:=[(g0,132,(tcs 0 0 0)),(g1,169,(flat ((λj=>tmA (T j))) n).toArray),(g2,132,(tcs ((dbN (muJ T n k2) 4).x.val) ((dbN (muJ T n k2) 4).y.val) ((dbN (muJ T n k2) 4).z.val)))]) (all_cons kR (all_cons kR (all_cons kR (all_cons kR (all_cons kR (all_cons kR (all_cons kR all_nil))))))) kR (bcons rfl (bcons rfl (bcons rfl rfl))) (λk4 hk4=>?_)
    refine sC ?_
    obtain ⟨b4,hb4⟩:∃ z:Bool,z=decide (k4<n):=⟨_,rfl⟩
    refine sS (.bool b4) (Quiet.pure (exec_int .lss _ _ _ .i64 _ _ _ rfl rfl rfl (int_lss _ _ _ _ _ (by rw [hb4]; exact decide_eq_decide.2 (by omega))))) ?_
    refine sG<|Sy.seq ?_
    cases b4
    ·have lb4:¬ (k4<n):=of_decide_eq_false hb4.symm
     refine sU<|Sy.exit<|Sy.then_exit<|Sy.then_exit ?_
     obtain rfl:n=k4:=by omega
     refine Sy.in_exit<|Sy.in_<|Sy.then_<|Sy.region ?_
     refine sS (.int .i64 ((k2+1:Nat):Int)) (Quiet.pure (exec_int .add _ _ _ .i64 _ _ _ rfl rfl rfl (int_add _ _ _ _ _ ((wrap_i64 (by omega) (by omega)).trans (by omega)))))<|sP (.int .i64 ((k2+1:Nat):Int)) ?_
     refine Sy.nil ?_
     exact Sy.againK [true,true,true] (M:=[(g0,132,(tcs 0 0 0)),(g1,169,(flat ((λj=>tmA (T j))) n).toArray),(g2,132,(tcs ((inJ T k2 (dbN (muJ T n k2) 4) n).x.val) ((inJ T k2 (dbN (muJ T n k2) 4) n).y.val) ((inJ T k2 (dbN (muJ T n k2) 4) n).z.val)))]) (by omega) (all_cons kR (all_cons kR (all_cons kR (all_cons kR all_nil)))) kR (bcons rfl (bcons rfl (bcons rfl rfl)))
    ·have lb4:k4<n:=of_decide_eq_true hb4.symm
     refine sT<|Sy.skip<|Sy.then_<|Sy.seq<|Sy.block<|sC ?_
     refine sP (.int .i64 ((k4:Nat):Int))<|sP (.int .i64 ((k4:Nat):Int)) ?_
     refine sG ?_
     refine Sy.regionD (λj=>j == 7) kR ?_
     refine sD 0 rfl (tv ((inJ T k2 (dbN (muJ T n k2) 4) k4).x.val) ((inJ T k2 (dbN (muJ T n k2) 4) k4).y.val) ((inJ T k2 (dbN (muJ T n k2) 4) k4).z.val)) (qL 2 g2 0 12 132 132 (tcs ((inJ T k2 (dbN (muJ T n k2) 4) k4).x.val) ((inJ T k2 (dbN (muJ T n k2) 4) k4).y.val) ((inJ T k2 (dbN (muJ T n k2) 4) k4).z.val)) rfl Tryz.underlying132)<|sZ 1 rfl (.slice (some ⟨g1,0,none⟩) n n)<|sZ 2 rfl (.int .i64 ((k4:Nat):Int))<|sD 3 rfl (.pointer (some ⟨g1,0+k4*256,none⟩)) (Quiet.pure (exec_at 164 _ _ _ g1 0 n n k4 256 .i64 rfl rfl rfl Tryz.underlying164 kF (by omega)))<|sZ 4 rfl (.int .i64 ((k2:Nat):Int))<|sD 5 rfl (tv ((fewL (threeJ (T k4).pt) (dg (T k4).kn k2)).x.val) ((fewL (threeJ (T k4).pt) (dg (T k4).kn k2)).y.val) ((fewL (threeJ (T k4).pt) (dg (T k4).kn k2)).z.val)) (Quiet.callS 113 #[.pointer (some ⟨g1,0+k4*256,none⟩),.int .i64 ((k2:Nat):Int)] kF (λw hw=>at_c w g1 (0+k4*256) k2 (T k4) (hw.get (i:=1) rfl).lt (by omega) (blk_range (hw.get (i:=1) rfl) (flat_at (tmA_len T) (k:=k4) (by omega) (by omega))))) ?_
     obtain ⟨j1,hj1⟩:∃ z:J,z=addJ (inJ T k2 (dbN (muJ T n k2) 4) k4) (fewL (threeJ (T k4).pt) (dg (T k4).kn k2)):=⟨_,rfl⟩
     refine sD 6 rfl (tv j1.x.val j1.y.val j1.z.val) (qF 76 #[tv ((inJ T k2 (dbN (muJ T n k2) 4) k4).x.val) ((inJ T k2 (dbN (muJ T n k2) 4) k4).y.val) ((inJ T k2 (dbN (muJ T n k2) 4) k4).z.val),tv ((fewL (threeJ (T k4).pt) (dg (T k4).kn k2)).x.val) ((fewL (threeJ (T k4).pt) (dg (T k4).kn k2)).y.val) ((fewL (threeJ (T k4).pt) (dg (T k4).kn k2)).z.val)] (λw=>by rw [hj1]; exact addJ_c w (inJ T k2 (dbN (muJ T n k2) 4) k4) (fewL (threeJ (T k4).pt) (dg (T k4).kn k2))))<|sX 7 rfl 2 g2 132 (tcs ((inJ T k2 (dbN (muJ T n k2) 4) k4).x.val) ((inJ T k2 (dbN (muJ T n k2) 4) k4).y.val) ((inJ T k2 (dbN (muJ T n k2) 4) k4).z.val)) (tcs j1.x.val j1.y.val j1.z.val) (wS 0 132 (tcs j1.x.val j1.y.val j1.z.val) rfl) ?_
     refine sE ?_
     refine Sy.in_<|Sy.then_<|Sy.region ?_
     refine sS (.int .i64 ((k4+1:Nat):Int)) (Quiet.pure (exec_int .add _ _ _ .i64 _ _ _ rfl rfl rfl (int_add _ _ _ _ _ ((wrap_i64 (by omega) (by omega)).trans (by omega)))))<|sP (.int .i64 ((k4+1:Nat):Int)) ?_
     refine Sy.nil ?_
     exact Sy.againK [true,true,true] (M:=[(g0,132,(tcs 0 0 0)),(g1,169,(flat ((λj=>tmA (T j))) n).toArray),(g2,132,(tcs j1.x.val j1.y.val j1.z.val))]) (by omega) (all_cons kR (all_cons kR (all_cons kR (all_cons kR (all_cons kR (all_cons kR (all_cons kR all_nil))))))) kR (bcons rfl (bcons rfl (bcons (beq (by rw [hj1]; rfl)) rfl)))
   ·have lb3:k3<4:=of_decide_eq_true hb3.symm
    refine sT<|Sy.skip<|Sy.then_<|Sy.seq<|Sy.block<|Sy.region ?_
    refine sS (tv ((dbN (muJ T n k2) k3).x.val) ((dbN (muJ T n k2) k3).y.val) ((dbN (muJ T n k2) k3).z.val)) (qL 2 g2 0 12 132 132 (tcs ((dbN (muJ T n k2) k3).x.val) ((dbN (muJ T n k2) k3).y.val) ((dbN (muJ T n k2) k3).z.val)) rfl Tryz.underlying132) ?_
    obtain ⟨j2,hj2⟩:∃ z:J,z=dblJ (dbN (muJ T n k2) k3):=⟨_,rfl⟩
    refine sS (tv j2.x.val j2.y.val j2.z.val) (qF 110 #[tv ((dbN (muJ T n k2) k3).x.val) ((dbN (muJ T n k2) k3).y.val) ((dbN (muJ T n k2) k3).z.val)] (λw=>by rw [hj2]; exact double_c w (dbN (muJ T n k2) k3)))<|sW 2 g2 132 (tcs ((dbN (muJ T n k2) k3).x.val) ((dbN (muJ T n k2) k3).y.val) ((dbN (muJ T n k2) k3).z.val)) (tcs j2.x.val j2.y.val j2.z.val) (wS 0 132 (tcs j2.x.val j2.y.val j2.z.val) rfl) ?_
    refine Sy.nil<|Sy.in_<|Sy.then_<|Sy.region ?_
    refine sS (.int .i64 ((k3+1:Nat):Int)) (Quiet.pure (exec_int .add _ _ _ .i64 _ _ _ rfl rfl rfl (int_add _ _ _ _ _ ((wrap_i64 (by omega) (by omega)).trans (by omega)))))<|sP (.int .i64 ((k3+1:Nat):Int)) ?_
    refine Sy.nil ?_
    exact Sy.againK [true,true,true] (M:=[(g0,132,(tcs 0 0 0)),(g1,169,(flat ((λj=>tmA (T j))) n).toArray),(g2,132,(tcs j2.x.val j2.y.val j2.z.val))]) (by omega) (all_cons kR (all_cons kR (all_cons kR (all_cons kR (all_cons kR (all_cons kR all_nil)))))) kR (bcons rfl (bcons rfl (bcons (beq (by rw [hj2]; rfl)) rfl)))
 ·have lb1:k1<n:=of_decide_eq_true hb1.symm
  refine sT<|Sy.skip<|Sy.then_<|Sy.seq<|Sy.block<|sC ?_
  refine sP (.int .i64 ((k1:Nat):Int))<|sS (.pointer (some ⟨b,o+k1*13,none⟩)) (Quiet.pure (exec_at 101 _ _ _ b o n c k1 13 .i64 rfl rfl rfl Tryz.underlying101 kF (by omega)))<|sS (trv ((T k1).k) ((T k1).x) ((T k1).y) ((T k1).i)) (Quiet.there b (o+k1*13) 13 100 (T k1).cells _ _ rfl kR hb (hT k1 (by omega)) Tryz.underlying100 rfl kR rfl _ kR) ?_
  refine sM 100 (trcs 0 0 0 false) (λg3=>?_)
  refine sP (.int .i64 ((k1:Nat):Int))<|sW 2 g3 100 (trcs 0 0 0 false) (trcs ((T k1).k) ((T k1).x) ((T k1).y) ((T k1).i)) (wS 0 100 (trcs ((T k1).k) ((T k1).x) ((T k1).y) ((T k1).i)) rfl) ?_
  refine sG ?_
  refine Sy.regionD (λj=>j == 11) kR ?_
  refine sZ 0 rfl (.slice (some ⟨g1,0,none⟩) n n)<|sZ 1 rfl (.int .i64 ((k1:Nat):Int))<|sZ 2 rfl (.pointer (some ⟨g3,0,none⟩))<|sD 3 rfl (fv ((T k1).k)) (qL 2 g3 0 4 100 30 (trcs ((T k1).k) ((T k1).x) ((T k1).y) ((T k1).i)) rfl Tryz.underlying30)<|sD 4 rfl (.agg (flat ((dgA (T k1).kn)) 64).toArray) (qF 111 #[fv ((T k1).k)] (λw=>digits_c w (T k1).k (hok k1).1))<|sZ 5 rfl (.pointer (some ⟨g3,4,none⟩))<|sD 6 rfl (pv ((T k1).x) ((T k1).y) ((T k1).i)) (qL 2 g3 4 9 100 66 (trcs ((T k1).k) ((T k1).x) ((T k1).y) ((T k1).i)) rfl Tryz.underlying66)<|sD 7 rfl (ptv (T k1).pt) (qF 49 #[pv ((T k1).x) ((T k1).y) ((T k1).i)] (λw=>right_c w (T k1).x (T k1).y (T k1).i (hok k1).2.1 (hok k1).2.2)) ?_
  refine sD 8 rfl (.agg (flat ((fewA (threeJ (T k1).pt))) 16).toArray) (qF 112 #[ptv (T k1).pt] (λw=>few_p w (T k1).pt))<|sZ 9 rfl (.agg (tmcs (T k1)))<|sD 10 rfl (.pointer (some ⟨g1,0+k1*256,none⟩)) (Quiet.pure (exec_at 164 _ _ _ g1 0 n n k1 256 .i64 rfl rfl rfl Tryz.underlying164 kF (by omega)))<|sX 11 rfl 1 g1 169 (flat (upto k1 (λj=>tmA (T j)) zt) n).toArray (flat (upto (k1+1) (λj=>tmA (T j)) zt) n).toArray (Writes.store (0+k1*256) 169 (tmcs (T k1)) _ _ rfl kR kR kR (flat_fit (upto_len (tmA_len T) rfl _) (k:=k1) (by omega) (by omega)) kR (upto_set (v:=(tmcs (T k1)).toList) (tmA_len T) rfl (rfl) (by omega) (by omega))) ?_
  refine sE ?_
  refine Sy.in_<|Sy.then_<|Sy.region ?_
  refine sS (.int .i64 ((k1+1:Nat):Int)) (Quiet.pure (exec_int .add _ _ _ .i64 _ _ _ rfl rfl rfl (int_add _ _ _ _ _ ((wrap_i64 (by omega) (by omega)).trans (by omega)))))<|sP (.int .i64 ((k1+1:Nat):Int)) ?_
  refine Sy.nil ?_
  exact Sy.againK [true,true,false] (M:=[(g0,132,(tcs 0 0 0)),(g1,169,(flat (upto (k1+1) (λj=>tmA (T j)) zt) n).toArray)]) (by omega) (all_cons kR (all_cons kR (all_cons kR (all_cons kR (all_cons kR all_nil))))) kR (bcons rfl (bcons rfl rfl))
end Cu
end
section
namespace Ec
variable {n:Nat} [NeZero n] {inv:Fin n→Fin n} {α:Type}
def sumF (inv:Fin n→Fin n) (f:α→Pt n) (s:Pt n):List α→Pt n
 | []=>s
 | x::l=>sumF inv f (add inv s (f x)) l
def sumL (inv:Fin n→Fin n) (f:α→Pt n) (l:List α):Pt n:=sumF inv f none l
theorem On.sumF (H:Fld n inv) {f:α→Pt n}:∀ (l:List α) {s:Pt n},On s→(∀ x∈l,On (f x))→On (Ec.sumF inv f s l)
 | [],_,hs,_=>hs
 | x::l,_,hs,hf=>On.sumF H l (On.add H hs (hf x (List.mem_cons_self ..))) λy hy=>hf y (List.mem_cons_of_mem _ hy)
theorem sumF_start (H:Fld n inv) {f:α→Pt n}:∀ (l:List α) {s t:Pt n},On s→On t→(∀ x∈l,On (f x))→sumF inv f (add inv s t) l=add inv s (sumF inv f t l)
 | [],_,_,_,_,_=>rfl
 | x::l,s,t,hs,ht,hf=>by
  have hx:=hf x (List.mem_cons_self ..)
  show sumF inv f (add inv (add inv s t) (f x)) l=add inv s (sumF inv f (add inv t (f x)) l)
  rw [assoc H hs ht hx]
  exact sumF_start H l hs (On.add H ht hx) λy hy=>hf y (List.mem_cons_of_mem _ hy)
theorem sumF_is (H:Fld n inv) {f:α→Pt n} (l:List α) {s:Pt n} (hs:On s) (hf:∀ x∈l,On (f x)):sumF inv f s l=add inv s (sumL inv f l):=by
 have:=sumF_start H l hs (show On none from trivial) hf
 rwa [add_zero] at this
theorem On.sumL (H:Fld n inv) {f:α→Pt n} (l:List α) (hf:∀ x∈l,On (f x)):On (Ec.sumL inv f l):=On.sumF H l trivial hf
theorem sumL_cons (H:Fld n inv) {f:α→Pt n} (x:α) (l:List α) (hf:∀ y∈x::l,On (f y)):sumL inv f (x::l)=add inv (f x) (sumL inv f l):=by
 show sumF inv f (add inv none (f x)) l=_
 rw [zero_add]
 exact sumF_is H l (hf x (List.mem_cons_self ..)) λy hy=>hf y (List.mem_cons_of_mem _ hy)
theorem sumL_append (H:Fld n inv) {f:α→Pt n}:∀ (l m:List α),(∀ x∈l++m,On (f x))→sumL inv f (l++m)=add inv (sumL inv f l) (sumL inv f m)
 | [],m,_=>(zero_add _).symm
 | x::l,m,h=>by
  have h1:∀ y∈l++m,On (f y):=λy hy=>h y (List.mem_cons_of_mem _ hy)
  have h2:∀ y∈x::l,On (f y):=λy hy=>h y (by rcases List.mem_cons.1 hy with rfl | hy; exact List.mem_cons_self ..; exact List.mem_cons_of_mem _ (List.mem_append_left _ hy))
  rw [List.cons_append,sumL_cons H x (l++m) (λy hy=>h y (by rw [List.cons_append]; exact hy)),sumL_append H l m h1,sumL_cons H x l h2,
   assoc H (h x (List.mem_cons_self ..)) (On.sumL H l λy hy=>h1 y (List.mem_append_left _ hy)) (On.sumL H m λy hy=>h1 y (List.mem_append_right _ hy))]
theorem sumL_add (H:Fld n inv) {f g:α→Pt n}:∀ (l:List α),(∀ x∈l,On (f x))→(∀ x∈l,On (g x))→sumL inv (λx=>add inv (f x) (g x)) l=add inv (sumL inv f l) (sumL inv g l)
 | [],_,_=>rfl
 | x::l,hf,hg=>by
  have f1:=hf x (List.mem_cons_self ..)
  have g1:=hg x (List.mem_cons_self ..)
  have hf':∀ y∈l,On (f y):=λy hy=>hf y (List.mem_cons_of_mem _ hy)
  have hg':∀ y∈l,On (g y):=λy hy=>hg y (List.mem_cons_of_mem _ hy)
  rw [sumL_cons H x l (λy hy=>On.add H (hf y hy) (hg y hy)),sumL_cons H x l hf,sumL_cons H x l hg,sumL_add H l hf' hg']
  exact add4 H f1 g1 (On.sumL H l hf') (On.sumL H l hg')
theorem sumL_nm (H:Fld n inv) {f:α→Pt n} (k:Nat):∀ (l:List α),(∀ x∈l,On (f x))→sumL inv (λx=>nm inv k (f x)) l=nm inv k (sumL inv f l)
 | [],_=>(nm_none k).symm
 | x::l,hf=>by
  have f1:=hf x (List.mem_cons_self ..)
  have hf':∀ y∈l,On (f y):=λy hy=>hf y (List.mem_cons_of_mem _ hy)
  rw [sumL_cons H x l (λy hy=>On.nm H (hf y hy) k),sumL_cons H x l hf,sumL_nm H k l hf',nm_sum H f1 (On.sumL H l hf')]
theorem sumL_congr (H:Fld n inv) {f g:α→Pt n}:∀ (l:List α),(∀ x∈l,On (f x))→(∀ x∈l,f x=g x)→sumL inv f l=sumL inv g l
 | [],_,_=>rfl
 | x::l,hf,he=>by
  have hg:∀ y∈x::l,On (g y):=λy hy=>he y hy ▸ hf y hy
  rw [sumL_cons H x l hf,sumL_cons H x l hg,he x (List.mem_cons_self ..),sumL_congr H l (λy hy=>hf y (List.mem_cons_of_mem _ hy)) λy hy=>he y (List.mem_cons_of_mem _ hy)]
theorem horner (H:Fld n inv) {p:α→Pt n} (k:α→Nat) (q:Nat) (l:List α) (hp:∀ x∈l,On (p x)) :
  add inv (nm inv 16 (sumL inv (λx=>nm inv (k x / (16*q)) (p x)) l)) (sumL inv (λx=>nm inv (k x / q%16) (p x)) l)=sumL inv (λx=>nm inv (k x / q) (p x)) l:=by
 rw [← sumL_nm H 16 l λx hx=>On.nm H (hp x hx) _, ← sumL_add H l (λx hx=>On.nm H (On.nm H (hp x hx) _) _) λx hx=>On.nm H (hp x hx) _]
 refine sumL_congr H l (λx hx=>On.add H (On.nm H (On.nm H (hp x hx) _) _) (On.nm H (hp x hx) _)) λx hx=>?_
 rw [← nm_mul H (hp x hx), ← nm_add H (hp x hx)]
 congr 1
 rw [Nat.mul_comm 16 q, ← Nat.div_div_eq_div_mul]
 omega
end Ec
end
section
namespace Cu
open Go.RowKit Sy
theorem sumF_snoc {α:Type} (f:α→Pt):∀ (l:List α) (s:Pt) (x:α),Ec.sumF finv f s (l++[x])=Ec.add finv (Ec.sumF finv f s l) (f x)
 | [],_,_=>rfl
 | y::l,s,x=>sumF_snoc f l (Ec.add finv s (f y)) x
theorem sumL_none {α:Type} (f:α→Pt):∀ (l:List α),(∀ x∈l,f x=none)→Ec.sumL finv f l=none
 | [],_=>rfl
 | x::l,h=>by
  show Ec.sumF finv f (Ec.add finv none (f x)) l=none
  rw [h x (List.mem_cons_self ..),Ec.add_zero]
  exact sumL_none f l λy hy=>h y (List.mem_cons_of_mem _ hy)
theorem sumL_map {α β:Type} (f:β→Pt) (g:α→β) (l:List α):Ec.sumL finv f (l.map g)=Ec.sumL finv (λx=>f (g x)) l:=by
 have h:∀ (l:List α) (s:Pt),Ec.sumF finv f s (l.map g)=Ec.sumF finv (λx=>f (g x)) s l:=by
  intro l
  induction l with
  | nil=>intro _; rfl
  | cons x l ih=>intro s; exact ih _
 exact h l none
theorem dbN_rep {a:J} {P:Pt} (hP:Ec.On P) (h:Ec.Rep a P):∀ j,Ec.Rep (dbN a j) (Ec.nm finv (2 ^ j) P)
 | 0=>by rw [Nat.pow_zero,Ec.nm_one]; exact h
 | j+1=>by
  rw [show 2 ^ (j+1)=2 ^ j+2 ^ j by omega,Ec.nm_add fld hP]
  exact dblJ_rep (hP.nm fld _) (dbN_rep hP h j)
theorem Trm.on (t:Trm):Ec.On t.pt:=dec_on t.x t.y t.i
theorem inJ_rep (T:Nat→Trm) (i:Nat) {a:J} {s:Pt} (hs:Ec.On s) (h:Ec.Rep a s):∀ j,Ec.Rep (inJ T i a j) (Ec.sumF finv (λt=>Ec.nm finv (dg (T t).kn i) (T t).pt) s (List.range j))
 | 0=>h
 | j+1=>by
  rw [List.range_succ,sumF_snoc]
  exact addJ_rep (Ec.On.sumF fld _ hs λx _=>(T x).on.nm fld _) ((T j).on.nm fld _) (inJ_rep T i hs h j) (fewL_rep (T j).on (threeJ_rep _) _)
theorem kn_lt (t:Trm):t.kn<16 ^ 64:=Nat.lt_trans (Nat.mod_lt _ (by decide)) (by decide)
theorem muJ_rep (T:Nat→Trm) (n:Nat):∀ i,i≤64→Ec.Rep (muJ T n i) (Ec.sumL finv (λt=>Ec.nm finv ((T t).kn / 16 ^ (64 - i)) (T t).pt) (List.range n))
 | 0,_=>by
  rw [sumL_none _ _ λx _=>by rw [Nat.sub_zero,Nat.div_eq_of_lt (kn_lt (T x))]; rfl]
  rfl
 | i+1,hi=>by
  have hS:Ec.On (Ec.sumL finv (λt=>Ec.nm finv ((T t).kn / 16 ^ (64 - i)) (T t).pt) (List.range n)):=Ec.On.sumL fld _ λx _=>(T x).on.nm fld _
  have h1:=dbN_rep hS (muJ_rep T n i (by omega)) 4
  have h2:=inJ_rep T i (hS.nm fld _) h1 n
  rw [Ec.sumF_is fld _ (hS.nm fld _) λx _=>(T x).on.nm fld _] at h2
  have e1:16 ^ (64 - i)=16*16 ^ (63 - i):=by rw [show 64 - i=(63 - i)+1 by omega,Nat.pow_succ,Nat.mul_comm]
  have h3:=Ec.horner fld (p:=λt=>(T t).pt) (λt=>(T t).kn) (16 ^ (63 - i)) (List.range n) λx _=>(T x).on
  rw [show 64 - (i+1)=63 - i by omega, ← h3, ← e1]
  exact h2
theorem multi_rep (T:Nat→Trm) (n:Nat):Ec.Rep (muJ T n 64) (Ec.sumL finv (λt=>Ec.nm finv (T t).kn (T t).pt) (List.range n)):=by
 have h:=muJ_rep T n 64 (Nat.le_refl _)
 simpa using h
def szC (n c:Nat):Nat:=min 32 (n - c*32)
def chJ (T:Nat→Trm) (n:Nat) (s:J) (c:Nat):J:=addJ s (muJ (λj=>T (c*32+j)) (szC n c) 64)
def chL (T:Nat→Trm) (n:Nat) (l:List Nat):J:=l.foldl (chJ T n) ⟨0,0,0⟩
theorem chL_snoc (T:Nat→Trm) (n:Nat) (l:List Nat) (c:Nat):chL T n (l++[c])=chJ T n (chL T n l) c:=by simp [chL,List.foldl_append]
theorem chL_rep (T:Nat→Trm) (n:Nat):∀ c,Ec.Rep (chL T n (List.range c)) (Ec.sumL finv (λt=>Ec.nm finv (T t).kn (T t).pt) (List.range (min n (c*32))))
 | 0=>by rw [Nat.zero_mul,Nat.min_zero]; rfl
 | c+1=>by
  have hon:∀ l,Ec.On (Ec.sumL finv (λt=>Ec.nm finv (T t).kn (T t).pt) l):=λl=>Ec.On.sumL fld _ λx _=>(T x).on.nm fld _
  have h1:=chL_rep T n c
  have h2:=multi_rep (λj=>T (c*32+j)) (szC n c)
  have h3:=addJ_rep (hon _) (Ec.On.sumL fld _ λx _=>(T (c*32+x)).on.nm fld _) h1 h2
  rw [List.range_succ,chL_snoc]
  show Ec.Rep (addJ _ _) _
  have e:min n ((c+1)*32)=min n (c*32)+szC n c:=by unfold szC; omega
  rcases Nat.lt_or_ge (c*32) n with hlt | hge
  ·rw [e,List.range_add,Ec.sumL_append fld _ _ λx _=>(T x).on.nm fld _,sumL_map]
   rw [show min n (c*32)=c*32 by omega] at h3 ⊢
   exact h3
  ·have ez:szC n c=0:=by unfold szC; omega
   rw [e,ez,Nat.add_zero]
   rw [ez] at h3
   have e0:∀ f:Nat→Pt,Ec.sumL finv f (List.range 0)=none:=λ_=>rfl
   rw [e0,Ec.add_zero] at h3
   exact h3
theorem chL_all (T:Nat→Trm) (n:Nat):Ec.Rep (chL T n (List.range ((n+31) / 32))) (Ec.sumL finv (λt=>Ec.nm finv (T t).kn (T t).pt) (List.range n)):=by
 have h:=chL_rep T n ((n+31) / 32)
 rwa [show min n ((n+31) / 32*32)=n by omega] at h
end Cu
end
section
namespace Cu
open Go.RowKit Sy
set_option maxRecDepth 100000
set_option maxHeartbeats 4000000
def chV (b off m c:Nat):Value:=.slice (some ⟨b,off+32*c*13,none⟩) (szC m c) (szC m c)
def chE (b off m:Nat) {N:Nat} (x:Fin N):Array Value:=#[chV b off m x.val]
set_option maxHeartbeats 1000000 in
theorem chunk_any (w : World) (A : Option Addr) (m cap : Nat) :
    Calls Tryz.prog 75 #[.slice A m cap,.int .i64 32] w (GetsN w λv M=>∃ g1 g2,v=.func (.func 108) #[] #[.pointer (some ⟨g1,0,none⟩),.pointer (some ⟨g2,0,none⟩)]∧M=[(g1,101,#[.slice A m cap]),(g2,3,#[.int .i64 32])]):=by
  go_enter Tryz.func75,Tryz.ntmps75
  go_wp2
  go_ret
  refine ⟨_,_,rfl,⟨_,_,rfl,rfl⟩,below_alloc2 w _ _,λg t cs hm=>?_,?_⟩
  · simp only [List.mem_cons,List.not_mem_nil,or_false,Prod.mk.injEq] at hm
    rcases hm with ⟨rfl,rfl,rfl⟩ | ⟨rfl,rfl,rfl⟩
    · exact ⟨Nat.le_refl _,(Blk.new w _ _).alloc _⟩
    · exact ⟨by omega,blk_new2 w _ _ _⟩
  · simp
theorem chunk1_in (n l Bs Bn n₀ b off m cap N : Nat) (hN0 : N = (m + 31) / 32) (hm : m ≤ cap) (hm2 : m ≤ 4611686018427387904) (J Jx : List (Fin N) → World → Prop) (W : World) (hJ : AbidesFrom W.heap.size J) (hJx : AbidesFrom W.heap.size Jx)
    (hY:∀ pre x W1,J pre W1→pre.length<N→YieldAt Fence.wide (n - 1) Tryz.prog l (chE b off m x) W1 λe W'=>(e=.returned (.bool true)∧J (pre++[x]) W'∧KpL n₀ [(Bs,101,#[.slice (some ⟨b,off,none⟩) m cap]),(Bn,3,#[.int .i64 32])] W1 W')∨(e=.returned (.bool false)∧Jx (pre++[x]) W'))
    (hS:Blk W Bs 101 #[.slice (some ⟨b,off,none⟩) m cap]) (hN:Blk W Bn 3 #[.int .i64 32]) (h0:J [] W) :
    CallsIn Fence.wide n Tryz.prog 108 #[.func (.yield l) #[] #[],.pointer (some ⟨Bs,0,none⟩),.pointer (some ⟨Bn,0,none⟩)] W λe W'=>(∃ v,e=.returned v)∧((∃ ys:List (Fin N),ys.map (·.1)=List.range N∧J ys W')∨(∃ pre:List (Fin N),(∃ k,k≤N∧pre.map (·.1)=List.range k)∧Jx pre W')):=by
  refine Sy.enterP (args:=[.func (.yield l) #[] #[],.pointer (some ⟨Bs,0,none⟩),.pointer (some ⟨Bn,0,none⟩)]) Tryz.func108 rfl kL ?_
  refine sC ?_
  refine sP (.int .i64 0) ?_
  refine sG<|Sy.block ?_
  refine Sy.loopP N (λk1=>[(0,.func (.yield l) #[] #[]),(1,.pointer (some ⟨Bs,0,none⟩)),(2,.pointer (some ⟨Bn,0,none⟩)),(4,.int .i64 ((32*k1:Nat):Int))]) (λk1 w=>∃ pre:List (Fin N),pre.map (·.1)=List.range k1∧J pre w∧Blk w Bs 101 #[.slice (some ⟨b,off,none⟩) m cap]∧Blk w Bn 3 #[.int .i64 32]) (all_cons kR (all_cons kR (all_cons kR (all_cons kR all_nil)))) (λw hg=>⟨[],rfl,abides_gr hJ h0 hg,hg.blk hS,hg.blk hN⟩) (λk1 wr hk1 hz=>?_)
  clear hS hN
  obtain ⟨pre,hpre,hj,hS,hN⟩:=hz
  have hlen:pre.length=k1:=by have:=congrArg List.length hpre; rwa [List.length_map,List.length_range] at this
  refine Sy.seq<|sC ?_
  refine sP (.int .i64 ((32*k1:Nat):Int))<|sS (.slice (some ⟨b,off,none⟩) m cap) (Quiet.thereOne Bs 0 101 _ _ rfl kR hS.lt _ (hS.cell 0) Tryz.underlying101 rfl)<|sP (.int .i64 ((m:Nat):Int)) ?_
  obtain ⟨b1,hb1⟩:∃ z:Bool,z=decide (32*k1<m):=⟨_,rfl⟩
  refine sS (.bool b1) (Quiet.pure (exec_int .lss _ _ _ .i64 _ _ _ rfl rfl rfl (int_lss _ _ _ _ _ (by rw [hb1]; exact decide_eq_decide.2 (by omega))))) ?_
  refine sG ?_
  cases b1
  · have lb1:¬ (32*k1<m):=of_decide_eq_false hb1.symm
    refine sU<|Sy.exit<|Sy.then_exit<|Sy.then_exit ?_
    obtain rfl:N=k1:=by omega
    refine Sy.in_exit ?_
    exact Sy.retP rfl (λv w3 hg=>⟨⟨_,rfl⟩,.inl ⟨pre,hpre,abides_gr hJ hj hg⟩⟩) (.inr rfl)
  · have lb1 : 32 * k1 < m := of_decide_eq_true hb1.symm
    refine sT<|Sy.skip<|Sy.then_<|Sy.seq<|Sy.block<|Sy.seq ?_
    refine Sy.regionD (λj=>false) kR ?_
    refine sD 0 rfl (.int .i64 ((32:Nat):Int)) (Quiet.thereOne Bn 0 3 _ _ rfl kR hN.lt _ (hN.cell 0) Tryz.underlying3 rfl)<|sD 1 rfl (.slice (some ⟨b,off,none⟩) m cap) (Quiet.thereOne Bs 0 101 _ _ rfl kR hS.lt _ (hS.cell 0) Tryz.underlying101 rfl)<|sZ 2 rfl (.int .i64 ((32*k1:Nat):Int))<|sD 3 rfl (.slice (some ⟨b,off+(32*k1)*13,none⟩) (m - (32*k1)) (cap - (32*k1))) (Quiet.pure (exec_sl1 _ _ _ b off m cap (32*k1) 13 .i64 rfl rfl rfl kR kF (by omega) (by omega)))<|sZ 4 rfl (.int .i64 (((m - (32*k1)):Nat):Int)) ?_
    obtain ⟨sz,hsz⟩:∃ z,z=szC m k1:=⟨_,rfl⟩
    have hs:0<sz∧32*k1+sz≤m:=by rw [hsz]; unfold szC; omega
    refine sD 5 rfl (.int .i64 ((sz:Nat):Int)) (Quiet.pure (exec_min _ _ .i64 32 (m - (32*k1)) sz rfl rfl rfl (by rw [hsz]; unfold szC; omega)))<|sZ 6 rfl (.int .i64 ((sz:Nat):Int)) ?_
    refine sI ?_
    refine Sy.seq ?_
    have hx:k1<N:=by omega
    refine Sy.regionY 10 (by rintro ⟨_,_,⟨_,hv⟩,_⟩; cases hv) kR ?_
    refine sP (.func (.yield l) #[] #[])<|sS (.slice (some ⟨b,off,none⟩) m cap) (Quiet.thereOne Bs 0 101 _ _ rfl kR hS.lt _ (hS.cell 0) Tryz.underlying101 rfl)<|sP (.int .i64 ((32*k1:Nat):Int))<|sP (.int .i64 ((32*k1:Nat):Int))<|sP (.int .i64 ((sz:Nat):Int))<|sS (.int .i64 (((32*k1)+sz:Nat):Int)) (Quiet.pure (exec_int .add _ _ _ .i64 _ _ _ rfl rfl rfl (int_add _ _ _ _ _ ((wrap_i64 (by omega) (by omega)).trans (by omega)))))<|sP (.int .i64 ((32*k1:Nat):Int))<|sP (.int .i64 ((sz:Nat):Int)) ?_
    refine sS (.int .i64 (((32*k1)+sz:Nat):Int)) (Quiet.pure (exec_int .add _ _ _ .i64 _ _ _ rfl rfl rfl (int_add _ _ _ _ _ ((wrap_i64 (by omega) (by omega)).trans (by omega)))))<|sS (.slice (some ⟨b,off+(32*k1)*13,none⟩) (((32*k1)+sz) - (32*k1)) (((32*k1)+sz) - (32*k1))) (Quiet.pure (exec_sl3 _ _ _ _ _ b off m cap (32*k1) ((32*k1)+sz) ((32*k1)+sz) 13 .i64 .i64 .i64 rfl rfl rfl rfl rfl kR kF (by have:=hs; omega) (by have:=hs; omega) (by have:=hs; omega) (by have:=hs; omega))) ?_
    refine Sy.nil ?_
    refine Sy.yieldX (ro := none) rfl (by rintro ⟨_, _, ⟨_, hv⟩, _⟩; cases hv) kR kR l #[.slice (some ⟨b, off + (32 * k1) * 13, none⟩) (((32 * k1) + sz) - (32 * k1)) (((32 * k1) + sz) - (32 * k1))] kF (fun e W' => (e = .returned (.bool true) ∧ J (pre ++ [⟨k1, hx⟩]) W' ∧ Blk W' Bs 101 #[.slice (some ⟨b, off, none⟩) m cap] ∧ Blk W' Bn 3 #[.int .i64 32]) ∨ (e = .returned (.bool false) ∧ Jx (pre ++ [⟨k1, hx⟩]) W')) (fun w hg => by
            have e:chE b off m ⟨k1,hx⟩=#[.slice (some ⟨b,off+32*k1*13,none⟩) (32*k1+sz - 32*k1) (32*k1+sz - 32*k1)]:=by unfold chE chV; rw [← hsz,Nat.add_sub_cancel_left]
            have y:=hY pre ⟨k1,hx⟩ w (abides_gr hJ hj hg) (by omega)
            rw [e] at y
            exact yield_mono y (λe w' q=>q.imp (λq=>⟨q.1,q.2.1,q.2.2.2 (Bs,101,_) (by simp) (hg.blk hS),q.2.2.2 (Bn,3,_) (by simp) (hg.blk hN)⟩) id)) (λe w' q=>q.elim (λq=>⟨_,q.1⟩) (λq=>⟨_,q.1⟩)) rfl (λw2 b hr=>?_)
    cases b
    · have hx2:=hr.elim (λq=>by cases q.1) (λq=>q.2)
      refine sP (.bool true) ?_
      refine sG<|sT<|Sy.ret<|Sy.in_ret<|Sy.then_ret<|Sy.then_ret<|Sy.in_ret ?_
      exact Sy.retP rfl (λv w3 hg=>⟨⟨_,rfl⟩,.inr ⟨pre++[⟨k1,hx⟩],⟨k1+1,by omega,by rw [List.map_append,hpre,List.range_succ]; rfl⟩,abides_gr hJx hx2 hg⟩⟩) (.inl rfl)
    · clear hS hN hj
      obtain ⟨hj,hS,hN⟩:=hr.elim (λq=>q.2) (λq=>by cases q.1)
      refine sP (.bool false) ?_
      refine sG<|sU<|Sy.skip<|Sy.in_<|Sy.then_<|Sy.region ?_
      refine sP (.int .i64 ((32*k1:Nat):Int))<|sS (.int .i64 ((32:Nat):Int)) (Quiet.thereOne Bn 0 3 _ _ rfl kR hN.lt _ (hN.cell 0) Tryz.underlying3 rfl)<|sS (.int .i64 (((32*k1)+32:Nat):Int)) (Quiet.pure (exec_int .add _ _ _ .i64 _ _ _ rfl rfl rfl (int_add _ _ _ _ _ ((wrap_i64 (by omega) (by omega)).trans (by omega)))))<|sP (.int .i64 (((32*k1)+32:Nat):Int)) ?_
      refine Sy.nil ?_
      exact Sy.againP (by omega) (all_cons kR (all_cons kR (all_cons kR (all_cons kR all_nil)))) (λw3 hg=>⟨pre++[⟨k1,hx⟩],by rw [List.map_append,hpre,List.range_succ]; rfl,abides_gr hJ hj hg,hg.blk hS,hg.blk hN⟩)
theorem chunk0_in (n l Bs Bn cap : Nat) (A : Option Addr) (J Jx : List (Fin 0) → World → Prop) (W : World) (hJ : AbidesFrom W.heap.size J)
    (hS:Blk W Bs 101 #[.slice A 0 cap]) (hN:Blk W Bn 3 #[.int .i64 32]) (h0:J [] W) :
    CallsIn Fence.wide n Tryz.prog 108 #[.func (.yield l) #[] #[],.pointer (some ⟨Bs,0,none⟩),.pointer (some ⟨Bn,0,none⟩)] W λe W'=>(∃ v,e=.returned v)∧((∃ ys:List (Fin 0),ys.map (·.1)=List.range 0∧J ys W')∨(∃ pre:List (Fin 0),(∃ k,k≤0∧pre.map (·.1)=List.range k)∧Jx pre W')):=by
  refine Sy.enterP (args:=[.func (.yield l) #[] #[],.pointer (some ⟨Bs,0,none⟩),.pointer (some ⟨Bn,0,none⟩)]) Tryz.func108 rfl kL ?_
  refine sC ?_
  refine sP (.int .i64 0) ?_
  refine sG<|Sy.block ?_
  refine Sy.loopP 0 (λk1=>[(0,.func (.yield l) #[] #[]),(1,.pointer (some ⟨Bs,0,none⟩)),(2,.pointer (some ⟨Bn,0,none⟩)),(4,.int .i64 ((32*k1:Nat):Int))]) (λk1 w=>J [] w∧Blk w Bs 101 #[.slice A 0 cap]∧Blk w Bn 3 #[.int .i64 32]) (all_cons kR (all_cons kR (all_cons kR (all_cons kR all_nil)))) (λw hg=>⟨abides_gr hJ h0 hg,hg.blk hS,hg.blk hN⟩) (λk1 wr hk1 hz=>?_)
  clear hS hN
  obtain ⟨hj,hS,hN⟩:=hz
  refine Sy.seq<|sC ?_
  refine sP (.int .i64 ((32*k1:Nat):Int))<|sS (.slice A 0 cap) (Quiet.thereOne Bs 0 101 _ _ rfl kR hS.lt _ (hS.cell 0) Tryz.underlying101 rfl)<|sP (.int .i64 ((0:Nat):Int)) ?_
  obtain ⟨b1,hb1⟩:∃ z:Bool,z=decide (32*k1<0):=⟨_,rfl⟩
  refine sS (.bool b1) (Quiet.pure (exec_int .lss _ _ _ .i64 _ _ _ rfl rfl rfl (int_lss _ _ _ _ _ (by rw [hb1]; exact decide_eq_decide.2 (by omega))))) ?_
  refine sG ?_
  cases b1
  · have lb1:¬ (32*k1<0):=of_decide_eq_false hb1.symm
    refine sU<|Sy.exit<|Sy.then_exit<|Sy.then_exit ?_
    obtain rfl:k1=0:=by omega
    refine Sy.in_exit ?_
    exact Sy.retP rfl (λv w3 hg=>⟨⟨_,rfl⟩,.inl ⟨[],rfl,abides_gr hJ hj hg⟩⟩) (.inr rfl)
  · have lb1:32*k1<0:=of_decide_eq_true hb1.symm
    refine sT<|Sy.skip<|Sy.then_<|Sy.seq ?_
    exact absurd lb1 (by omega)
def TSrc (w:World) (A:Option Addr) (n:Nat) (T:Nat→Trm) (b o:Nat):Prop:=0<n→A=some ⟨b,o,none⟩∧b<w.heap.size∧∀ j,j<n→w.rangeAt b (o+j*13) (T j).cells
theorem chunk_stops (n Bs Bn n₀ b off m cap N : Nat) (A : Option Addr) (hN0 : N = (m + 31) / 32) (hm : m ≤ cap) (hm2 : m ≤ 4611686018427387904) (hA : 0 < m → A = some ⟨b, off, none⟩) (w : World) (hS : Blk w Bs 101 #[.slice A m cap]) (hN : Blk w Bn 3 #[.int .i64 32]) :
    SeqStopsK Fence.wide n Tryz.prog 108 #[.pointer (some ⟨Bs,0,none⟩),.pointer (some ⟨Bn,0,none⟩)] (chE b off m (N:=N)) (KpL n₀ [(Bs,101,#[.slice A m cap]),(Bn,3,#[.int .i64 32])]) (λys=>ys.map (·.1)=List.range N) (λpre=>∃ k,k≤N∧pre.map (·.1)=List.range k) N w:=λl J Jx W hW hJ hJx hY h0=>by
  have hS':=hS.below hW hS.lt
  have hN':=hN.below hW hN.lt
  rcases Nat.eq_zero_or_pos m with h | h
  · subst h
    obtain rfl:N=0:=hN0
    exact chunk0_in n l Bs Bn cap A J Jx W hJ hS' hN' h0
  · obtain rfl:=hA h
    exact chunk1_in n l Bs Bn n₀ b off m cap N hN0 hm hm2 J Jx W hJ hJx hY hS' hN' h0
end Cu
end
section
namespace Cu
open Go.RowKit Sy
theorem rangeN2 {w w':World} {g o o':Nat} {vs:List Value} (h:w.rangeAt g o vs) (hb:Below w.heap.size w w') (hg:g<w.heap.size) (e:o'=o):w'.rangeAt g o' vs:=λj v hj=>by
 rw [e]
 exact (Below.cell (p:=⟨g,o+j,none⟩) hb hg).trans (h j v hj)
set_option maxHeartbeats 4000000 in
set_option maxRecDepth 100000 in
theorem multi_any (w:World) (A:Option Addr) (b o n c:Nat) (T:Nat→Trm) (hnc:n≤c) (hc:n≤4611686018427387904) (hok:∀ j,(T j).ok) (hT:TSrc w A n T b o):Calls Tryz.prog 47 #[.slice A n c] w (Gets w (ptv (Ec.sumL finv (λt=>Ec.nm finv (T t).kn (T t).pt) (List.range n)))):=by
 obtain ⟨N,hN0⟩:∃ N,N=(n+31) / 32:=⟨_,rfl⟩
 obtain ⟨R,hR⟩:∃ R,R=ptJ (chL T n (List.range N)):=⟨_,rfl⟩
 have hRs:Ec.sumL finv (λt=>Ec.nm finv (T t).kn (T t).pt) (List.range n)=R:=by rw [hR,hN0]; exact (ptJ_rep (chL_all T n)).symm
 rw [hRs]
 have hRo:Ec.On R:=by rw [← hRs]; exact Ec.On.sumL fld _ λx _=>(T x).on.nm fld _
 obtain ⟨rx,ry,ri,_,_,eR,_,_⟩:=ptv_raw R hRo
 rw [eR]
 refine Sy.enterM (args:=[.slice A n c]) Tryz.func47 rfl kL ?_
 refine sC ?_
 refine sM 66 (pcs 0 0 false) (λg0=>?_)
 refine sA ?_
 refine sM 132 (tcs 0 0 0) (λg1=>?_)
 refine sG<|Sy.seq<|sC ?_
 refine sP (.slice A n c) ?_
 refine Sy.callN kR 75 #[.slice A n c,.int .i64 32] kF (λv M=>∃ g1 g2,v=.func (.func 108) #[] #[.pointer (some ⟨g1,0,none⟩),.pointer (some ⟨g2,0,none⟩)]∧M=[(g1,101,#[.slice A n c]),(g2,3,#[.int .i64 32])]) (λw _=>chunk_any w _ _ _) (λv M hR0=>?_)
 obtain ⟨u1,u2,rfl,rfl⟩:=hR0
 refine sG<|Sy.block ?_
 refine Sy.rangeF (α:=Fin N) 108 #[.pointer (some ⟨u1,0,none⟩),.pointer (some ⟨u2,0,none⟩)] kR kR (enters_of Tryz.func108 kR rfl) (chE b o n) [(u1,101,(#[.slice A n c])),(u2,3,(#[.int .i64 32]))] (λys=>ys.map (·.1)=List.range N) (λpre=>∃ k,k≤N∧pre.map (·.1)=List.range k) N (λ_=>rfl) (by decide) [g0,g1,u1,u2] (λ_=>True) (trivial) (λpre=>[(g0,66,(pcs 0 0 false)),(g1,132,(tcs ((chL T n (pre.map (·.1))).x.val) ((chL T n (pre.map (·.1))).y.val) ((chL T n (pre.map (·.1))).z.val))),(u1,101,(#[.slice A n c])),(u2,3,(#[.int .i64 32]))]) (λpre=>[(g0,66,(pcs 0 0 false)),(g1,132,(tcs ((chL T n (pre.map (·.1))).x.val) ((chL T n (pre.map (·.1))).y.val) ((chL T n (pre.map (·.1))).z.val))),(u1,101,(#[.slice A n c])),(u2,3,(#[.int .i64 32]))]) (λ_=>False) [true,true,true,true] kR (λ_=>rfl) ?_ ?_ 0 (λx gs=>[(3,.pointer (some ⟨g1,0,none⟩)),(4,chV b o n x.val)]) (λx gs=>[]) (λx gs h=>by cases gs with | nil=>rfl | cons _ _=>cases h) ?_ ?_ ?_ ?_
 ·intro w hw
  have hS:=hw.get (i:=2) rfl
  have hN:=hw.get (i:=3) rfl
  exact ⟨w,Below.refl _ _,chunk_stops 8 u1 u2 _ b o n c N A hN0 hnc hc (λh=>(hT h).1) w hS hN⟩
 ·intro p hp pre
  simp only [List.mem_cons,List.not_mem_nil,or_false] at hp ⊢
  rcases hp with rfl | rfl <;> simp
 ·intro l fz pre x
  refine Sy.regionR (by rintro ⟨_,_,h⟩; exact h) kR ⟨_,rfl⟩ ?_
  refine sP (chV b o n x.val) ?_
  refine Sy.nil ?_
  exact Sy.apN [] rfl (all_cons kR (all_cons kR all_nil)) [true,true,true,true] kR
 ·intro l fz pre x gs hgs hlen hH
  obtain rfl:gs=[]:=List.eq_nil_of_length_eq_zero hgs
  have hxN:=x.isLt
  have hn0:0<n:=by omega
  refine Sy.block ?_
  refine Sy.regionRD (by rintro ⟨_,_,h⟩; exact h) kR ⟨_,rfl⟩ (λj=>j == 4) kR ?_
  refine sD 0 rfl (tv ((chL T n (pre.map (·.1))).x.val) ((chL T n (pre.map (·.1))).y.val) ((chL T n (pre.map (·.1))).z.val)) (qL 1 g1 0 12 132 132 (tcs ((chL T n (pre.map (·.1))).x.val) ((chL T n (pre.map (·.1))).y.val) ((chL T n (pre.map (·.1))).z.val)) rfl Tryz.underlying132)<|sZ 1 rfl (chV b o n x.val) ?_
  obtain ⟨j1,hj1⟩:∃ z:J,z=muJ (λj=>T (x.val*32+j)) (szC n x.val) 64:=⟨_,rfl⟩
  refine sD 2 rfl (tv j1.x.val j1.y.val j1.z.val) (qG 77 #[chV b o n x.val] (λw hw=>by rw [hj1]; exact multi_c w b (o+32*x.val*13) (szC n x.val) (szC n x.val) (λj=>T (x.val*32+j)) (Nat.lt_of_lt_of_le (hT hn0).2.1 hw.below.size) (by unfold szC; omega) (λj=>hok _) (λj hj=>rangeN2 ((hT hn0).2.2 (x.val*32+j) (by unfold szC at hj; omega)) hw.below (hT hn0).2.1 (by omega)))) ?_
  obtain ⟨j2,hj2⟩:∃ z:J,z=addJ (chL T n (pre.map (·.1))) j1:=⟨_,rfl⟩
  refine sD 3 rfl (tv j2.x.val j2.y.val j2.z.val) (qF 76 #[tv ((chL T n (pre.map (·.1))).x.val) ((chL T n (pre.map (·.1))).y.val) ((chL T n (pre.map (·.1))).z.val),tv j1.x.val j1.y.val j1.z.val] (λw=>by rw [hj2]; exact addJ_c w (chL T n (pre.map (·.1))) j1))<|sX 4 rfl 1 g1 132 (tcs ((chL T n (pre.map (·.1))).x.val) ((chL T n (pre.map (·.1))).y.val) ((chL T n (pre.map (·.1))).z.val)) (tcs j2.x.val j2.y.val j2.z.val) (wS 0 132 (tcs j2.x.val j2.y.val j2.z.val) rfl) ?_
  refine sE ?_
  refine Sy.in_ ?_
  exact Sy.bpN [true,true,true,true] (M:=[(g0,66,(pcs 0 0 false)),(g1,132,(tcs j2.x.val j2.y.val j2.z.val)),(u1,101,(#[.slice A n c])),(u2,3,(#[.int .i64 32]))]) kR (bcons rfl (bcons (beq (by rw [hj2,hj1,List.map_append,List.map_singleton,chL_snoc]; rfl)) (bcons rfl (bcons rfl rfl)))) (trivial)
 ·intro D fz xs hS hH hD hm
  have hS0:xs.map (·.1)=List.range N:=hS
  refine Sy.in_<|sB ?_
  refine sS (tv ((chL T n (xs.map (·.1))).x.val) ((chL T n (xs.map (·.1))).y.val) ((chL T n (xs.map (·.1))).z.val)) (qL 1 g1 0 12 132 132 (tcs ((chL T n (xs.map (·.1))).x.val) ((chL T n (xs.map (·.1))).y.val) ((chL T n (xs.map (·.1))).z.val)) rfl Tryz.underlying132)<|sS (pv rx ry ri) (qF 78 #[tv ((chL T n (xs.map (·.1))).x.val) ((chL T n (xs.map (·.1))).y.val) ((chL T n (xs.map (·.1))).z.val)] (λw=>by rw [← eR,hR, ← hS0]; exact point_c w _))<|sW 0 g0 66 (pcs 0 0 false) (pcs rx ry ri) (wS 0 66 (pcs rx ry ri) rfl) ?_
  refine sG<|Sy.ret ?_
  exact Sy.retM1 (v:=pv rx ry ri) rfl (.inl (Res.cell (ty':=66) g0 0 (pcs rx ry ri) _ kR kR Tryz.underlying66 rfl kR kR)) hD hm
 ·intro D fz pre hS hx hD hm
  exact hx.elim
end Cu
end
section
namespace Cu
open Go.RowKit Sy
theorem one_part {w:World} {g:Nat} {vs:List Value} (h:w.rangeAt g 0 vs):∀ j,j<1→w.rangeAt g (0+j*13) vs:=λj hj=>by
 obtain rfl:j=0:=by omega
 exact h
def pX:Pt→Nat
 | none=>0
 | some (x,_)=>x.val
def pY:Pt→Nat
 | none=>0
 | some (_,y)=>y.val
def pI:Pt→Bool
 | none=>true
 | some _=>false
theorem ptv_parts:∀ P:Pt,ptv P=pv (pX P) (pY P) (pI P)
 | none=>rfl
 | some (_,_)=>rfl
theorem pX_lt:∀ P:Pt,pX P<K4
 | none=>by show 0<_; decide
 | some (x,_)=>lt4 x
theorem pY_lt:∀ P:Pt,pY P<K4
 | none=>by show 0<_; decide
 | some (_,y)=>lt4 y
theorem dec_parts:∀ {P:Pt},Ec.On P→dec (pX P) (pY P) (pI P)=P
 | none,_=>dec_zero
 | some (x,y),h=>dec_fin x y h
set_option maxHeartbeats 4000000 in
set_option maxRecDepth 100000 in
theorem mul_any (w:World) (k x y:Nat) (i:Bool) (hk:k<K4) (hx:x<K4) (hy:y<K4):Calls Tryz.prog 26 #[fv k,pv x y i] w (Gets w (ptv (Ec.nm finv (k%Sc.pM) (dec x y i)))):=by
 obtain ⟨R,hR⟩:∃ R,R=Ec.sumL finv (λt=>Ec.nm finv ((λ_:Nat=>(⟨k,x,y,i⟩:Trm)) t).kn ((λ_:Nat=>(⟨k,x,y,i⟩:Trm)) t).pt) (List.range 1):=⟨_,rfl⟩
 have e:Ec.nm finv (k%Sc.pM) (dec x y i)=R:=by rw [hR]; exact (Ec.zero_add (inv:=finv) _).symm
 rw [e,ptv_parts]
 refine Sy.enter (args:=[fv k,pv x y i]) Tryz.func26 rfl kL ?_
 refine sC ?_
 refine sM 30 (fcs k) (λg0=>?_)
 refine sM 66 (pcs x y i) (λg1=>?_)
 refine sM 66 (pcs 0 0 false) (λg2=>?_)
 refine sA ?_
 refine sS (fv k) (qL 0 g0 0 4 30 30 (fcs k) rfl Tryz.underlying30)<|sS (pv x y i) (qL 1 g1 0 9 66 66 (pcs x y i) rfl Tryz.underlying66)<|sP (trv k x y i) ?_
 refine Sy.make kR 100 (trcs k x y i) (λg=>.slice (some ⟨g,0,none⟩) 1 1) kF (λg3=>?_)
 refine sS (pv (pX R) (pY R) (pI R)) (qG 47 #[.slice (some ⟨g3,0,none⟩) 1 1] (λw hw=>by rw [← ptv_parts,hR]; exact multi_any w _ g3 0 1 1 (λ_=>⟨k,x,y,i⟩) (Nat.le_refl _) (by decide) (λ_=>⟨hk,hx,hy⟩) (λ_=>⟨rfl,(hw.get (i:=3) rfl).lt,one_part (blk_range (hw.get (i:=3) rfl) kR)⟩)))<|sW 2 g2 66 (pcs 0 0 false) (pcs (pX R) (pY R) (pI R)) (wS 0 66 (pcs (pX R) (pY R) (pI R)) rfl) ?_
 refine sG<|Sy.ret ?_
 exact rC (v:=pv (pX R) (pY R) (pI R)) 66 g2 2 (pcs (pX R) (pY R) (pI R)) rfl Tryz.underlying66
end Cu
end
section
namespace Sc
open Go.RowKit Go.Lib
theorem gap_any (w:World):Calls Tryz.prog 58 #[] w λe w'=>e=.returned (fv 432420386565659656852420866394968145599)∧Below w.heap.size w w':=by
 go_enter Tryz.func58,Tryz.ntmps58
 go_wp2
 exact bodyPost_ret (results_cell_row rfl _ _ w.heap.size _ _ (0,0) _ rfl (heap_alloc_new w _) Tryz.underlying30 rfl kR) rfl ⟨rfl,(Below.refl _ _).alloc (Nat.le_refl _) _⟩
set_option maxHeartbeats 8000000 in
set_option maxRecDepth 100000 in
theorem plus_any (w:World) (x y:Nat) (hx:x<(2^256)) (hy:y<(2^256)):Calls Tryz.prog 56 #[fv x,fv y] w λe w'=>(∃ s k:Nat,s<(2^256)∧k≤1∧s+(2^256)*k=x+y∧e=.returned (.tuple #[fv s,.int .u64 (k:Int)]))∧Below w.heap.size w w':=by
 obtain ⟨x0,x1,x2,x3,a0,a1,a2,a3,ex,fx⟩:=words_of x hx
 obtain ⟨y0,y1,y2,y3,b0,b1,b2,b3,ey,fy⟩:=words_of y hy
 rw [fx,fy]
 obtain ⟨s0,c0,d0,k0,e0,r0⟩:=add0_ex x0 y0 a0 b0
 obtain ⟨s1,c1,d1,k1,e1,r1⟩:=addc_ex x1 y1 c0 a1 b1 k0
 obtain ⟨s2,c2,d2,k2,e2,r2⟩:=addc_ex x2 y2 c1 a2 b2 k1
 obtain ⟨s3,c3,d3,k3,e3,r3⟩:=addc_ex x3 y3 c2 a3 b3 k2
 have fin:s0+18446744073709551616*s1+340282366920938463463374607431768211456*s2+6277101735386680763835789423207666416102355444464034512896*s3+(2^256)*c3=x+y:=by omega
 have hs:=Lib.hid (fv_mk s0 s1 s2 s3 d0 d1 d2 d3)
 have hlt:=Lib.hid (fv_lt s0 s1 s2 s3 d0 d1 d2 d3)
 have HF:=Lib.hid fin
 have HK:=Lib.hid k3
 clear ex ey fx fy e0 e1 e2 e3 a0 a1 a2 a3 b0 b1 b2 b3 d0 d1 d2 d3 k0 k1 k2 k3 fin hx hy
 go_enter Tryz.func56,Tryz.ntmps56
 go_wp2_with fail
 go_loopw [5,7] (λbo i wr=>Below w.heap.size w wr∧Blk wr w.heap.size 30 #[.int .u64 (x0:Int),.int .u64 (x1:Int),.int .u64 (x2:Int),.int .u64 (x3:Int)]∧Blk wr (w.heap.size+1) 30 #[.int .u64 (y0:Int),.int .u64 (y1:Int),.int .u64 (y2:Int),.int .u64 (y3:Int)]∧Hid ((i=.int .i64 0∧bo=.int .u64 0∧Blk wr (w.heap.size+2) 30 #[.int .u64 0,.int .u64 0,.int .u64 0,.int .u64 0])∨(i=.int .i64 1∧bo=.int .u64 (c0:Int)∧Blk wr (w.heap.size+2) 30 #[.int .u64 (s0:Int),.int .u64 0,.int .u64 0,.int .u64 0])∨(i=.int .i64 2∧bo=.int .u64 (c1:Int)∧Blk wr (w.heap.size+2) 30 #[.int .u64 (s0:Int),.int .u64 (s1:Int),.int .u64 0,.int .u64 0])∨(i=.int .i64 3∧bo=.int .u64 (c2:Int)∧Blk wr (w.heap.size+2) 30 #[.int .u64 (s0:Int),.int .u64 (s1:Int),.int .u64 (s2:Int),.int .u64 0])∨(i=.int .i64 4∧bo=.int .u64 (c3:Int)∧Blk wr (w.heap.size+2) 30 #[.int .u64 (s0:Int),.int .u64 (s1:Int),.int .u64 (s2:Int),.int .u64 (s3:Int)]))) (λ_ i _=>4 - (RowKit.intOf i).toNat)
 case atStart=>exact ⟨below_alloc3 w _ _ _,((Blk.new w _ _).alloc _).alloc _,(blk_new2 w _ _ _).alloc _,Lib.hid (.inl ⟨rfl,rfl,blk_new3 w _ _ _ _⟩)⟩
 case round =>
  obtain ⟨hb,BX,BY,HI⟩:=hrel
  have lX:=BX.lt
  have lY:=BY.lt
  rcases HI.out with ⟨rfl,rfl,BW⟩ | ⟨rfl,rfl,BW⟩ | ⟨rfl,rfl,BW⟩ | ⟨rfl,rfl,BW⟩ | ⟨rfl,rfl,BW⟩
  ·clear HI
   have px:wr.cell? ⟨w.heap.size,0,none⟩=some (.int .u64 (x0:Int)):=BX.cell 0
   have py:wr.cell? ⟨w.heap.size+1,0,none⟩=some (.int .u64 (y0:Int)):=BY.cell 0
   go_wp2
   refine wp_region_G (λj=>j == 13) kR ?_
   try simp only [Act.put]
   refine tk 0 rfl ?_
   try simp only [Act.put,aA,aZ,aS]
   refine tk 1 rfl ?_
   try simp only [Act.put,aA,aZ,aS]
   refine tk 2 rfl ?_
   try simp only [Act.put,aA,aZ,aS]
   refine tkw 3 rfl (YieldsG.pure (v:=.int .u64 (x0:Int)) (by rfl) (λw9 h9=>by have hz:=(Below.cell (p:=⟨w.heap.size,0,none⟩) h9 lX).trans px; go_simp; first | done | simp [hz])) ?_
   try simp only [Act.put,aA,aZ,aS]
   refine tk 4 rfl ?_
   try simp only [Act.put,aA,aZ,aS]
   refine tk 5 rfl ?_
   try simp only [Act.put,aA,aZ,aS]
   refine tkw 6 rfl (YieldsG.pure (v:=.int .u64 (y0:Int)) (by rfl) (λw9 h9=>by have hz:=(Below.cell (p:=⟨w.heap.size+1,0,none⟩) h9 lY).trans py; go_simp; first | done | simp [hz])) ?_
   try simp only [Act.put,aA,aZ,aS]
   refine tk 7 rfl ?_
   try simp only [Act.put,aA,aZ,aS]
   refine tkw 8 rfl (YieldsG.pure (v:=.tuple #[.int .u64 (s0:Int),.int .u64 (c0:Int)]) (by rfl) (λw9 h9=>by go_simp)) ?_
   try simp only [Act.put,aA,aZ,aS]
   refine tk 9 rfl ?_
   try simp only [Act.put,aA,aZ,aS]
   refine tk 10 rfl ?_
   try simp only [Act.put,aA,aZ,aS]
   refine wpAnyG_takeA 11 rfl kR (λ_ _ _ h=>h) (λ_=>YieldsG.pure (by rfl) (λw9 _=>by go_simp; try with_reducible rfl)) ?_
   try simp only [Act.put,aA,aZ,aS]
   refine tk 12 rfl ?_
   try simp only [Act.put,aA,aZ,aS]
   refine wpAnyG_sole 13 rfl kR (by rfl) (λu hu K hK=>?_)
   have BX:=Gr.blk hu BX
   have BY:=Gr.blk hu BY
   have BW:=Gr.blk hu BW
   have hb:=Below.gr hb hu
   have pc:u.cell? ⟨w.heap.size+2,0,none⟩=some (.int .u64 0):=BW.cell 0
   have pf:=BW.frozen 0
   clear hu px py
   go_simp
   refine hK _ _ (λe=>by cases e) ?_
   clear hK K
   have hb:=hb.setCell (p:=⟨w.heap.size+2,0,none⟩) (by show w.heap.size≤w.heap.size+2; omega) (.int .u64 (s0:Int))
   have BX:=BX.far (p:=⟨w.heap.size+2,0,none⟩) (by show w.heap.size≠w.heap.size+2; omega) (.int .u64 (s0:Int))
   have BY:=BY.far (p:=⟨w.heap.size+2,0,none⟩) (by show w.heap.size+1≠w.heap.size+2; omega) (.int .u64 (s0:Int))
   have BW:=BW.set_ 0 (.int .u64 (s0:Int))
   refine wpAnyG_takeA 14 rfl kR (λ_ _ _ h=>h) (λ_=>YieldsG.pure (by rfl) (λw9 _=>by go_simp; try with_reducible rfl)) ?_
   try simp only [Act.put,aA,aZ,aS]
   refine wpAnyG_done kR (λv hv=>?_)
   have hb:=Below.gr hb hv
   have BX:=Gr.blk hv BX
   have BY:=Gr.blk hv BY
   have BW:=Gr.blk hv BW
   clear hv pc pf
   go_wp2
   refine ⟨⟨hb,BX,BY,Lib.hid (.inr (.inl (⟨rfl,rfl,BW⟩)))⟩,by decide⟩
  ·clear HI
   have px:wr.cell? ⟨w.heap.size,1,none⟩=some (.int .u64 (x1:Int)):=BX.cell 1
   have py:wr.cell? ⟨w.heap.size+1,1,none⟩=some (.int .u64 (y1:Int)):=BY.cell 1
   go_wp2
   refine wp_region_G (λj=>j == 13) kR ?_
   try simp only [Act.put]
   refine tk 0 rfl ?_
   try simp only [Act.put,aA,aZ,aS]
   refine tk 1 rfl ?_
   try simp only [Act.put,aA,aZ,aS]
   refine tk 2 rfl ?_
   try simp only [Act.put,aA,aZ,aS]
   refine tkw 3 rfl (YieldsG.pure (v:=.int .u64 (x1:Int)) (by rfl) (λw9 h9=>by have hz:=(Below.cell (p:=⟨w.heap.size,1,none⟩) h9 lX).trans px; go_simp; first | done | simp [hz])) ?_
   try simp only [Act.put,aA,aZ,aS]
   refine tk 4 rfl ?_
   try simp only [Act.put,aA,aZ,aS]
   refine tk 5 rfl ?_
   try simp only [Act.put,aA,aZ,aS]
   refine tkw 6 rfl (YieldsG.pure (v:=.int .u64 (y1:Int)) (by rfl) (λw9 h9=>by have hz:=(Below.cell (p:=⟨w.heap.size+1,1,none⟩) h9 lY).trans py; go_simp; first | done | simp [hz])) ?_
   try simp only [Act.put,aA,aZ,aS]
   refine tk 7 rfl ?_
   try simp only [Act.put,aA,aZ,aS]
   refine tkw 8 rfl (YieldsG.pure (v:=.tuple #[.int .u64 (s1:Int),.int .u64 (c1:Int)]) (by rfl) (λw9 h9=>by go_simp)) ?_
   try simp only [Act.put,aA,aZ,aS]
   refine tk 9 rfl ?_
   try simp only [Act.put,aA,aZ,aS]
   refine tk 10 rfl ?_
   try simp only [Act.put,aA,aZ,aS]
   refine wpAnyG_takeA 11 rfl kR (λ_ _ _ h=>h) (λ_=>YieldsG.pure (by rfl) (λw9 _=>by go_simp; try with_reducible rfl)) ?_
   try simp only [Act.put,aA,aZ,aS]
   refine tk 12 rfl ?_
   try simp only [Act.put,aA,aZ,aS]
   refine wpAnyG_sole 13 rfl kR (by rfl) (λu hu K hK=>?_)
   have BX:=Gr.blk hu BX
   have BY:=Gr.blk hu BY
   have BW:=Gr.blk hu BW
   have hb:=Below.gr hb hu
   have pc:u.cell? ⟨w.heap.size+2,1,none⟩=some (.int .u64 0):=BW.cell 1
   have pf:=BW.frozen 1
   clear hu px py
   go_simp
   refine hK _ _ (λe=>by cases e) ?_
   clear hK K
   have hb:=hb.setCell (p:=⟨w.heap.size+2,1,none⟩) (by show w.heap.size≤w.heap.size+2; omega) (.int .u64 (s1:Int))
   have BX:=BX.far (p:=⟨w.heap.size+2,1,none⟩) (by show w.heap.size≠w.heap.size+2; omega) (.int .u64 (s1:Int))
   have BY:=BY.far (p:=⟨w.heap.size+2,1,none⟩) (by show w.heap.size+1≠w.heap.size+2; omega) (.int .u64 (s1:Int))
   have BW:=BW.set_ 1 (.int .u64 (s1:Int))
   refine wpAnyG_takeA 14 rfl kR (λ_ _ _ h=>h) (λ_=>YieldsG.pure (by rfl) (λw9 _=>by go_simp; try with_reducible rfl)) ?_
   try simp only [Act.put,aA,aZ,aS]
   refine wpAnyG_done kR (λv hv=>?_)
   have hb:=Below.gr hb hv
   have BX:=Gr.blk hv BX
   have BY:=Gr.blk hv BY
   have BW:=Gr.blk hv BW
   clear hv pc pf
   go_wp2
   refine ⟨⟨hb,BX,BY,Lib.hid (.inr (.inr (.inl (⟨rfl,rfl,BW⟩))))⟩,by decide⟩
  ·clear HI
   have px:wr.cell? ⟨w.heap.size,2,none⟩=some (.int .u64 (x2:Int)):=BX.cell 2
   have py:wr.cell? ⟨w.heap.size+1,2,none⟩=some (.int .u64 (y2:Int)):=BY.cell 2
   go_wp2
   refine wp_region_G (λj=>j == 13) kR ?_
   try simp only [Act.put]
   refine tk 0 rfl ?_
   try simp only [Act.put,aA,aZ,aS]
   refine tk 1 rfl ?_
   try simp only [Act.put,aA,aZ,aS]
   refine tk 2 rfl ?_
   try simp only [Act.put,aA,aZ,aS]
   refine tkw 3 rfl (YieldsG.pure (v:=.int .u64 (x2:Int)) (by rfl) (λw9 h9=>by have hz:=(Below.cell (p:=⟨w.heap.size,2,none⟩) h9 lX).trans px; go_simp; first | done | simp [hz])) ?_
   try simp only [Act.put,aA,aZ,aS]
   refine tk 4 rfl ?_
   try simp only [Act.put,aA,aZ,aS]
   refine tk 5 rfl ?_
   try simp only [Act.put,aA,aZ,aS]
   refine tkw 6 rfl (YieldsG.pure (v:=.int .u64 (y2:Int)) (by rfl) (λw9 h9=>by have hz:=(Below.cell (p:=⟨w.heap.size+1,2,none⟩) h9 lY).trans py; go_simp; first | done | simp [hz])) ?_
   try simp only [Act.put,aA,aZ,aS]
   refine tk 7 rfl ?_
   try simp only [Act.put,aA,aZ,aS]
   refine tkw 8 rfl (YieldsG.pure (v:=.tuple #[.int .u64 (s2:Int),.int .u64 (c2:Int)]) (by rfl) (λw9 h9=>by go_simp)) ?_
   try simp only [Act.put,aA,aZ,aS]
   refine tk 9 rfl ?_
   try simp only [Act.put,aA,aZ,aS]
   refine tk 10 rfl ?_
   try simp only [Act.put,aA,aZ,aS]
   refine wpAnyG_takeA 11 rfl kR (λ_ _ _ h=>h) (λ_=>YieldsG.pure (by rfl) (λw9 _=>by go_simp; try with_reducible rfl)) ?_
   try simp only [Act.put,aA,aZ,aS]
   refine tk 12 rfl ?_
   try simp only [Act.put,aA,aZ,aS]
   refine wpAnyG_sole 13 rfl kR (by rfl) (λu hu K hK=>?_)
   have BX:=Gr.blk hu BX
   have BY:=Gr.blk hu BY
   have BW:=Gr.blk hu BW
   have hb:=Below.gr hb hu
   have pc:u.cell? ⟨w.heap.size+2,2,none⟩=some (.int .u64 0):=BW.cell 2
   have pf:=BW.frozen 2
   clear hu px py
   go_simp
   refine hK _ _ (λe=>by cases e) ?_
   clear hK K
   have hb:=hb.setCell (p:=⟨w.heap.size+2,2,none⟩) (by show w.heap.size≤w.heap.size+2; omega) (.int .u64 (s2:Int))
   have BX:=BX.far (p:=⟨w.heap.size+2,2,none⟩) (by show w.heap.size≠w.heap.size+2; omega) (.int .u64 (s2:Int))
   have BY:=BY.far (p:=⟨w.heap.size+2,2,none⟩) (by show w.heap.size+1≠w.heap.size+2; omega) (.int .u64 (s2:Int))
   have BW:=BW.set_ 2 (.int .u64 (s2:Int))
   refine wpAnyG_takeA 14 rfl kR (λ_ _ _ h=>h) (λ_=>YieldsG.pure (by rfl) (λw9 _=>by go_simp; try with_reducible rfl)) ?_
   try simp only [Act.put,aA,aZ,aS]
   refine wpAnyG_done kR (λv hv=>?_)
   have hb:=Below.gr hb hv
   have BX:=Gr.blk hv BX
   have BY:=Gr.blk hv BY
   have BW:=Gr.blk hv BW
   clear hv pc pf
   go_wp2
   refine ⟨⟨hb,BX,BY,Lib.hid (.inr (.inr (.inr (.inl (⟨rfl,rfl,BW⟩)))))⟩,by decide⟩
  ·clear HI
   have px:wr.cell? ⟨w.heap.size,3,none⟩=some (.int .u64 (x3:Int)):=BX.cell 3
   have py:wr.cell? ⟨w.heap.size+1,3,none⟩=some (.int .u64 (y3:Int)):=BY.cell 3
   go_wp2
   refine wp_region_G (λj=>j == 13) kR ?_
   try simp only [Act.put]
   refine tk 0 rfl ?_
   try simp only [Act.put,aA,aZ,aS]
   refine tk 1 rfl ?_
   try simp only [Act.put,aA,aZ,aS]
   refine tk 2 rfl ?_
   try simp only [Act.put,aA,aZ,aS]
   refine tkw 3 rfl (YieldsG.pure (v:=.int .u64 (x3:Int)) (by rfl) (λw9 h9=>by have hz:=(Below.cell (p:=⟨w.heap.size,3,none⟩) h9 lX).trans px; go_simp; first | done | simp [hz])) ?_
   try simp only [Act.put,aA,aZ,aS]
   refine tk 4 rfl ?_
   try simp only [Act.put,aA,aZ,aS]
   refine tk 5 rfl ?_
   try simp only [Act.put,aA,aZ,aS]
   refine tkw 6 rfl (YieldsG.pure (v:=.int .u64 (y3:Int)) (by rfl) (λw9 h9=>by have hz:=(Below.cell (p:=⟨w.heap.size+1,3,none⟩) h9 lY).trans py; go_simp; first | done | simp [hz])) ?_
   try simp only [Act.put,aA,aZ,aS]
   refine tk 7 rfl ?_
   try simp only [Act.put,aA,aZ,aS]
   refine tkw 8 rfl (YieldsG.pure (v:=.tuple #[.int .u64 (s3:Int),.int .u64 (c3:Int)]) (by rfl) (λw9 h9=>by go_simp)) ?_
   try simp only [Act.put,aA,aZ,aS]
   refine tk 9 rfl ?_
   try simp only [Act.put,aA,aZ,aS]
   refine tk 10 rfl ?_
   try simp only [Act.put,aA,aZ,aS]
   refine wpAnyG_takeA 11 rfl kR (λ_ _ _ h=>h) (λ_=>YieldsG.pure (by rfl) (λw9 _=>by go_simp; try with_reducible rfl)) ?_
   try simp only [Act.put,aA,aZ,aS]
   refine tk 12 rfl ?_
   try simp only [Act.put,aA,aZ,aS]
   refine wpAnyG_sole 13 rfl kR (by rfl) (λu hu K hK=>?_)
   have BX:=Gr.blk hu BX
   have BY:=Gr.blk hu BY
   have BW:=Gr.blk hu BW
   have hb:=Below.gr hb hu
   have pc:u.cell? ⟨w.heap.size+2,3,none⟩=some (.int .u64 0):=BW.cell 3
   have pf:=BW.frozen 3
   clear hu px py
   go_simp
   refine hK _ _ (λe=>by cases e) ?_
   clear hK K
   have hb:=hb.setCell (p:=⟨w.heap.size+2,3,none⟩) (by show w.heap.size≤w.heap.size+2; omega) (.int .u64 (s3:Int))
   have BX:=BX.far (p:=⟨w.heap.size+2,3,none⟩) (by show w.heap.size≠w.heap.size+2; omega) (.int .u64 (s3:Int))
   have BY:=BY.far (p:=⟨w.heap.size+2,3,none⟩) (by show w.heap.size+1≠w.heap.size+2; omega) (.int .u64 (s3:Int))
   have BW:=BW.set_ 3 (.int .u64 (s3:Int))
   refine wpAnyG_takeA 14 rfl kR (λ_ _ _ h=>h) (λ_=>YieldsG.pure (by rfl) (λw9 _=>by go_simp; try with_reducible rfl)) ?_
   try simp only [Act.put,aA,aZ,aS]
   refine wpAnyG_done kR (λv hv=>?_)
   have hb:=Below.gr hb hv
   have BX:=Gr.blk hv BX
   have BY:=Gr.blk hv BY
   have BW:=Gr.blk hv BW
   clear hv pc pf
   go_wp2
   refine ⟨⟨hb,BX,BY,Lib.hid (.inr (.inr (.inr (.inr (⟨rfl,rfl,BW⟩)))))⟩,by decide⟩
  ·clear HI
   obtain ⟨s,hsd⟩:∃ s,s=s0+18446744073709551616*s1+340282366920938463463374607431768211456*s2+6277101735386680763835789423207666416102355444464034512896*s3:=⟨_,rfl⟩
   have hf:=hs.out
   have hl:=hlt.out
   have hn:=HF.out
   rw [← hsd] at hf hl hn
   have BS:=BW.eq_ (fcs_words hf.symm).symm
   have HS:=Lib.hid (And.intro hl hn)
   clear hf hl hn hsd
   go_wp2_with (first | ((with_reducible refine here_load (d:=some 24) ?_); refine wpList_load_fv rfl _ _ rfl (w.heap.size+2) rfl (s) _ _ _ (BS) (fv_fcs s) Tryz.underlying30 rfl kR ?_) | ((with_reducible refine here_store ?_); refine wpList_store_blk rfl _ _ _ rfl (w.heap.size+2) (fcs (s)) rfl rfl _ _ (BS) kR (by rfl) (fcs_one _) ?_; intro w9 hL9 hB9 hK9))
   exact bodyPost_ret (res_cell_tmp rfl _ _ (w.heap.size+2) _ _ _ _ rfl hL9 rfl Tryz.underlying30 rfl kR) rfl ⟨⟨s,c3,HS.out.1,HK.out,HS.out.2,rfl⟩,hb.trans (hB9 _ (by omega))⟩
end Sc
end
section
namespace Sc
open Go.RowKit Go.Lib
set_option maxRecDepth 100000
theorem plus_fv (w:World) (x y s k:Nat) (hx:x<(2^256)) (hy:y<(2^256)) (hs:s<(2^256)) (he:s+(2^256)*k=x+y) :
  Calls Tryz.prog 56 #[fv x,fv y] w λe w'=>e=.returned (.tuple #[fv s,.int .u64 (k:Int)])∧Below w.heap.size w w':=by
 refine (plus_any w x y hx hy).mono ?_
 rintro e w' ⟨⟨s',k',hs',hk',he',rfl⟩,hb⟩
 obtain rfl:k'=k:=by omega
 obtain rfl:s'=s:=by omega
 exact ⟨rfl,hb⟩
set_option maxHeartbeats 1000000 in
theorem addF_any (w:World) (x y:Nat) (hx:x<(2^256)) (hy:y<(2^256)):Calls Tryz.prog 30 #[fv x,fv y] w λe w'=>e=.returned (fv (addP x y))∧Below w.heap.size w w':=by
 obtain ⟨p,hp⟩:∃ p,p=x%pM:=⟨_,rfl⟩
 obtain ⟨q,hq⟩:∃ q,q=y%pM:=⟨_,rfl⟩
 obtain ⟨z,hz⟩:∃ z,z=addP x y:=⟨_,rfl⟩
 have lp:p<115792089237316195423570985008687907852837564279074904382605163141518161494337:=by rw [hp]; exact mod_lt_p x
 have lq:q<115792089237316195423570985008687907852837564279074904382605163141518161494337:=by rw [hq]; exact mod_lt_p y
 have hzs:z=(p+q)%pM:=by rw [hz,addP,hp,hq, ← Nat.add_mod]
 obtain ⟨s,k,hs,hk,he⟩:∃ s k:Nat,s<(2^256)∧k≤1∧s+(2^256)*k=p+q:=⟨(p+q)%(2^256),(p+q) / (2^256),by omega,by omega,by omega⟩
 have cx:∀ w,Calls Tryz.prog 54 #[fv x] w λe w'=>e=.returned (fv p)∧Below w.heap.size w w':=by
  intro w; rw [hp]; exact norm_any w x hx
 have cy:∀ w,Calls Tryz.prog 54 #[fv y] w λe w'=>e=.returned (fv q)∧Below w.heap.size w w':=by
  intro w; rw [hq]; exact norm_any w y hy
 have cp:=λw=>plus_fv w p q s k (by omega) (by omega) hs he
 have cr:=λw=>reduce_at w s k z k rfl hs hk (by omega) (by rw [hzs, ← he])
 rw [← hz]
 obtain ⟨x0,x1,x2,x3,fx⟩:=words_fv x hx
 obtain ⟨y0,y1,y2,y3,fy⟩:=words_fv y hy
 have FX:=Lib.hid fx
 have FY:=Lib.hid fy
 rw [fx,fy]
 clear fx fy hx hy hp hq hz lp lq hzs hs hk he
 go_enter Tryz.func30,Tryz.ntmps30
 go_wp2
 refine wp_region_G (λj=>j == 8) kR ?_
 try simp only [Act.put]
 refine tkw 0 rfl (YieldsG.loadF (by rfl) _ _ rfl (w.heap.size) rfl (x) _ _ (((Blk.new w _ _).alloc _).alloc _) (FX.out) Tryz.underlying30 rfl kR) ?_
 try simp only [Act.put,aA,aZ,aS]
 refine tkw 1 rfl (YieldsG.call (v:=fv p) (by rfl) 54 _ (λw9=>by go_simp; try (first | with_reducible rfl | rfl)) (λw9 h9=>cx w9)) ?_
 try simp only [Act.put,aA,aZ,aS]
 refine tkw 2 rfl (YieldsG.loadF (by rfl) _ _ rfl (w.heap.size+1) rfl (y) _ _ ((blk_new2 w _ _ _).alloc _) (FY.out) Tryz.underlying30 rfl kR) ?_
 try simp only [Act.put,aA,aZ,aS]
 refine tkw 3 rfl (YieldsG.call (v:=fv q) (by rfl) 54 _ (λw9=>by go_simp; try (first | with_reducible rfl | rfl)) (λw9 h9=>cy w9)) ?_
 try simp only [Act.put,aA,aZ,aS]
 refine tkw 4 rfl (YieldsG.call (v:=.tuple #[fv s,.int .u64 (k:Int)]) (by rfl) 56 _ (λw9=>by go_simp; try (first | with_reducible rfl | rfl)) (λw9 h9=>cp w9)) ?_
 try simp only [Act.put,aA,aZ,aS]
 refine tk 5 rfl ?_
 try simp only [Act.put,aA,aZ,aS]
 refine tk 6 rfl ?_
 try simp only [Act.put,aA,aZ,aS]
 refine tkw 7 rfl (YieldsG.call (v:=fv z) (by rfl) 55 _ (λw9=>by go_simp; try (first | with_reducible rfl | rfl)) (λw9 h9=>cr w9)) ?_
 try simp only [Act.put,aA,aZ,aS]
 refine wpAnyG_store 8 rfl kR (by rfl) _ _ _ rfl (w.heap.size+2) (fcs (z)) rfl rfl _ _ (blk_new3 w _ _ _ _) kR (by rfl) (fcs_one _) rfl (λw6 h6 w7 hB7 hL7=>?_)
 try simp only [Act.put]
 refine wpAnyG_done kR (λw8 h8=>?_)
 have hfin:=Gr.blk h8 hL7
 have hb9:=(Below.gr (below_alloc3 w _ _ _) h6).trans ((hB7 _ (by omega)).trans (Below.mono h8 (by have:=hL7.lt; omega)))
 go_wp2
 exact bodyPost_ret (results_cell_row rfl _ _ (w.heap.size+2) _ _ (0,0) _ rfl hfin Tryz.underlying30 rfl kR) rfl ⟨rfl,hb9⟩
set_option maxHeartbeats 1000000 in
theorem negF_any (w:World) (x:Nat) (hx:x<(2^256)):Calls Tryz.prog 28 #[fv x] w λe w'=>e=.returned (fv (negP x))∧Below w.heap.size w w':=by
 obtain ⟨o,ho⟩:∃ o,o=115792089237316195423570985008687907852837564279074904382605163141518161494337:=⟨_,rfl⟩
 obtain ⟨p,hp⟩:∃ p,p=x%pM:=⟨_,rfl⟩
 obtain ⟨z,hz⟩:∃ z,z=negP x:=⟨_,rfl⟩
 have lp:p<115792089237316195423570985008687907852837564279074904382605163141518161494337:=by rw [hp]; exact mod_lt_p x
 obtain ⟨s,hs⟩:∃ s,s=o - p:=⟨_,rfl⟩
 have hzs:z=s%pM:=by rw [hz,negP,hs,ho,hp]; rfl
 have co:=λw=>order_at w o ho
 have cx:∀ w,Calls Tryz.prog 54 #[fv x] w λe w'=>e=.returned (fv p)∧Below w.heap.size w w':=by
  intro w; rw [hp]; exact norm_any w x hx
 have cm:=λw=>minus_fv w o p s 0 (by omega) (by omega) (by omega) (by omega)
 have cz:∀ w,Calls Tryz.prog 54 #[fv s] w λe w'=>e=.returned (fv z)∧Below w.heap.size w w':=by
  intro w; rw [hzs]; exact norm_any w s (by omega)
 obtain ⟨x0,x1,x2,x3,fx⟩:=words_fv x hx
 have FX:=Lib.hid fx
 rw [fx, ← hz]
 clear fx hx ho hp hz lp hs hzs
 go_enter Tryz.func28,Tryz.ntmps28
 go_wp2
 refine wp_region_G (λj=>j == 8) kR ?_
 try simp only [Act.put]
 refine tkw 0 rfl (YieldsG.call (v:=fv o) (by rfl) 53 _ (λw9=>by go_simp; try (first | with_reducible rfl | rfl)) (λw9 h9=>co w9)) ?_
 try simp only [Act.put,aA,aZ,aS]
 refine tkw 1 rfl (YieldsG.loadF (by rfl) _ _ rfl (w.heap.size) rfl (x) _ _ ((Blk.new w _ _).alloc _) (FX.out) Tryz.underlying30 rfl kR) ?_
 try simp only [Act.put,aA,aZ,aS]
 refine tkw 2 rfl (YieldsG.call (v:=fv p) (by rfl) 54 _ (λw9=>by go_simp; try (first | with_reducible rfl | rfl)) (λw9 h9=>cx w9)) ?_
 try simp only [Act.put,aA,aZ,aS]
 refine tkw 3 rfl (YieldsG.call (v:=.tuple #[fv s,.int .u64 ((0:Nat):Int)]) (by rfl) 52 _ (λw9=>by go_simp; try (first | with_reducible rfl | rfl)) (λw9 h9=>cm w9)) ?_
 try simp only [Act.put,aA,aZ,aS]
 refine tk 4 rfl ?_
 try simp only [Act.put,aA,aZ,aS]
 refine tk 5 rfl ?_
 try simp only [Act.put,aA,aZ,aS]
 refine wpAnyG_takeA 6 rfl kR (λ_ _ _ h=>h) (λ_=>YieldsG.pure (by rfl) (λw9 _=>by go_simp; try with_reducible rfl)) ?_
 try simp only [Act.put,aA,aZ,aS]
 refine wpAnyG_sole 7 rfl kR (by rfl) (λw3 h3 K hK=>?_)
 go_simp
 refine hK _ _ (λ_=>gr_alloc _ _) ?_
 clear hK K
 try simp only [Act.put,aA,aZ,aS]
 refine wpAnyG_store 8 rfl kR (by rfl) _ _ _ rfl (w3.heap.size) (fcs (s)) rfl rfl _ _ (Blk.new w3 _ _) kR (by rfl) (fcs_one _) rfl (λw6 h6 w7 hB7 hL7=>?_)
 try simp only [Act.put]
 refine wpAnyG_takeA 9 rfl kR (λ_ _ _ h=>h) (λ_=>YieldsG.pure (by rfl) (λw9 _=>by go_simp; try with_reducible rfl)) ?_
 try simp only [Act.put,aA,aZ,aS]
 refine wpAnyG_done kR (λw8 h8=>?_)
 have BS:=Gr.blk h8 hL7
 have hsz:w.heap.size+2≤w3.heap.size:=by have:=h3.size; simp at this; omega
 have BR:Blk w8 (w.heap.size+1) 30 _:=Gr.blk h8 (Blk.below (B:=w3.heap.size) (Gr.blk h6 (Blk.alloc (Gr.blk h3 (blk_new2 w _ _ _)) _)) (hB7 _ (Nat.le_refl _)) (by omega))
 have hB:Below w.heap.size w w8:=Below.gr ((Below.gr ((Below.gr (below_alloc2 w _ _) h3).alloc (by omega) _) h6).trans (hB7 _ (by omega))) h8
 clear h3 h6 hB7 hL7 h8 cm co cx
 go_wp2_with (first | ((with_reducible refine here_load (d:=some 12) ?_); refine wpList_load_fv rfl _ _ rfl (w3.heap.size) rfl (s) _ _ _ (BS) (fv_fcs s) Tryz.underlying30 rfl kR ?_))
 refine (cz _).mono ?_
 rintro e w9 ⟨rfl,hb⟩
 have BR9:=Gr.blk hb BR
 have hB9:=Below.gr hB hb
 go_wp2_with (first | ((with_reducible refine here_store ?_); refine wpList_store_blk rfl _ _ _ rfl (w.heap.size+1) (fcs (z)) rfl rfl _ _ (BR9) kR (by rfl) (fcs_one _) ?_; intro wz hL hBz hKz))
 exact bodyPost_ret (results_cell_row rfl _ _ (w.heap.size+1) _ _ (0,0) _ rfl hL Tryz.underlying30 rfl kR) rfl ⟨rfl,hB9.trans (hBz _ (by omega))⟩
end Sc
end
section
namespace Cu
open Go.RowKit Sy
set_option maxRecDepth 100000
set_option maxHeartbeats 4000000
def evP (k:Nat):Pt:=Ec.nm finv (k%Sc.pM) bP
theorem evP_on (k:Nat):Ec.On (evP k):=bP_on.nm fld _
def evX:Pt→List UInt8
 | none=>List.replicate 32 0
 | some (x,_)=>bytesS x.val
theorem evX_length:∀ P:Pt,(evX P).length=32
 | none=>rfl
 | some (x,_)=>bytesS_length _
def evD (k:Nat):Nat:=match evP k with
 | none=>0
 | some (_,y)=>if y.val%2=1 then Sc.negP k else k
theorem base_mul (w:World) (k:Nat) (hk:k<K4):Calls Tryz.prog 26 #[fv k,pv gx.val gy.val false] w (Gets w (ptv (evP k))):=by
 have h:=mul_any w k gx.val gy.val false hk (lt4 _) (lt4 _)
 rw [show dec gx.val gy.val false=bP from dec_fin gx gy bP_on] at h
 exact h
theorem enc_pt (w:World) (u v:Fp) (h:v*v=u*u*u+7):Calls Tryz.prog 25 #[pv u.val v.val false] w (Gets w (.agg ((encS (some (u,v))).map bv).toArray)):=by
 have q:=enc_any w u.val v.val false (lt4 _) (lt4 _)
 rw [dec_fin u v h] at q
 exact q
theorem even_none (w:World) (k:Nat) (hk:k<K4) (h:evP k=none):Calls Tryz.prog 13 #[fv k] w (Gets w (.tuple #[fv 0,.agg ((evX none).map bv).toArray,.bool false])):=by
 have cM:∀ w,Calls Tryz.prog 26 #[fv k,pv gx.val gy.val false] w (Gets w (pv 0 0 true)):=λw=>by have q:=base_mul w k hk; rw [h] at q; exact q
 have cE:∀ w,Calls Tryz.prog 25 #[pv 0 0 true] w (Gets w (.agg (Zl 33).toArray)):=λw=>by have q:=enc_any w 0 0 true (by decide) (by decide); rw [dec_zero] at q; exact q
 refine Sy.enter (args:=[fv k]) Tryz.func13 rfl kL ?_
 refine sC ?_
 refine sM 30 (fcs k) (λg0=>?_)
 refine sM 30 (fcs 0) (λg1=>?_)
 refine sM 31 (Zl 32).toArray (λg2=>?_)
 refine sP (.bool false) ?_
 refine sH (λj=>j == 5) ?_
 refine sD 0 rfl (fv k) (qL 0 g0 0 4 30 30 (fcs k) rfl Tryz.underlying30)<|sD 1 rfl (pv gx.val gy.val false) (qF 27 #[] (base_c))<|sD 2 rfl (pv 0 0 true) (qF 26 #[fv k,pv gx.val gy.val false] (cM))<|sD 3 rfl (.agg ((Zl 33):List Value).toArray) (qF 25 #[pv 0 0 true] (cE)) ?_
 refine Sy.makeD 4 rfl kR kR 71 (Zl 33).toArray ptr kF (λg3=>?_)
 refine Sy.writeD 5 rfl kR (by rfl) kR 3 g3 71 (Zl 33).toArray (Zl 33).toArray kR (Writes.store 0 71 (Zl 33).toArray _ _ rfl kR kR kR kL kR kR) ?_
 refine sI ?_
 refine Sy.seq<|sC ?_
 refine sP (.pointer (some ⟨g3,0,none⟩))<|sS (.int .u8 0) (Quiet.cell 3 g3 0 71 5 (Zl 33).toArray _ _ rfl kR kR Tryz.underlying5 rfl _ kR) ?_
 refine sG<|Sy.block<|sC ?_
 refine sP (.bool true)<|sP (.bool true) ?_
 refine sG<|sT<|sC ?_
 refine sP (fv 0)<|sP (.agg ((Zl 32):List Value).toArray)<|sW 1 g1 30 (fcs 0) (fcs 0) (wS 0 30 (fcs 0) rfl)<|sW 2 g2 31 (Zl 32).toArray (Zl 32).toArray (wS 0 31 (Zl 32).toArray rfl)<|sP (.bool false) ?_
 refine sG<|Sy.ret<|Sy.in_ret<|Sy.then_ret ?_
 rw [show (.tuple #[fv 0,.agg ((evX none).map bv).toArray,.bool false]:Value)=.tuple #[fv 0,.agg ((Zl 32):List Value).toArray,.bool false] from by kernel_rfl]
 exact Sy.ret3 (v:=fv 0) (u:=.agg ((Zl 32):List Value).toArray) (x:=.bool false) rfl (.inl (Res.cell (ty':=30) g1 1 (fcs 0) _ kR kR Tryz.underlying30 rfl kR kR)) (.inl (Res.cell (ty':=31) g2 2 (Zl 32).toArray _ kR kR Tryz.underlying31 rfl kR kR)) (.inl (show _=_ by kernel_rfl))
theorem even_2 (w:World) (k:Nat) (hk:k<K4) (u v:Fp) (h:evP k=some (u,v)) (ho:v*v=u*u*u+7) (hv:v.val%2=0):Calls Tryz.prog 13 #[fv k] w (Gets w (.tuple #[fv k,.agg ((evX (some (u,v))).map bv).toArray,.bool true])):=by
 obtain ⟨a0,a1,a2,a3,a4,a5,a6,a7,a8,a9,a10,a11,a12,a13,a14,a15,a16,a17,a18,a19,a20,a21,a22,a23,a24,a25,a26,a27,a28,a29,a30,a31,hm⟩:=list32 (bytesS u.val) (bytesS_length _)
 have cM:∀ w,Calls Tryz.prog 26 #[fv k,pv gx.val gy.val false] w (Gets w (pv u.val v.val false)):=λw=>by have q:=base_mul w k hk; rw [h] at q; exact q
 have cE:∀ w,Calls Tryz.prog 25 #[pv u.val v.val false] w (Gets w (.agg ((.int .u8 2::bv a0::bv a1::[bv a2,bv a3,bv a4,bv a5,bv a6,bv a7,bv a8,bv a9,bv a10,bv a11,bv a12,bv a13,bv a14,bv a15,bv a16,bv a17,bv a18,bv a19,bv a20,bv a21,bv a22,bv a23,bv a24,bv a25,bv a26,bv a27,bv a28,bv a29,bv a30,bv a31]):List Value).toArray)):=λw=>by
  have q:=enc_pt w u v ho
  rw [show encS (some (u,v))=2::bytesS u.val from by show (if v.val%2=1 then (3:UInt8) else 2)::bytesS u.val=_; rw [if_neg (by omega)],hm] at q
  exact q
 refine Sy.enter (args:=[fv k]) Tryz.func13 rfl kL ?_
 refine sC ?_
 refine sM 30 (fcs k) (λg0=>?_)
 refine sM 30 (fcs 0) (λg1=>?_)
 refine sM 31 (Zl 32).toArray (λg2=>?_)
 refine sP (.bool false) ?_
 refine sH (λj=>j == 5) ?_
 refine sD 0 rfl (fv k) (qL 0 g0 0 4 30 30 (fcs k) rfl Tryz.underlying30)<|sD 1 rfl (pv gx.val gy.val false) (qF 27 #[] (base_c))<|sD 2 rfl (pv u.val v.val false) (qF 26 #[fv k,pv gx.val gy.val false] (cM))<|sD 3 rfl (.agg ((.int .u8 2::bv a0::bv a1::[bv a2,bv a3,bv a4,bv a5,bv a6,bv a7,bv a8,bv a9,bv a10,bv a11,bv a12,bv a13,bv a14,bv a15,bv a16,bv a17,bv a18,bv a19,bv a20,bv a21,bv a22,bv a23,bv a24,bv a25,bv a26,bv a27,bv a28,bv a29,bv a30,bv a31]):List Value).toArray) (qF 25 #[pv u.val v.val false] (cE)) ?_
 refine Sy.makeD 4 rfl kR kR 71 (Zl 33).toArray ptr kF (λg3=>?_)
 refine Sy.writeD 5 rfl kR (by rfl) kR 3 g3 71 (Zl 33).toArray (.int .u8 2::bv a0::bv a1::[bv a2,bv a3,bv a4,bv a5,bv a6,bv a7,bv a8,bv a9,bv a10,bv a11,bv a12,bv a13,bv a14,bv a15,bv a16,bv a17,bv a18,bv a19,bv a20,bv a21,bv a22,bv a23,bv a24,bv a25,bv a26,bv a27,bv a28,bv a29,bv a30,bv a31]).toArray kR (Writes.store 0 71 (.int .u8 2::bv a0::bv a1::[bv a2,bv a3,bv a4,bv a5,bv a6,bv a7,bv a8,bv a9,bv a10,bv a11,bv a12,bv a13,bv a14,bv a15,bv a16,bv a17,bv a18,bv a19,bv a20,bv a21,bv a22,bv a23,bv a24,bv a25,bv a26,bv a27,bv a28,bv a29,bv a30,bv a31]).toArray _ _ rfl kR kR kR kL kR kR) ?_
 refine sI ?_
 refine Sy.seq<|sC ?_
 refine sP (.pointer (some ⟨g3,0,none⟩))<|sS (.int .u8 2) (Quiet.cell 3 g3 0 71 5 (.int .u8 2::bv a0::bv a1::[bv a2,bv a3,bv a4,bv a5,bv a6,bv a7,bv a8,bv a9,bv a10,bv a11,bv a12,bv a13,bv a14,bv a15,bv a16,bv a17,bv a18,bv a19,bv a20,bv a21,bv a22,bv a23,bv a24,bv a25,bv a26,bv a27,bv a28,bv a29,bv a30,bv a31]).toArray _ _ rfl kR kR Tryz.underlying5 rfl _ kR) ?_
 refine sG<|Sy.block<|sC ?_
 refine sP (.bool false)<|sP (.bool false) ?_
 refine sG<|sU<|sC ?_
 refine sP (.bool false)<|sP (.bool false) ?_
 refine sG<|sU<|Sy.skip<|Sy.in_ ?_
 refine sR (λj=>j == 4 || j == 5) ?_
 refine sD 0 rfl (fv k) (qL 0 g0 0 4 30 30 (fcs k) rfl Tryz.underlying30) ?_
 refine Sy.joinD (λgq=>[(0,fv k),(1,.pointer (some ⟨g0,0,none⟩)),(2,.pointer (some ⟨g1,0,none⟩)),(3,.pointer (some ⟨g2,0,none⟩)),(4,.bool false),(5,.pointer (some ⟨g3,0,none⟩)),(6,fv k),(7,pv gx.val gy.val false),(8,pv u.val v.val false),(9,.agg ((.int .u8 2::bv a0::bv a1::[bv a2,bv a3,bv a4,bv a5,bv a6,bv a7,bv a8,bv a9,bv a10,bv a11,bv a12,bv a13,bv a14,bv a15,bv a16,bv a17,bv a18,bv a19,bv a20,bv a21,bv a22,bv a23,bv a24,bv a25,bv a26,bv a27,bv a28,bv a29,bv a30,bv a31]):List Value).toArray),(10,.pointer (some ⟨g3,0,none⟩)),(11,.int .u8 2),(12,.bool false),(13,.bool false),(16,.bool false),(17,.bool false),(20,fv k),(21,.slice (some ⟨g3,1,none⟩) 32 32),(22,.pointer (some ⟨g3,1,none⟩)),(23,.agg ((bv a0::bv a1::[bv a2,bv a3,bv a4,bv a5,bv a6,bv a7,bv a8,bv a9,bv a10,bv a11,bv a12,bv a13,bv a14,bv a15,bv a16,bv a17,bv a18,bv a19,bv a20,bv a21,bv a22,bv a23,bv a24,bv a25,bv a26,bv a27,bv a28,bv a29,bv a30,bv a31]):List Value).toArray)]) (λgq=>[(g0,30,(fcs k)),(g1,30,(fcs k)),(g2,31,(Zl 32).toArray),(g3,71,(.int .u8 2::bv a0::bv a1::[bv a2,bv a3,bv a4,bv a5,bv a6,bv a7,bv a8,bv a9,bv a10,bv a11,bv a12,bv a13,bv a14,bv a15,bv a16,bv a17,bv a18,bv a19,bv a20,bv a21,bv a22,bv a23,bv a24,bv a25,bv a26,bv a27,bv a28,bv a29,bv a30,bv a31]).toArray)]) 2 #[true,true,true,true,true,false,false] (λgq=>?_) (λfin=>?_)
 ·refine sX 5 rfl 2 g2 31 (Zl 32).toArray (bv a0::bv a1::[bv a2,bv a3,bv a4,bv a5,bv a6,bv a7,bv a8,bv a9,bv a10,bv a11,bv a12,bv a13,bv a14,bv a15,bv a16,bv a17,bv a18,bv a19,bv a20,bv a21,bv a22,bv a23,bv a24,bv a25,bv a26,bv a27,bv a28,bv a29,bv a30,bv a31]).toArray (wS 0 31 (bv a0::bv a1::[bv a2,bv a3,bv a4,bv a5,bv a6,bv a7,bv a8,bv a9,bv a10,bv a11,bv a12,bv a13,bv a14,bv a15,bv a16,bv a17,bv a18,bv a19,bv a20,bv a21,bv a22,bv a23,bv a24,bv a25,bv a26,bv a27,bv a28,bv a29,bv a30,bv a31]).toArray rfl) ?_
  refine Sy.anyOf [6] kR (by decide) (Sy.each1 ?_)
  refine Sy.oneQuiet rfl kR (.bool true) qP ?_
  refine sI ?_
  refine Sy.ret ?_
  rw [show (.tuple #[fv k,.agg ((evX (some (u,v))).map bv).toArray,.bool true]:Value)=.tuple #[fv k,.agg ((bv a0::bv a1::[bv a2,bv a3,bv a4,bv a5,bv a6,bv a7,bv a8,bv a9,bv a10,bv a11,bv a12,bv a13,bv a14,bv a15,bv a16,bv a17,bv a18,bv a19,bv a20,bv a21,bv a22,bv a23,bv a24,bv a25,bv a26,bv a27,bv a28,bv a29,bv a30,bv a31]):List Value).toArray,.bool true] from by rw [show evX (some (u,v))=bytesS u.val from rfl,hm]; rfl]
  exact Sy.ret3 (v:=fv k) (u:=.agg ((bv a0::bv a1::[bv a2,bv a3,bv a4,bv a5,bv a6,bv a7,bv a8,bv a9,bv a10,bv a11,bv a12,bv a13,bv a14,bv a15,bv a16,bv a17,bv a18,bv a19,bv a20,bv a21,bv a22,bv a23,bv a24,bv a25,bv a26,bv a27,bv a28,bv a29,bv a30,bv a31]):List Value).toArray) (x:=.bool true) rfl (.inl (Res.cell (ty':=30) g1 1 (fcs k) _ kR kR Tryz.underlying30 rfl kR kR)) (.inl (Res.cell (ty':=31) g2 2 (bv a0::bv a1::[bv a2,bv a3,bv a4,bv a5,bv a6,bv a7,bv a8,bv a9,bv a10,bv a11,bv a12,bv a13,bv a14,bv a15,bv a16,bv a17,bv a18,bv a19,bv a20,bv a21,bv a22,bv a23,bv a24,bv a25,bv a26,bv a27,bv a28,bv a29,bv a30,bv a31]).toArray _ kR kR Tryz.underlying31 rfl kR kR)) (.inl (show _=_ by kernel_rfl))
 ·refine Sy.anyOf [1,4] kR (by decide) (Sy.each2 ?_ ?_)
  ·refine Sy.oneQuiet rfl kR (.slice (some ⟨g3,1,none⟩) 32 32) qP ?_
   refine Sy.anyOf [2,4] kR (by decide) (Sy.each2 ?_ ?_)
   ·refine Sy.oneQuiet rfl kR (.pointer (some ⟨g3,1,none⟩)) qP ?_
    refine Sy.anyOf [3,4] kR (by decide) (Sy.each2 ?_ ?_)
    ·refine Sy.oneQuiet rfl kR (.agg ((bv a0::bv a1::[bv a2,bv a3,bv a4,bv a5,bv a6,bv a7,bv a8,bv a9,bv a10,bv a11,bv a12,bv a13,bv a14,bv a15,bv a16,bv a17,bv a18,bv a19,bv a20,bv a21,bv a22,bv a23,bv a24,bv a25,bv a26,bv a27,bv a28,bv a29,bv a30,bv a31]):List Value).toArray) (Quiet.load 3 g3 1 32 71 31 (.int .u8 2::bv a0::bv a1::[bv a2,bv a3,bv a4,bv a5,bv a6,bv a7,bv a8,bv a9,bv a10,bv a11,bv a12,bv a13,bv a14,bv a15,bv a16,bv a17,bv a18,bv a19,bv a20,bv a21,bv a22,bv a23,bv a24,bv a25,bv a26,bv a27,bv a28,bv a29,bv a30,bv a31]).toArray _ _ rfl kR kR Tryz.underlying31 rfl kR _ kR kL) ?_
     refine Sy.anyOf [4] kR (by decide) (Sy.each1 ?_)
     ·refine Sy.oneWrite rfl (by rfl) kR 1 g1 30 (fcs 0) (fcs k) kR (wS 0 30 (fcs k) rfl) ?_
      exact Sy.leafI fin (λi=>0) kR (all_cons kR (all_cons kR (all_cons kR (all_cons kR (all_cons kR (all_cons kR (all_cons kR (all_cons kR (all_cons kR (all_cons kR (all_cons kR (all_cons kR (all_cons kR (all_cons kR (all_cons kR (all_cons kR (all_cons kR (all_cons kR (all_cons kR (all_cons kR all_nil)))))))))))))))))))) kR
    ·refine Sy.oneWrite rfl (by rfl) kR 1 g1 30 (fcs 0) (fcs k) kR (wS 0 30 (fcs k) rfl) ?_
     refine Sy.anyOf [3] kR (by decide) (Sy.each1 ?_)
     ·refine Sy.oneQuiet rfl kR (.agg ((bv a0::bv a1::[bv a2,bv a3,bv a4,bv a5,bv a6,bv a7,bv a8,bv a9,bv a10,bv a11,bv a12,bv a13,bv a14,bv a15,bv a16,bv a17,bv a18,bv a19,bv a20,bv a21,bv a22,bv a23,bv a24,bv a25,bv a26,bv a27,bv a28,bv a29,bv a30,bv a31]):List Value).toArray) (Quiet.load 3 g3 1 32 71 31 (.int .u8 2::bv a0::bv a1::[bv a2,bv a3,bv a4,bv a5,bv a6,bv a7,bv a8,bv a9,bv a10,bv a11,bv a12,bv a13,bv a14,bv a15,bv a16,bv a17,bv a18,bv a19,bv a20,bv a21,bv a22,bv a23,bv a24,bv a25,bv a26,bv a27,bv a28,bv a29,bv a30,bv a31]).toArray _ _ rfl kR kR Tryz.underlying31 rfl kR _ kR kL) ?_
      exact Sy.leafI fin (λi=>0) kR (all_cons kR (all_cons kR (all_cons kR (all_cons kR (all_cons kR (all_cons kR (all_cons kR (all_cons kR (all_cons kR (all_cons kR (all_cons kR (all_cons kR (all_cons kR (all_cons kR (all_cons kR (all_cons kR (all_cons kR (all_cons kR (all_cons kR (all_cons kR all_nil)))))))))))))))))))) kR
   ·refine Sy.oneWrite rfl (by rfl) kR 1 g1 30 (fcs 0) (fcs k) kR (wS 0 30 (fcs k) rfl) ?_
    refine Sy.anyOf [2] kR (by decide) (Sy.each1 ?_)
    ·refine Sy.oneQuiet rfl kR (.pointer (some ⟨g3,1,none⟩)) qP ?_
     refine Sy.anyOf [3] kR (by decide) (Sy.each1 ?_)
     ·refine Sy.oneQuiet rfl kR (.agg ((bv a0::bv a1::[bv a2,bv a3,bv a4,bv a5,bv a6,bv a7,bv a8,bv a9,bv a10,bv a11,bv a12,bv a13,bv a14,bv a15,bv a16,bv a17,bv a18,bv a19,bv a20,bv a21,bv a22,bv a23,bv a24,bv a25,bv a26,bv a27,bv a28,bv a29,bv a30,bv a31]):List Value).toArray) (Quiet.load 3 g3 1 32 71 31 (.int .u8 2::bv a0::bv a1::[bv a2,bv a3,bv a4,bv a5,bv a6,bv a7,bv a8,bv a9,bv a10,bv a11,bv a12,bv a13,bv a14,bv a15,bv a16,bv a17,bv a18,bv a19,bv a20,bv a21,bv a22,bv a23,bv a24,bv a25,bv a26,bv a27,bv a28,bv a29,bv a30,bv a31]).toArray _ _ rfl kR kR Tryz.underlying31 rfl kR _ kR kL) ?_
      exact Sy.leafI fin (λi=>0) kR (all_cons kR (all_cons kR (all_cons kR (all_cons kR (all_cons kR (all_cons kR (all_cons kR (all_cons kR (all_cons kR (all_cons kR (all_cons kR (all_cons kR (all_cons kR (all_cons kR (all_cons kR (all_cons kR (all_cons kR (all_cons kR (all_cons kR (all_cons kR all_nil)))))))))))))))))))) kR
  ·refine Sy.oneWrite rfl (by rfl) kR 1 g1 30 (fcs 0) (fcs k) kR (wS 0 30 (fcs k) rfl) ?_
   refine Sy.anyOf [1] kR (by decide) (Sy.each1 ?_)
   ·refine Sy.oneQuiet rfl kR (.slice (some ⟨g3,1,none⟩) 32 32) qP ?_
    refine Sy.anyOf [2] kR (by decide) (Sy.each1 ?_)
    ·refine Sy.oneQuiet rfl kR (.pointer (some ⟨g3,1,none⟩)) qP ?_
     refine Sy.anyOf [3] kR (by decide) (Sy.each1 ?_)
     ·refine Sy.oneQuiet rfl kR (.agg ((bv a0::bv a1::[bv a2,bv a3,bv a4,bv a5,bv a6,bv a7,bv a8,bv a9,bv a10,bv a11,bv a12,bv a13,bv a14,bv a15,bv a16,bv a17,bv a18,bv a19,bv a20,bv a21,bv a22,bv a23,bv a24,bv a25,bv a26,bv a27,bv a28,bv a29,bv a30,bv a31]):List Value).toArray) (Quiet.load 3 g3 1 32 71 31 (.int .u8 2::bv a0::bv a1::[bv a2,bv a3,bv a4,bv a5,bv a6,bv a7,bv a8,bv a9,bv a10,bv a11,bv a12,bv a13,bv a14,bv a15,bv a16,bv a17,bv a18,bv a19,bv a20,bv a21,bv a22,bv a23,bv a24,bv a25,bv a26,bv a27,bv a28,bv a29,bv a30,bv a31]).toArray _ _ rfl kR kR Tryz.underlying31 rfl kR _ kR kL) ?_
      exact Sy.leafI fin (λi=>0) kR (all_cons kR (all_cons kR (all_cons kR (all_cons kR (all_cons kR (all_cons kR (all_cons kR (all_cons kR (all_cons kR (all_cons kR (all_cons kR (all_cons kR (all_cons kR (all_cons kR (all_cons kR (all_cons kR (all_cons kR (all_cons kR (all_cons kR (all_cons kR all_nil)))))))))))))))))))) kR
theorem even_3 (w:World) (k:Nat) (hk:k<K4) (u v:Fp) (h:evP k=some (u,v)) (ho:v*v=u*u*u+7) (hv:v.val%2=1):Calls Tryz.prog 13 #[fv k] w (Gets w (.tuple #[fv (Sc.negP k),.agg ((evX (some (u,v))).map bv).toArray,.bool true])):=by
 obtain ⟨a0,a1,a2,a3,a4,a5,a6,a7,a8,a9,a10,a11,a12,a13,a14,a15,a16,a17,a18,a19,a20,a21,a22,a23,a24,a25,a26,a27,a28,a29,a30,a31,hm⟩:=list32 (bytesS u.val) (bytesS_length _)
 have cM:∀ w,Calls Tryz.prog 26 #[fv k,pv gx.val gy.val false] w (Gets w (pv u.val v.val false)):=λw=>by have q:=base_mul w k hk; rw [h] at q; exact q
 have cE:∀ w,Calls Tryz.prog 25 #[pv u.val v.val false] w (Gets w (.agg ((.int .u8 3::bv a0::bv a1::[bv a2,bv a3,bv a4,bv a5,bv a6,bv a7,bv a8,bv a9,bv a10,bv a11,bv a12,bv a13,bv a14,bv a15,bv a16,bv a17,bv a18,bv a19,bv a20,bv a21,bv a22,bv a23,bv a24,bv a25,bv a26,bv a27,bv a28,bv a29,bv a30,bv a31]):List Value).toArray)):=λw=>by
  have q:=enc_pt w u v ho
  rw [show encS (some (u,v))=3::bytesS u.val from by show (if v.val%2=1 then (3:UInt8) else 2)::bytesS u.val=_; rw [if_pos (by omega)],hm] at q
  exact q
 refine Sy.enter (args:=[fv k]) Tryz.func13 rfl kL ?_
 refine sC ?_
 refine sM 30 (fcs k) (λg0=>?_)
 refine sM 30 (fcs 0) (λg1=>?_)
 refine sM 31 (Zl 32).toArray (λg2=>?_)
 refine sP (.bool false) ?_
 refine sH (λj=>j == 5) ?_
 refine sD 0 rfl (fv k) (qL 0 g0 0 4 30 30 (fcs k) rfl Tryz.underlying30)<|sD 1 rfl (pv gx.val gy.val false) (qF 27 #[] (base_c))<|sD 2 rfl (pv u.val v.val false) (qF 26 #[fv k,pv gx.val gy.val false] (cM))<|sD 3 rfl (.agg ((.int .u8 3::bv a0::bv a1::[bv a2,bv a3,bv a4,bv a5,bv a6,bv a7,bv a8,bv a9,bv a10,bv a11,bv a12,bv a13,bv a14,bv a15,bv a16,bv a17,bv a18,bv a19,bv a20,bv a21,bv a22,bv a23,bv a24,bv a25,bv a26,bv a27,bv a28,bv a29,bv a30,bv a31]):List Value).toArray) (qF 25 #[pv u.val v.val false] (cE)) ?_
 refine Sy.makeD 4 rfl kR kR 71 (Zl 33).toArray ptr kF (λg3=>?_)
 refine Sy.writeD 5 rfl kR (by rfl) kR 3 g3 71 (Zl 33).toArray (.int .u8 3::bv a0::bv a1::[bv a2,bv a3,bv a4,bv a5,bv a6,bv a7,bv a8,bv a9,bv a10,bv a11,bv a12,bv a13,bv a14,bv a15,bv a16,bv a17,bv a18,bv a19,bv a20,bv a21,bv a22,bv a23,bv a24,bv a25,bv a26,bv a27,bv a28,bv a29,bv a30,bv a31]).toArray kR (Writes.store 0 71 (.int .u8 3::bv a0::bv a1::[bv a2,bv a3,bv a4,bv a5,bv a6,bv a7,bv a8,bv a9,bv a10,bv a11,bv a12,bv a13,bv a14,bv a15,bv a16,bv a17,bv a18,bv a19,bv a20,bv a21,bv a22,bv a23,bv a24,bv a25,bv a26,bv a27,bv a28,bv a29,bv a30,bv a31]).toArray _ _ rfl kR kR kR kL kR kR) ?_
 refine sI ?_
 refine Sy.seq<|sC ?_
 refine sP (.pointer (some ⟨g3,0,none⟩))<|sS (.int .u8 3) (Quiet.cell 3 g3 0 71 5 (.int .u8 3::bv a0::bv a1::[bv a2,bv a3,bv a4,bv a5,bv a6,bv a7,bv a8,bv a9,bv a10,bv a11,bv a12,bv a13,bv a14,bv a15,bv a16,bv a17,bv a18,bv a19,bv a20,bv a21,bv a22,bv a23,bv a24,bv a25,bv a26,bv a27,bv a28,bv a29,bv a30,bv a31]).toArray _ _ rfl kR kR Tryz.underlying5 rfl _ kR) ?_
 refine sG<|Sy.block<|sC ?_
 refine sP (.bool false)<|sP (.bool false) ?_
 refine sG<|sU<|sC ?_
 refine sP (.bool true)<|sP (.bool true) ?_
 refine sG<|sT<|Sy.region ?_
 refine sS (fv k) (qL 0 g0 0 4 30 30 (fcs k) rfl Tryz.underlying30)<|sS (fv (Sc.negP k)) (qF 28 #[fv k] (λw=>Sc.negF_any w k hk))<|sW 0 g0 30 (fcs k) (fcs (Sc.negP k)) (wS 0 30 (fcs (Sc.negP k)) rfl) ?_
 refine Sy.nil<|Sy.in_ ?_
 refine sR (λj=>j == 4 || j == 5) ?_
 refine sD 0 rfl (fv (Sc.negP k)) (qL 0 g0 0 4 30 30 (fcs (Sc.negP k)) rfl Tryz.underlying30) ?_
 refine Sy.joinD (λgq=>[(0,fv k),(1,.pointer (some ⟨g0,0,none⟩)),(2,.pointer (some ⟨g1,0,none⟩)),(3,.pointer (some ⟨g2,0,none⟩)),(4,.bool false),(5,.pointer (some ⟨g3,0,none⟩)),(6,fv k),(7,pv gx.val gy.val false),(8,pv u.val v.val false),(9,.agg ((.int .u8 3::bv a0::bv a1::[bv a2,bv a3,bv a4,bv a5,bv a6,bv a7,bv a8,bv a9,bv a10,bv a11,bv a12,bv a13,bv a14,bv a15,bv a16,bv a17,bv a18,bv a19,bv a20,bv a21,bv a22,bv a23,bv a24,bv a25,bv a26,bv a27,bv a28,bv a29,bv a30,bv a31]):List Value).toArray),(10,.pointer (some ⟨g3,0,none⟩)),(11,.int .u8 3),(12,.bool false),(13,.bool false),(16,.bool true),(17,.bool true),(18,fv k),(19,fv (Sc.negP k)),(20,fv (Sc.negP k)),(21,.slice (some ⟨g3,1,none⟩) 32 32),(22,.pointer (some ⟨g3,1,none⟩)),(23,.agg ((bv a0::bv a1::[bv a2,bv a3,bv a4,bv a5,bv a6,bv a7,bv a8,bv a9,bv a10,bv a11,bv a12,bv a13,bv a14,bv a15,bv a16,bv a17,bv a18,bv a19,bv a20,bv a21,bv a22,bv a23,bv a24,bv a25,bv a26,bv a27,bv a28,bv a29,bv a30,bv a31]):List Value).toArray)]) (λgq=>[(g0,30,(fcs (Sc.negP k))),(g1,30,(fcs (Sc.negP k))),(g2,31,(Zl 32).toArray),(g3,71,(.int .u8 3::bv a0::bv a1::[bv a2,bv a3,bv a4,bv a5,bv a6,bv a7,bv a8,bv a9,bv a10,bv a11,bv a12,bv a13,bv a14,bv a15,bv a16,bv a17,bv a18,bv a19,bv a20,bv a21,bv a22,bv a23,bv a24,bv a25,bv a26,bv a27,bv a28,bv a29,bv a30,bv a31]).toArray)]) 2 #[true,true,true,true,true,false,false] (λgq=>?_) (λfin=>?_)
 ·refine sX 5 rfl 2 g2 31 (Zl 32).toArray (bv a0::bv a1::[bv a2,bv a3,bv a4,bv a5,bv a6,bv a7,bv a8,bv a9,bv a10,bv a11,bv a12,bv a13,bv a14,bv a15,bv a16,bv a17,bv a18,bv a19,bv a20,bv a21,bv a22,bv a23,bv a24,bv a25,bv a26,bv a27,bv a28,bv a29,bv a30,bv a31]).toArray (wS 0 31 (bv a0::bv a1::[bv a2,bv a3,bv a4,bv a5,bv a6,bv a7,bv a8,bv a9,bv a10,bv a11,bv a12,bv a13,bv a14,bv a15,bv a16,bv a17,bv a18,bv a19,bv a20,bv a21,bv a22,bv a23,bv a24,bv a25,bv a26,bv a27,bv a28,bv a29,bv a30,bv a31]).toArray rfl) ?_
  refine Sy.anyOf [6] kR (by decide) (Sy.each1 ?_)
  refine Sy.oneQuiet rfl kR (.bool true) qP ?_
  refine sI ?_
  refine Sy.ret ?_
  rw [show (.tuple #[fv (Sc.negP k),.agg ((evX (some (u,v))).map bv).toArray,.bool true]:Value)=.tuple #[fv (Sc.negP k),.agg ((bv a0::bv a1::[bv a2,bv a3,bv a4,bv a5,bv a6,bv a7,bv a8,bv a9,bv a10,bv a11,bv a12,bv a13,bv a14,bv a15,bv a16,bv a17,bv a18,bv a19,bv a20,bv a21,bv a22,bv a23,bv a24,bv a25,bv a26,bv a27,bv a28,bv a29,bv a30,bv a31]):List Value).toArray,.bool true] from by rw [show evX (some (u,v))=bytesS u.val from rfl,hm]; rfl]
  exact Sy.ret3 (v:=fv (Sc.negP k)) (u:=.agg ((bv a0::bv a1::[bv a2,bv a3,bv a4,bv a5,bv a6,bv a7,bv a8,bv a9,bv a10,bv a11,bv a12,bv a13,bv a14,bv a15,bv a16,bv a17,bv a18,bv a19,bv a20,bv a21,bv a22,bv a23,bv a24,bv a25,bv a26,bv a27,bv a28,bv a29,bv a30,bv a31]):List Value).toArray) (x:=.bool true) rfl (.inl (Res.cell (ty':=30) g1 1 (fcs (Sc.negP k)) _ kR kR Tryz.underlying30 rfl kR kR)) (.inl (Res.cell (ty':=31) g2 2 (bv a0::bv a1::[bv a2,bv a3,bv a4,bv a5,bv a6,bv a7,bv a8,bv a9,bv a10,bv a11,bv a12,bv a13,bv a14,bv a15,bv a16,bv a17,bv a18,bv a19,bv a20,bv a21,bv a22,bv a23,bv a24,bv a25,bv a26,bv a27,bv a28,bv a29,bv a30,bv a31]).toArray _ kR kR Tryz.underlying31 rfl kR kR)) (.inl (show _=_ by kernel_rfl))
 ·refine Sy.anyOf [1,4] kR (by decide) (Sy.each2 ?_ ?_)
  ·refine Sy.oneQuiet rfl kR (.slice (some ⟨g3,1,none⟩) 32 32) qP ?_
   refine Sy.anyOf [2,4] kR (by decide) (Sy.each2 ?_ ?_)
   ·refine Sy.oneQuiet rfl kR (.pointer (some ⟨g3,1,none⟩)) qP ?_
    refine Sy.anyOf [3,4] kR (by decide) (Sy.each2 ?_ ?_)
    ·refine Sy.oneQuiet rfl kR (.agg ((bv a0::bv a1::[bv a2,bv a3,bv a4,bv a5,bv a6,bv a7,bv a8,bv a9,bv a10,bv a11,bv a12,bv a13,bv a14,bv a15,bv a16,bv a17,bv a18,bv a19,bv a20,bv a21,bv a22,bv a23,bv a24,bv a25,bv a26,bv a27,bv a28,bv a29,bv a30,bv a31]):List Value).toArray) (Quiet.load 3 g3 1 32 71 31 (.int .u8 3::bv a0::bv a1::[bv a2,bv a3,bv a4,bv a5,bv a6,bv a7,bv a8,bv a9,bv a10,bv a11,bv a12,bv a13,bv a14,bv a15,bv a16,bv a17,bv a18,bv a19,bv a20,bv a21,bv a22,bv a23,bv a24,bv a25,bv a26,bv a27,bv a28,bv a29,bv a30,bv a31]).toArray _ _ rfl kR kR Tryz.underlying31 rfl kR _ kR kL) ?_
     refine Sy.anyOf [4] kR (by decide) (Sy.each1 ?_)
     ·refine Sy.oneWrite rfl (by rfl) kR 1 g1 30 (fcs 0) (fcs (Sc.negP k)) kR (wS 0 30 (fcs (Sc.negP k)) rfl) ?_
      exact Sy.leafI fin (λi=>0) kR (all_cons kR (all_cons kR (all_cons kR (all_cons kR (all_cons kR (all_cons kR (all_cons kR (all_cons kR (all_cons kR (all_cons kR (all_cons kR (all_cons kR (all_cons kR (all_cons kR (all_cons kR (all_cons kR (all_cons kR (all_cons kR (all_cons kR (all_cons kR (all_cons kR (all_cons kR all_nil)))))))))))))))))))))) kR
    ·refine Sy.oneWrite rfl (by rfl) kR 1 g1 30 (fcs 0) (fcs (Sc.negP k)) kR (wS 0 30 (fcs (Sc.negP k)) rfl) ?_
     refine Sy.anyOf [3] kR (by decide) (Sy.each1 ?_)
     ·refine Sy.oneQuiet rfl kR (.agg ((bv a0::bv a1::[bv a2,bv a3,bv a4,bv a5,bv a6,bv a7,bv a8,bv a9,bv a10,bv a11,bv a12,bv a13,bv a14,bv a15,bv a16,bv a17,bv a18,bv a19,bv a20,bv a21,bv a22,bv a23,bv a24,bv a25,bv a26,bv a27,bv a28,bv a29,bv a30,bv a31]):List Value).toArray) (Quiet.load 3 g3 1 32 71 31 (.int .u8 3::bv a0::bv a1::[bv a2,bv a3,bv a4,bv a5,bv a6,bv a7,bv a8,bv a9,bv a10,bv a11,bv a12,bv a13,bv a14,bv a15,bv a16,bv a17,bv a18,bv a19,bv a20,bv a21,bv a22,bv a23,bv a24,bv a25,bv a26,bv a27,bv a28,bv a29,bv a30,bv a31]).toArray _ _ rfl kR kR Tryz.underlying31 rfl kR _ kR kL) ?_
      exact Sy.leafI fin (λi=>0) kR (all_cons kR (all_cons kR (all_cons kR (all_cons kR (all_cons kR (all_cons kR (all_cons kR (all_cons kR (all_cons kR (all_cons kR (all_cons kR (all_cons kR (all_cons kR (all_cons kR (all_cons kR (all_cons kR (all_cons kR (all_cons kR (all_cons kR (all_cons kR (all_cons kR (all_cons kR all_nil)))))))))))))))))))))) kR
   ·refine Sy.oneWrite rfl (by rfl) kR 1 g1 30 (fcs 0) (fcs (Sc.negP k)) kR (wS 0 30 (fcs (Sc.negP k)) rfl) ?_
    refine Sy.anyOf [2] kR (by decide) (Sy.each1 ?_)
    ·refine Sy.oneQuiet rfl kR (.pointer (some ⟨g3,1,none⟩)) qP ?_
     refine Sy.anyOf [3] kR (by decide) (Sy.each1 ?_)
     ·refine Sy.oneQuiet rfl kR (.agg ((bv a0::bv a1::[bv a2,bv a3,bv a4,bv a5,bv a6,bv a7,bv a8,bv a9,bv a10,bv a11,bv a12,bv a13,bv a14,bv a15,bv a16,bv a17,bv a18,bv a19,bv a20,bv a21,bv a22,bv a23,bv a24,bv a25,bv a26,bv a27,bv a28,bv a29,bv a30,bv a31]):List Value).toArray) (Quiet.load 3 g3 1 32 71 31 (.int .u8 3::bv a0::bv a1::[bv a2,bv a3,bv a4,bv a5,bv a6,bv a7,bv a8,bv a9,bv a10,bv a11,bv a12,bv a13,bv a14,bv a15,bv a16,bv a17,bv a18,bv a19,bv a20,bv a21,bv a22,bv a23,bv a24,bv a25,bv a26,bv a27,bv a28,bv a29,bv a30,bv a31]).toArray _ _ rfl kR kR Tryz.underlying31 rfl kR _ kR kL) ?_
      exact Sy.leafI fin (λi=>0) kR (all_cons kR (all_cons kR (all_cons kR (all_cons kR (all_cons kR (all_cons kR (all_cons kR (all_cons kR (all_cons kR (all_cons kR (all_cons kR (all_cons kR (all_cons kR (all_cons kR (all_cons kR (all_cons kR (all_cons kR (all_cons kR (all_cons kR (all_cons kR (all_cons kR (all_cons kR all_nil)))))))))))))))))))))) kR
  ·refine Sy.oneWrite rfl (by rfl) kR 1 g1 30 (fcs 0) (fcs (Sc.negP k)) kR (wS 0 30 (fcs (Sc.negP k)) rfl) ?_
   refine Sy.anyOf [1] kR (by decide) (Sy.each1 ?_)
   ·refine Sy.oneQuiet rfl kR (.slice (some ⟨g3,1,none⟩) 32 32) qP ?_
    refine Sy.anyOf [2] kR (by decide) (Sy.each1 ?_)
    ·refine Sy.oneQuiet rfl kR (.pointer (some ⟨g3,1,none⟩)) qP ?_
     refine Sy.anyOf [3] kR (by decide) (Sy.each1 ?_)
     ·refine Sy.oneQuiet rfl kR (.agg ((bv a0::bv a1::[bv a2,bv a3,bv a4,bv a5,bv a6,bv a7,bv a8,bv a9,bv a10,bv a11,bv a12,bv a13,bv a14,bv a15,bv a16,bv a17,bv a18,bv a19,bv a20,bv a21,bv a22,bv a23,bv a24,bv a25,bv a26,bv a27,bv a28,bv a29,bv a30,bv a31]):List Value).toArray) (Quiet.load 3 g3 1 32 71 31 (.int .u8 3::bv a0::bv a1::[bv a2,bv a3,bv a4,bv a5,bv a6,bv a7,bv a8,bv a9,bv a10,bv a11,bv a12,bv a13,bv a14,bv a15,bv a16,bv a17,bv a18,bv a19,bv a20,bv a21,bv a22,bv a23,bv a24,bv a25,bv a26,bv a27,bv a28,bv a29,bv a30,bv a31]).toArray _ _ rfl kR kR Tryz.underlying31 rfl kR _ kR kL) ?_
      exact Sy.leafI fin (λi=>0) kR (all_cons kR (all_cons kR (all_cons kR (all_cons kR (all_cons kR (all_cons kR (all_cons kR (all_cons kR (all_cons kR (all_cons kR (all_cons kR (all_cons kR (all_cons kR (all_cons kR (all_cons kR (all_cons kR (all_cons kR (all_cons kR (all_cons kR (all_cons kR (all_cons kR (all_cons kR all_nil)))))))))))))))))))))) kR
theorem even_any (w:World) (k:Nat) (hk:k<K4):Calls Tryz.prog 13 #[fv k] w (Gets w (.tuple #[fv (evD k),.agg ((evX (evP k)).map bv).toArray,.bool (evP k).isSome])):=by
 have ho:=evP_on k
 unfold evD
 rcases h:evP k with _ | ⟨u,v⟩
 ·exact even_none w k hk h
 ·rw [h] at ho
  rcases Nat.mod_two_eq_zero_or_one v.val with hv | hv
  ·have q:=even_2 w k hk u v h ho hv
   show Calls _ _ _ _ (Gets w (.tuple #[fv (if v.val%2=1 then Sc.negP k else k),_,_]))
   rw [if_neg (by omega)]
   exact q
  ·have q:=even_3 w k hk u v h ho hv
   show Calls _ _ _ _ (Gets w (.tuple #[fv (if v.val%2=1 then Sc.negP k else k),_,_]))
   rw [if_pos (by omega)]
   exact q
theorem public_any (w:World) (k:Nat) (hk:k<K4):Calls Tryz.prog 4 #[fv k] w (Gets w (.tuple #[.agg ((evX (evP k)).map bv).toArray,.bool (evP k).isSome])):=by
 refine Sy.enter (args:=[fv k]) Tryz.func4 rfl kL ?_
 refine sC ?_
 refine sM 30 (fcs k) (λg0=>?_)
 refine sM 31 (Zl 32).toArray (λg1=>?_)
 refine sP (.bool false) ?_
 refine sA ?_
 refine sS (fv k) (qL 0 g0 0 4 30 30 (fcs k) rfl Tryz.underlying30)<|sS (.tuple #[fv (evD k),.agg ((evX (evP k)).map bv).toArray,.bool ((evP k).isSome)]) (qF 13 #[fv k] (λw=>even_any w k hk))<|sP (.tuple #[fv (evD k),.agg ((evX (evP k)).map bv).toArray,.bool ((evP k).isSome)])<|sP (fv (evD k))<|sP (.agg ((evX (evP k)).map bv).toArray)<|sP (.bool ((evP k).isSome)) ?_
 refine sM 30 (fcs 0) (λg2=>?_)
 refine sM 31 (Zl 32).toArray (λg3=>?_)
 refine sW 2 g2 30 (fcs 0) (fcs (evD k)) (wS 0 30 (fcs (evD k)) rfl)<|sW 3 g3 31 (Zl 32).toArray ((evX (evP k)).map bv).toArray (Writes.store 0 31 ((evX (evP k)).map bv).toArray _ _ rfl kR kR (by rw [key_sz (evX (evP k)) (evX_length _)]; kernel_rfl) (by rw [key_sz (evX (evP k)) (evX_length _)]; exact Nat.le_of_ble_eq_true kR) (key_one _) (key_set _ _ (by rw [(evX_length _)]; kernel_rfl)))<|sP (.bool ((evP k).isSome)) ?_
 refine sA ?_
 refine sS (.agg ((evX (evP k)).map bv).toArray) (Quiet.load 3 g3 0 32 31 31 ((evX (evP k)).map bv).toArray _ _ rfl kR kR Tryz.underlying31 rfl kR _ (key_whole (evX (evP k)) (evX_length _)) (key_size (evX (evP k)) (evX_length _)))<|sP (.bool ((evP k).isSome))<|sW 1 g1 31 (Zl 32).toArray ((evX (evP k)).map bv).toArray (Writes.store 0 31 ((evX (evP k)).map bv).toArray _ _ rfl kR kR (by rw [key_sz (evX (evP k)) (evX_length _)]; kernel_rfl) (by rw [key_sz (evX (evP k)) (evX_length _)]; exact Nat.le_of_ble_eq_true kR) (key_one _) (key_set _ _ (by rw [(evX_length _)]; kernel_rfl)))<|sP (.bool ((evP k).isSome)) ?_
 refine sG<|Sy.ret ?_
 exact Sy.ret2 (v:=.agg ((evX (evP k)).map bv).toArray) (u:=.bool ((evP k).isSome)) rfl (.inl (Res.cell (ty':=31) g1 1 ((evX (evP k)).map bv).toArray _ kR kR Tryz.underlying31 rfl (by rw [key_sz (evX (evP k)) (evX_length _)]; kernel_rfl) kR)) (.inl (show _=_ by kernel_rfl))
end Cu
end
section
namespace Sc
open Go.RowKit Go.Lib
theorem run_equalIn_fv (W:World) (n m:Nat) (hn:n<(2^256)) (hm:m<(2^256)):(Op.equalIn 10000 30 (fv n) (fv m)).run Tryz.prog W=.ok (decide (n=m)) W:=by
 rw [fv_wl,fv_wl]
 have h:=run_equalIn_words W 9998 30 28 4 Tryz.underlying30 Tryz.underlying28 (λW=>by kernel_rfl) (wl n) (wl m) rfl rfl
 rw [wl_beq hn hm] at h
 exact h
theorem run_neq_fv (W:World) (n m:Nat) (hn:n<(2^256)) (hm:m<(2^256)):(binOp .neq 30 (fv n) (fv m)).run Tryz.prog W=.ok (.bool (decide (n≠m))) W:=by
 have h:=run_equalIn_fv W n m hn hm
 rw [fv_wl,fv_wl] at h ⊢
 rw [run_neq_struct,h]
 by_cases e:n=m <;> simp [e]
theorem run_eqGuard_fv (op:BinOp) (x y:Operand) (n m:Nat) (W:World):(eqGuard op 30 x y (fv n) (fv m)).run Tryz.prog W=.ok () W:=by
 rw [fv_fcs,fv_fcs]
 go_simp
end Sc
end
section
namespace Sc
open Go.RowKit Go.Lib
set_option maxHeartbeats 8000000 in
set_option maxRecDepth 100000 in
theorem words_any (w:World) (l:List UInt8) (hl:l.length=32):Calls Tryz.prog 64 #[.agg (l.map bv).toArray] w λe w'=>e=.returned (fv (valB l))∧Below w.heap.size w w':=by
 have HL:=Lib.hid hl
 clear hl
 go_enter Tryz.func64,Tryz.ntmps64
 go_wp2_with (first | ((with_reducible refine here_load (d:=some 6) ?_); refine wpList_load_blk rfl _ _ rfl w.heap.size rfl _ _ _ (((Blk.new w _ _).alloc _).alloc _) Tryz.underlying26 rfl (b32_info HL.out) ?_))
 go_loopw [7] (λi wr=>∃ k y0 y1 y2 y3:Nat,k≤32∧i=.int .i64 (k:Int)∧Hid (y0=wdB l k 0∧y1=wdB l k 1∧y2=wdB l k 2∧y3=wdB l k 3)∧Below w.heap.size w wr∧Blk wr (w.heap.size+2) 30 #[.int .u64 (y3:Int),.int .u64 (y2:Int),.int .u64 (y1:Int),.int .u64 (y0:Int)]∧Blk wr (w.heap.size+1) 30 #[.int .u64 0,.int .u64 0,.int .u64 0,.int .u64 0]) (λi _=>32 - (RowKit.intOf i).toNat)
 case atStart=>exact ⟨0,0,0,0,0,by omega,rfl,Lib.hid ⟨(wdB_zero l 0).symm,(wdB_zero l 1).symm,(wdB_zero l 2).symm,(wdB_zero l 3).symm⟩,below_alloc3 w _ _ _,blk_new3 w _ _ _ _,(blk_new2 w _ _ _).alloc _⟩
 case round =>
  obtain ⟨k,y0,y1,y2,y3,hk,rfl,HY,hb,hP,hR⟩:=hrel
  have q3:wr.cell? ⟨w.heap.size+1+1,0,none⟩=some (.int .u64 (y3:Int)):=hP.cell 0
  have q2:wr.cell? ⟨w.heap.size+1+1,1,none⟩=some (.int .u64 (y2:Int)):=hP.cell 1
  have q1:wr.cell? ⟨w.heap.size+1+1,2,none⟩=some (.int .u64 (y1:Int)):=hP.cell 2
  have q0:wr.cell? ⟨w.heap.size+1+1,3,none⟩=some (.int .u64 (y0:Int)):=hP.cell 3
  have ff:∀ j,wr.frozen? ⟨w.heap.size+1+1,j,none⟩=false:=λj=>hP.frozen j
  by_cases hlt:k<32
  ·obtain ⟨c,hc⟩:∃ c,l[k]? = some c:=⟨l[k]'(by rw [HL.out]; exact hlt),List.getElem?_eq_getElem _⟩
   have HC:=Lib.hid hc
   obtain ⟨m,hm⟩:∃ m,m=c.toNat:=⟨_,rfl⟩
   have hm8:m<256:=by rw [hm]; exact c.toNat_lt
   have hI:∀ W,(Instr.index 26 (.agg (l.map bv).toArray) (.int .i64 (k:Int))).run Tryz.prog W=.ok (.int .u8 (m:Int)) W:=λW=>by
    rw [run_index_b32 W l k c hc hlt,hm]; rfl
   have HM:=Lib.hid hm
   have HR:=Lib.hid (And.intro hb (And.intro hP hR))
   clear hb hP hR hc hk hm
   rcases (show k=0∨k=1∨k=2∨k=3∨k=4∨k=5∨k=6∨k=7∨k=8∨k=9∨k=10∨k=11∨k=12∨k=13∨k=14∨k=15∨k=16∨k=17∨k=18∨k=19∨k=20∨k=21∨k=22∨k=23∨k=24∨k=25∨k=26∨k=27∨k=28∨k=29∨k=30∨k=31 by omega) with rfl | rfl | rfl | rfl | rfl | rfl | rfl | rfl | rfl | rfl | rfl | rfl | rfl | rfl | rfl | rfl | rfl | rfl | rfl | rfl | rfl | rfl | rfl | rfl | rfl | rfl | rfl | rfl | rfl | rfl | rfl | rfl
   all_goals
    simp only [Int.cast_ofNat_Int] at hI
   all_goals
    first
    | ((have hy:y0<72057594037927936:=by rw [HY.out.1]; exact wdB_lt l _ 0 (by decide)); (have ho:=or_add y0 m hy hm8); go_wp2; (refine ⟨⟨_,y0*256+m,y1,y2,y3,by decide,rfl,Lib.hid ⟨by rw [HY.out.1,HM.out]; exact (wdB_step l _ 0 c HC.out (by decide)).symm,by rw [HY.out.2.1]; exact (wdB_same l _ 1 (by decide)).symm,by rw [HY.out.2.2.1]; exact (wdB_same l _ 2 (by decide)).symm,by rw [HY.out.2.2.2]; exact (wdB_same l _ 3 (by decide)).symm⟩,HR.out.1.setCell (by show w.heap.size≤w.heap.size+1+1; omega) _,Blk.eq_ (HR.out.2.1.set_ 3 _) (by rw [show ((y0*256+m:Nat):Int)=(y0:Int)*256+(m:Int) by omega]; rfl),HR.out.2.2.far (by show w.heap.size+1≠w.heap.size+1+1; omega) _⟩,by simp [RowKit.intOf]⟩))
    | ((have hy:y1<72057594037927936:=by rw [HY.out.2.1]; exact wdB_lt l _ 1 (by decide)); (have ho:=or_add y1 m hy hm8); go_wp2; (refine ⟨⟨_,y0,y1*256+m,y2,y3,by decide,rfl,Lib.hid ⟨by rw [HY.out.1]; exact (wdB_same l _ 0 (by decide)).symm,by rw [HY.out.2.1,HM.out]; exact (wdB_step l _ 1 c HC.out (by decide)).symm,by rw [HY.out.2.2.1]; exact (wdB_same l _ 2 (by decide)).symm,by rw [HY.out.2.2.2]; exact (wdB_same l _ 3 (by decide)).symm⟩,HR.out.1.setCell (by show w.heap.size≤w.heap.size+1+1; omega) _,Blk.eq_ (HR.out.2.1.set_ 2 _) (by rw [show ((y1*256+m:Nat):Int)=(y1:Int)*256+(m:Int) by omega]; rfl),HR.out.2.2.far (by show w.heap.size+1≠w.heap.size+1+1; omega) _⟩,by simp [RowKit.intOf]⟩))
    | ((have hy:y2<72057594037927936:=by rw [HY.out.2.2.1]; exact wdB_lt l _ 2 (by decide)); (have ho:=or_add y2 m hy hm8); go_wp2; (refine ⟨⟨_,y0,y1,y2*256+m,y3,by decide,rfl,Lib.hid ⟨by rw [HY.out.1]; exact (wdB_same l _ 0 (by decide)).symm,by rw [HY.out.2.1]; exact (wdB_same l _ 1 (by decide)).symm,by rw [HY.out.2.2.1,HM.out]; exact (wdB_step l _ 2 c HC.out (by decide)).symm,by rw [HY.out.2.2.2]; exact (wdB_same l _ 3 (by decide)).symm⟩,HR.out.1.setCell (by show w.heap.size≤w.heap.size+1+1; omega) _,Blk.eq_ (HR.out.2.1.set_ 1 _) (by rw [show ((y2*256+m:Nat):Int)=(y2:Int)*256+(m:Int) by omega]; rfl),HR.out.2.2.far (by show w.heap.size+1≠w.heap.size+1+1; omega) _⟩,by simp [RowKit.intOf]⟩))
    | ((have hy:y3<72057594037927936:=by rw [HY.out.2.2.2]; exact wdB_lt l _ 3 (by decide)); (have ho:=or_add y3 m hy hm8); go_wp2; (refine ⟨⟨_,y0,y1,y2,y3*256+m,by decide,rfl,Lib.hid ⟨by rw [HY.out.1]; exact (wdB_same l _ 0 (by decide)).symm,by rw [HY.out.2.1]; exact (wdB_same l _ 1 (by decide)).symm,by rw [HY.out.2.2.1]; exact (wdB_same l _ 2 (by decide)).symm,by rw [HY.out.2.2.2,HM.out]; exact (wdB_step l _ 3 c HC.out (by decide)).symm⟩,HR.out.1.setCell (by show w.heap.size≤w.heap.size+1+1; omega) _,Blk.eq_ (HR.out.2.1.set_ 0 _) (by rw [show ((y3*256+m:Nat):Int)=(y3:Int)*256+(m:Int) by omega]; rfl),HR.out.2.2.far (by show w.heap.size+1≠w.heap.size+1+1; omega) _⟩,by simp [RowKit.intOf]⟩))
  ·have p1:¬ (k:Int)<32:=by omega
   obtain rfl:k=32:=by omega
   have b0:y0<18446744073709551616:=by rw [HY.out.1]; exact wdB_lt8 l _ _
   have b1:y1<18446744073709551616:=by rw [HY.out.2.1]; exact wdB_lt8 l _ _
   have b2:y2<18446744073709551616:=by rw [HY.out.2.2.1]; exact wdB_lt8 l _ _
   have b3:y3<18446744073709551616:=by rw [HY.out.2.2.2]; exact wdB_lt8 l _ _
   obtain ⟨z,hz⟩:∃ z,z=y3+18446744073709551616*y2+340282366920938463463374607431768211456*y1+6277101735386680763835789423207666416102355444464034512896*y0:=⟨_,rfl⟩
   have fz:=fv_mk y3 y2 y1 y0 b3 b2 b1 b0
   rw [← hz] at fz
   have hzv:valB l=z:=by rw [wdB_all l HL.out,hz,HY.out.1,HY.out.2.1,HY.out.2.2.1,HY.out.2.2.2]
   have HZ:=Lib.hid hzv
   have FZ:=Lib.hid fz.symm
   have HP:=Lib.hid hP
   have HR:=Lib.hid hR
   clear HY b0 b1 b2 b3 hz fz hzv q0 q1 q2 q3 ff hP hR
   go_wp2_with (first | ((with_reducible refine here_load (d:=some 25) ?_); refine wpList_load_fv rfl _ _ rfl (w.heap.size+2) rfl (z) _ _ _ (HP.out) (FZ.out) Tryz.underlying30 rfl (by kernel_rfl) ?_) | ((with_reducible refine here_store ?_); refine wpList_store_blk rfl _ _ _ rfl (w.heap.size+1) (fcs (z)) rfl rfl _ _ (HR.out) (by kernel_rfl) (by rfl) (fcs_one _) ?_; intro vz hLz hqz hKz))
   exact bodyPost_ret (results_cell_row rfl _ _ (w.heap.size+1) _ _ (0,0) _ rfl hLz Tryz.underlying30 rfl (by kernel_rfl)) rfl ⟨by rw [HZ.out]; rfl,hb.trans (hqz _ (by omega))⟩
def readS (l:List UInt8):Nat×Bool:=if valB l<pM then (valB l,true) else (0,false)
set_option maxHeartbeats 2000000 in
set_option maxRecDepth 100000 in
theorem read_any (w:World) (l:List UInt8) (hl:l.length=32):Calls Tryz.prog 46 #[.agg (l.map bv).toArray] w λe w'=>e=.returned (.tuple #[fv (readS l).1,.bool (readS l).2])∧Below w.heap.size w w':=by
 obtain ⟨z,hz⟩:∃ z,z=valB l:=⟨_,rfl⟩
 have hzl:z<(2^256):=by rw [hz]; exact valB_lt32 l hl
 obtain ⟨n,hn⟩:∃ n,n=z%pM:=⟨_,rfl⟩
 have hnl:n<(2^256):=by rw [hn]; exact mod_lt z
 obtain ⟨b,hbd⟩:∃ b,b=decide (n≠z):=⟨_,rfl⟩
 have eb:∀ W,(binOp .neq 30 (fv n) (fv z)).run Tryz.prog W=.ok (.bool b) W:=λW=>by rw [hbd]; exact run_neq_fv W n z hnl hzl
 have cw:∀ w,Calls Tryz.prog 64 #[.agg (l.map bv).toArray] w λe w'=>e=.returned (fv z)∧Below w.heap.size w w':=by
  intro w; rw [hz]; exact words_any w l hl
 have cn:∀ w,Calls Tryz.prog 54 #[fv z] w λe w'=>e=.returned (fv n)∧Below w.heap.size w w':=by
  intro w; rw [hn]; exact norm_any w z hzl
 have hS:readS l=if b=true then (0,false) else (z,true):=by
  unfold readS
  rw [← hz,hbd,hn]
  by_cases h:z<pM
  ·rw [if_pos h,Nat.mod_eq_of_lt h]; simp
  ·have h2:z%pM≠z:=λe=>h (by rw [← e]; exact mod_lt_p z)
   rw [if_neg h]; simp [h2]
 have HS:=Lib.hid hS
 have HL:=Lib.hid hl
 clear hl hz hzl hn hnl hbd hS
 go_enter Tryz.func46,Tryz.ntmps46
 go_wp2_with (first | ((with_reducible refine here_load (d:=some 5) ?_); refine wpList_load_blk rfl _ _ rfl w.heap.size rfl _ _ _ ((Blk.new w _ _).alloc _) Tryz.underlying26 rfl (b32_info HL.out) ?_))
 refine (cw _).mono ?_
 rintro e w1 ⟨rfl,k1⟩
 have BR:=Gr.blk k1 (blk_new2 w _ _ _)
 have sz:=BR.lt
 have hB:=Below.gr (below_alloc2 w _ _) k1
 clear k1 cw
 go_wp2_with (first | ((with_reducible refine here_store ?_); refine wpList_store_blk rfl _ _ _ rfl (w1.heap.size) (fcs (z)) rfl rfl _ _ (Blk.new w1 _ _) (by kernel_rfl) (by rfl) (fcs_one _) ?_; intro w2 hL2 hq2 hK2; have CR:=hK2 _ (by omega) _ _ (BR.alloc _); have hB2:=(hB.alloc (by omega) _).trans (hq2 _ (by omega))))
 refine wp_region_G (λ_=>false) (by kernel_rfl) ?_
 try simp only [Act.put]
 refine tkw 0 rfl (YieldsG.loadF (by rfl) _ _ rfl (w1.heap.size) rfl (z) _ _ (hL2) (fv_fcs _) Tryz.underlying30 rfl (by kernel_rfl)) ?_
 try simp only [Act.put,aA,aZ,aS]
 refine tkw 1 rfl (YieldsG.call (v:=fv n) (by rfl) 54 _ (λw9=>by go_simp; try (first | with_reducible rfl | rfl)) (λw9 h9=>cn w9)) ?_
 try simp only [Act.put,aA,aZ,aS]
 refine tkw 2 rfl (YieldsG.loadF (by rfl) _ _ rfl (w1.heap.size) rfl (z) _ _ (hL2) (fv_fcs _) Tryz.underlying30 rfl (by kernel_rfl)) ?_
 try simp only [Act.put,aA,aZ,aS]
 refine tkw 3 rfl (YieldsG.pure (v:=.bool b) (by rfl) (λw9 h9=>by go_simp; rw [run_eqGuard_fv]; simp only [Result.andThen_ok])) ?_
 try simp only [Act.put,aA,aZ,aS]
 refine wpAnyG_done (by kernel_rfl) (λu hu=>?_)
 have hbu:=Below.gr hB2 hu
 have BRu:=Gr.blk hu CR
 have BP:=Gr.blk hu hL2
 clear hu hB2 CR hL2 eb cn
 cases b
 ·have HT:Hid (readS l=(z,true)):=Lib.hid (by rw [HS.out]; rfl)
  clear HS
  go_wp2_with (first | ((with_reducible refine here_load (d:=some 12) ?_); refine wpList_load_fv rfl _ _ rfl (w1.heap.size) rfl (z) _ _ _ (BP) (fv_fcs _) Tryz.underlying30 rfl (by kernel_rfl) ?_) | ((with_reducible refine here_store ?_); refine wpList_store_blk rfl _ _ _ rfl (w.heap.size+1) (fcs (z)) rfl rfl _ _ (BRu) (by kernel_rfl) (by rfl) (fcs_one _) ?_; intro vz hLz hqz hKz))
  exact bodyPost_ret (res_cell_tmp rfl _ _ (w.heap.size+1) _ _ _ _ rfl hLz rfl Tryz.underlying30 rfl (by kernel_rfl)) rfl ⟨by rw [HT.out]; rfl,hbu.trans (hqz _ (by omega))⟩
 ·have HT:Hid (readS l=(0,false)):=Lib.hid (by rw [HS.out]; rfl)
  clear HS
  go_wp2_with (first | ((with_reducible refine here_store ?_); refine wpList_store_blk rfl _ _ _ rfl (w.heap.size+1) _ rfl rfl _ _ (BRu) (by kernel_rfl) (by rfl) (by simp [Value.oneCell']) ?_; intro vz hLz hqz hKz))
  exact bodyPost_ret (res_cell_tmp rfl _ _ (w.heap.size+1) _ _ _ _ rfl hLz rfl Tryz.underlying30 rfl (by kernel_rfl)) rfl ⟨by rw [HT.out]; rfl,hbu.trans (hqz _ (by omega))⟩
set_option maxHeartbeats 2000000 in
set_option maxRecDepth 100000 in
theorem reduceB_any (w:World) (l:List UInt8) (hl:l.length=32):Calls Tryz.prog 34 #[.agg (l.map bv).toArray] w λe w'=>e=.returned (fv (valB l%pM))∧Below w.heap.size w w':=by
 obtain ⟨z,hz⟩:∃ z,z=valB l:=⟨_,rfl⟩
 have hzl:z<(2^256):=by rw [hz]; exact valB_lt32 l hl
 obtain ⟨n,hn⟩:∃ n,n=z%pM:=⟨_,rfl⟩
 have cw:∀ w,Calls Tryz.prog 64 #[.agg (l.map bv).toArray] w λe w'=>e=.returned (fv z)∧Below w.heap.size w w':=by
  intro w; rw [hz]; exact words_any w l hl
 have cn:∀ w,Calls Tryz.prog 54 #[fv z] w λe w'=>e=.returned (fv n)∧Below w.heap.size w w':=by
  intro w; rw [hn]; exact norm_any w z hzl
 rw [← hz, ← hn]
 have HL:=Lib.hid hl
 clear hl hz hzl hn
 go_enter Tryz.func34,Tryz.ntmps34
 go_wp2_with (first | ((with_reducible refine here_load (d:=some 3) ?_); refine wpList_load_blk rfl _ _ rfl w.heap.size rfl _ _ _ ((Blk.new w _ _).alloc _) Tryz.underlying26 rfl (b32_info HL.out) ?_))
 refine (cw _).mono ?_
 rintro e w1 ⟨rfl,k1⟩
 go_wp2_with fail
 refine (cn _).mono ?_
 rintro e w2 ⟨rfl,k2⟩
 have BR:=Gr.blk k2 (Gr.blk k1 (blk_new2 w _ _ _))
 have hB:=Below.gr (Below.gr (below_alloc2 w _ _) k1) k2
 clear k1 k2 cw cn
 go_wp2_with (first | ((with_reducible refine here_store ?_); refine wpList_store_blk rfl _ _ _ rfl (w.heap.size+1) (fcs (n)) rfl rfl _ _ (BR) (by kernel_rfl) (by rfl) (fcs_one _) ?_; intro vz hLz hqz hKz))
 exact bodyPost_ret (results_cell_row rfl _ _ (w.heap.size+1) _ _ (0,0) _ rfl hLz Tryz.underlying30 rfl (by kernel_rfl)) rfl ⟨rfl,hB.trans (hqz _ (by omega))⟩
end Sc
end
section
namespace Cu
open Go.RowKit Sy
def auxNm:ByteArray:=⟨#[66,73,80,48,51,52,48,47,97,117,120]⟩
def nonceNm:ByteArray:=⟨#[66,73,80,48,51,52,48,47,110,111,110,99,101]⟩
def challengeNm:ByteArray:=⟨#[66,73,80,48,51,52,48,47,99,104,97,108,108,101,110,103,101]⟩
theorem texts_blk {w:World} {g:Nat} {t:TypeId} {ts:List Sh.Tx} (hb:Blk w g t (ts.map Sh.Tx.val).toArray) (hok:∀ x∈ts,x.ok w):Sh.Texts w (some ⟨g,0,none⟩) ts:=λ_ =>
 ⟨g,0,rfl,hb.lt,λj y hy=>by
  rw [Nat.zero_add]
  refine ⟨(hb.cell j).trans ?_,hok y (List.mem_of_getElem? hy)⟩
  rw [List.getElem?_toArray,List.getElem?_map,hy]
  rfl⟩
theorem tag_c (w:World) (nm:ByteArray) (hnm:nm.size≤1000000000) (g:Nat) (t:TypeId) (ts:List Sh.Tx) (n ct:Nat) (X:List UInt8) (hX:Sh.cat ts=X) (hn:ts.length=n) (hb:Blk w g t (ts.map Sh.Tx.val).toArray) (hok:∀ x∈ts,x.ok w) (hl:X.length≤1000000000) (hn2:n≤1000000000) (ht:Sh.TabAt w 0) :
  Calls Tryz.prog 33 #[.string nm,.slice (some ⟨g,0,none⟩) n ct] w (Gets w (.agg ((Sh.taggedS nm.data.toList X).map bv).toArray)):=by
 subst hX hn
 exact Sh.tagged_any w nm _ ts ct (texts_blk hb hok) ht hnm hl hn2
theorem ok_key {w:World} {g:Nat} {t:TypeId} {l:List UInt8} (hb:Blk w g t (l.map bv).toArray) (hl:l.length=32):(Sh.Tx.mk (some ⟨g,0,none⟩) l 32).ok w:=⟨Sh.Src.of_blk hb,by show l.length≤32; omega,by show 32≤9223372036854775807; omega⟩
theorem val_key {g:Nat} {l:List UInt8} (hl:l.length=32):(Sh.Tx.mk (some ⟨g,0,none⟩) l 32).val=.slice (some ⟨g,0,none⟩) 32 32:=by
 unfold Sh.Tx.val
 rw [hl]
theorem ok3 {w:World} {a b c:Sh.Tx} (ha:a.ok w) (hb:b.ok w) (hc:c.ok w):∀ x∈[a,b,c],x.ok w:=λx hx=>by
 simp only [List.mem_cons,List.not_mem_nil,or_false] at hx
 rcases hx with rfl | rfl | rfl <;> assumption
theorem tag3_c (w:World) (nm:ByteArray) (hnm:nm.size≤1000000000) (g g1 g2:Nat) (t t1 t2:TypeId) (x y m:List UInt8) (A:Option Addr) (c:Nat) (hx:x.length=32) (hy:y.length=32) (n:Nat) (hn:m.length=n) (hm:n≤999999900) (hc:n≤c) (hc2:c≤9223372036854775807)
  (h1:Blk w g1 t1 (x.map bv).toArray) (h2:Blk w g2 t2 (y.map bv).toArray) (hs:Sh.Src w A m) (hb:Blk w g t #[.slice (some ⟨g1,0,none⟩) 32 32,.slice (some ⟨g2,0,none⟩) 32 32,.slice A n c]) (ht:Sh.TabAt w 0) :
  Calls Tryz.prog 33 #[.string nm,.slice (some ⟨g,0,none⟩) 3 3] w (Gets w (.agg ((Sh.taggedS nm.data.toList (x++y++m)).map bv).toArray)):=by
 subst hn
 refine tag_c w nm hnm g t [⟨some ⟨g1,0,none⟩,x,32⟩,⟨some ⟨g2,0,none⟩,y,32⟩,⟨A,m,c⟩] 3 3 (x++y++m) (by simp [Sh.cat]) rfl ?_ (ok3 (ok_key h1 hx) (ok_key h2 hy) ⟨hs,hc,hc2⟩) (by rw [List.length_append,List.length_append,hx,hy]; omega) (by decide) ht
 rw [List.map_cons,List.map_cons,List.map_cons,List.map_nil,val_key hx,val_key hy]
 exact hb
def chalS (x key m:List UInt8):Nat:=valB (Sh.taggedS challengeNm.data.toList (x++key++m))%Sc.pM
theorem tagS_length (nm m:List UInt8):(Sh.taggedS nm m).length=32:=Sh.sum_length _
set_option maxHeartbeats 4000000 in
set_option maxRecDepth 100000 in
theorem challenge_any (w:World) (x key:List UInt8) (hx:x.length=32) (hkey:key.length=32) (A:Option Addr) (m:List UInt8) (n c:Nat) (hn:m.length=n) (hm:n≤999999900) (hc:n≤c) (hc2:c≤9223372036854775807) (hs:Sh.Src w A m) (ht:Sh.TabAt w 0):Calls Tryz.prog 24 #[.agg (x.map bv).toArray,.agg (key.map bv).toArray,.slice A n c] w (Gets w (fv (chalS x key m))):=by
 refine Sy.enter (args:=[.agg (x.map bv).toArray,.agg (key.map bv).toArray,.slice A n c]) Tryz.func24 rfl kL ?_
 refine sC ?_
 refine sM 31 (x.map bv).toArray (λg0=>?_)
 refine sM 31 (key.map bv).toArray (λg1=>?_)
 refine sM 30 (fcs 0) (λg2=>?_)
 refine sH (λj=>j == 6) ?_
 refine sZ 0 rfl (.slice (some ⟨g0,0,none⟩) 32 32)<|sZ 1 rfl (.slice (some ⟨g1,0,none⟩) 32 32)<|sZ 2 rfl (.slice A n c) ?_
 refine Sy.makeD 3 rfl kR kR 39 #[.slice (some ⟨g0,0,none⟩) 32 32,.slice (some ⟨g1,0,none⟩) 32 32,.slice A n c] (λg=>.slice (some ⟨g,0,none⟩) 3 3) kF (λg3=>?_)
 refine sD 4 rfl (.agg ((Sh.taggedS challengeNm.data.toList (x++key++m)).map bv).toArray) (qG 33 #[.string challengeNm,.slice (some ⟨g3,0,none⟩) 3 3] (λw hw=>tag3_c w challengeNm (by decide) g3 g0 g1 _ _ _ x key m A c hx hkey n hn hm hc hc2 (hw.get (i:=0) rfl) (hw.get (i:=1) rfl) (hs.below hw.below) (hw.get (i:=3) rfl) (ht.below hw.below ht.lt)))<|sD 5 rfl (fv (valB (Sh.taggedS challengeNm.data.toList (x++key++m))%Sc.pM)) (qF 34 #[.agg ((Sh.taggedS challengeNm.data.toList (x++key++m)).map bv).toArray] (λw=>Sc.reduceB_any w (Sh.taggedS challengeNm.data.toList (x++key++m)) (tagS_length _ _)))<|sX 6 rfl 2 g2 30 (fcs 0) (fcs (valB (Sh.taggedS challengeNm.data.toList (x++key++m))%Sc.pM)) (wS 0 30 (fcs (valB (Sh.taggedS challengeNm.data.toList (x++key++m))%Sc.pM)) rfl) ?_
 refine sI ?_
 refine Sy.ret ?_
 exact rC (v:=fv (valB (Sh.taggedS challengeNm.data.toList (x++key++m))%Sc.pM)) 30 g2 2 (fcs (valB (Sh.taggedS challengeNm.data.toList (x++key++m))%Sc.pM)) rfl Tryz.underlying30
end Cu
end
section
namespace Sy
open Go.RowKit
section
variable {P:Program} {w0:Base} {n:Nat} {Q:Exit→Act→World→Prop} {F:Slots} {L:Blocks}
end
def mixL (a b:List UInt8) (k:Nat):List UInt8:=a.take k++b.drop k
theorem mixL_len {a b:List UInt8} {n:Nat} (ha:a.length=n) (hb:b.length=n) {k:Nat} (hk:k≤n):(mixL a b k).length=n:=by
 unfold mixL
 rw [List.length_append,List.length_take,List.length_drop]
 omega
theorem mixL_all {a b:List UInt8} {n:Nat} (ha:a.length=n) (hb:b.length=n):mixL a b n=a:=by
 unfold mixL
 rw [List.take_of_length_le (by omega),List.drop_of_length_le (by omega),List.append_nil]
theorem mixL_get {a b:List UInt8} {n k:Nat} (ha:a.length=n) (hb:b.length=n) (hk:k<n):(mixL a b k).getD k 0=b.getD k 0:=by
 unfold mixL
 rw [List.getD_eq_getElem?_getD,List.getD_eq_getElem?_getD,List.getElem?_append_right (by rw [List.length_take]; omega),List.getElem?_drop,List.length_take]
 congr 2
 omega
theorem mixL_succ {a b:List UInt8} {n k:Nat} (ha:a.length=n) (hb:b.length=n) (hk:k<n):(mixL a b k).set k (a.getD k 0)=mixL a b (k+1):=by
 have h1:k<a.length:=by omega
 have h2:k<b.length:=by omega
 unfold mixL
 rw [List.set_append_right _ _ (by rw [List.length_take]; omega),List.length_take,show k - min k a.length=0 by omega,List.take_succ_eq_append_getElem h1,List.drop_eq_getElem_cons h2,List.set_cons_zero,List.append_assoc,List.getD_eq_getElem?_getD,List.getElem?_eq_getElem h1]
 rfl
theorem key_sym {l:List UInt8} {n:Nat} (h:l.length=n) {k o:Nat} (hk:k<n) (ho:o=k):((l.map bv).toArray)[o]? = some (bv (l.getD k 0)):=by
 subst h ho
 rw [List.getElem?_toArray,List.getElem?_map,List.getD_eq_getElem?_getD,List.getElem?_eq_getElem hk]
 rfl
theorem key_fits {l:List UInt8} {n:Nat} (h:l.length=n) {k o:Nat} (hk:k<n) (ho:o=k):o<((l.map bv).toArray).size:=by
 subst h ho
 rw [List.size_toArray,List.length_map]
 exact hk
theorem key_sets {l:List UInt8} (u:UInt8) {k o:Nat} (ho:o=k):((l.map bv).toArray).setIfInBounds o (bv u)=((l.set k u).map bv).toArray:=by
 subst ho
 rw [List.setIfInBounds_toArray,List.map_set]
end Sy
end
section
namespace Cu
open Go.RowKit Sy
theorem xor_bv (w:World) (F:Slots) (o:Oper) (x y:Operand) (a b:UInt8) {yt:TypeId} (ho:o.op=.binOp .xor 5 x y yt) (hx:evF F x=bv a) (hy:evF F y=bv b):(execOp (evF F) o).run Tryz.prog w=.ok (.value (bv (a ^^^ b))) w:=by
 have h1:(eqGuard .xor 5 x y (bv a) (bv b)).run Tryz.prog w=.ok () w:=by
  unfold bv
  go_simp
 have h2:(binOp .xor 5 (bv a) (bv b)).run Tryz.prog w=.ok (bv (a ^^^ b)) w:=by
  have e:=u8_xor_nat a.toNat b.toNat a.toNat_lt b.toNat_lt
  unfold bv
  rw [UInt8.toNat_xor]
  go_simp
 unfold execOp
 simp only [ho,hx,hy,Sem.run_bind,h1,h2,Result.andThen_ok,Sem.run_pure]
def auxM:List UInt8:=Sh.taggedS auxNm.data.toList (List.replicate 32 0)
def xorS (l m:List UInt8):List UInt8:=List.zipWith (· ^^^ ·) l m
def nonceS (d:Nat) (key m:List UInt8):Nat:=valB (Sh.taggedS nonceNm.data.toList (xorS (bytesS (d%Sc.pM)) auxM++key++m))%Sc.pM
theorem tag1_c (w:World) (nm:ByteArray) (hnm:nm.size≤1000000000) (g g1:Nat) (t t1:TypeId) (x:List UInt8) (hx:x.length=32) (h1:Blk w g1 t1 (x.map bv).toArray) (hb:Blk w g t #[.slice (some ⟨g1,0,none⟩) 32 32]) (ht:Sh.TabAt w 0) :
  Calls Tryz.prog 33 #[.string nm,.slice (some ⟨g,0,none⟩) 1 1] w (Gets w (.agg ((Sh.taggedS nm.data.toList x).map bv).toArray)):=by
 refine tag_c w nm hnm g t [⟨some ⟨g1,0,none⟩,x,32⟩] 1 1 x (by simp [Sh.cat]) rfl ?_ (λy hy=>by rw [List.mem_singleton.1 hy]; exact ok_key h1 hx) (by rw [hx]; decide) (by decide) ht
 rw [List.map_cons,List.map_nil,val_key hx]
 exact hb
theorem xorS_len {a b:List UInt8} {n:Nat} (ha:a.length=n) (hb:b.length=n):(xorS a b).length=n:=by
 unfold xorS
 rw [List.length_zipWith,ha,hb,Nat.min_self]
theorem xorS_get {a b:List UInt8} {n k:Nat} (ha:a.length=n) (hb:b.length=n) (hk:k<n):(xorS a b).getD k 0=a.getD k 0 ^^^ b.getD k 0:=by
 have h1:k<a.length:=by omega
 have h2:k<b.length:=by omega
 unfold xorS
 rw [List.getD_eq_getElem?_getD,List.getD_eq_getElem?_getD,List.getD_eq_getElem?_getD,List.getElem?_zipWith,List.getElem?_eq_getElem h1,List.getElem?_eq_getElem h2]
 rfl
theorem xor_step {a b:List UInt8} {n k:Nat} (ha:a.length=n) (hb:b.length=n) (hk:k<n):(mixL (xorS a b) a k).set k (a.getD k 0 ^^^ b.getD k 0)=mixL (xorS a b) a (k+1):=by
 rw [← xorS_get ha hb hk]
 exact mixL_succ (xorS_len ha hb) ha hk
theorem auxM_len:auxM.length=32:=tagS_length _ _
set_option maxHeartbeats 4000000 in
set_option maxRecDepth 100000 in
theorem nonce_any (w:World) (d:Nat) (hd:d<K4) (key:List UInt8) (hkey:key.length=32) (A:Option Addr) (m:List UInt8) (n c:Nat) (hn:m.length=n) (hm:n≤999999900) (hc:n≤c) (hc2:c≤9223372036854775807) (hs:Sh.Src w A m) (ht:Sh.TabAt w 0):Calls Tryz.prog 16 #[fv d,.agg (key.map bv).toArray,.slice A n c] w (Gets w (fv (nonceS d key m))):=by
 refine Sy.enter (args:=[fv d,.agg (key.map bv).toArray,.slice A n c]) Tryz.func16 rfl kL ?_
 refine sC ?_
 refine sM 30 (fcs d) (λg0=>?_)
 refine sM 31 (key.map bv).toArray (λg1=>?_)
 refine sM 30 (fcs 0) (λg2=>?_)
 refine sA ?_
 refine Sy.make kR 26 ((List.replicate 32 (0:UInt8)).map bv).toArray ptr kF (λg3=>?_)
 refine sA ?_
 refine sP (.slice (some ⟨g3,0,none⟩) 32 32) ?_
 refine Sy.make kR 39 #[.slice (some ⟨g3,0,none⟩) 32 32] (λg=>.slice (some ⟨g,0,none⟩) 1 1) kF (λg4=>?_)
 refine sS (.agg (auxM.map bv).toArray) (qG 33 #[.string auxNm,.slice (some ⟨g4,0,none⟩) 1 1] (λw hw=>tag1_c w auxNm (by decide) g4 g3 _ _ (List.replicate 32 (0:UInt8)) rfl (hw.get (i:=3) rfl) (hw.get (i:=4) rfl) (ht.below hw.below ht.lt))) ?_
 refine sM 27 (Zl 32).toArray (λg5=>?_)
 refine sW 5 g5 27 (Zl 32).toArray (auxM.map bv).toArray (Writes.store 0 27 (auxM.map bv).toArray _ _ rfl kR kR (by rw [key_sz auxM auxM_len]; kernel_rfl) (by rw [key_sz auxM auxM_len]; exact Nat.le_of_ble_eq_true kR) (key_one _) (key_set _ _ (by rw [auxM_len]; kernel_rfl))) ?_
 refine sA ?_
 refine sS (fv d) (qL 0 g0 0 4 30 30 (fcs d) rfl Tryz.underlying30)<|sS (.agg ((bytesS (d%Sc.pM)).map bv).toArray) (qF 29 #[fv d] (λw=>Sc.bytes_any w d hd)) ?_
 refine Sy.make kR 26 ((List.replicate 32 (0:UInt8)).map bv).toArray ptr kF (λg6=>?_)
 refine Sy.write kR 6 g6 26 ((List.replicate 32 (0:UInt8)).map bv).toArray ((bytesS (d%Sc.pM)).map bv).toArray kR (Writes.store 0 26 ((bytesS (d%Sc.pM)).map bv).toArray _ _ rfl kR kR (by rw [key_sz (bytesS (d%Sc.pM)) (bytesS_length _)]; kernel_rfl) (by rw [key_sz (bytesS (d%Sc.pM)) (bytesS_length _)]; exact Nat.le_of_ble_eq_true kR) (key_one _) (key_set _ _ (by rw [(bytesS_length _)]; kernel_rfl))) ?_
 refine sG<|Sy.seq<|sC ?_
 refine sP (.int .i64 0) ?_
 refine sG<|Sy.block ?_
 refine Sy.loopK 32 (λk1=>[(2,.slice A n c),(4,.pointer (some ⟨g1,0,none⟩)),(6,.pointer (some ⟨g2,0,none⟩)),(8,.pointer (some ⟨g5,0,none⟩)),(9,.pointer (some ⟨g6,0,none⟩)),(16,.int .i64 ((k1:Nat):Int))]) (λk1=>[(g0,30,(fcs d)),(g1,31,(key.map bv).toArray),(g2,30,(fcs 0)),(g3,26,((List.replicate 32 (0:UInt8)).map bv).toArray),(g4,39,#[.slice (some ⟨g3,0,none⟩) 32 32]),(g5,27,(auxM.map bv).toArray),(g6,26,((mixL (xorS (bytesS (d%Sc.pM)) auxM) (bytesS (d%Sc.pM)) k1).map bv).toArray)]) [true,true,true,true,true,true,true] (M:=[(g0,30,(fcs d)),(g1,31,(key.map bv).toArray),(g2,30,(fcs 0)),(g3,26,((List.replicate 32 (0:UInt8)).map bv).toArray),(g4,39,#[.slice (some ⟨g3,0,none⟩) 32 32]),(g5,27,(auxM.map bv).toArray),(g6,26,((bytesS (d%Sc.pM)).map bv).toArray)]) (all_cons kR (all_cons kR (all_cons kR (all_cons kR (all_cons kR (all_cons kR all_nil)))))) kR (bcons rfl (bcons rfl (bcons rfl (bcons rfl (bcons rfl (bcons rfl (bcons rfl rfl))))))) (λk1 hk1=>?_)
 refine sC ?_
 obtain ⟨b1,hb1⟩:∃ z:Bool,z=decide (k1<32):=⟨_,rfl⟩
 refine sS (.bool b1) (Quiet.pure (exec_int .lss _ _ _ .i64 _ _ _ rfl rfl rfl (int_lss _ _ _ _ _ (by rw [hb1]; exact decide_eq_decide.2 (by omega))))) ?_
 refine sG<|Sy.seq ?_
 cases b1
 ·have lb1:¬ (k1<32):=of_decide_eq_false hb1.symm
  refine sU<|Sy.exit<|Sy.then_exit<|Sy.then_exit ?_
  obtain rfl:k1=32:=by omega
  refine Sy.in_exit ?_
  refine sR (λj=>j == 6) ?_
  refine sZ 0 rfl (.slice (some ⟨g6,0,none⟩) 32 32)<|sZ 1 rfl (.slice (some ⟨g1,0,none⟩) 32 32)<|sZ 2 rfl (.slice A n c) ?_
  refine Sy.makeD 3 rfl kR kR 39 #[.slice (some ⟨g6,0,none⟩) 32 32,.slice (some ⟨g1,0,none⟩) 32 32,.slice A n c] (λg=>.slice (some ⟨g,0,none⟩) 3 3) kF (λg7=>?_)
  refine sD 4 rfl (.agg ((Sh.taggedS nonceNm.data.toList ((mixL (xorS (bytesS (d%Sc.pM)) auxM) (bytesS (d%Sc.pM)) 32)++key++m)).map bv).toArray) (qG 33 #[.string nonceNm,.slice (some ⟨g7,0,none⟩) 3 3] (λw hw=>tag3_c w nonceNm (by decide) g7 g6 g1 _ _ _ (mixL (xorS (bytesS (d%Sc.pM)) auxM) (bytesS (d%Sc.pM)) 32) key m A c (mixL_len (xorS_len (bytesS_length _) auxM_len) (bytesS_length _) (by omega)) hkey n hn hm hc hc2 (hw.get (i:=6) rfl) (hw.get (i:=1) rfl) (hs.below hw.below) (hw.get (i:=7) rfl) (ht.below hw.below ht.lt)))<|sD 5 rfl (fv (valB (Sh.taggedS nonceNm.data.toList ((mixL (xorS (bytesS (d%Sc.pM)) auxM) (bytesS (d%Sc.pM)) 32)++key++m))%Sc.pM)) (qF 34 #[.agg ((Sh.taggedS nonceNm.data.toList ((mixL (xorS (bytesS (d%Sc.pM)) auxM) (bytesS (d%Sc.pM)) 32)++key++m)).map bv).toArray] (λw=>Sc.reduceB_any w (Sh.taggedS nonceNm.data.toList ((mixL (xorS (bytesS (d%Sc.pM)) auxM) (bytesS (d%Sc.pM)) 32)++key++m)) (tagS_length _ _)))<|sX 6 rfl 2 g2 30 (fcs 0) (fcs (valB (Sh.taggedS nonceNm.data.toList ((mixL (xorS (bytesS (d%Sc.pM)) auxM) (bytesS (d%Sc.pM)) 32)++key++m))%Sc.pM)) (wS 0 30 (fcs (valB (Sh.taggedS nonceNm.data.toList ((mixL (xorS (bytesS (d%Sc.pM)) auxM) (bytesS (d%Sc.pM)) 32)++key++m))%Sc.pM)) rfl) ?_
  refine sI ?_
  refine Sy.ret ?_
  rw [show (fv (nonceS d key m):Value)=fv (valB (Sh.taggedS nonceNm.data.toList ((mixL (xorS (bytesS (d%Sc.pM)) auxM) (bytesS (d%Sc.pM)) 32)++key++m))%Sc.pM) from by unfold nonceS; rw [mixL_all (xorS_len (bytesS_length _) auxM_len) (bytesS_length _)]]
  exact rC (v:=fv (valB (Sh.taggedS nonceNm.data.toList ((mixL (xorS (bytesS (d%Sc.pM)) auxM) (bytesS (d%Sc.pM)) 32)++key++m))%Sc.pM)) 30 g2 2 (fcs (valB (Sh.taggedS nonceNm.data.toList ((mixL (xorS (bytesS (d%Sc.pM)) auxM) (bytesS (d%Sc.pM)) 32)++key++m))%Sc.pM)) rfl Tryz.underlying30
 ·have lb1:k1<32:=of_decide_eq_true hb1.symm
  refine sT<|Sy.skip<|Sy.then_<|Sy.seq<|Sy.block<|sC ?_
  refine sP (.int .i64 ((k1:Nat):Int))<|sP (.int .i64 ((k1:Nat):Int)) ?_
  refine sG ?_
  refine Sy.regionD (λj=>j == 8) kR ?_
  refine sZ 0 rfl (.int .i64 ((k1:Nat):Int))<|sD 1 rfl (.pointer (some ⟨g6,0+k1*1,none⟩)) (Quiet.pure (exec_atA 26 _ _ _ g6 0 _ k1 1 .i64 rfl rfl rfl Tryz.underlying26 kF (by omega)))<|sD 2 rfl (bv ((bytesS (d%Sc.pM)).getD k1 0)) (Quiet.cell 6 g6 (0+k1*1) 26 5 ((mixL (xorS (bytesS (d%Sc.pM)) auxM) (bytesS (d%Sc.pM)) k1).map bv).toArray _ _ rfl kR kR Tryz.underlying5 rfl _ ((key_sym (mixL_len (xorS_len (bytesS_length _) auxM_len) (bytesS_length _) (by omega)) (k:=k1) (by omega) (by omega)).trans (congrArg (λz=>some (bv z)) (mixL_get (xorS_len (bytesS_length _) auxM_len) (bytesS_length _) (by omega)))))<|sZ 3 rfl (.int .i64 ((k1:Nat):Int))<|sD 4 rfl (.pointer (some ⟨g5,0+k1*1,none⟩)) (Quiet.pure (exec_atA 27 _ _ _ g5 0 _ k1 1 .i64 rfl rfl rfl Tryz.underlying27 kF (by omega)))<|sD 5 rfl (bv (auxM.getD k1 0)) (Quiet.cell 5 g5 (0+k1*1) 27 5 (auxM.map bv).toArray _ _ rfl kR kR Tryz.underlying5 rfl _ (key_sym auxM_len (k:=k1) (by omega) (by omega)))<|sD 6 rfl (bv (((bytesS (d%Sc.pM)).getD k1 0) ^^^ (auxM.getD k1 0))) (Quiet.pure (λw=>xor_bv w _ _ _ _ ((bytesS (d%Sc.pM)).getD k1 0) (auxM.getD k1 0) rfl rfl rfl))<|sD 7 rfl (.pointer (some ⟨g6,0+k1*1,none⟩)) (Quiet.pure (exec_atA 26 _ _ _ g6 0 _ k1 1 .i64 rfl rfl rfl Tryz.underlying26 kF (by omega))) ?_
  refine Sy.writeD 8 rfl kR (by rfl) kR 6 g6 26 ((mixL (xorS (bytesS (d%Sc.pM)) auxM) (bytesS (d%Sc.pM)) k1).map bv).toArray (((mixL (xorS (bytesS (d%Sc.pM)) auxM) (bytesS (d%Sc.pM)) k1).set k1 (((bytesS (d%Sc.pM)).getD k1 0) ^^^ (auxM.getD k1 0))).map bv).toArray kR (Writes.one (0+k1*1) 5 (bv (((bytesS (d%Sc.pM)).getD k1 0) ^^^ (auxM.getD k1 0))) _ _ rfl kR kR kR rfl rfl (key_fits (mixL_len (xorS_len (bytesS_length _) auxM_len) (bytesS_length _) (by omega)) (k:=k1) (by omega) (by omega)) (key_sets _ (by omega))) ?_
  refine sE ?_
  refine Sy.in_<|Sy.then_<|Sy.region ?_
  refine sS (.int .i64 ((k1+1:Nat):Int)) (Quiet.pure (exec_int .add _ _ _ .i64 _ _ _ rfl rfl rfl (int_add _ _ _ _ _ ((wrap_i64 (by omega) (by omega)).trans (by omega)))))<|sP (.int .i64 ((k1+1:Nat):Int)) ?_
  refine Sy.nil ?_
  exact Sy.againK [true,true,true,true,true,true,true] (M:=[(g0,30,(fcs d)),(g1,31,(key.map bv).toArray),(g2,30,(fcs 0)),(g3,26,((List.replicate 32 (0:UInt8)).map bv).toArray),(g4,39,#[.slice (some ⟨g3,0,none⟩) 32 32]),(g5,27,(auxM.map bv).toArray),(g6,26,(((mixL (xorS (bytesS (d%Sc.pM)) auxM) (bytesS (d%Sc.pM)) k1).set k1 (((bytesS (d%Sc.pM)).getD k1 0) ^^^ (auxM.getD k1 0))).map bv).toArray)]) (by omega) (all_cons kR (all_cons kR (all_cons kR (all_cons kR (all_cons kR (all_cons kR all_nil)))))) kR (bcons rfl (bcons rfl (bcons rfl (bcons rfl (bcons rfl (bcons rfl (bcons (beq (congrArg (λl:List UInt8=>(l.map bv).toArray) (xor_step (bytesS_length _) auxM_len (by omega)))) rfl)))))))
end Cu
end
section
namespace Sy
open Go.RowKit
abbrev twoV (g1:Nat) (t1:TypeId) (c1:Array Value) (g2:Nat) (t2:TypeId) (c2:Array Value):List (Nat×Obj):=[(g1,.cells c1 t1),(g2,.cells c2 t2)]
section
variable {P:Program} {w0:Base} {n:Nat} {Q:Exit→Act→World→Prop} {F:Slots} {L:Blocks} {ops:Array Oper} {V:List (Nat×Obj)} {fuel:Nat} {listed:Array Bool}
def wpV (P:Program) (w0:Base) (n:Nat) (ops:Array Oper) (Q:Exit→Act→World→Prop) (V:List (Nat×Obj)) (F:Slots) (L:Blocks) (fuel:Nat) (listed:Array Bool):Prop:=∀ a wb w,Fr w0.ds a n F→St w0 wb L→GrV V wb w→wpAnyV P V .any ops Q fuel listed a w
theorem regionV {i:Nat} (V:List (Nat×Obj)) (h:wpV P w0 n ops Q V F L ops.size (Array.replicate ops.size false)) (hm:P.follows .mixedOrders=true:=by kernel_rfl) (hf:w0.fence=Fence.wide:=by rfl):wpC P w0 n Q F L (.region i ops true):=λa w ha hw=>by
 rw [hf]
 exact wpIn_wide.2 (wp_region_V V hm (h a w w ha hw (GrV.refl w)))
theorem takeV (i:Nat) {oi:Oper} (hi0:ops.toList[i]? = some oi) (v:Value) (h:wpV P w0 n ops Q V (putF F oi.dst v) L fuel (listed.setIfInBounds i true)) (hq:∀ w,(execOp (evF F) oi).run P w=.ok (.value v) w:=by intro _; kernel_rfl) (hc:canTakeA .any ops listed i=true:=by kernel_rfl)
  (hg:good ops n F oi=true:=by kernel_rfl) (hQ:∀ c v a w,Q (.panic c) (a.put oi.dst v) w→Q (.panic c) a w:=by exact λ_ _ _ _ h=>h):wpV P w0 n ops Q V F L (fuel+1) listed:=λa wb w ha hw hv =>
 wpAnyV_take i hi0 hc (λc=>hQ c v) (YieldsV.pure (ha.wanted (good_spec hg).1) (λw1 _=>by rw [good_exec hg ha]; exact hq w1)) (h _ wb w (ha.put (good_spec hg).2.2.1 v) hw hv)
theorem loadV (i:Nat) {oi:Oper} (hi0:ops.toList[i]? = some oi) (j g f:Nat) (t ty:TypeId) (cs:Array Value) (d:TypeDesc) (v:Value) (x:Operand) (ho:oi.op=.load ty x) (hu:P.underlying ty=some d) (hfar:∀ w,St w0 w L→V.all (λx=>x.1 != g)=true)
  (h:wpV P w0 n ops Q V (putF F oi.dst v) L fuel (listed.setIfInBounds i true)) (hx:evF F x=.pointer (some ⟨g,f,none⟩):=by kernel_rfl) (hL:L[j]? = some (g,t,cs):=by kernel_rfl) (hd:d.isRow=false:=by rfl) (hv:cs[f]? = some v:=by kernel_rfl) (hc:canTakeA .any ops listed i=true:=by kernel_rfl)
  (hg:good ops n F oi=true:=by kernel_rfl) (hQ:∀ c v a w,Q (.panic c) (a.put oi.dst v) w→Q (.panic c) a w:=by exact λ_ _ _ _ h=>h):wpV P w0 n ops Q V F L (fuel+1) listed:=λa wb w ha hw hV =>
 wpAnyV_take i hi0 hc (λc=>hQ c v) (YieldsV.pure (ha.wanted (good_spec hg).1) (λw1 h1=>by
  rw [good_exec hg ha]
  have hb:=(hV.trans h1).blk (hw.get hL) (hfar wb hw)
  have hcell:w1.cell? ⟨g,f,none⟩=some v:=(hb.cell f).trans hv
  have hagg:(isAgg ty).run P w1=.ok false w1:=by
   cases d <;> first | (cases hd; done) | simp [isAgg,underlying,hu]
  unfold execOp
  simp only [ho,hx,Instr.loadAt,Instr.sureAddr,Sem.run_bind,Sem.run_pure,Result.andThen_ok,loadVar,hagg,Bool.false_eq_true,if_false,run_load,hcell])) (h _ wb w (ha.put (good_spec hg).2.2.1 v) hw hV)
theorem storesV (i k:Nat) {oi ok:Oper} (hi0:ops.toList[i]? = some oi) (hk0:ops.toList[k]? = some ok) (p q g1 g2:Nat) (t1 t2:TypeId) (b1 b2 c1 c2:Array Value) (ty1 ty2:TypeId) (x1 y1 x2 y2:Operand) (ho1:oi.op=.store ty1 x1 y1) (ho2:ok.op=.store ty2 x2 y2)
  (hpq:p<q) (h:X w0 n Q (putF (putF F oi.dst undef) ok.dst undef) ((L.set p (g1,t1,c1)).set q (g2,t2,c2)) .normal)
  (hx1:evF F x1=.pointer (some ⟨g1,0,none⟩):=by kernel_rfl) (hy1:evF F y1=.agg c1:=by kernel_rfl) (hx2:evF (putF F oi.dst undef) x2=.pointer (some ⟨g2,0,none⟩):=by kernel_rfl) (hy2:evF (putF F oi.dst undef) y2=.agg c2:=by kernel_rfl)
  (hL1:L[p]? = some (g1,t1,b1):=by kernel_rfl) (hL2:L[q]? = some (g2,t2,b2):=by kernel_rfl) {n1 n2:Nat} (hs1:b1.size=n1:=by kernel_rfl) (hs2:b2.size=n2:=by kernel_rfl) (hc1:c1.size=n1:=by kernel_rfl) (hc2:c2.size=n2:=by kernel_rfl)
  (hr1:Region.ready .any ops listed=[i]:=by kernel_rfl) (hr2:Region.ready .any ops (listed.setIfInBounds i true)=[k]:=by kernel_rfl) (hr3:Region.ready .any ops ((listed.setIfInBounds i true).setIfInBounds k true)=[]:=by kernel_rfl)
  (hg1:good ops n F oi=true:=by kernel_rfl) (hg2:good ops n (putF F oi.dst undef) ok=true:=by kernel_rfl) (hi1:(P.info? ty1).map (·.size)=some c1.size:=by kernel_rfl) (hi2:(P.info? ty2).map (·.size)=some c2.size:=by kernel_rfl)
  (ha1:c1.all (·.oneCell')=true:=by kernel_rfl) (ha2:c2.all (·.oneCell')=true:=by kernel_rfl):wpV P w0 n ops Q (twoV g1 t1 c1 g2 t2 c2) F L (fuel+2) listed:=λa wb w ha hw hV=>by
 have hb1:=hw.get hL1
 have hb2:=hw.get hL2
 have hp:=(List.getElem?_eq_some_iff.1 hL1).1
 have hq:=(List.getElem?_eq_some_iff.1 hL2).1
 have hne:g1≠g2:=λe=>by
  have:=List.pairwise_iff_getElem.1 hw.apart p q (by simpa using hp) (by simpa using hq) hpq
  simp only [List.getElem_map] at this
  rw [(List.getElem?_eq_some_iff.1 hL1).2,(List.getElem?_eq_some_iff.1 hL2).2] at this
  exact this e
 refine wpAnyV_store i hi0 hr1 (ha.wanted (good_spec hg1).1) ty1 x1 y1 ho1 g1 c1 ((ha.eval ((good_spec hg1).2.1 _ (by simp [ho1,Op.operands]))).trans hx1) ((ha.eval ((good_spec hg1).2.1 _ (by simp [ho1,Op.operands]))).trans hy1) t1 (by simp) (λw1 h1=>(hV.trans h1).some hb1 (hs1.trans hc1.symm) (λo ho=>?_)) hi1 ha1 (λw1 h1 w2 h2 hB=>?_)
 ·simp only [List.mem_cons,Prod.mk.injEq,List.not_mem_nil,or_false] at ho
  rcases ho with ⟨_,rfl⟩ | ⟨e,_⟩
  ·exact ⟨c1,rfl,rfl⟩
  ·exact absurd e hne
 have ha':=ha.put (good_spec hg1).2.2.1 undef
 refine wpAnyV_store k hk0 hr2 (ha'.wanted (good_spec hg2).1) ty2 x2 y2 ho2 g2 c2 ((ha'.eval ((good_spec hg2).2.1 _ (by simp [ho2,Op.operands]))).trans hx2) ((ha'.eval ((good_spec hg2).2.1 _ (by simp [ho2,Op.operands]))).trans hy2) t2 (by simp) (λw3 h3=>(((hV.trans h1).trans h2).trans h3).some hb2 (hs2.trans hc2.symm) (λo ho=>?_)) hi2 ha2 (λw3 h3 w4 h4 hB2=>?_)
 ·simp only [List.mem_cons,Prod.mk.injEq,List.not_mem_nil,or_false] at ho
  rcases ho with ⟨e,_⟩ | ⟨_,rfl⟩
  ·exact absurd e.symm hne
  ·exact ⟨c2,rfl,rfl⟩
 refine wpAnyV_done hr3 (λw5 h5=>h _ _ (ha'.put (good_spec hg2).2.2.1 undef) ?_)
 have hall:=((((hV.trans h1).trans h2).trans h3).trans h4).trans h5
 have f1:Blk w5 g1 t1 c1:=((h3.trans h4).trans h5).done hB (λo ho=>by
  simp only [List.mem_cons,Prod.mk.injEq,List.not_mem_nil,or_false] at ho
  rcases ho with ⟨_,rfl⟩ | ⟨e,_⟩
  ·rfl
  ·exact absurd e hne)
 have f2:Blk w5 g2 t2 c2:=h5.done hB2 (λo ho=>by
  simp only [List.mem_cons,Prod.mk.injEq,List.not_mem_nil,or_false] at ho
  rcases ho with ⟨e,_⟩ | ⟨_,rfl⟩
  ·exact absurd e.symm hne
  ·rfl)
 have hlow:∀ x∈twoV g1 t1 c1 g2 t2 c2,w0.world.heap.size≤x.1:=λx hx=>by
  simp only [List.mem_cons,List.not_mem_nil,or_false] at hx
  rcases hx with rfl | rfl
  ·exact (hw.blk g1 t1 b1 (List.mem_of_getElem? hL1)).1
  ·exact (hw.blk g2 t2 b2 (List.mem_of_getElem? hL2)).1
 have hbel:=hall.below (B:=w0.world.heap.size) hw.below.size hlow
 refine ⟨hw.below.trans hbel,λg t cs hm=>?_,?_,Nat.le_trans hw.size hall.size,λz o hz ho hc=>?_⟩
 ·obtain ⟨j,hj⟩:=List.getElem?_of_mem hm
  rw [List.getElem?_set] at hj
  split at hj
  ·rename_i e
   have hj2:(g2,t2,c2)=(g,t,cs):=by simpa [hq] using hj
   cases hj2
   exact ⟨(hw.blk _ _ _ (List.mem_of_getElem? hL2)).1,f2⟩
  ·rw [List.getElem?_set] at hj
   split at hj
   ·have hj2:(g1,t1,c1)=(g,t,cs):=by simpa [hp] using hj
    cases hj2
    exact ⟨(hw.blk _ _ _ (List.mem_of_getElem? hL1)).1,f1⟩
   ·rename_i e2 e1
    refine ⟨(hw.blk _ _ _ (List.mem_of_getElem? hj)).1,hall.blk (hw.get hj) ?_⟩
    have hjl:=(List.getElem?_eq_some_iff.1 hj).1
    have hpair:=List.pairwise_iff_getElem.1 hw.apart
    have far:∀ (r gr:Nat) (tr:TypeId) (cr:Array Value),L[r]? = some (gr,tr,cr)→r≠j→gr≠g:=λr gr tr cr hr hrj e=>by
     have hrl:=(List.getElem?_eq_some_iff.1 hr).1
     rcases Nat.lt_or_gt_of_ne hrj with hlt | hlt
     ·have:=hpair r j (by simpa using hrl) (by simpa using hjl) hlt
      simp only [List.getElem_map] at this
      rw [(List.getElem?_eq_some_iff.1 hr).2,(List.getElem?_eq_some_iff.1 hj).2] at this
      exact this e
     ·have:=hpair j r (by simpa using hjl) (by simpa using hrl) hlt
      simp only [List.getElem_map] at this
      rw [(List.getElem?_eq_some_iff.1 hr).2,(List.getElem?_eq_some_iff.1 hj).2] at this
      exact this e.symm
    simp only [List.all_cons,List.all_nil,Bool.and_true,Bool.and_eq_true,bne_iff_ne]
    exact ⟨far p g1 t1 b1 hL1 e1,far q g2 t2 b2 hL2 e2⟩
 ·have hmap:((L.set p (g1,t1,c1)).set q (g2,t2,c2)).map (·.1)=L.map (·.1):=by
   refine List.ext_getElem? λj=>?_
   rw [List.getElem?_map,List.getElem?_map,List.getElem?_set,List.getElem?_set]
   split
   ·rename_i e
    subst e
    rw [hL2]
    simp [hq]
   ·split
    ·rename_i e
     subst e
     rw [hL1]
     simp [hp]
    ·rfl
  rw [hmap]
  exact hw.apart
 ·have h6:=hw.non z o hz ho hc
  rcases hall.block z (Array.getElem?_eq_some_iff.1 h6).1 with e | ⟨o',hm,e⟩
  ·exact e.trans h6
  ·exfalso
   simp only [List.mem_cons,Prod.mk.injEq,List.not_mem_nil,or_false] at hm
   rcases hm with ⟨rfl,_⟩ | ⟨rfl,_⟩
   ·unfold Blk at hb1
    rw [hb1] at h6
    cases h6
    cases hc
   ·unfold Blk at hb2
    rw [hb2] at h6
    cases h6
    cases hc
theorem far_of {i j k:Nat} {g1 g2 g:Nat} {t1 t2:TypeId} {c1 c2:Array Value} (h1:(L.map (·.1))[i]? = some g1:=by kernel_rfl) (h2:(L.map (·.1))[j]? = some g2:=by kernel_rfl) (h3:(L.map (·.1))[k]? = some g:=by kernel_rfl) (hik:i<k) (hjk:j<k):∀ w,St w0 w L→(twoV g1 t1 c1 g2 t2 c2).all (λx=>x.1 != g)=true:=λw hw=>by
 have hpair:=List.pairwise_iff_getElem.1 hw.apart
 have far:∀ (r gr:Nat),(L.map (·.1))[r]? = some gr→r<k→gr≠g:=λr gr hr hrk e=>by
  have:=hpair r k (List.getElem?_eq_some_iff.1 hr).1 (List.getElem?_eq_some_iff.1 h3).1 hrk
  rw [(List.getElem?_eq_some_iff.1 hr).2,(List.getElem?_eq_some_iff.1 h3).2] at this
  exact this e
 simp only [List.all_cons,List.all_nil,Bool.and_true,Bool.and_eq_true,bne_iff_ne]
 exact ⟨far i g1 h1 hik,far j g2 h2 hjk⟩
end
end Sy
end
end Go.Proofs.YtgggdbjakcpanabGreatDoor
