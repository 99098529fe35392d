/-
  Texts of ours, put together: ScLow, ScBase, ScOps, ScEq, ScB32, WirGA, WirGB, WirGC, WirGD, WirGE, WirGF, WirGI.
-/
import Derived.Test.YtdbcombmmnihbaaGreatWB7
set_option linter.unusedVariables false
set_option linter.unusedSimpArgs false
set_option maxRecDepth 100000
set_option maxHeartbeats 80000000
namespace Go.Proofs.YtdbcombmmnihbaaGreat
section
namespace Sc
open Go.RowKit Go.Lib
theorem Oc (w:World):Calls Tryz.prog 265 #[] w λe w'=>e=.returned (fv 115792089237316195423570985008687907852837564279074904382605163141518161494337)∧Below w.heap.size w w':=by
 go_enter Tryz.func265,Tryz.ntmps265
 go_wp2
 exact bodyPost_ret (results_cell_row J _ _ w.heap.size _ _ (0,0) _ J (heap_alloc_new w _) Be J kZ) rfl ⟨rfl,(Below.refl _ _).alloc (Nat.le_refl _) _⟩
theorem Gu (w:World) (x y:Nat) (hx:x<(2^256)) (hy:y<(2^256)):Calls Tryz.prog 264 #[fv x,fv y] w λe w'=>(∃ s k:Nat,s<(2^256)∧k≤1∧s+y=x+(2^256)*k∧e=.returned (.tuple #[fv s,.int .u64 (k:Int)]))∧Below w.heap.size w w':=by
 obtain ⟨x0,x1,x2,x3,a0,a1,a2,a3,ex,fx⟩:=Ah x hx
 obtain ⟨y0,y1,y2,y3,b0,b1,b2,b3,ey,fy⟩:=Ah y hy
 rw [fx,fy]
 obtain ⟨s0,c0,d0,k0,e0,r0⟩:=Jf x0 y0 a0 b0
 obtain ⟨s1,c1,d1,k1,e1,r1⟩:=DV x1 y1 c0 a1 b1 k0
 obtain ⟨s2,c2,d2,k2,e2,r2⟩:=DV x2 y2 c1 a2 b2 k1
 obtain ⟨s3,c3,d3,k3,e3,r3⟩:=DV x3 y3 c2 a3 b3 k2
 have fin:s0+18446744073709551616*s1+340282366920938463463374607431768211456*s2+6277101735386680763835789423207666416102355444464034512896*s3+y=x+(2^256)*c3:=om
 have hs:=Lib.hid (Cw s0 s1 s2 s3 d0 d1 d2 d3)
 have hlt:=Lib.hid (K7 s0 s1 s2 s3 d0 d1 d2 d3)
 have HF:=Lib.hid fin
 have HK:=Lib.hid k3
 clear ex ey fx fy e0 e1 e2 e3 a0 a1 a2 a3 b0 b1 b2 b3 d0 d1 d2 d3 k0 k1 k2 k3 fin hx hy
 go_enter Tryz.func264,Tryz.ntmps264
 go_wp2_with fail
 go_loopw [5,7] (λbo i wr=>Below w.heap.size w wr∧Blk wr w.heap.size 143 #[.int .u64 (x0:Int),.int .u64 (x1:Int),.int .u64 (x2:Int),.int .u64 (x3:Int)]∧Blk wr (w.heap.size+1) 143 #[.int .u64 (y0:Int),.int .u64 (y1:Int),.int .u64 (y2:Int),.int .u64 (y3:Int)]∧Hid ((i=.int .i64 0∧bo=.int .u64 0∧Blk wr (w.heap.size+2) 143 #[.int .u64 0,.int .u64 0,.int .u64 0,.int .u64 0])∨(i=.int .i64 1∧bo=.int .u64 (c0:Int)∧Blk wr (w.heap.size+2) 143 #[.int .u64 (s0:Int),.int .u64 0,.int .u64 0,.int .u64 0])∨(i=.int .i64 2∧bo=.int .u64 (c1:Int)∧Blk wr (w.heap.size+2) 143 #[.int .u64 (s0:Int),.int .u64 (s1:Int),.int .u64 0,.int .u64 0])∨(i=.int .i64 3∧bo=.int .u64 (c2:Int)∧Blk wr (w.heap.size+2) 143 #[.int .u64 (s0:Int),.int .u64 (s1:Int),.int .u64 (s2:Int),.int .u64 0])∨(i=.int .i64 4∧bo=.int .u64 (c3:Int)∧Blk wr (w.heap.size+2) 143 #[.int .u64 (s0:Int),.int .u64 (s1:Int),.int .u64 (s2:Int),.int .u64 (s3:Int)]))) (λ_ i _=>4 - (intOf i).toNat)
 case atStart=>exact ⟨AY w _ _ _,((Blk.new w _ _).alloc _).alloc _,(Ab w _ _ _).alloc _,Lib.hid (.inl ⟨rfl,rfl,Ay w _ _ _ _⟩)⟩
 case round =>
  obtain ⟨hb,BX,BY,HI⟩:=hrel
  have lX:=BX.lt
  have lY:=BY.lt
  rcases HI.out with ⟨rfl,rfl,BW⟩ | ⟨rfl,rfl,BW⟩ | ⟨rfl,rfl,BW⟩ | ⟨rfl,rfl,BW⟩ | ⟨rfl,rfl,BW⟩
  ·clear HI
   have px:wr.cell? ⟨w.heap.size,0,none⟩=some (.int .u64 (x0:Int)):=BX.cell 0
   have py:wr.cell? ⟨w.heap.size+1,0,none⟩=some (.int .u64 (y0:Int)):=BY.cell 0
   go_wp2
   refine AP (λj=>j == 13) kZ ?_
   try simp only [Act.put]
   refine tk 0 J ?_
   try simp only [aPS]
   refine tk 1 J ?_
   try simp only [aPS]
   refine tk 2 J ?_
   try simp only [aPS]
   refine tkw 3 J (YieldsG.pure (v:=.int .u64 (x0:Int)) (by rfl) (λw9 h9=>by have hz:=(Below.cell (p:=⟨w.heap.size,0,none⟩) h9 lX).trans px; go_simp; first | done | simp [hz])) ?_
   try simp only [aPS]
   refine tk 4 J ?_
   try simp only [aPS]
   refine tk 5 J ?_
   try simp only [aPS]
   refine tkw 6 J (YieldsG.pure (v:=.int .u64 (y0:Int)) (by rfl) (λw9 h9=>by have hz:=(Below.cell (p:=⟨w.heap.size+1,0,none⟩) h9 lY).trans py; go_simp; first | done | simp [hz])) ?_
   try simp only [aPS]
   refine tk 7 J ?_
   try simp only [aPS]
   refine tkw 8 J (YieldsG.pure (v:=.tuple #[.int .u64 (s0:Int),.int .u64 (c0:Int)]) (by rfl) (λw9 h9=>by go_simp)) ?_
   try simp only [aPS]
   refine tk 9 J ?_
   try simp only [aPS]
   refine tk 10 J ?_
   try simp only [aPS]
   refine Ao 11 J kZ (λ_ _ _ h=>h) (λ_=>YieldsG.pure (by rfl) (λw9 _=>by go_simp; try with_reducible rfl)) ?_
   try simp only [aPS]
   refine tk 12 J ?_
   try simp only [aPS]
   refine Au 13 J kZ (by rfl) (λu hu K hK=>?_)
   have BX:=Gr.blk hu BX
   have BY:=Gr.blk hu BY
   have BW:=Gr.blk hu BW
   have hb:=Below.gr hb hu
   have pc:u.cell? ⟨w.heap.size+2,0,none⟩=some (.int .u64 0):=BW.cell 0
   have pf:=BW.frozen 0
   clear hu px py
   go_simp
   refine hK _ _ (λe=>by cases e) ?_
   clear hK K
   have hb:=hb.setCell (p:=⟨w.heap.size+2,0,none⟩) (by show w.heap.size≤w.heap.size+2; omega) (.int .u64 (s0:Int))
   have BX:=BX.far (p:=⟨w.heap.size+2,0,none⟩) (by show w.heap.size≠w.heap.size+2; omega) (.int .u64 (s0:Int))
   have BY:=BY.far (p:=⟨w.heap.size+2,0,none⟩) (by show w.heap.size+1≠w.heap.size+2; omega) (.int .u64 (s0:Int))
   have BW:=BW.set_ 0 (.int .u64 (s0:Int))
   refine Ao 14 J kZ (λ_ _ _ h=>h) (λ_=>YieldsG.pure (by rfl) (λw9 _=>by go_simp; try with_reducible rfl)) ?_
   try simp only [aPS]
   refine AO kZ (λv hv=>?_)
   have hb:=Below.gr hb hv
   have BX:=Gr.blk hv BX
   have BY:=Gr.blk hv BY
   have BW:=Gr.blk hv BW
   clear hv pc pf
   go_wp2
   refine ⟨⟨hb,BX,BY,Lib.hid (.inr (.inl (⟨rfl,rfl,BW⟩)))⟩,by decide⟩
  ·clear HI
   have px:wr.cell? ⟨w.heap.size,1,none⟩=some (.int .u64 (x1:Int)):=BX.cell 1
   have py:wr.cell? ⟨w.heap.size+1,1,none⟩=some (.int .u64 (y1:Int)):=BY.cell 1
   go_wp2
   refine AP (λj=>j == 13) kZ ?_
   try simp only [Act.put]
   refine tk 0 J ?_
   try simp only [aPS]
   refine tk 1 J ?_
   try simp only [aPS]
   refine tk 2 J ?_
   try simp only [aPS]
   refine tkw 3 J (YieldsG.pure (v:=.int .u64 (x1:Int)) (by rfl) (λw9 h9=>by have hz:=(Below.cell (p:=⟨w.heap.size,1,none⟩) h9 lX).trans px; go_simp; first | done | simp [hz])) ?_
   try simp only [aPS]
   refine tk 4 J ?_
   try simp only [aPS]
   refine tk 5 J ?_
   try simp only [aPS]
   refine tkw 6 J (YieldsG.pure (v:=.int .u64 (y1:Int)) (by rfl) (λw9 h9=>by have hz:=(Below.cell (p:=⟨w.heap.size+1,1,none⟩) h9 lY).trans py; go_simp; first | done | simp [hz])) ?_
   try simp only [aPS]
   refine tk 7 J ?_
   try simp only [aPS]
   refine tkw 8 J (YieldsG.pure (v:=.tuple #[.int .u64 (s1:Int),.int .u64 (c1:Int)]) (by rfl) (λw9 h9=>by go_simp)) ?_
   try simp only [aPS]
   refine tk 9 J ?_
   try simp only [aPS]
   refine tk 10 J ?_
   try simp only [aPS]
   refine Ao 11 J kZ (λ_ _ _ h=>h) (λ_=>YieldsG.pure (by rfl) (λw9 _=>by go_simp; try with_reducible rfl)) ?_
   try simp only [aPS]
   refine tk 12 J ?_
   try simp only [aPS]
   refine Au 13 J kZ (by rfl) (λu hu K hK=>?_)
   have BX:=Gr.blk hu BX
   have BY:=Gr.blk hu BY
   have BW:=Gr.blk hu BW
   have hb:=Below.gr hb hu
   have pc:u.cell? ⟨w.heap.size+2,1,none⟩=some (.int .u64 0):=BW.cell 1
   have pf:=BW.frozen 1
   clear hu px py
   go_simp
   refine hK _ _ (λe=>by cases e) ?_
   clear hK K
   have hb:=hb.setCell (p:=⟨w.heap.size+2,1,none⟩) (by show w.heap.size≤w.heap.size+2; omega) (.int .u64 (s1:Int))
   have BX:=BX.far (p:=⟨w.heap.size+2,1,none⟩) (by show w.heap.size≠w.heap.size+2; omega) (.int .u64 (s1:Int))
   have BY:=BY.far (p:=⟨w.heap.size+2,1,none⟩) (by show w.heap.size+1≠w.heap.size+2; omega) (.int .u64 (s1:Int))
   have BW:=BW.set_ 1 (.int .u64 (s1:Int))
   refine Ao 14 J kZ (λ_ _ _ h=>h) (λ_=>YieldsG.pure (by rfl) (λw9 _=>by go_simp; try with_reducible rfl)) ?_
   try simp only [aPS]
   refine AO kZ (λv hv=>?_)
   have hb:=Below.gr hb hv
   have BX:=Gr.blk hv BX
   have BY:=Gr.blk hv BY
   have BW:=Gr.blk hv BW
   clear hv pc pf
   go_wp2
   refine ⟨⟨hb,BX,BY,Lib.hid (.inr (.inr (.inl (⟨rfl,rfl,BW⟩))))⟩,by decide⟩
  ·clear HI
   have px:wr.cell? ⟨w.heap.size,2,none⟩=some (.int .u64 (x2:Int)):=BX.cell 2
   have py:wr.cell? ⟨w.heap.size+1,2,none⟩=some (.int .u64 (y2:Int)):=BY.cell 2
   go_wp2
   refine AP (λj=>j == 13) kZ ?_
   try simp only [Act.put]
   refine tk 0 J ?_
   try simp only [aPS]
   refine tk 1 J ?_
   try simp only [aPS]
   refine tk 2 J ?_
   try simp only [aPS]
   refine tkw 3 J (YieldsG.pure (v:=.int .u64 (x2:Int)) (by rfl) (λw9 h9=>by have hz:=(Below.cell (p:=⟨w.heap.size,2,none⟩) h9 lX).trans px; go_simp; first | done | simp [hz])) ?_
   try simp only [aPS]
   refine tk 4 J ?_
   try simp only [aPS]
   refine tk 5 J ?_
   try simp only [aPS]
   refine tkw 6 J (YieldsG.pure (v:=.int .u64 (y2:Int)) (by rfl) (λw9 h9=>by have hz:=(Below.cell (p:=⟨w.heap.size+1,2,none⟩) h9 lY).trans py; go_simp; first | done | simp [hz])) ?_
   try simp only [aPS]
   refine tk 7 J ?_
   try simp only [aPS]
   refine tkw 8 J (YieldsG.pure (v:=.tuple #[.int .u64 (s2:Int),.int .u64 (c2:Int)]) (by rfl) (λw9 h9=>by go_simp)) ?_
   try simp only [aPS]
   refine tk 9 J ?_
   try simp only [aPS]
   refine tk 10 J ?_
   try simp only [aPS]
   refine Ao 11 J kZ (λ_ _ _ h=>h) (λ_=>YieldsG.pure (by rfl) (λw9 _=>by go_simp; try with_reducible rfl)) ?_
   try simp only [aPS]
   refine tk 12 J ?_
   try simp only [aPS]
   refine Au 13 J kZ (by rfl) (λu hu K hK=>?_)
   have BX:=Gr.blk hu BX
   have BY:=Gr.blk hu BY
   have BW:=Gr.blk hu BW
   have hb:=Below.gr hb hu
   have pc:u.cell? ⟨w.heap.size+2,2,none⟩=some (.int .u64 0):=BW.cell 2
   have pf:=BW.frozen 2
   clear hu px py
   go_simp
   refine hK _ _ (λe=>by cases e) ?_
   clear hK K
   have hb:=hb.setCell (p:=⟨w.heap.size+2,2,none⟩) (by show w.heap.size≤w.heap.size+2; omega) (.int .u64 (s2:Int))
   have BX:=BX.far (p:=⟨w.heap.size+2,2,none⟩) (by show w.heap.size≠w.heap.size+2; omega) (.int .u64 (s2:Int))
   have BY:=BY.far (p:=⟨w.heap.size+2,2,none⟩) (by show w.heap.size+1≠w.heap.size+2; omega) (.int .u64 (s2:Int))
   have BW:=BW.set_ 2 (.int .u64 (s2:Int))
   refine Ao 14 J kZ (λ_ _ _ h=>h) (λ_=>YieldsG.pure (by rfl) (λw9 _=>by go_simp; try with_reducible rfl)) ?_
   try simp only [aPS]
   refine AO kZ (λv hv=>?_)
   have hb:=Below.gr hb hv
   have BX:=Gr.blk hv BX
   have BY:=Gr.blk hv BY
   have BW:=Gr.blk hv BW
   clear hv pc pf
   go_wp2
   refine ⟨⟨hb,BX,BY,Lib.hid (.inr (.inr (.inr (.inl (⟨rfl,rfl,BW⟩)))))⟩,by decide⟩
  ·clear HI
   have px:wr.cell? ⟨w.heap.size,3,none⟩=some (.int .u64 (x3:Int)):=BX.cell 3
   have py:wr.cell? ⟨w.heap.size+1,3,none⟩=some (.int .u64 (y3:Int)):=BY.cell 3
   go_wp2
   refine AP (λj=>j == 13) kZ ?_
   try simp only [Act.put]
   refine tk 0 J ?_
   try simp only [aPS]
   refine tk 1 J ?_
   try simp only [aPS]
   refine tk 2 J ?_
   try simp only [aPS]
   refine tkw 3 J (YieldsG.pure (v:=.int .u64 (x3:Int)) (by rfl) (λw9 h9=>by have hz:=(Below.cell (p:=⟨w.heap.size,3,none⟩) h9 lX).trans px; go_simp; first | done | simp [hz])) ?_
   try simp only [aPS]
   refine tk 4 J ?_
   try simp only [aPS]
   refine tk 5 J ?_
   try simp only [aPS]
   refine tkw 6 J (YieldsG.pure (v:=.int .u64 (y3:Int)) (by rfl) (λw9 h9=>by have hz:=(Below.cell (p:=⟨w.heap.size+1,3,none⟩) h9 lY).trans py; go_simp; first | done | simp [hz])) ?_
   try simp only [aPS]
   refine tk 7 J ?_
   try simp only [aPS]
   refine tkw 8 J (YieldsG.pure (v:=.tuple #[.int .u64 (s3:Int),.int .u64 (c3:Int)]) (by rfl) (λw9 h9=>by go_simp)) ?_
   try simp only [aPS]
   refine tk 9 J ?_
   try simp only [aPS]
   refine tk 10 J ?_
   try simp only [aPS]
   refine Ao 11 J kZ (λ_ _ _ h=>h) (λ_=>YieldsG.pure (by rfl) (λw9 _=>by go_simp; try with_reducible rfl)) ?_
   try simp only [aPS]
   refine tk 12 J ?_
   try simp only [aPS]
   refine Au 13 J kZ (by rfl) (λu hu K hK=>?_)
   have BX:=Gr.blk hu BX
   have BY:=Gr.blk hu BY
   have BW:=Gr.blk hu BW
   have hb:=Below.gr hb hu
   have pc:u.cell? ⟨w.heap.size+2,3,none⟩=some (.int .u64 0):=BW.cell 3
   have pf:=BW.frozen 3
   clear hu px py
   go_simp
   refine hK _ _ (λe=>by cases e) ?_
   clear hK K
   have hb:=hb.setCell (p:=⟨w.heap.size+2,3,none⟩) (by show w.heap.size≤w.heap.size+2; omega) (.int .u64 (s3:Int))
   have BX:=BX.far (p:=⟨w.heap.size+2,3,none⟩) (by show w.heap.size≠w.heap.size+2; omega) (.int .u64 (s3:Int))
   have BY:=BY.far (p:=⟨w.heap.size+2,3,none⟩) (by show w.heap.size+1≠w.heap.size+2; omega) (.int .u64 (s3:Int))
   have BW:=BW.set_ 3 (.int .u64 (s3:Int))
   refine Ao 14 J kZ (λ_ _ _ h=>h) (λ_=>YieldsG.pure (by rfl) (λw9 _=>by go_simp; try with_reducible rfl)) ?_
   try simp only [aPS]
   refine AO kZ (λv hv=>?_)
   have hb:=Below.gr hb hv
   have BX:=Gr.blk hv BX
   have BY:=Gr.blk hv BY
   have BW:=Gr.blk hv BW
   clear hv pc pf
   go_wp2
   refine ⟨⟨hb,BX,BY,Lib.hid (.inr (.inr (.inr (.inr (⟨rfl,rfl,BW⟩)))))⟩,by decide⟩
  ·clear HI
   obtain ⟨s,hsd⟩:=xE (s0+18446744073709551616*s1+340282366920938463463374607431768211456*s2+6277101735386680763835789423207666416102355444464034512896*s3)
   have hf:=hs.out
   have hl:=hlt.out
   have hn:=HF.out
   rw [← hsd] at hf hl hn
   have BS:=BW.eq_ (BV hf.symm).symm
   have HS:=Lib.hid (And.intro hl hn)
   clear hf hl hn hsd
   go_wp2_with (first | ((with_reducible refine AF (d:=some 24) ?_); refine AC J _ _ J (w.heap.size+2) rfl s _ _ _ BS (AS s) Be J kZ ?_) | ((with_reducible refine AG ?_); refine AB J _ _ _ J (w.heap.size+2) (fcs s) J J _ _ BS kZ (by rfl) (AM _) ?_; intro w9 hL9 hB9 hK9))
   exact bodyPost_ret (Av J _ _ (w.heap.size+2) _ _ _ _ J hL9 J Be J kZ) rfl ⟨⟨s,c3,HS.out.1,HK.out,HS.out.2,rfl⟩,hb.trans (hB9 _ om)⟩
theorem IX (w:World) (x y s k:Nat) (hx:x<(2^256)) (hy:y<(2^256)) (hs:s<(2^256)) (he:s+y=x+(2^256)*k) :
  Calls Tryz.prog 264 #[fv x,fv y] w λe w'=>e=.returned (.tuple #[fv s,.int .u64 (k:Int)])∧Below w.heap.size w w':=by
 refine (Gu w x y hx hy).mono ?_
 rintro e w' ⟨⟨s',k',hs',hk',he',rfl⟩,hb⟩
 obtain rfl:k'=k:=om
 obtain rfl:s'=s:=om
 exact ⟨rfl,hb⟩
theorem QF (w:World) (p:Nat) (hp:p=115792089237316195423570985008687907852837564279074904382605163141518161494337):Calls Tryz.prog 265 #[] w λe w'=>e=.returned (fv p)∧Below w.heap.size w w':=by
 subst hp; exact Oc w
theorem OR (w:World) (x k z:Nat) (dk:Int) (hdk:dk=(k:Int)) (hx:x<(2^256)) (hk:k≤1) (h2:x+(2^256)*k<115792089237316195423570985008687907852837564279074904382605163141518161494337+115792089237316195423570985008687907852837564279074904382605163141518161494337) (hz:z=(x+(2^256)*k)%pM):Calls Tryz.prog 236 #[fv x,.int .u64 dk] w λe w'=>e=.returned (fv z)∧Below w.heap.size w w':=by
 subst hdk
 obtain ⟨p,hp⟩:∃ p,p=115792089237316195423570985008687907852837564279074904382605163141518161494337:=⟨_,rfl⟩
 rw [EG, ← hp] at hz
 rw [← hp] at h2
 have hpl:p<(2^256):=om
 obtain ⟨s,b,hs,hb,he⟩:∃ s b:Nat,s<(2^256)∧b≤1∧s+p=x+(2^256)*b:=by
  by_cases h:p≤x
  ·exact ⟨x - p,0,by omega,by omega,by omega⟩
  ·exact ⟨x+(2^256) - p,1,by omega,by omega,by omega⟩
 have cm:=λw=>IX w x p s b hx hpl hs he
 have co:=λw=>QF w p hp
 have t1:b>k→z=x:=λh=>by
  obtain rfl:k=0:=om
  rw [hz,Nat.mod_eq_of_lt om]; omega
 have t2:¬ b>k→z=s:=λh=>by
  rw [hz,Nat.mod_eq_sub_mod om,Nat.mod_eq_of_lt om]
  rcases (show k=0∨k=1 by omega) with rfl|rfl <;> omega
 obtain ⟨x0,x1,x2,x3,fx⟩:=Ae x hx
 have FX:=Lib.hid fx
 rw [fx]
 clear fx hx hz hp h2 hpl hs hb he hk
 go_enter Tryz.func236,Tryz.ntmps236
 go_wp2
 refine AP (λj=>j == 7) kZ ?_
 try simp only [Act.put]
 refine tkw 0 J (YieldsG.loadF (by rfl) _ _ J w.heap.size rfl x _ _ ((Blk.new w _ _).alloc _) FX.out Be J kZ) ?_
 try simp only [aPS]
 refine tkw 1 J (YieldsG.call (v:=fv p) (by rfl) 265 _ (λw9=>by go_simp; try rfl) (λw9 h9=>co w9)) ?_
 try simp only [aPS]
 refine tkw 2 J (YieldsG.call (v:=.tuple #[fv s,.int .u64 (b:Int)]) (by rfl) 264 _ (λw9=>by go_simp; try rfl) (λw9 h9=>cm w9)) ?_
 try simp only [aPS]
 refine tk 3 J ?_
 try simp only [aPS]
 refine tk 4 J ?_
 try simp only [aPS]
 refine Ao 5 J kZ (λ_ _ _ h=>h) (λ_=>YieldsG.pure (by rfl) (λw9 _=>by go_simp; try with_reducible rfl)) ?_
 try simp only [aPS]
 refine Au 6 J kZ (by rfl) (λw3 h3 K hK=>?_)
 go_simp
 refine hK _ _ (λ_=>Bx _ _) ?_
 clear hK K
 try simp only [aPS]
 refine CE 7 J kZ (by rfl) _ _ _ J w3.heap.size (fcs s) J J _ _ (Blk.new w3 _ _) kZ (by rfl) (AM _) rfl (λw6 h6 w7 hB7 hL7=>?_)
 try simp only [Act.put]
 refine Ao 8 J kZ (λ_ _ _ h=>h) (λ_=>YieldsG.pure (by rfl) (λw9 _=>by go_simp; try with_reducible rfl)) ?_
 try simp only [aPS]
 refine AO kZ (λw8 h8=>?_)
 have BS:=Gr.blk h8 hL7
 have hsz:w.heap.size+2≤w3.heap.size:=by have:=h3.size; simp at this; omega
 have BX:Blk w8 w.heap.size 143 _:=Gr.blk h8 (Blk.below (B:=w3.heap.size) (Gr.blk h6 (Blk.alloc (Gr.blk h3 ((Blk.new w _ _).alloc _)) _)) (hB7 _ (Nat.le_refl _)) om)
 have BR:Blk w8 (w.heap.size+1) 143 _:=Gr.blk h8 (Blk.below (B:=w3.heap.size) (Gr.blk h6 (Blk.alloc (Gr.blk h3 (Ab w _ _ _)) _)) (hB7 _ (Nat.le_refl _)) om)
 have hB:Below w.heap.size w w8:=Below.gr ((Below.gr ((Below.gr (AZ w _ _) h3).alloc om _) h6).trans (hB7 _ om)) h8
 clear h3 h6 hB7 hL7 h8 cm co
 by_cases hbk:b>k
 ·have HZ:=Lib.hid (t1 hbk)
  have p0:(b:Int)>(k:Int):=om
  clear t1 t2 hbk
  go_wp2_with (first | ((with_reducible refine AF (d:=some 16) ?_); refine AC J _ _ J w.heap.size rfl x _ _ _ BX FX.out Be J kZ ?_) | ((with_reducible refine AG ?_); refine AB J _ _ _ J (w.heap.size+1) (fcs x) J J _ _ BR kZ (by rfl) (AM _) ?_; intro w9 hL9 hB9 hK9))
  exact bodyPost_ret (results_cell_row J _ _ (w.heap.size+1) _ _ (0,0) _ J hL9 Be J kZ) rfl ⟨by rw [HZ.out]; rfl,hB.trans (hB9 _ om)⟩
 ·have HZ:=Lib.hid (t2 hbk)
  have p0:¬ (b:Int)>(k:Int):=om
  clear t1 t2 hbk
  go_wp2_with (first | ((with_reducible refine AF (d:=some 17) ?_); refine AC J _ _ J w3.heap.size rfl s _ _ _ BS (AS s) Be J kZ ?_) | ((with_reducible refine AG ?_); refine AB J _ _ _ J (w.heap.size+1) (fcs s) J J _ _ BR kZ (by rfl) (AM _) ?_; intro w9 hL9 hB9 hK9))
  exact bodyPost_ret (results_cell_row J _ _ (w.heap.size+1) _ _ (0,0) _ J hL9 Be J kZ) rfl ⟨by rw [HZ.out]; rfl,hB.trans (hB9 _ om)⟩
theorem norm_any (w:World) (x:Nat) (hx:x<(2^256)):Calls Tryz.prog 204 #[fv x] w λe w'=>e=.returned (fv (x%pM))∧Below w.heap.size w w':=by
 obtain ⟨z,hz⟩:=xE (x%pM)
 have cr:=λw=>OR w x 0 z 0 J hx om om (by rw [hz]; rfl)
 obtain ⟨x0,x1,x2,x3,fx⟩:=Ae x hx
 have FX:=Lib.hid fx
 rw [fx] at cr ⊢
 rw [← hz]
 clear fx hx hz
 go_enter Tryz.func204,Tryz.ntmps204
 go_wp2_with fail
 refine (cr _).mono ?_
 rintro e w1 ⟨rfl,hb1⟩
 have hg:=Below.gr (AZ w _ _) hb1
 have hR:Blk w1 (w.heap.size+1) 143 _:=Gr.blk hb1 (Ab w _ _ _)
 go_wp2_with ((with_reducible refine AG ?_); refine AB J _ _ _ J (w.heap.size+1) (fcs z) J J _ _ hR kZ (by rfl) (AM _) ?_; intro w4 hL hB4 hK4)
 exact bodyPost_ret (results_cell_row J _ _ (w.heap.size+1) _ _ (0,0) _ J hL Be J kZ) rfl ⟨rfl,hg.trans (hB4 _ om)⟩
theorem bytes_any (w:World) (x:Nat) (hx:x<(2^256)):Calls Tryz.prog 205 #[fv x] w λe w'=>e=.returned (.agg ((AW (x%pM)).map bv).toArray)∧Below w.heap.size w w':=by
 obtain ⟨z,hz⟩:=xE (x%pM)
 have hzl:z<(2^256):=by rw [hz]; exact mod_lt x
 have cn:∀ w,Calls Tryz.prog 204 #[fv x] w λe w'=>e=.returned (fv z)∧Below w.heap.size w w':=by
  intro w; rw [hz]; exact norm_any w x hx
 rw [← hz]
 obtain ⟨z0,z1,z2,z3,a0,a1,a2,a3,ez,fz⟩:=Ah z hzl
 have HZ:=Lib.hid (And.intro a0 (And.intro a1 (And.intro a2 (And.intro a3 ez))))
 have FZ:=Lib.hid fz
 obtain ⟨x0,x1,x2,x3,fx⟩:=Ae x hx
 rw [fx] at cn ⊢
 clear fx fz hz hzl a0 a1 a2 a3 ez hx
 have hZB:Hid ((List.replicate 32 (Value.int .u8 0)).toArray=((Dl z 0).map bv).toArray):=Lib.hid (by simp [Dl,Fl,bv])
 go_enter Tryz.func205,Tryz.ntmps205
 go_wp2_with fail
 refine (cn _).mono ?_
 rintro e w1 ⟨rfl,hb⟩
 have BR:Blk w1 (w.heap.size+1) 36 _:=Gr.blk hb (Blk.alloc (Ab w _ _ _) _)
 have BB:Blk w1 (w.heap.size+2) 36 ((Dl z 0).map bv).toArray:=Blk.eq_ (Gr.blk hb (Ay w _ _ _ _)) hZB.out
 have hB:=Below.gr (AY w _ _ _) hb
 have sz:=BB.lt
 clear hb cn
 go_wp2_with ((with_reducible refine AG ?_); refine AB J _ _ _ J w1.heap.size (fcs z) J J _ _ (Blk.new w1 _ _) kZ (by rfl) (AM _) ?_; intro w2 hL2 hB2 hK2; have CR:=hK2 _ om _ _ (BR.alloc _); have CB:=hK2 _ om _ _ (BB.alloc _); have hC:=(hB.alloc om _).trans (hB2 _ om))
 go_loopw [8] (λi wr=>∃ k:Nat,k≤32∧i=.int .i64 (k:Int)∧Below w.heap.size w wr∧Blk wr (w.heap.size+2) 36 ((Dl z k).map bv).toArray∧Blk wr w1.heap.size 143 #[.int .u64 (z0:Int),.int .u64 (z1:Int),.int .u64 (z2:Int),.int .u64 (z3:Int)]∧Blk wr (w.heap.size+1) 36 (List.replicate 32 (Value.int .u8 0)).toArray) (λi _=>32 - (intOf i).toNat)
 case atStart=>exact ⟨0,by omega,rfl,hC,CB,hL2.eq_ (BV FZ.out),CR⟩
 case round =>
  obtain ⟨k,hk,rfl,hb,hP,hN,hR⟩:=hrel
  by_cases hlt:k<32
  ·have ce:∀ j,j<32→∃ v,wr.cell? ⟨w.heap.size+1+1,j,none⟩=some v:=λj hj=>⟨_,(hP.cell j).trans (Array.getElem?_eq_getElem (by simp [GC z k hk]; exact hj))⟩
   obtain ⟨v,hv⟩:=ce (31 - k) om
   have ff:=hP.frozen (31 - k)
   have q0:wr.cell? ⟨w1.heap.size,0,none⟩=some (.int .u64 (z0:Int)):=hN.cell 0
   have q1:wr.cell? ⟨w1.heap.size,1,none⟩=some (.int .u64 (z1:Int)):=hN.cell 1
   have q2:wr.cell? ⟨w1.heap.size,2,none⟩=some (.int .u64 (z2:Int)):=hN.cell 2
   have q3:wr.cell? ⟨w1.heap.size,3,none⟩=some (.int .u64 (z3:Int)):=hN.cell 3
   have hPn:=hP.set_ (31 - k) (bv (Ck z k))
   rw [JG z k hlt] at hPn
   have HP:=Lib.hid hPn
   clear hPn ce
   have HR:=Lib.hid (And.intro hb (And.intro hN hR))
   clear hb hP hN hR hk
   have hsz:w.heap.size+2<w1.heap.size:=sz
   rcases (DB k) with rfl|rfl|rfl|rfl|rfl|rfl|rfl|rfl|rfl|rfl|rfl|rfl|rfl|rfl|rfl|rfl|rfl|rfl|rfl|rfl|rfl|rfl|rfl|rfl|rfl|rfl|rfl|rfl|rfl|rfl|rfl|rfl
   all_goals
    go_wp2
    obtain ⟨a0,a1,a2,a3,ez⟩:=HZ.out
    refine ⟨⟨_,by decide,rfl,HR.out.1.setCell (by show w.heap.size≤w.heap.size+1+1; omega) _,HP.out.val (by rw [LP]; congr 1; omega),HR.out.2.1.far (by show w1.heap.size≠w.heap.size+1+1; omega) _,HR.out.2.2.far (by show w.heap.size+1≠w.heap.size+1+1; omega) _⟩,by simp [intOf]⟩
  ·have p1:¬ (k:Int)<32:=om
   obtain rfl:k=32:=om
   rw [IL] at hP
   have HI:=Lib.hid (AN z)
   have HL:=Lib.hid hP
   have HR:=Lib.hid hR
   clear hN hP hR
   go_wp2_with (first | ((with_reducible refine AF (d:=some 24) ?_); refine Al J _ _ J (w.heap.size+2) rfl _ _ _ HL.out JZ J (C1 HI.out) ?_) | ((with_reducible refine AG ?_); refine AB J _ _ _ J (w.heap.size+1) ((AW z).map bv).toArray J J _ _ HR.out (C1 HI.out) (by simp [HI.out]) (Np _) ?_; intro w9 hL9 hB9 hK9))
   exact bodyPost_ret (results_cell_row J _ _ (w.heap.size+1) _ _ (0,0) _ J hL9 JZ J (C1 HI.out)) J ⟨rfl,hb.trans (hB9 _ om)⟩
theorem BO (W:World) (n m:Nat) (hn:n<(2^256)) (hm:m<(2^256)):(Op.equalIn 10000 143 (fv n) (fv m)).run Tryz.prog W=.ok (decide (n=m)) W:=by
 rw [C5,C5]
 have h:=Bu W 9998 143 22 4 Be CD (λW=>kZ) (wl n) (wl m) rfl J
 rw [Hu hn hm] at h
 exact h
theorem run_eql_fv (W:World) (n m:Nat) (hn:n<(2^256)) (hm:m<(2^256)):(binOp .eql 143 (fv n) (fv m)).run Tryz.prog W=.ok (.bool (decide (n=m))) W:=by
 have h:=BO W n m hn hm
 rw [C5,C5] at h ⊢
 rw [run_eql_struct,h]
 rfl
theorem run_neq_fv (W:World) (n m:Nat) (hn:n<(2^256)) (hm:m<(2^256)):(binOp .neq 143 (fv n) (fv m)).run Tryz.prog W=.ok (.bool (decide (n≠m))) W:=by
 have h:=BO W n m hn hm
 rw [C5,C5] at h ⊢
 rw [run_neq_struct,h]
 by_cases e:n=m <;> simp [e]
theorem run_eqGuard_fv (op:BinOp) (x y:Operand) (n m:Nat) (W:World):(eqGuard op 143 x y (fv n) (fv m)).run Tryz.prog W=.ok () W:=by
 rw [AS,AS]
 go_simp
theorem Ny (w:World) (l:Ak) (hl:l.length=32):Calls Tryz.prog 237 #[.agg (l.map bv).toArray] w λe w'=>e=.returned (fv (Ag l))∧Below w.heap.size w w':=by
 have HL:=Lib.hid hl
 clear hl
 go_enter Tryz.func237,Tryz.ntmps237
 go_wp2_with ((with_reducible refine AF (d:=some 6) ?_); refine Al J _ _ J w.heap.size J _ _ _ (((Blk.new w _ _).alloc _).alloc _) JZ J (C1 HL.out) ?_)
 go_loopw [7] (λi wr=>∃ k y0 y1 y2 y3:Nat,k≤32∧i=.int .i64 (k:Int)∧Hid (y0=wdB l k 0∧y1=wdB l k 1∧y2=wdB l k 2∧y3=wdB l k 3)∧Below w.heap.size w wr∧Blk wr (w.heap.size+2) 143 #[.int .u64 (y3:Int),.int .u64 (y2:Int),.int .u64 (y1:Int),.int .u64 (y0:Int)]∧Blk wr (w.heap.size+1) 143 #[.int .u64 0,.int .u64 0,.int .u64 0,.int .u64 0]) (λi _=>32 - (intOf i).toNat)
 case atStart=>exact ⟨0,0,0,0,0,by omega,rfl,Lib.hid ⟨(Bb l 0).symm,(Bb l 1).symm,(Bb l 2).symm,(Bb l 3).symm⟩,AY w _ _ _,Ay w _ _ _ _,(Ab w _ _ _).alloc _⟩
 case round =>
  obtain ⟨k,y0,y1,y2,y3,hk,rfl,HY,hb,hP,hR⟩:=hrel
  have q3:wr.cell? ⟨w.heap.size+1+1,0,none⟩=some (.int .u64 (y3:Int)):=hP.cell 0
  have q2:wr.cell? ⟨w.heap.size+1+1,1,none⟩=some (.int .u64 (y2:Int)):=hP.cell 1
  have q1:wr.cell? ⟨w.heap.size+1+1,2,none⟩=some (.int .u64 (y1:Int)):=hP.cell 2
  have q0:wr.cell? ⟨w.heap.size+1+1,3,none⟩=some (.int .u64 (y0:Int)):=hP.cell 3
  have ff:∀ j,wr.frozen? ⟨w.heap.size+1+1,j,none⟩=false:=λj=>hP.frozen j
  by_cases hlt:k<32
  ·obtain ⟨c,hc⟩:∃ c,l[k]? = some c:=⟨l[k]'(by rw [HL.out]; exact hlt),List.getElem?_eq_getElem _⟩
   have HC:=Lib.hid hc
   obtain ⟨m,hm⟩:=xE c.toNat
   have hm8:m<256:=by rw [hm]; exact c.toNat_lt
   have hI:∀ W,(Instr.index 36 (.agg (l.map bv).toArray) (.int .i64 (k:Int))).run Tryz.prog W=.ok (.int .u8 (m:Int)) W:=λW=>by
    rw [Fc W l k c hc hlt,hm]; rfl
   have HM:=Lib.hid hm
   have HR:=Lib.hid (And.intro hb (And.intro hP hR))
   clear hb hP hR hc hk hm
   rcases (DB k) with rfl|rfl|rfl|rfl|rfl|rfl|rfl|rfl|rfl|rfl|rfl|rfl|rfl|rfl|rfl|rfl|rfl|rfl|rfl|rfl|rfl|rfl|rfl|rfl|rfl|rfl|rfl|rfl|rfl|rfl|rfl|rfl
   all_goals
    simp only [Int.cast_ofNat_Int] at hI
   all_goals
    first
    | ((have hy:y0<72057594037927936:=by rw [HY.out.1]; exact Ci l _ 0 dZ); (have ho:=Er y0 m hy hm8); go_wp2; (refine ⟨⟨_,y0*256+m,y1,y2,y3,by decide,rfl,Lib.hid ⟨by rw [HY.out.1,HM.out]; exact (Bc l _ 0 c HC.out dZ).symm,by rw [HY.out.2.1]; exact (AR l _ 1 dZ).symm,by rw [HY.out.2.2.1]; exact (AR l _ 2 dZ).symm,by rw [HY.out.2.2.2]; exact (AR l _ 3 dZ).symm⟩,HR.out.1.setCell (by show w.heap.size≤w.heap.size+1+1; omega) _,Blk.eq_ (HR.out.2.1.set_ 3 _) (by rw [show ((y0*256+m:Nat):Int)=(y0:Int)*256+(m:Int) by omega]; rfl),HR.out.2.2.far (by show w.heap.size+1≠w.heap.size+1+1; omega) _⟩,by simp [intOf]⟩))
    | ((have hy:y1<72057594037927936:=by rw [HY.out.2.1]; exact Ci l _ 1 dZ); (have ho:=Er y1 m hy hm8); go_wp2; (refine ⟨⟨_,y0,y1*256+m,y2,y3,by decide,rfl,Lib.hid ⟨by rw [HY.out.1]; exact (AR l _ 0 dZ).symm,by rw [HY.out.2.1,HM.out]; exact (Bc l _ 1 c HC.out dZ).symm,by rw [HY.out.2.2.1]; exact (AR l _ 2 dZ).symm,by rw [HY.out.2.2.2]; exact (AR l _ 3 dZ).symm⟩,HR.out.1.setCell (by show w.heap.size≤w.heap.size+1+1; omega) _,Blk.eq_ (HR.out.2.1.set_ 2 _) (by rw [show ((y1*256+m:Nat):Int)=(y1:Int)*256+(m:Int) by omega]; rfl),HR.out.2.2.far (by show w.heap.size+1≠w.heap.size+1+1; omega) _⟩,by simp [intOf]⟩))
    | ((have hy:y2<72057594037927936:=by rw [HY.out.2.2.1]; exact Ci l _ 2 dZ); (have ho:=Er y2 m hy hm8); go_wp2; (refine ⟨⟨_,y0,y1,y2*256+m,y3,by decide,rfl,Lib.hid ⟨by rw [HY.out.1]; exact (AR l _ 0 dZ).symm,by rw [HY.out.2.1]; exact (AR l _ 1 dZ).symm,by rw [HY.out.2.2.1,HM.out]; exact (Bc l _ 2 c HC.out dZ).symm,by rw [HY.out.2.2.2]; exact (AR l _ 3 dZ).symm⟩,HR.out.1.setCell (by show w.heap.size≤w.heap.size+1+1; omega) _,Blk.eq_ (HR.out.2.1.set_ 1 _) (by rw [show ((y2*256+m:Nat):Int)=(y2:Int)*256+(m:Int) by omega]; rfl),HR.out.2.2.far (by show w.heap.size+1≠w.heap.size+1+1; omega) _⟩,by simp [intOf]⟩))
    | ((have hy:y3<72057594037927936:=by rw [HY.out.2.2.2]; exact Ci l _ 3 dZ); (have ho:=Er y3 m hy hm8); go_wp2; (refine ⟨⟨_,y0,y1,y2,y3*256+m,by decide,rfl,Lib.hid ⟨by rw [HY.out.1]; exact (AR l _ 0 dZ).symm,by rw [HY.out.2.1]; exact (AR l _ 1 dZ).symm,by rw [HY.out.2.2.1]; exact (AR l _ 2 dZ).symm,by rw [HY.out.2.2.2,HM.out]; exact (Bc l _ 3 c HC.out dZ).symm⟩,HR.out.1.setCell (by show w.heap.size≤w.heap.size+1+1; omega) _,Blk.eq_ (HR.out.2.1.set_ 0 _) (by rw [show ((y3*256+m:Nat):Int)=(y3:Int)*256+(m:Int) by omega]; rfl),HR.out.2.2.far (by show w.heap.size+1≠w.heap.size+1+1; omega) _⟩,by simp [intOf]⟩))
  ·have p1:¬ (k:Int)<32:=om
   obtain rfl:k=32:=om
   have b0:y0<18446744073709551616:=by rw [HY.out.1]; exact B9 l _ _
   have b1:y1<18446744073709551616:=by rw [HY.out.2.1]; exact B9 l _ _
   have b2:y2<18446744073709551616:=by rw [HY.out.2.2.1]; exact B9 l _ _
   have b3:y3<18446744073709551616:=by rw [HY.out.2.2.2]; exact B9 l _ _
   obtain ⟨z,hz⟩:=xE (y3+18446744073709551616*y2+340282366920938463463374607431768211456*y1+6277101735386680763835789423207666416102355444464034512896*y0)
   have fz:=Cw y3 y2 y1 y0 b3 b2 b1 b0
   rw [← hz] at fz
   have hzv:Ag l=z:=by rw [Hg l HL.out,hz,HY.out.1,HY.out.2.1,HY.out.2.2.1,HY.out.2.2.2]
   have HZ:=Lib.hid hzv
   have FZ:=Lib.hid fz.symm
   have HP:=Lib.hid hP
   have HR:=Lib.hid hR
   clear HY b0 b1 b2 b3 hz fz hzv q0 q1 q2 q3 ff hP hR
   go_wp2_with (first | ((with_reducible refine AF (d:=some 25) ?_); refine AC J _ _ J (w.heap.size+2) rfl z _ _ _ HP.out FZ.out Be J kZ ?_) | ((with_reducible refine AG ?_); refine AB J _ _ _ J (w.heap.size+1) (fcs z) J J _ _ HR.out kZ (by rfl) (AM _) ?_; intro vz hLz hqz hKz))
   exact bodyPost_ret (results_cell_row J _ _ (w.heap.size+1) _ _ (0,0) _ J hLz Be J kZ) rfl ⟨by rw [HZ.out]; rfl,hb.trans (hqz _ om)⟩
def readS (l:Ak):Nat×Bool:=if Ag l<pM then (Ag l,true) else (0,false)
theorem read_any (w:World) (l:Ak) (hl:l.length=32):Calls Tryz.prog 206 #[.agg (l.map bv).toArray] w λe w'=>e=.returned (.tuple #[fv (readS l).1,.bool (readS l).2])∧Below w.heap.size w w':=by
 obtain ⟨z,hz⟩:=xE (Ag l)
 have hzl:z<(2^256):=by rw [hz]; exact Bl l hl
 obtain ⟨n,hn⟩:=xE (z%pM)
 have hnl:n<(2^256):=by rw [hn]; exact mod_lt z
 obtain ⟨b,hbd⟩:=xE (decide (n≠z))
 have eb:∀ W,(binOp .neq 143 (fv n) (fv z)).run Tryz.prog W=.ok (.bool b) W:=λW=>by rw [hbd]; exact run_neq_fv W n z hnl hzl
 have cw:∀ w,Calls Tryz.prog 237 #[.agg (l.map bv).toArray] w λe w'=>e=.returned (fv z)∧Below w.heap.size w w':=by
  intro w; rw [hz]; exact Ny w l hl
 have cn:∀ w,Calls Tryz.prog 204 #[fv z] w λe w'=>e=.returned (fv n)∧Below w.heap.size w w':=by
  intro w; rw [hn]; exact norm_any w z hzl
 have hS:readS l=if b=true then (0,false) else (z,true):=by
  unfold readS
  rw [← hz,hbd,hn]
  by_cases h:z<pM
  ·rw [if_pos h,Nat.mod_eq_of_lt h]; simp
  ·have h2:z%pM≠z:=λe=>h (by rw [← e]; exact Bw z)
   rw [if_neg h]; simp [h2]
 have HS:=Lib.hid hS
 have HL:=Lib.hid hl
 clear hl hz hzl hn hnl hbd hS
 go_enter Tryz.func206,Tryz.ntmps206
 go_wp2_with ((with_reducible refine AF (d:=some 5) ?_); refine Al J _ _ J w.heap.size J _ _ _ ((Blk.new w _ _).alloc _) JZ J (C1 HL.out) ?_)
 refine (cw _).mono ?_
 rintro e w1 ⟨rfl,k1⟩
 have BR:=Gr.blk k1 (Ab w _ _ _)
 have sz:=BR.lt
 have hB:=Below.gr (AZ w _ _) k1
 clear k1 cw
 go_wp2_with ((with_reducible refine AG ?_); refine AB J _ _ _ J w1.heap.size (fcs z) J J _ _ (Blk.new w1 _ _) kZ (by rfl) (AM _) ?_; intro w2 hL2 hq2 hK2; have CR:=hK2 _ om _ _ (BR.alloc _); have hB2:=(hB.alloc om _).trans (hq2 _ om))
 refine AP (λ_=>false) kZ ?_
 try simp only [Act.put]
 refine tkw 0 J (YieldsG.loadF (by rfl) _ _ J w1.heap.size rfl z _ _ hL2 (AS _) Be J kZ) ?_
 try simp only [aPS]
 refine tkw 1 J (YieldsG.call (v:=fv n) (by rfl) 204 _ (λw9=>by go_simp; try rfl) (λw9 h9=>cn w9)) ?_
 try simp only [aPS]
 refine tkw 2 J (YieldsG.loadF (by rfl) _ _ J w1.heap.size rfl z _ _ hL2 (AS _) Be J kZ) ?_
 try simp only [aPS]
 refine tkw 3 J (YieldsG.pure (v:=.bool b) (by rfl) (λw9 h9=>by go_simp; rw [run_eqGuard_fv]; simp only [Result.andThen_ok])) ?_
 try simp only [aPS]
 refine AO kZ (λu hu=>?_)
 have hbu:=Below.gr hB2 hu
 have BRu:=Gr.blk hu CR
 have BP:=Gr.blk hu hL2
 clear hu hB2 CR hL2 eb cn
 cases b
 ·have HT:Hid (readS l=(z,true)):=Lib.hid (by rw [HS.out]; rfl)
  clear HS
  go_wp2_with (first | ((with_reducible refine AF (d:=some 12) ?_); refine AC J _ _ J w1.heap.size rfl z _ _ _ BP (AS _) Be J kZ ?_) | ((with_reducible refine AG ?_); refine AB J _ _ _ J (w.heap.size+1) (fcs z) J J _ _ BRu kZ (by rfl) (AM _) ?_; intro vz hLz hqz hKz))
  exact bodyPost_ret (Av J _ _ (w.heap.size+1) _ _ _ _ J hLz J Be J kZ) rfl ⟨by rw [HT.out]; rfl,hbu.trans (hqz _ om)⟩
 ·have HT:Hid (readS l=(0,false)):=Lib.hid (by rw [HS.out]; rfl)
  clear HS
  go_wp2_with ((with_reducible refine AG ?_); refine AB J _ _ _ J (w.heap.size+1) _ J J _ _ BRu kZ (by rfl) (by simp [Value.oneCell']) ?_; intro vz hLz hqz hKz)
  exact bodyPost_ret (Av J _ _ (w.heap.size+1) _ _ _ _ J hLz J Be J kZ) rfl ⟨by rw [HT.out]; rfl,hbu.trans (hqz _ om)⟩
end Sc
end
section
namespace Wr
open Go.RowKit Sy
def J1 (n:Nat):Bool:=decide (n%Sc.pM=n)
def Dn (n:Nat):Byt:=AW (n%Sc.pM)
def OT:Ps Nat:=AH (An 32) λl=>AH (BH (Sc.readS l).2) λ_=>BF (Sc.readS l).1
def Pj (_:Rdr) (cs:List Value) (n:Nat):Prop:=cs=Cu.fws n∧n<Cu.K4
def Ev (a:MAmt):Bool:=(!a.blind && decide (a.value=0)) && Ff a.pt
structure MIs where
 kind:Int
 amount:MAmt
 range:Byt
 tokens:Nat
 entropy:Byt
 blind:Nat
def zAM:MAmt:=⟨false,0,⟨0,0,false⟩⟩
def zIS:MIs:=⟨0,zAM,[],0,z32,0⟩
def DL (i:MIs):Bool:=Ev i.amount && (decide (i.range.length=0) && (decide (i.tokens=0) && (decide (i.entropy=z32) && decide (i.blind=0))))
def JL (i:MIs):Bool:=Ly i.amount && (decide (i.range.length≤6000) && J1 i.blind)
def C9 (i:MIs):Bool:=if i.kind=0 then DL i else if i.kind=1∨i.kind=2 then JL i else false
def Ip (i:MIs):Byt:=Ha i.amount++(D_ i.range++(nb 8 i.tokens++(i.entropy++Dn i.blind)))
def D1 (i:MIs):Byt:=[CQ i.kind]++(if i.kind=0 then [] else Ip i)
def DQ (i:MIs):Nat:=1+(34+((9+i.range.length)+(8+(32+32))))
def K8 (k:Int):Ps MIs:=AH Js λa=>AH (Bq 6000) λr=>AH (BT 8) λt=>AH (An 32) λe=>AH OT λs=>BF ⟨k,a,r,t,e,s⟩
def He:Ps MIs:=AH CH λk=>if k=0 then BF zIS else AH (BH (decide (k=1∨k=2))) λ_=>K8 k
def cIS (i:MIs) (vr:Value):List Value:=[.int .i64 i.kind]++(cAM i.amount++([vr]++([.int .u64 (i.tokens:Int)]++(i.entropy.map bv++Cu.fws i.blind))))
def EE (C:Rdr) (cs:List Value) (i:MIs):Prop:=∃ vr,cs=cIS i vr∧(i.amount.value<18446744073709551616∧i.amount.pt.x<Cu.K4∧i.amount.pt.y<Cu.K4)∧BytR C vr i.range∧i.tokens<18446744073709551616∧i.entropy.length=32∧i.blind<Cu.K4
theorem IV:BN EE:=λhl ⟨vr,h0,h1,h2,h3,h4,h5⟩=>⟨vr,h0,h1,h2.le hl,h3,h4,h5⟩
theorem GP (n:Nat):(Cu.fws n).length=4:=rfl
theorem GO (n:Nat):∀ u∈Cu.fws n,u.oneCell'=true:=λu hu=>by
 simp only [Cu.fws,List.mem_cons,List.not_mem_nil,or_false] at hu
 rcases hu with rfl|rfl|rfl|rfl <;> rfl
theorem NN {C:Rdr} {cs:List Value} {t:MIs} (h:EE C cs t):cs.length=50:=by
 obtain ⟨vr,rfl,h1,h2,h3,h4,h5⟩:=h
 simp only [cIS,cAM,List.length_append,List.length_map,h4,GP,Cd]; rfl
theorem GF {C:Rdr} {cs:List Value} {t:MIs} (h:EE C cs t):∀ u∈cs,u.oneCell'=true:=by
 obtain ⟨vr,rfl,h1,h2,h3,h4,h5⟩:=h
 exact AD (λu hu=>by rw [List.mem_singleton.1 hu]; rfl) (AD (AD (λu hu=>by rw [List.mem_singleton.1 hu]; rfl) (AD (λu hu=>by rw [List.mem_singleton.1 hu]; rfl) (CF _))) (AD (λu hu=>by rw [List.mem_singleton.1 hu]; exact h2.cells.2) (AD (λu hu=>by rw [List.mem_singleton.1 hu]; rfl) (AD (Bv _) (GO _)))))
structure MPg where
 header:Byt
 tx:Byt
 place:Nat
 many:Nat
 path:List Byt
 script:Byt
def zPG:MPg:=⟨z32,[],0,0,[],[]⟩
def DU (p:MPg):Bool:=decide (p.header=z32) && (decide (p.tx.length=0) && (decide (p.place=0) && (decide (p.many=0) && (decide (p.path.length=0) && decide (p.script.length=0)))))
def IP (p:MPg):Bool:=decide (p.tx.length≤1024) && (decide (p.path.length≤32) && decide (p.script.length≤256))
def GS (p:MPg):Byt:=p.header++(D_ p.tx++(nb 4 p.place++(nb 4 p.many++(G0 (λd=>d) p.path++D_ p.script))))
def Ek (p:MPg):Nat:=32+((9+p.tx.length)+(4+(4+((9+(p.path.map λ_=>32).sum)+(9+p.script.length)))))
def Jp:Ps MPg:=AH (An 32) λh=>AH (Bq 1024) λt=>AH (BT 4) λp=>AH (BT 4) λm=>AH (Ch 32 (An 32)) λl=>AH (Bq 256) λs=>BF ⟨h,t,p,m,l,s⟩
def cPG (p:MPg) (vt vp vs:Value):List Value:=p.header.map bv++([vt]++([.int .u32 (p.place:Int)]++([.int .u32 (p.many:Int)]++([vp]++[vs]))))
def ED (C:Rdr) (cs:List Value) (p:MPg):Prop:=∃ vt vp vs,cs=cPG p vt vp vs∧p.header.length=32∧BytR C vt p.tx∧p.place<4294967296∧p.many<4294967296∧LstR C 32 Bj vp p.path∧BytR C vs p.script
theorem ME:BN ED:=λhl ⟨vt,vp,vs,h0,h1,h2,h3,h4,h5,h6⟩=>⟨vt,vp,vs,h0,h1,h2.le hl,h3,h4,LstR.le (rep:=Bj) Co hl h5,h6.le hl⟩
theorem Qn {C:Rdr} {cs:List Value} {t:MPg} (h:ED C cs t):cs.length=37:=by
 obtain ⟨vt,vp,vs,rfl,h1,_⟩:=h
 simp only [cPG,List.length_append,List.length_map,h1]; rfl
theorem QM {C:Rdr} {cs:List Value} {t:MPg} (h:ED C cs t):∀ u∈cs,u.oneCell'=true:=by
 obtain ⟨vt,vp,vs,rfl,h1,h2,h3,h4,h5,h6⟩:=h
 exact AD (Bv _) (AD (λu hu=>by rw [List.mem_singleton.1 hu]; exact h2.cells.2) (AD (λu hu=>by rw [List.mem_singleton.1 hu]; rfl) (AD (λu hu=>by rw [List.mem_singleton.1 hu]; rfl) (AD (λu hu=>by rw [List.mem_singleton.1 hu]; exact h5.cells.2) (λu hu=>by rw [List.mem_singleton.1 hu]; exact h6.cells.2)))))
theorem Cv:BN DX:=λhl ⟨v,h0,h1⟩=>⟨v,h0,h1.le hl⟩
def IQ (x:Byt):Bool:=decide (x.length≤256)
def wtT (x:Byt):Nat:=9+x.length
structure MIn where
 kind:Int
 prev:Byt
 index:Nat
 issue:MIs
 peg:MPg
 wit:List Byt
def okW (l:List Byt):Bool:=decide (l.length≤16) && l.all IQ
def GG (k:Int):Bool:=decide (1≤k) && decide (k≤2)
def FT (i:MIn):Bool:=GG i.kind && (C9 i.issue && ((if i.kind=2 then IP i.peg else DU i.peg) && okW i.wit))
def D2 (i:MIn):Byt:=[CQ i.kind]++(i.prev++(nb 4 i.index++(D1 i.issue++((if i.kind=2 then GS i.peg else [])++G0 D_ i.wit))))
def Dp (i:MIn):Nat:=1+(36+(DQ i.issue+(Ek i.peg+(9+(i.wit.map wtT).sum))))
def Ej:Ps MIn:=AH CH λk=>AH (BH (GG k)) λ_=>AH (An 32) λp=>AH (BT 4) λx=>AH He λi=>AH (if k=2 then Jp else BF zPG) λg=>AH (Ch 16 (Bq 256)) λw=>BF ⟨k,p,x,i,g,w⟩
def CY (C:Rdr) (cs:List Value) (i:MIn):Prop:=∃ ci cg vw,cs=[.int .i64 i.kind]++((i.prev.map bv++[.int .u32 (i.index:Int)])++(ci++(cg++[vw])))∧i.prev.length=32∧i.index<4294967296∧EE C ci i.issue∧ED C cg i.peg∧LstR C 1 DX vw i.wit
theorem Ey:BN CY:=λhl ⟨ci,cg,vw,h0,h1,h2,h3,h4,h5⟩=>⟨ci,cg,vw,h0,h1,h2,IV hl h3,ME hl h4,LstR.le (rep:=DX) Cv hl h5⟩
theorem Qo {C:Rdr} {cs:List Value} {t:MIn} (h:CY C cs t):cs.length=122:=by
 obtain ⟨ci,cg,vw,rfl,h1,h2,h3,h4,h5⟩:=h
 simp only [List.length_append,List.length_map,h1,NN h3,Qn h4]; rfl
theorem NC {C:Rdr} {cs:List Value} {t:MIn} (h:CY C cs t):∀ u∈cs,u.oneCell'=true:=by
 obtain ⟨ci,cg,vw,rfl,h1,h2,h3,h4,h5⟩:=h
 exact AD (λu hu=>by rw [List.mem_singleton.1 hu]; rfl) (AD (AD (Bv _) (λu hu=>by rw [List.mem_singleton.1 hu]; rfl)) (AD (GF h3) (AD (QM h4) (λu hu=>by rw [List.mem_singleton.1 hu]; exact h5.cells.2))))
structure MTr where
 after:Nat
 ins:List MIn
 outs:List MOu
def I1 (t:MTr):Bool:=(decide (t.ins.length≤16) && t.ins.all FT) && (decide (t.outs.length≤16) && t.outs.all Gq)
def HO (t:MTr):Byt:=nb 8 t.after++(G0 D2 t.ins++G0 GT t.outs)
def D' (t:MTr):Nat:=8+((9+(t.ins.map Dp).sum)+(9+(t.outs.map D7).sum))
def IC:Ps MTr:=AH (BT 8) λa=>AH (Ch 16 Ej) λi=>AH (Ch 16 Gn) λo=>BF ⟨a,i,o⟩
def Cp (C:Rdr) (cs:List Value) (t:MTr):Prop:=∃ vi vo,cs=[.int .u64 (t.after:Int)]++([vi]++[vo])∧t.after<18446744073709551616∧LstR C 122 CY vi t.ins∧LstR C 58 Cg vo t.outs
theorem Ew:BN Cp:=λhl ⟨vi,vo,h0,h1,h2,h3⟩=>⟨vi,vo,h0,h1,LstR.le (rep:=CY) Ey hl h2,LstR.le (rep:=Cg) Ex hl h3⟩
theorem Vc {C:Rdr} {cs:List Value} {t:MTr} (h:Cp C cs t):∀ u∈cs,u.oneCell'=true:=by
 obtain ⟨vi,vo,rfl,h1,h2,h3⟩:=h
 exact AD (λu hu=>by rw [List.mem_singleton.1 hu]; rfl) (AD (λu hu=>by rw [List.mem_singleton.1 hu]; exact h2.cells.2) (λu hu=>by rw [List.mem_singleton.1 hu]; exact h3.cells.2))
structure MSg where
 key:Int
 sig:Byt
def Kp (s:MSg):Bool:=okO s.key
def HQ (s:MSg):Byt:=[CQ s.key]++s.sig
def I0:Ps MSg:=AH CH λk=>AH (An 64) λs=>BF ⟨k,s⟩
def DT (_:Rdr) (cs:List Value) (s:MSg):Prop:=cs=[.int .i64 s.key]++s.sig.map bv∧s.sig.length=64
theorem Gs:BN DT:=λ_ h=>h
structure MBl where
 header:MHe
 sigs:List MSg
 txs:List MTr
def D8 (b:MBl):Bool:=GH b.header && ((decide (b.sigs.length≤16) && b.sigs.all Kp) && (decide (b.txs.length≤64) && b.txs.all I1))
def D3 (b:MBl):Byt:=Fg b.header++(G0 HQ b.sigs++G0 HO b.txs)
def Fi (b:MBl):Nat:=Dq b.header+((9+(b.sigs.map λ_=>65).sum)+(9+(b.txs.map D').sum))
def Jr:Ps MBl:=AH Jq λh=>AH (Ch 16 I0) λs=>AH (Ch 64 IC) λt=>BF ⟨h,s,t⟩
def C3 (C:Rdr) (cs:List Value) (b:MBl):Prop:=∃ ch vs vt,cs=ch++([vs]++[vt])∧Ds C ch b.header∧LstR C 65 DT vs b.sigs∧LstR C 3 Cp vt b.txs
theorem Gt:BN C3:=λhl ⟨ch,vs,vt,h0,h1,h2,h3⟩=>⟨ch,vs,vt,h0,MF hl h1,LstR.le (rep:=DT) Gs hl h2,LstR.le (rep:=Cp) Ew hl h3⟩
theorem Qp {C:Rdr} {cs:List Value} {t:MHe} (h:Ds C cs t):cs.length=102:=by
 obtain ⟨vr,vk,rfl,h1,h2,h3,_⟩:=h
 simp only [cHE,List.length_append,List.length_map,h1,h2,h3]; rfl
theorem Tg {C:Rdr} {cs:List Value} {t:MBl} (h:C3 C cs t):cs.length=104:=by
 obtain ⟨ch,vs,vt,rfl,h1,_⟩:=h
 rw [List.length_append,Qp h1]; rfl
theorem ND {C:Rdr} {cs:List Value} {t:MBl} (h:C3 C cs t):∀ u∈cs,u.oneCell'=true:=by
 obtain ⟨ch,vs,vt,rfl,h1,h2,h3⟩:=h
 exact AD (QN h1) (AD (λu hu=>by rw [List.mem_singleton.1 hu]; exact h2.cells.2) (λu hu=>by rw [List.mem_singleton.1 hu]; exact h3.cells.2))
theorem NG {z:Int} (h:¬ (z=1∨z=2)):GG z=false:=by
 cases hb:GG z with
 | false=>rfl
 | true =>
  unfold GG at hb
  rw [Bool.and_eq_true,decide_eq_true_eq,decide_eq_true_eq] at hb
  exact (h om).elim
theorem O5:PutC 87 32 Bj (λ_=>true) (λx=>x) (λ_=>32):=λw0 gc gw gx f bad s R b cs x hx _ hc hb hl w hw=>by
 obtain ⟨rfl,h1⟩:=hx
 exact Cx w0 gc gw gx f bad s R b x h1 hc hb om w hw
noncomputable def NW:TypeInfo:=(Tryz.prog.info? 37).getD default
theorem E4:Tryz.prog.info? 37=some NW:=kZ
noncomputable def K_dgs:LK:=⟨37,146,303,195,304,351,353,385,384,415,169,207,208,209,210,238,266,87,32,32,Z32,NW⟩
theorem QT:K_dgs.Ok:={
 c_f0:=⟨_,_,Tryz.func169⟩,
 c_fL:=⟨_,_,Tryz.func207⟩,
 c_f1:=⟨_,_,Tryz.func208⟩,
 c_fP:=⟨_,_,Tryz.func209⟩,
 c_f2:=⟨_,_,Tryz.func210⟩,
 c_fI:=⟨_,_,Tryz.func238⟩,
 c_fJ:=⟨_,_,Tryz.func266⟩,
 ute:=⟨_,Dd,rfl⟩,
 uts:=Dg,
 ufw:=⟨_,U4,rfl⟩,
 ufr:=⟨_,U1,rfl⟩,
 inf:=E4,
 zero:=⟨_,rfl,by kernel_rfl⟩,
 size:=rfl,
 byt:=rfl,
 zl:=kZ,
 pos:=(by decide:0<32),
 top:=(by decide:32≤16777216),
 btop:=(by decide:32≤100000000),
 its:=kZ,
 ifw:=kZ,
 ifr:=kZ,
 zts:=⟨(Tryz.prog.info? 146).getD default,by kernel_rfl,by kernel_rfl⟩,
 e_fe:=enters_of Tryz.func87 kR J,
 e_f2:=enters_of Tryz.func210 kR J,
 e_fP:=enters_of Tryz.func209 kR J,
 e_f1:=enters_of Tryz.func208 kR J,
 e_fL:=enters_of Tryz.func207 kR J,
 e_fI:=enters_of Tryz.func238 kR J,
 e_fJ:=enters_of Tryz.func266 kR J }
theorem MM {α:Type} {rep:Rdr→List Value→α→Prop} {ok:α→Bool} {enc:α→Byt} {wt:α→Nat} (hm:BN rep) (hp:PutC 87 32 rep ok enc wt) (w0:Base) (gc gw gx f most:Nat) (hmo:most<1000000) (bad:Bool) (s:Slc) (R:AA) (b:Byt) (v:Value) (l:List α) (hv:LstR (rdC w0 R) 32 rep v l) (hc:rdC w0 R gx f v) (hb:BS s b) (hlen:b.length+(9+(l.map wt).sum)≤70368744170000) (w:World) (hw:St w0 w (CWS gc gw bad s R)) :
  Calls Tryz.prog 169 #[ptr gc,pT gx f,.int .i64 (most:Int),.func (.func 87) #[] #[]] w (AQ w0 (WrC gc gw R (decide (l.length≤most) && l.all ok) (Ap l.length++l.flatMap enc) (9+(l.map wt).sum) bad b)):=EZ (rep:=rep) (ok:=ok) (enc:=enc) (wt:=wt) QT hm hp.own w0 gc gw gx f most hmo bad s R b v l hv hc hb hlen w hw
theorem MS {α:Type} {rep:Rdr→List Value→α→Prop} {p:Ps α} (hm:BN rep) (hp:B7 87 32 (Z32) rep p) (w0:Base) (gc gr gx f most:Nat) (hmost:most<1000000) (tx:TypeId) (A Z:List Value) (sl:Value) (s:RS) (R S:AA) (hS:∀ b∈S,b∈R) (hA:A.length=f) (he:s.e≤200) (hl:s.rest.length≤70368744177664) (hv:BytR (rdC w0 S) sl s.rest) (w:World) (hw:St w0 w (CRS gc gr gx tx (A++([Value.slice none 0 0]++Z)) sl s.e R)) :
  Calls Tryz.prog 169 #[ptr gc,pT gx f,.int .i64 (most:Int),.func (.func 87) #[] #[]] w (AQ w0 (RdT 1 (Iz 32 rep) (Ch most p) w0 gc gr gx tx A Z s R S)):=Ea (rep:=rep) (p:=p) QT hm hp w0 gc gr gx f most hmost tx A Z sl s R S hS hA he hl hv w hw
def Kd (_:Rdr) (cs:List Value) (x:Byt×Nat):Prop:=cs=x.1.map bv++[.int .u32 (x.2:Int)]∧x.1.length=32∧x.2<4294967296
def Nd (x:Byt×Nat):Byt:=x.1++nb 4 x.2
def R4:Ps (Byt×Nat):=AH (An 32) λp=>AH (BT 4) λn=>BF (p,n)
theorem Ls:PutC 105 33 Kd (λ_=>true) Nd (λ_=>36):=λw0 gc gw gx f bad s R b cs x hx _ hc hb hl w hw=>by
 obtain ⟨rfl,h1,h2⟩:=hx
 have e1:(x.1.map bv).length=32:=by rw [List.length_map,h1]
 have c0:XAt (rdC w0 R) gx f (x.1.map bv++[.int .u32 (x.2:Int)]):=hc
 have c1:XAt (rdC w0 R) gx (f+32) [.int .u32 (x.2:Int)]:=c0.right e1
 dsimp only at hl
 refine Sy.enterT (args:=[ptr gc,pT gx f]) hw Tryz.func105 J kL<|sC<|sp J<|sp J<|sp J<|sP (pT gx f)<|Sy.callT (λw hw=>Cx w0.inn gc gw gx f bad s R b x.1 h1 c0.left hb om w hw) (λu M hM=>?_)
 obtain ⟨s1,bad1,b1,q1,p1,rfl⟩:=hM
 have l1:b1.length≤b.length+32:=q1.len
 refine Sy.nil<|Sy.then_<|Sy.region<|sp J<|sp J<|sp J<|sP (pT gx (f+32))<|Sy.callT (λw hw=>Ld w0.inn gc gw gx (f+32) bad1 s1 R b1 x.2 h2 c1.one p1 om w hw) (λu M hM=>?_)
 obtain ⟨s2,bad2,b2,q2,p2,rfl⟩:=hM
 have l2:b2.length≤b1.length+4:=q2.len
 refine Sy.nil ?_
 have q:=q1.then_ q2
 simp only [Bool.true_and] at q
 exact Sy.retT0 J (CWS gc gw bad2 s2 R) (λ_ h=>h) (λ_=>⟨s2,bad2,b2,q,p2,rfl⟩)
theorem Lt:B7 105 33 (Z32++([Value.int .u32 0])) Kd R4:=λw0 gc gr gx f tx A Z sl s R S hS hA he hl hv w hw=>by
 refine Sy.enterT (args:=[ptr gc,pT gx f]) hw Tryz.func105 J kL<|sC<|sp J<|sp J<|sp J<|sP (pT gx f)<|Sy.callT (λw hw=>Cy w0.inn gc gr gx f tx A ([Value.int .u32 0]++Z) sl s R S hS hA he hl hv w (by simpa only [List.append_assoc] using hw)) (λu M hM=>?_)
 obtain ⟨x1,s1,sl1,cs1,N1,a1,n1,o1,⟨rfl,r1⟩,e1,h1,y1,rfl⟩:=hM
 have g1:s1.rest.length≤s.rest.length:=h1
 have A1:(A++(x1.map bv)).length=f+32:=by rw [List.length_append,hA,n1]
 refine Sy.nil<|Sy.then_<|Sy.region<|sp J<|sp J<|sp J<|sP (pT gx (f+32))<|Sy.callT (λw hw=>Lf w0.inn gc gr gx (f+32) tx (A++(x1.map bv)) Z sl1 s1 (R++N1) S (λb h=>List.mem_append_left _ (hS b h)) A1 e1 (Nat.le_trans g1 hl) y1 w (by have e:A++(x1.map bv)++([Value.int .u32 0]++(Z))=A++(x1.map bv++([Value.int .u32 0]++(Z))):=List.append_assoc ..; rw [e]; exact hw)) (λu M hM=>?_)
 obtain ⟨x2,s2,sl2,cs2,N2,a2,n2,o2,⟨rfl,r2⟩,e2,h2,y2,rfl⟩:=hM
 have g2:s2.rest.length≤s.rest.length:=Nat.le_trans h2 g1
 have A2:(A++(x1.map bv)++[Value.int .u32 (x2:Int)]).length=f+33:=by rw [List.length_append,A1,n2]
 refine Sy.nil ?_
 have hAf:After R4 s (x1,x2) s2:=a1.bind (a2.bind (After.ret _ _))
 have hLn:(x1.map bv++([Value.int .u32 (x2:Int)])).length=33:=by simp only [List.length_append,n1]; rfl
 have hOn:∀ u∈(x1.map bv++([Value.int .u32 (x2:Int)])),u.oneCell'=true:=AD o1 (o2)
 have hRp:Kd (rdB (N1++(N2))) (x1.map bv++([Value.int .u32 (x2:Int)])) (x1,x2):=⟨rfl,r1,r2⟩
 exact Sy.retT0 J (CRS gc gr gx tx (A++((x1.map bv++([Value.int .u32 (x2:Int)]))++Z)) sl2 s2.e (R++(N1++(N2)))) (λ_ h=>by simpa only [List.append_assoc,List.cons_append,List.nil_append] using h) (λ_=>⟨_,s2,sl2,_,_,hAf,hLn,hOn,hRp,e2,g2,y2,rfl⟩)
theorem VR:PutC 108 37 ED IP GS Ek:=λw0 gc gw gx f bad s R b cs x hx _ hc hb hl w hw=>by
 obtain ⟨hd,tx,pl,mn,pa,sc⟩:=x
 obtain ⟨vt,vp,vs,rfl,h1,h2,h3,h4,h5,h6⟩:=hx
 dsimp only at h1 h2 h3 h4 h5 h6
 unfold Ek at hl
 dsimp only at hl
 have e1:(hd.map bv).length=32:=by rw [List.length_map,h1]
 have c0:XAt (rdC w0 R) gx f (hd.map bv++([vt]++([.int .u32 (pl:Int)]++([.int .u32 (mn:Int)]++([vp]++[vs]))))):=hc
 have c1:XAt (rdC w0 R) gx (f+32) ([vt]++([.int .u32 (pl:Int)]++([.int .u32 (mn:Int)]++([vp]++[vs])))):=c0.right e1
 have c2:XAt (rdC w0 R) gx (f+33) ([.int .u32 (pl:Int)]++([.int .u32 (mn:Int)]++([vp]++[vs]))):=c1.right (n:=1) rfl
 have c3:XAt (rdC w0 R) gx (f+34) ([.int .u32 (mn:Int)]++([vp]++[vs])):=c2.right (n:=1) rfl
 have c4:XAt (rdC w0 R) gx (f+35) ([vp]++[vs]):=c3.right (n:=1) rfl
 have c5:XAt (rdC w0 R) gx (f+36) [vs]:=c4.right (n:=1) rfl
 refine Sy.enterT (args:=[ptr gc,pT gx f]) hw Tryz.func108 J kL<|sC<|sp J<|sp J<|sp J<|sP (pT gx f)<|Sy.callT (λw hw=>Cx w0.inn gc gw gx f bad s R b hd h1 c0.left hb om w hw) (λu M hM=>?_)
 obtain ⟨s1,bad1,b1,q1,p1,rfl⟩:=hM
 have l1:b1.length≤b.length+32:=q1.len
 refine sA<|sp J<|sp J<|sp J<|sP (pT gx (f+32))<|Sy.callT (λw hw=>EQ w0.inn gc gw gx (f+32) bad1 s1 R b1 tx vt 1024 dZ h2 c1.one p1 om w hw) (λu M hM=>?_)
 obtain ⟨s2,bad2,b2,q2,p2,rfl⟩:=hM
 have l2:b2.length≤b1.length+(9+tx.length):=q2.len
 refine sA<|sp J<|sp J<|sp J<|sP (pT gx (f+33))<|Sy.callT (λw hw=>Ld w0.inn gc gw gx (f+33) bad2 s2 R b2 pl h3 c2.one p2 om w hw) (λu M hM=>?_)
 obtain ⟨s3,bad3,b3,q3,p3,rfl⟩:=hM
 have l3:b3.length≤b2.length+4:=q3.len
 refine sA<|sp J<|sp J<|sp J<|sP (pT gx (f+34))<|Sy.callT (λw hw=>Ld w0.inn gc gw gx (f+34) bad3 s3 R b3 mn h4 c3.one p3 om w hw) (λu M hM=>?_)
 obtain ⟨s4,bad4,b4,q4,p4,rfl⟩:=hM
 have l4:b4.length≤b3.length+4:=q4.len
 refine sA<|sp J<|sp J<|sp J<|sP (pT gx (f+35))<|Sy.callT (λw hw=>MM (rep:=Bj) Co O5 w0.inn gc gw gx (f+35) 32 dZ bad4 s4 R b4 vp pa h5 c4.one p4 om w hw) (λu M hM=>?_)
 obtain ⟨s5,bad5,b5,q5,p5,rfl⟩:=hM
 have l5:b5.length≤b4.length+(9+(pa.map λ_=>32).sum):=q5.len
 refine Sy.nil<|Sy.then_<|Sy.region<|sp J<|sp J<|sp J<|sP (pT gx (f+36))<|Sy.callT (λw hw=>EQ w0.inn gc gw gx (f+36) bad5 s5 R b5 sc vs 256 dZ h6 c5.one p5 om w hw) (λu M hM=>?_)
 obtain ⟨s6,bad6,b6,q6,p6,rfl⟩:=hM
 have l6:b6.length≤b5.length+(9+sc.length):=q6.len
 refine Sy.nil ?_
 have q:=q1.then_ (q2.then_ (q3.then_ (q4.then_ (q5.then_ q6))))
 simp only [Bool.true_and,DP,Bool.and_true] at q
 exact Sy.retT0 J (CWS gc gw bad6 s6 R) (λ_ h=>h) (λ_=>⟨s6,bad6,b6,q,p6,rfl⟩)
theorem VS:B7 108 37 (Z32++([Value.slice none 0 0]++([Value.int .u32 0]++([Value.int .u32 0]++([Value.slice none 0 0]++([Value.slice none 0 0])))))) ED Jp:=λw0 gc gr gx f tx A Z sl s R S hS hA he hl hv w hw=>by
 refine Sy.enterT (args:=[ptr gc,pT gx f]) hw Tryz.func108 J kL<|sC<|sp J<|sp J<|sp J<|sP (pT gx f)<|Sy.callT (λw hw=>Cy w0.inn gc gr gx f tx A ([Value.slice none 0 0]++([Value.int .u32 0]++([Value.int .u32 0]++([Value.slice none 0 0]++([Value.slice none 0 0]++Z))))) sl s R S hS hA he hl hv w (by simpa only [List.append_assoc] using hw)) (λu M hM=>?_)
 obtain ⟨x1,s1,sl1,cs1,N1,a1,n1,o1,⟨rfl,r1⟩,e1,h1,y1,rfl⟩:=hM
 have g1:s1.rest.length≤s.rest.length:=h1
 have A1:(A++(x1.map bv)).length=f+32:=by rw [List.length_append,hA,n1]
 refine sA<|sp J<|sp J<|sp J<|sP (pT gx (f+32))<|Sy.callT (λw hw=>ER 1024 dZ w0.inn gc gr gx (f+32) tx (A++(x1.map bv)) ([Value.int .u32 0]++([Value.int .u32 0]++([Value.slice none 0 0]++([Value.slice none 0 0]++Z)))) sl1 s1 (R++N1) S (λb h=>List.mem_append_left _ (hS b h)) A1 e1 (Nat.le_trans g1 hl) y1 w (by have e:A++(x1.map bv)++([Value.slice none 0 0]++([Value.int .u32 0]++([Value.int .u32 0]++([Value.slice none 0 0]++([Value.slice none 0 0]++Z)))))=A++(x1.map bv++([Value.slice none 0 0]++([Value.int .u32 0]++([Value.int .u32 0]++([Value.slice none 0 0]++([Value.slice none 0 0]++Z)))))):=List.append_assoc ..; rw [e]; exact hw)) (λu M hM=>?_)
 obtain ⟨x2,s2,sl2,cs2,N2,a2,n2,o2,⟨v2,rfl,r2⟩,e2,h2,y2,rfl⟩:=hM
 have g2:s2.rest.length≤s.rest.length:=Nat.le_trans h2 g1
 have A2:(A++(x1.map bv)++[v2]).length=f+33:=by rw [List.length_append,A1,n2]
 refine sA<|sp J<|sp J<|sp J<|sP (pT gx (f+33))<|Sy.callT (λw hw=>Lf w0.inn gc gr gx (f+33) tx (A++(x1.map bv)++[v2]) ([Value.int .u32 0]++([Value.slice none 0 0]++([Value.slice none 0 0]++Z))) sl2 s2 (R++N1++N2) S (λb h=>List.mem_append_left _ (List.mem_append_left _ (hS b h))) A2 e2 (Nat.le_trans g2 hl) y2 w (by have e:A++(x1.map bv)++[v2]++([Value.int .u32 0]++([Value.int .u32 0]++([Value.slice none 0 0]++([Value.slice none 0 0]++Z))))=A++(x1.map bv)++([v2]++([Value.int .u32 0]++([Value.int .u32 0]++([Value.slice none 0 0]++([Value.slice none 0 0]++Z))))):=List.append_assoc ..; rw [e]; exact hw)) (λu M hM=>?_)
 obtain ⟨x3,s3,sl3,cs3,N3,a3,n3,o3,⟨rfl,r3⟩,e3,h3,y3,rfl⟩:=hM
 have g3:s3.rest.length≤s.rest.length:=Nat.le_trans h3 g2
 have A3:(A++(x1.map bv)++[v2]++[Value.int .u32 (x3:Int)]).length=f+34:=by rw [List.length_append,A2,n3]
 refine sA<|sp J<|sp J<|sp J<|sP (pT gx (f+34))<|Sy.callT (λw hw=>Lf w0.inn gc gr gx (f+34) tx (A++(x1.map bv)++[v2]++[Value.int .u32 (x3:Int)]) ([Value.slice none 0 0]++([Value.slice none 0 0]++Z)) sl3 s3 (R++N1++N2++N3) S (λb h=>List.mem_append_left _ (List.mem_append_left _ (List.mem_append_left _ (hS b h)))) A3 e3 (Nat.le_trans g3 hl) y3 w (by have e:A++(x1.map bv)++[v2]++[Value.int .u32 (x3:Int)]++([Value.int .u32 0]++([Value.slice none 0 0]++([Value.slice none 0 0]++Z)))=A++(x1.map bv)++[v2]++([Value.int .u32 (x3:Int)]++([Value.int .u32 0]++([Value.slice none 0 0]++([Value.slice none 0 0]++Z)))):=List.append_assoc ..; rw [e]; exact hw)) (λu M hM=>?_)
 obtain ⟨x4,s4,sl4,cs4,N4,a4,n4,o4,⟨rfl,r4⟩,e4,h4,y4,rfl⟩:=hM
 have g4:s4.rest.length≤s.rest.length:=Nat.le_trans h4 g3
 have A4:(A++(x1.map bv)++[v2]++[Value.int .u32 (x3:Int)]++[Value.int .u32 (x4:Int)]).length=f+35:=by rw [List.length_append,A3,n4]
 refine sA<|sp J<|sp J<|sp J<|sP (pT gx (f+35))<|Sy.callT (λw hw=>MS (rep:=Bj) (p:=An 32) Co Cy w0.inn gc gr gx (f+35) 32 dZ tx (A++(x1.map bv)++[v2]++[Value.int .u32 (x3:Int)]++[Value.int .u32 (x4:Int)]) ([Value.slice none 0 0]++Z) sl4 s4 (R++N1++N2++N3++N4) S (λb h=>List.mem_append_left _ (List.mem_append_left _ (List.mem_append_left _ (List.mem_append_left _ (hS b h))))) A4 e4 (Nat.le_trans g4 hl) y4 w (by have e:A++(x1.map bv)++[v2]++[Value.int .u32 (x3:Int)]++[Value.int .u32 (x4:Int)]++([Value.slice none 0 0]++([Value.slice none 0 0]++Z))=A++(x1.map bv)++[v2]++[Value.int .u32 (x3:Int)]++([Value.int .u32 (x4:Int)]++([Value.slice none 0 0]++([Value.slice none 0 0]++Z))):=List.append_assoc ..; rw [e]; exact hw)) (λu M hM=>?_)
 obtain ⟨x5,s5,sl5,cs5,N5,a5,n5,o5,⟨v5,rfl,r5⟩,e5,h5,y5,rfl⟩:=hM
 have g5:s5.rest.length≤s.rest.length:=Nat.le_trans h5 g4
 have A5:(A++(x1.map bv)++[v2]++[Value.int .u32 (x3:Int)]++[Value.int .u32 (x4:Int)]++[v5]).length=f+36:=by rw [List.length_append,A4,n5]
 refine Sy.nil<|Sy.then_<|Sy.region<|sp J<|sp J<|sp J<|sP (pT gx (f+36))<|Sy.callT (λw hw=>ER 256 dZ w0.inn gc gr gx (f+36) tx (A++(x1.map bv)++[v2]++[Value.int .u32 (x3:Int)]++[Value.int .u32 (x4:Int)]++[v5]) Z sl5 s5 (R++N1++N2++N3++N4++N5) S (λb h=>List.mem_append_left _ (List.mem_append_left _ (List.mem_append_left _ (List.mem_append_left _ (List.mem_append_left _ (hS b h)))))) A5 e5 (Nat.le_trans g5 hl) y5 w (by have e:A++(x1.map bv)++[v2]++[Value.int .u32 (x3:Int)]++[Value.int .u32 (x4:Int)]++[v5]++([Value.slice none 0 0]++(Z))=A++(x1.map bv)++[v2]++[Value.int .u32 (x3:Int)]++[Value.int .u32 (x4:Int)]++([v5]++([Value.slice none 0 0]++(Z))):=List.append_assoc ..; rw [e]; exact hw)) (λu M hM=>?_)
 obtain ⟨x6,s6,sl6,cs6,N6,a6,n6,o6,⟨v6,rfl,r6⟩,e6,h6,y6,rfl⟩:=hM
 have g6:s6.rest.length≤s.rest.length:=Nat.le_trans h6 g5
 have A6:(A++(x1.map bv)++[v2]++[Value.int .u32 (x3:Int)]++[Value.int .u32 (x4:Int)]++[v5]++[v6]).length=f+37:=by rw [List.length_append,A5,n6]
 refine Sy.nil ?_
 have hAf:After Jp s ⟨x1,x2,x3,x4,x5,x6⟩ s6:=a1.bind (a2.bind (a3.bind (a4.bind (a5.bind (a6.bind (After.ret _ _))))))
 have hLn:(x1.map bv++([v2]++([Value.int .u32 (x3:Int)]++([Value.int .u32 (x4:Int)]++([v5]++([v6])))))).length=37:=by simp only [List.length_append,n1]; rfl
 have hOn:∀ u∈(x1.map bv++([v2]++([Value.int .u32 (x3:Int)]++([Value.int .u32 (x4:Int)]++([v5]++([v6])))))),u.oneCell'=true:=AD o1 (AD o2 (AD o3 (AD o4 (AD o5 (o6)))))
 have hRp:ED (rdB (N1++(N2++(N3++(N4++(N5++(N6))))))) (x1.map bv++([v2]++([Value.int .u32 (x3:Int)]++([Value.int .u32 (x4:Int)]++([v5]++([v6])))))) ⟨x1,x2,x3,x4,x5,x6⟩:=⟨v2,v5,v6,rfl,r1,r2.le (AV λb h=>by simp [h]),r3,r4,LstR.le (rep:=Bj) Co (AV λb h=>by simp [h]) r5,r6.le (AV λb h=>by simp [h])⟩
 exact Sy.retT0 J (CRS gc gr gx tx (A++((x1.map bv++([v2]++([Value.int .u32 (x3:Int)]++([Value.int .u32 (x4:Int)]++([v5]++([v6]))))))++Z)) sl6 s6.e (R++(N1++(N2++(N3++(N4++(N5++(N6)))))))) (λ_ h=>by simpa only [List.append_assoc,List.cons_append,List.nil_append] using h) (λ_=>⟨_,s6,sl6,_,_,hAf,hLn,hOn,hRp,e6,g6,y6,rfl⟩)
abbrev hd1 (cs:List Value):Value:=cs.headD (.slice none 0 0)
def WY {α:Type} (k:Nat) (rep:Rdr→List Value→α→Prop) (p:Ps α) (w0:Base) (gc gr:Nat) (s:RS) (R S:AA) (v:Value) (M:AA):Prop :=
 ∃ x s' sl' cs N,After p s x s'∧cs.length=k∧(∀ u∈cs,u.oneCell'=true)∧rep (rdB N) cs x∧v=hd1 cs∧s'.e≤200∧s'.rest.length≤s.rest.length∧BytR (rdC w0 S) sl' s'.rest∧M=CRN gc gr sl' s'.e (R++N)
theorem IOz {C:Rdr} {cs:List Value} {x:Byt} (h:DX C cs x):∃ A n cp,cs=[Value.slice A n cp]:=by
 obtain ⟨v,rfl,A,n,cp,rfl,_⟩:=h
 exact ⟨A,n,cp,rfl⟩
theorem Ge:PutC 110 1 DX IQ D_ wtT:=λw0 gc gw gx f bad s R b cs x hx _ hc hb hl w hw=>by
 obtain ⟨v,rfl,h1⟩:=hx
 refine Sy.enterT (args:=[ptr gc,pT gx f]) hw Tryz.func110 J kL<|Sy.region<|sp J<|sp J<|Sy.callT (λw hw=>EQ w0.inn gc gw gx f bad s R b x v 256 dZ h1 hc.one hb (by unfold wtT at hl; omega) w hw) (λu M hM=>?_)
 obtain ⟨s1,bad1,b1,k1,k2,rfl⟩:=hM
 refine Sy.nil ?_
 exact Sy.retT0 J (CWS gc gw bad1 s1 R) (λ_ h=>h) (λ_=>⟨s1,bad1,b1,k1,k2,rfl⟩)
theorem Gf:B7 110 1 [Value.slice none 0 0] DX (Bq 256):=λw0 gc gr gx f tx A Z sl s R S hS hA he hl hv w hw=>by
 refine Sy.enterT (args:=[ptr gc,pT gx f]) hw Tryz.func110 J kL<|Sy.region<|sp J<|sp J<|Sy.callT (λw hw=>ER 256 dZ w0.inn gc gr gx f tx A Z sl s R S hS hA he hl hv w hw) (λu M hM=>?_)
 refine Sy.nil ?_
 exact Sy.retT0 J _ (λ_ h=>h) (λ_=>hM)
section
variable {α:Type} {rep:Rdr→List Value→α→Prop} {ok:α→Bool} {enc:α→Byt} {wt:α→Nat}
theorem RH (h1:∀ {C cs x},rep C cs x→∃ A n cp,cs=[Value.slice A n cp]) (hm:BN rep) (hp:PutC 110 1 rep ok enc wt) (w0:Base) (gc gw g4 g7:Nat) (bad:Bool) (s:Slc) (R:AA) (b:Byt) (u:Value) (cs:List Value) (x:α) (h4:(g4,85,#[ptr gc])∈R) (h7:(g7,238,#[.func (.func 110) #[] #[]])∈R) (hx:rep (rdC w0 R) cs x) (hl:cs.length=1) (hb:BS s b) (hlen:b.length+wt x≤70368744170000) (w:World) (hw:St w0 w (CWS gc gw bad s R)) :
  AL 173 #[u,hd1 cs,ptr g7,ptr g4] w (AQ w0 (WrC gc gw R (ok x) (enc x) (wt x) bad b)):=by
 obtain ⟨A,n,cp,rfl⟩:=h1 hx
 refine Sy.enterT (args:=[u,.slice A n cp,ptr g7,ptr g4]) hw Tryz.func173 J kL<|sC<|sM 27 [Value.slice A n cp].toArray (λg5=>?_)
 refine Sy.permS (List.Perm.of_eq eqCW)<|Sy.nil<|Sy.then_<|Sy.region<|sS (.func (.func 110) #[] #[]) (AK (R:=R++[(g5,27,[Value.slice A n cp].toArray)]) (CM (inA h7)) Ba J TT)<|sS (ptr gc) (AK (R:=R++[(g5,27,[Value.slice A n cp].toArray)]) (CM (inA h4)) Ba J FN)<|Sy.callT (λw hw=>hp w0.inn gc gw g5 0 bad s (R++[(g5,27,[Value.slice A n cp].toArray)]) b [Value.slice A n cp] x (hm (EV (λ_ h=>inA h)) hx) hl (J7 Eh) hb hlen w hw) (λv M hM=>?_)
 obtain ⟨s1,bad1,b1,h1,h2,rfl⟩:=hM
 refine Sy.nil ?_
 exact Sy.retT0 J (CWS gc gw bad1 s1 R) (λ_ h=>GU h) (λ_=>⟨s1,bad1,b1,h1,h2,rfl⟩)
end
section
variable {α:Type} {rep:Rdr→List Value→α→Prop} {ok:α→Bool} {enc:α→Byt} {wt:α→Nat}
theorem OY (h1:∀ {C cs x},rep C cs x→∃ A n cp,cs=[Value.slice A n cp]) (hm:BN rep) (hp:PutC 110 1 rep ok enc wt) (w0:Base) (gc gw g4 g7:Nat) (bad:Bool) (s:Slc) (R:AA) (b:Byt) (v:Value) (l:List α) (h4:(g4,85,#[ptr gc])∈R) (h7:(g7,238,#[.func (.func 110) #[] #[]])∈R) (hv:LstR (rdC w0 R) 1 rep v l) (hb:BS s b) (hlen:b.length+(9+(l.map wt).sum)≤70368744170000) (w:World) (hw:St w0 w (CWS gc gw bad s R)) :
  AL 172 #[ptr gw,v,.func (.func 173) #[] #[ptr g7,ptr g4]] w (AQ w0 (WrC gc gw R (l.all ok) (Ap l.length++l.flatMap enc) (9+(l.map wt).sum) bad b)):=by
 obtain ⟨A,n,cp,rfl,h2,h3,h4',h5⟩:=hv
 have hmx:n<9223372036854775808:=by simp only [maxLen] at h4'; omega
 refine Sy.enterT (args:=[ptr gw,.slice A n cp,.func (.func 173) #[] #[ptr g7,ptr g4]]) hw Tryz.func172 J kL<|sC<|sp J<|sp J<|sP (.int .i64 (n:Int))<|sS (uZ (n:Int)) (Quiet.pure (λw=>DG w _ _ _ n om J J))<|Sy.callT (λw hw=>JW w0.inn gw s ((gc,134,#[ptr gw,.pointer none,.bool bad])::R) b n om hb om w (hw.perm permCW)) (λu M hM=>?_)
 obtain ⟨s1,hs1,rfl⟩:=hM
 have hn9:=Dc n
 refine Sy.permS permCW.symm<|Sy.nil<|sB<|sp J<|sP (.int .i64 (n:Int))<|sP (.int .i64 0)<|sG<|Sy.block ?_
 have hw0:Wrote true (Ap n) 9 bad b bad (b++Ap n):=Wrote.raw _ _ _ hn9
 have hsum:∀ i,((l.take i).map wt).sum≤(l.map wt).sum:=λi=>by
  have e:=congrArg (λz=>(z.map wt).sum) (List.take_append_drop i l)
  simp only [List.map_append,List.sum_append] at e
  omega
 refine Sy.loopT (Y:=Slc×Bool×Byt) n (λi y=>[(0,ptr gw),(2,.func (.func 173) #[] #[ptr g7,ptr g4]),(13,.slice A n cp),(14,.int .i64 (n:Int)),(15,.int .i64 (i:Int))]) (λi y=>CWS gc gw y.2.1 y.1 R) (λi y=>Wrote ((l.take i).all ok) (Ap n++(l.take i).flatMap enc) (9+((l.take i).map wt).sum) bad b y.2.1 y.2.2∧BS y.1 y.2.2) (s1,bad,b++Ap n) ⟨by
  have e:Wrote ((l.take 0).all ok) (Ap n++(l.take 0).flatMap enc) (9+((l.take 0).map wt).sum) bad b bad (b++Ap n):=by
   rw [List.take_zero]
   simpa using hw0
  exact e,hs1⟩ ac5 (λ_ h=>h) (λi y hi hy=>?_)
 obtain ⟨sy,bady,by_⟩:=y
 obtain ⟨hy,hsy⟩:=hy
 dsimp only at hy hsy ⊢
 refine sC ?_
 obtain ⟨b2,hb2⟩:=xE (decide (i<n))
 refine sS (.bool b2) (qls J J J hb2)<|sG<|Sy.seq ?_
 cases b2
 case' false =>
  have l2:=dN hb2
  obtain rfl:i=n:=om
  rw [List.take_of_length_le om] at hy
  refine sU<|Sy.exit<|Sy.then_exit<|Sy.then_exit<|Sy.in_exit ?_
  rw [h2]
  exact Sy.retT0 J (CWS gc gw bady sy R) (λ_ h=>h) (λ_=>⟨sy,bady,by_,hy,hsy,rfl⟩)
 have l2:=dY hb2
 obtain ⟨x,hx⟩:∃ x,l[i]? = some x:=⟨_,List.getElem?_eq_getElem om⟩
 obtain ⟨g,o,rfl,hq⟩:=h5 (by intro e; rw [e] at hx; cases hx)
 obtain ⟨cs,_,c2,c3,c4⟩:=hq i x hx
 obtain ⟨A1,n1,c1,rfl⟩:=h1 c3
 have htk:l.take (i+1)=l.take i++[x]:=by rw [List.take_add_one,hx]; rfl
 have hsi:=hsum (i+1)
 rw [htk] at hsi
 simp only [List.map_append,List.sum_append,List.map_cons,List.map_nil,List.sum_cons,List.sum_nil] at hsi
 refine sT<|Sy.skip<|Sy.then_<|Sy.seq<|Sy.block<|sC<|sS (.pointer (some ⟨g,o+i*1,none⟩)) (Quiet.pure (BJ 149 _ _ _ (some ⟨g,o,none⟩) g o n cp i 1 .i64 J J J J Df kF l2))<|sS (.slice A1 n1 c1) (AK (R:=R) c4.one Ba J Aw)<|sp J<|Sy.nil<|Sy.then_<|Sy.region<|sp J<|sp J<|sp J<|Sy.callT (λw hw=>RH (rep:=rep) (ok:=ok) (enc:=enc) (wt:=wt) h1 hm hp w0.inn gc gw g4 g7 bady sy R by_ (ptr gw) _ x h4 h7 c3 J hsy (by have hyl:=hy.len; omega) w hw) (λv M hM=>?_)
 obtain ⟨s3,bad3,b3,q1,q2,rfl⟩:=hM
 refine Sy.nil<|Sy.in_<|Sy.then_<|Sy.region<|sS (iZ (i+1)) (qad J J J)<|sp J<|Sy.nil ?_
 have hW:=hy.then_ q1
 have hW':Wrote ((l.take (i+1)).all ok) (Ap n++(l.take (i+1)).flatMap enc) (9+((l.take (i+1)).map wt).sum) bad b bad3 b3:=by
  rw [htk]
  simp only [List.all_append,List.flatMap_append,List.map_append,List.sum_append,List.all_cons,List.all_nil,List.flatMap_cons,List.flatMap_nil,List.map_cons,List.map_nil,List.sum_cons,List.sum_nil,Bool.and_true,List.append_nil,Nat.add_zero, ← List.append_assoc, ← Nat.add_assoc]
  simpa only [List.append_assoc,Nat.add_assoc] using hW
 exact Sy.againT (s3,bad3,b3) l2 ⟨hW',q2⟩ ac5 (λw h=>h)
theorem Fq (h1:∀ {C cs x},rep C cs x→∃ A n cp,cs=[Value.slice A n cp]) (hm:BN rep) (hp:PutC 110 1 rep ok enc wt) (w0:Base) (gc gw gx f most:Nat) (hmo:most<1000000) (bad:Bool) (s:Slc) (R:AA) (b:Byt) (v:Value) (l:List α) (hv:LstR (rdC w0 R) 1 rep v l) (hc:rdC w0 R gx f v) (hb:BS s b) (hlen:b.length+(9+(l.map wt).sum)≤70368744170000) (w:World) (hw:St w0 w (CWS gc gw bad s R)) :
  AL 109 #[ptr gc,pT gx f,.int .i64 (most:Int),.func (.func 110) #[] #[]] w (AQ w0 (WrC gc gw R (decide (l.length≤most) && l.all ok) (Ap l.length++l.flatMap enc) (9+(l.map wt).sum) bad b)):=by
 have hv0:=hv
 obtain ⟨A,n,cp,rfl,h2,h3,h4',h5⟩:=hv
 refine Sy.enterT (args:=[ptr gc,pT gx f,.int .i64 (most:Int),.func (.func 110) #[] #[]]) hw Tryz.func109 J kL<|sC<|sM 85 #[ptr gc] (λg4=>?_)
 refine Sy.permS (List.Perm.of_eq eqCW)<|sM 238 #[.func (.func 110) #[] #[]] (λg7=>?_)
 refine Sy.permS (List.Perm.of_eq eqCW) ?_
 obtain ⟨R1,hR1⟩:=xE (R++[(g4,85,#[ptr gc])]++[(g7,238,#[.func (.func 110) #[] #[]])])
 rw [← hR1]
 have m4:(g4,85,#[ptr gc])∈R1:=by rw [hR1]; exact inA Eh
 have m7:(g7,238,#[.func (.func 110) #[] #[]])∈R1:=by rw [hR1]; exact Eh
 have mR:∀ x∈R,x∈R1:=λx hx=>by rw [hR1]; exact inA (inA hx)
 have hv1:LstR (rdC w0 R1) 1 rep (.slice A n cp) l:=LstR.le (rep:=rep) hm (EV mR) hv0
 have hc1:rdC w0 R1 gx f (.slice A n cp):=EV mR _ _ _ hc
 have back:∀ {w:World} {bad':Bool} {s':Slc},St w0 w (CWS gc gw bad' s' R1)→St w0 w (CWS gc gw bad' s' R):=λh=>by
  rw [hR1,List.append_assoc] at h
  exact GU h
 refine sG<|Sy.seq<|sC<|sS (ptr gc) (AK (R:=R1) (CM m4) Ba J FN)<|sS (.bool false) (qg (λw hw=>DD w0.inn gc _ _ (List.mem_cons_self ..) w hw))<|sG<|sU<|Sy.skip ?_
 obtain ⟨b1,hb1⟩:=xE (decide (n≤most))
 refine sR (λj=>j == 7) ?_
 refine sD 0 J (ptr gc) (AK (R:=R1) (CM m4) Ba J FN)<|sa 1 J J<|sa 2 J J<|se 3 [4,6,7] rfl (.slice A n cp) (AK (R:=R1) hc1 Ba J Df)<|sb 4 J (.int .i64 (n:Int))<|sa 5 J J<|sv 6 J (.bool b1) (AE .leq _ _ _ .i64 _ _ _ J J J (Eb _ _ _ _ _ (by rw [hb1]; exact decide_eq_decide.2 om)))<|Sy.soleD 7 J (λQ2 hq2=>?_)
 refine Sy.callT (λw hw=>B2 w0.inn gc gw bad b1 s R1 w hw) (λu M hM=>?_)
 subst hM
 refine hq2 _ _<|sE ?_
 obtain ⟨bad1,hbad1⟩:=xE ((bad || !b1))
 rw [← hbad1]
 refine sB<|sS (ptr gc) (AK (R:=R1) (CM m4) Ba J FN)<|sp J<|sP (pT gc 2)<|sS (.bool bad1) (qc 0 2 J J uy4)<|sP (.bool (!bad1))<|sG ?_
 cases bad1
 ·have hb1t:bad=false∧b1=true:=by cases bad <;> cases b1 <;> first | exact ⟨rfl,rfl⟩ | cases hbad1
  obtain ⟨rfl,rfl⟩:=hb1t
  have e1:decide (l.length≤most)=true:=by rw [h2, ← hb1]
  rw [e1,Bool.true_and]
  refine sT<|Sy.regionD (λj=>j == 8) kR<|se 0 [1,2,3,8] rfl (ptr gc) (AK (R:=R1) (CM m4) Ba J FN)<|sa 1 J J<|sb 2 J (pT gc 0)<|sD 3 J (ptr gw) (qc 0 0 J J Fa)<|sa 4 J J<|sa 5 J J<|sD 6 J (.slice A n cp) (AK (R:=R1) hc1 Ba J Df)<|sb 7 J (.func (.func 173) #[] #[ptr g7,ptr g4])<|Sy.soleD 8 J (λQ2 hq2=>?_)
  refine Sy.callT (λw hw=>OY (rep:=rep) h1 hm hp w0.inn gc gw g4 g7 false s R1 b (.slice A n cp) l m4 m7 hv1 hb hlen w hw) (λu M hM=>?_)
  obtain ⟨s1,bad2,b2,q1,q2,rfl⟩:=hM
  refine hq2 _ _<|sE ?_
  exact Sy.retT0 J (CWS gc gw bad2 s1 R) (λ_ h=>back h) (λ_=>⟨s1,bad2,b2,q1,q2,rfl⟩)
 ·refine sU<|Sy.skip ?_
  have e1:true=(bad || !(decide (l.length≤most) && l.all ok)):=by
   rw [h2, ← hb1]
   cases bad
   ·cases b1
    ·rfl
    ·cases hbad1
   ·rfl
  exact Sy.retT0 J (CWS gc gw true s R) (λ_ h=>back h) (λ_=>⟨s,true,b,⟨e1,λh=>(by cases h),by omega⟩,hb,rfl⟩)
end
section
variable {α:Type} {rep:Rdr→List Value→α→Prop} {p:Ps α}
theorem RI (h1:∀ {C cs x},rep C cs x→∃ A n cp,cs=[Value.slice A n cp]) (hm:BN rep) (hp:B7 110 1 ([Value.slice none 0 0]) rep p) (w0:Base) (gc gr g4 g7:Nat) (sl:Value) (s:RS) (R S:AA) (hS:∀ b∈S,b∈R) (h4:(g4,85,#[ptr gc])∈R) (h7:(g7,238,#[.func (.func 110) #[] #[]])∈R) (he:s.e≤200) (hl:s.rest.length≤70368744177664) (hv:BytR (rdC w0 S) sl s.rest) (u:Value) (w:World) (hw:St w0 w (CRN gc gr sl s.e R)) :
  AL 171 #[u,ptr g7,ptr g4] w (AQ w0 (WY 1 rep p w0 gc gr s R S)):=by
 refine Sy.enterT (args:=[u,ptr g7,ptr g4]) hw Tryz.func171 J kL<|sC<|sP (.slice none 0 0)<|sA<|sM 27 #[.slice none 0 0] (λgb=>?_)
 refine Sy.permS (M:=CRS gc gr gb 27 ([]++([Value.slice none 0 0]++[])) sl s.e R) (List.Perm.cons _ (List.perm_append_comm (l₁:=_::R) (l₂:=[_])))<|sA<|sS (.func (.func 110) #[] #[]) (AK (R:=R) (CM h7) I2 J TT)<|sS (ptr gc) (AK (R:=R) (CM h4) I2 J FN)<|Sy.callT (λw hw=>hp w0.inn gc gr gb 0 27 [] [] sl s R S hS J he hl hv w hw) (λv M hM=>?_)
 obtain ⟨x,s',sl',cs,N,q1,q2,q3,q4,q5,q6,q7,rfl⟩:=hM
 obtain ⟨A1,n1,c1,rfl⟩:=h1 q4
 refine sA<|sS (.slice A1 n1 c1) (qc 1 0 J J Aw)<|sp J<|sG<|Sy.ret ?_
 exact Sy.retT1 (CRN gc gr sl' s'.e (R++N)) J (.inl (show _=_ by kernel_rfl)) (λw h=>h.less ((List.Sublist.refl _).cons _ |>.cons_cons _)) ⟨x,s',sl',_,N,q1,q2,q3,q4,rfl,q5,q6,q7,rfl⟩
theorem K3 (w:World) (gr most g4 g7:Nat):AL 211 #[ptr gr,.int .i64 (most:Int),.func (.func 171) #[] #[ptr g7,ptr g4]] w (BD w (λv M=>∃ a b c,v=.func (.func 239) #[] #[ptr a,ptr b,ptr c]∧M=[(a,132,#[ptr gr]),(b,3,#[.int .i64 (most:Int)]),(c,306,#[.func (.func 171) #[] #[ptr g7,ptr g4]])])):=by
 refine Sy.enter (args:=[ptr gr,.int .i64 (most:Int),.func (.func 171) #[] #[ptr g7,ptr g4]]) Tryz.func211 J kL<|sC<|sM 132 #[ptr gr] (λa=>?_)
 refine sM 3 #[.int .i64 (most:Int)] (λb=>?_)
 refine sM 306 #[.func (.func 171) #[] #[ptr g7,ptr g4]] (λc=>?_)
 refine sP .nilFunc<|sA<|sP (.func (.func 239) #[] #[ptr a,ptr b,ptr c])<|sp J<|sG<|Sy.ret ?_
 exact Sy.retGM _ J (.inl (show _=_ by kernel_rfl)) (λ_ h=>h) ⟨a,b,c,rfl,rfl⟩
noncomputable def Sx:TypeInfo:=(Tryz.prog.info? 27).getD default
theorem K5:Tryz.prog.info? 27=some Sx:=kZ
def Ns (p:Ps α) (rep:Rdr→List Value→α→Prop) (w0:Base) (S:AA) (m:Nat) (s1:RS) (v:Nat×List Value) (y:YL α):Prop:=∃ x,y.x=some x∧y.l.length=v.1∧RowsOk 27 1 rep y.r y.N y.l∧rep (rdB y.N) v.2 x∧v.2.length=1∧(∀ u∈v.2,u.oneCell'=true)∧v.1<1000000
def KK (rep:Rdr→List Value→α→Prop) (y y':YL α):Prop:=∃ x r',y.x=some x∧RowsOk 27 1 rep r' y.N (y.l++[x])∧y'={ y with l:=y.l++[x],r:=r',x:=none }
theorem MU (h1:∀ {C cs x},rep C cs x→∃ A n cp,cs=[Value.slice A n cp]) (hm:BN rep) (hp:B7 110 1 ([Value.slice none 0 0]) rep p) (w0:Base) (fz:World) (gc gr gl g4 g7 a b c most:Nat) (hmost:most<1000000) (R S:AA) (s0:RS) (sl0:Value) (hS:∀ x∈S,x∈R) (h4:(g4,85,#[ptr gc])∈R) (h7:(g7,238,#[.func (.func 110) #[] #[]])∈R) (ha:(a,132,#[ptr gr])∈R) (hb:(b,3,#[.int .i64 (most:Int)])∈R) (hc:(c,306,#[.func (.func 171) #[] #[ptr g7,ptr g4]])∈R) (he:s0.e≤200) (hl:s0.rest.length≤70368744177664) (hv:BytR (rdC w0 S) sl0 s0.rest) (lp:Nat) (w:World) (hw:St (ib w0.world fz) w (LBL gc gr gl 149 nilS s0.e sl0 R []))
  (hY:∀ (v:Nat×List Value) (y:YL α) (W:World),(Ns p rep w0 S 0 s0 v y)→St (ib w0.world fz) W (LBL gc gr gl 149 y.r y.s.e y.sl R y.N)→YieldAt Fence.wide 7 Tryz.prog lp #[.int .i64 (v.1:Int),hd1 v.2] W (KJ w0.world fz (KK rep y) (λy=>LBL gc gr gl 149 y.r y.s.e y.sl R y.N))) :
  CallsIn Fence.wide 8 Tryz.prog 239 #[.func (.yield lp) #[] #[],ptr a,ptr b,ptr c] w (Rl w0.world fz (λy:YL α=>∃ m s1,After (Fj most) s0 m s1∧s1.rest.length≤s0.rest.length∧y.l.length≤most∧InvL 27 1 rep p w0 S m s1 y.l.length y∧(y.s.e=0→y.l.length=m)) (λy=>LBL gc gr gl 149 y.r y.s.e y.sl R y.N)):=by
 refine Sy.enterI (args:=[.func (.yield lp) #[] #[],ptr a,ptr b,ptr c]) hw Tryz.func239 J kL<|sC<|sS (ptr gr) (AK (R:=R) (CM ha) DR J CV)<|sS (.int .i64 (most:Int)) (AK (R:=R) (CM hb) DR J uy3)<|Sy.callT (λw hw=>JP (ib w0.world fz) gr sl0 s0 ((gc,134,#[.pointer none,ptr gr,.bool false])::(gl,149,#[.slice none 0 0])::(R++[])) S (λx h=>List.mem_cons_of_mem _ (List.mem_cons_of_mem _ (List.mem_append_left _ (hS x h)))) most hmost he hv w (hw.perm swap12)) (λu M hM=>?_)
 obtain ⟨m,s1,sl1,hA1,⟨rfl,hm1⟩,hs1e,hs1r,hs1b,rfl⟩:=hM
 refine Sy.permS (M:=LBL gc gr gl 149 nilS s1.e sl1 R []) swap12.symm<|sp J<|sA<|sP (.int .i64 0)<|sG<|Sy.block<|Sy.loopT (Y:=YL α) m (λi y=>[(0,.func (.yield lp) #[] #[]),(1,ptr a),(2,ptr b),(3,ptr c),(5,.int .i64 (m:Int)),(6,.int .i64 (i:Int))]) (λi y=>LBL gc gr gl 149 y.r y.s.e y.sl R y.N) (λi y=>InvL 27 1 rep p w0 S m s1 i y) ⟨[],nilS,s1,sl1,[],none⟩ ⟨rfl,RowsOk.nil,λh=>⟨h,rfl⟩,λh=>.inl h,hs1e,Nat.le_refl _,hs1b⟩ ac6 (λ_ h=>h) (λi y hi hy=>?_)
 obtain ⟨l,r,s,sl,N,xo⟩:=y
 have hylen:l.length=i:=hy.len
 refine Sy.seq<|sC ?_
 obtain ⟨b1,hb1⟩:=xE (decide (i<m))
 refine sp J<|sp J<|sS (.bool b1) (qls J J J hb1)<|sp J ?_
 cases b1
 case' false =>
  have l1:=dN hb1
  obtain rfl:i=m:=om
  refine sN<|sN<|sN<|sP (.bool false)<|sG<|sU<|Sy.exit<|Sy.then_exit<|Sy.then_exit<|Sy.in_exit ?_
  exact Sy.retI J (λv w h=>⟨⟨_,rfl⟩,⟨l,r,s,sl,N,xo⟩,⟨i,s1,hA1,hs1r,by show l.length≤most; omega,by rw [show (⟨l,r,s,sl,N,xo⟩:YL α).l.length=i from hylen]; exact hy,λ_=>hylen⟩,h⟩) (.inr J)
 have l1:=dY hb1
 obtain ⟨b2,hb2⟩:=xE (decide (s.e=0))
 have hse:s.e≤200:=hy.e
 refine sS (ptr gr) (AK (R:=R) (CM ha) DR J CV)<|sS (.int .i64 (s.e:Int)) (qg (λw hw=>D0 (ib w0.world fz) gr sl s.e [] (List.mem_cons_of_mem _ (List.mem_cons_self ..)) w hw))<|sS (.bool b2) (qeq J J J hb2)<|sP (.bool b2)<|sG ?_
 cases b2
 case' false =>
  have l2:=dN hb2
  refine sU<|Sy.exit<|Sy.then_exit<|Sy.then_exit<|Sy.in_exit ?_
  exact Sy.retI J (λv w h=>⟨⟨_,rfl⟩,⟨l,r,s,sl,N,xo⟩,⟨m,s1,hA1,hs1r,by show l.length≤most; omega,by rw [show (⟨l,r,s,sl,N,xo⟩:YL α).l.length=i from hylen]; exact hy,λh=>(l2 h).elim⟩,h⟩) (.inr J)
 have l2:=dY hb2
 obtain ⟨hs10,hrep⟩:=hy.yes l2
 refine sT<|Sy.skip<|Sy.then_<|Sy.seq<|Sy.block<|sC<|sS (.func (.func 171) #[] #[ptr g7,ptr g4]) (AK (R:=R) (CM hc) DR J U3)<|sS (ptr gr) (AK (R:=R) (CM ha) DR J CV)<|Sy.callT (λw hw=>RI (rep:=rep) (p:=p) h1 hm hp (ib w0.world fz) gc gr g4 g7 sl s ((gl,149,#[r.v])::(r.bl++(R++N))) S (λx h=>List.mem_cons_of_mem _ (List.mem_append_right _ (List.mem_append_left _ (hS x h)))) (List.mem_cons_of_mem _ (List.mem_append_right _ (List.mem_append_left _ h4))) (List.mem_cons_of_mem _ (List.mem_append_right _ (List.mem_append_left _ h7))) hse (Nat.le_trans (Nat.le_trans hy.rest hs1r) hl) hy.byt (ptr gr) w hw) (λu M hM=>?_)
 obtain ⟨x,s',sl',cs,N1,q1,q2,q3,q4,rfl,q5,q6,q7,rfl⟩:=hM
 obtain ⟨st1,st2⟩:=Kb hrep l2 q1
 obtain ⟨A9,n9,c9,rfl⟩:=h1 q4
 refine Sy.permS (M:=LBL gc gr gl 149 r s'.e sl' R (N++N1)) (List.Perm.of_eq (by simp only [List.cons_append,List.append_assoc,List.nil_append]))<|sp J<|Sy.nil<|Sy.then_ ?_
 have hR2:RowsOk 27 1 rep r (N++N1) l:=RowsOk.more (rep:=rep) hm hy.rows (λb h=>List.mem_append_left _ h)
 have hx2:rep (rdB (N++N1)) [.slice A9 n9 c9] x:=hm (AV λb h=>List.mem_append_right _ h) q4
 have drop1:∀ {w:World},St (ib w0.world fz) w (LBL gc gr gl 149 r s'.e sl' R (N++N1))→St (ib w0.world fz) w (LBL gc gr gl 149 r s'.e sl' R (N++N1)):=λh=>h
 obtain ⟨b3,hb3⟩:=xE (decide (s'.e≠0))
 have inl:∀ b∈R,b∈LBL gc gr gl 149 r s'.e sl' R (N++N1):=λb h=>DR b h
 refine Sy.seq ?_
 cases b3
 case' true =>
  have l3:=dY hb3
  refine Sy.region<|sS (ptr gr) (AK (R:=R) (CM ha) inl J CV)<|sS (.int .i64 (s'.e:Int)) (qg (λw hw=>D0 (ib w0.world fz) gr sl' s'.e [] (List.mem_cons_of_mem _ (List.mem_cons_self ..)) w hw))<|sS (.bool true) (qne J J J hb3)<|sp J<|sN<|sN<|sN<|sN<|sN<|sP (.bool true)<|sG<|sT<|Sy.ret<|Sy.in_ret<|Sy.then_ret<|Sy.then_ret<|Sy.in_ret ?_
  exact Sy.retI J (λv w h=>⟨⟨_,rfl⟩,⟨l,r,s',sl',N++N1,none⟩,⟨m,s1,hA1,hs1r,by show l.length≤most; omega,⟨rfl,hR2,λh=>(l3 h).elim,λ_=>.inr (st2 l3 m l1),q5,Nat.le_trans q6 hy.rest,q7⟩,λh=>(l3 h).elim⟩,drop1 h⟩) (.inl J)
 have l3:s'.e=0:=Decidable.of_not_not (of_decide_eq_false hb3.symm)
 refine Sy.regionI 7 (by rintro ⟨_,_,⟨_,hv⟩,_⟩; cases hv) kR<|sS (ptr gr) (AK (R:=R) (CM ha) inl rfl CV)<|sS (.int .i64 (s'.e:Int)) (qg (λw hw=>D0 (ib w0.world fz) gr sl' s'.e [] (List.mem_cons_of_mem _ (List.mem_cons_self ..)) w hw))<|sS (.bool false) (qne rfl rfl rfl hb3)<|sp rfl<|sp rfl<|sp rfl<|sp rfl<|Sy.nil<|Sy.yieldI (HR:=KK rep ⟨l,r,s',sl',N++N1,some x⟩) (LR:=λy=>LBL gc gr gl 149 y.r y.s.e y.sl R y.N) rfl (by rintro ⟨_,_,⟨_,hv⟩,_⟩; cases hv) kR kR lp #[.int .i64 (i:Int),.slice A9 n9 c9] kF (λw hw=>hY (i,[.slice A9 n9 c9]) ⟨l,r,s',sl',N++N1,some x⟩ w ⟨x,rfl,hylen,hR2,hx2,q2,q3,by show i<1000000; omega⟩ (drop1 hw)) (λy' hy'=>?_)
 obtain ⟨x',r',hx',hr',rfl⟩:=hy'
 obtain rfl:x=x':=by injection hx'
 refine sP (.bool false)<|sP (.bool false)<|sG<|sU<|Sy.skip<|Sy.in_<|Sy.then_<|Sy.region<|sp J<|sS (iZ (i+1)) (qad J J J)<|sp J<|Sy.nil ?_
 exact Sy.againT ⟨l++[x],r',s',sl',N++N1,none⟩ l1 ⟨by simp [hylen],hr',λ_=>⟨hs10,st1 l3⟩,λh=>(h l3).elim,q5,Nat.le_trans q6 hy.rest,q7⟩ ac6 (λw h=>h)
theorem K1 (h1:∀ {C cs x},rep C cs x→∃ A n cp,cs=[Value.slice A n cp]) (hm:BN rep) (hp:B7 110 1 ([Value.slice none 0 0]) rep p) (w0:Base) (gc gr g4 g7 most:Nat) (hmost:most<1000000) (sl0:Value) (s0:RS) (R S:AA) (hS:∀ x∈S,x∈R) (h4:(g4,85,#[ptr gc])∈R) (h7:(g7,238,#[.func (.func 110) #[] #[]])∈R) (he:s0.e≤200) (hl:s0.rest.length≤70368744177664) (hv:BytR (rdC w0 S) sl0 s0.rest) (w:World) (hw:St w0 w (CRN gc gr sl0 s0.e R)) :
  AL 170 #[ptr gr,.int .i64 (most:Int),.func (.func 171) #[] #[ptr g7,ptr g4]] w (AQ w0 (RdL 1 rep (Ch most p) w0 gc gr s0 R S)):=by
 refine Sy.enterTM (args:=[ptr gr,.int .i64 (most:Int),.func (.func 171) #[] #[ptr g7,ptr g4]]) hw Tryz.func170 J kL<|sC<|sP (.slice none 0 0)<|sA<|sM 149 #[.slice none 0 0] (λgl=>?_)
 refine sG<|Sy.seq<|sC<|sp J<|sp J<|sp J<|Sy.callN kR 211 #[ptr gr,.int .i64 (most:Int),.func (.func 171) #[] #[ptr g7,ptr g4]] kF _ (λw _=>K3 w gr most g4 g7) (λv M hM=>?_)
 obtain ⟨a,b,c,rfl,rfl⟩:=hM
 refine Sy.nil<|Sy.then_<|Sy.block ?_
 obtain ⟨R1,hR1⟩:=xE (R++[(a,132,#[ptr gr]),(b,3,#[.int .i64 (most:Int)]),(c,306,#[.func (.func 171) #[] #[ptr g7,ptr g4]])])
 refine Sy.permC (M:=LBL gc gr gl 149 nilS s0.e sl0 R1 []) (by rw [hR1]; exact P7) ?_
 have mR:∀ x∈R,x∈R1:=λx hx=>by rw [hR1]; exact List.mem_append_left _ hx
 have ma:(a,132,#[ptr gr])∈R1:=by rw [hR1]; simp
 have mb:(b,3,#[.int .i64 (most:Int)])∈R1:=by rw [hR1]; simp
 have mc:(c,306,#[.func (.func 171) #[] #[ptr g7,ptr g4]])∈R1:=by rw [hR1]; simp
 refine Sy.rangeT (α:=Nat×List Value) (Y:=YL α) (Z:=Unit) 239 #[ptr a,ptr b,ptr c] kR kR (enters_of Tryz.func239 kR J) (λv=>#[.int .i64 (v.1:Int),hd1 v.2]) (λ_=>rfl) dZ
  (Ns p rep w0 S 0 s0) (λ_ y=>LBL gc gr gl 149 y.r y.s.e y.sl R1 y.N) (λv _ _=>[(7,ptr gl),(9,hd1 v.2)]) (λ_ y _=>LBL gc gr gl 149 y.r y.s.e y.sl R1 y.N) (λ_ y=>KK rep y) (λy=>LBL gc gr gl 149 y.r y.s.e y.sl R1 y.N)
  (λy:YL α=>∃ m s1,After (Fj most) s0 m s1∧s1.rest.length≤s0.rest.length∧y.l.length≤most∧InvL 27 1 rep p w0 S m s1 y.l.length y∧(y.s.e=0→y.l.length=m)) (λy=>LBL gc gr gl 149 y.r y.s.e y.sl R1 y.N) ?_ ?_ ?_ ?_
 ·exact λlp fz w hw hY=>MU (rep:=rep) (p:=p) h1 hm hp w0 fz gc gr gl g4 g7 a b c most hmost R1 S s0 sl0 (λx h=>mR x (hS x h)) (mR _ h4) (mR _ h7) ma mb mc he hl hv lp w hw hY
 ·rintro lp fz ⟨i,cs⟩ ⟨l,r,s,sl,N,xo⟩ ⟨x,rfl,_,_,_,c1,c2,_⟩
  dsimp only at c1 c2 ⊢
  refine Sy.regionR (by rintro ⟨_,_,h⟩; exact h) kR ⟨_,rfl⟩<|sp rfl<|Sy.nil ?_
  exact apZ () ac2 (λ_ h=>h)
 ·rintro lp fz ⟨i,cs⟩ ⟨l,r,s,sl,N,xo⟩ z ⟨x,rfl,hli,⟨xs,x1,x2,x3⟩,hx,_,c2,hi⟩
  obtain ⟨A9,n9,c9,e9⟩:=h1 hx
  dsimp only at e9 c2 hli x1 x2 x3 hx hi ⊢
  subst e9
  refine Sy.block<|Sy.regionR (by rintro ⟨_,_,h⟩; exact h) kR ⟨_,rfl⟩<|sS r.v (qc 2 0 rfl rfl Df)<|sp rfl<|Sy.make kR 27 #[Value.slice A9 n9 c9] (λg=>.slice (pA g) 1 1) kF (λg8=>?_)
  refine Sy.permS (M:=[(gc,134,#[.pointer none,ptr gr,.bool false]),(gr,253,#[sl,.int .i64 (s.e:Int)]),(gl,149,#[r.v]),(g8,27,#[Value.slice A9 n9 c9])]++(r.bl++(R1++N))) (Sy.flat_perm (ls:=[[(gc,134,#[.pointer none,ptr gr,.bool false]),(gr,253,#[sl,.int .i64 (s.e:Int)]),(gl,149,#[r.v])],r.bl++(R1++N),[(g8,27,#[Value.slice A9 n9 c9])]]) (ms:=[[(gc,134,#[.pointer none,ptr gr,.bool false]),(gr,253,#[sl,.int .i64 (s.e:Int)]),(gl,149,#[r.v])],[(g8,27,#[Value.slice A9 n9 c9])],r.bl++(R1++N)]) [0,2,1] kZ (by rfl) (by simp) (by simp))<|Sy.appendR kR 149 27 _ _ 1 24 Df K5 J J J J dZ _ _ J x1 kR [.slice A9 n9 c9] rfl c2 3 g8 27 kR kR om (by simp only [maxLen]; omega) (λr' hr'=>?_)
  refine sw 2 J #[r'.v] (Writes.one 0 149 r'.v _ _ J kR kR kR hr'.cells.1 hr'.cells.2 Nat.zero_lt_one kR)<|Sy.setT<|Sy.nil<|Sy.in_ ?_
  exact bpZ ⟨l++[x],r',s,sl,N,none⟩ ⟨x,r',rfl,RowsOk.add (rep:=rep) x2 x3 hr' hx,rfl⟩ (λw h=>Sy.St.parts (ls:=[[(gc,134,#[.pointer none,ptr gr,.bool false]),(gr,253,#[sl,.int .i64 (s.e:Int)]),(gl,149,#[r'.v])],[(g8,27,#[Value.slice A9 n9 c9])],r'.bl++(R1++N)]) (ms:=[[(gc,134,#[.pointer none,ptr gr,.bool false]),(gr,253,#[sl,.int .i64 (s.e:Int)]),(gl,149,#[r'.v])],r'.bl++(R1++N)]) [[(g8,27,#[Value.slice A9 n9 c9])]] [0,2,1] kZ (by rfl) (by simp) (by simp) h)
 ·rintro D fz ⟨l,r,s,sl,N,xo⟩ ⟨m,s1,hA1,hs1,hlm,hI,hdn⟩ hD hD2 hmk h0
  dsimp only at hI hdn hlm ⊢
  have hse:s.e≤200:=hI.e
  have hrest:s.rest.length≤s0.rest.length:=Nat.le_trans hI.rest hs1
  refine Sy.in_<|Sy.then_<|Sy.seq<|sC ?_
  obtain ⟨b1,hb1⟩:=xE (decide (s.e≠0))
  refine sp J<|sS (.int .i64 (s.e:Int)) (qg (λw hw=>D0 (ab w0.world fz D) gr sl s.e [] (List.mem_cons_of_mem _ (List.mem_cons_self ..)) w hw))<|sS (.bool b1) (qne J J J hb1)<|sG ?_
  cases b1
  ·have l1:s.e=0:=Decidable.of_not_not (of_decide_eq_false hb1.symm)
   obtain ⟨z1,z2⟩:=hI.yes l1
   rw [hdn l1] at z2
   refine sU<|Sy.skip<|sB<|sS r.v (qc 2 0 J J Df)<|sp J<|sG<|Sy.ret<|Sy.retTM1 (b0:=w0) (M:=CRN gc gr sl s.e (R++(N++r.bl))) J (.inl (show _=_ by kernel_rfl)) (λw h=>Sy.St.parts (ls:=[[(gc,134,#[.pointer none,ptr gr,.bool false]),(gr,253,#[sl,.int .i64 (s.e:Int)])],[(gl,149,#[r.v])],r.bl,R,[(a,132,#[ptr gr]),(b,3,#[.int .i64 (most:Int)]),(c,306,#[.func (.func 171) #[] #[ptr g7,ptr g4]])],N]) (ms:=[[(gc,134,#[.pointer none,ptr gr,.bool false]),(gr,253,#[sl,.int .i64 (s.e:Int)])],R,N,r.bl]) [[(gl,149,#[r.v])],[(a,132,#[ptr gr]),(b,3,#[.int .i64 (most:Int)]),(c,306,#[.func (.func 171) #[] #[ptr g7,ptr g4]])]] [0,3,5,2,1,4] kZ (by rfl) (by rw [hR1]; simp) (by simp) h) ⟨l,s,sl,N++r.bl,hA1.bind ⟨λh=>(h z1).elim,λy q _ hy=>?_,λ_ hy=>?_⟩,RowsOk.lst (rep:=rep) hm hI.rows,hse,hrest,hI.byt,rfl⟩ hD hD2 hmk h0.out
   ·rw [z2] at hy
    cases hy
    exact ⟨rfl,by rw [← l1]⟩
   ·rw [z2] at hy; cases hy
  ·have l1:=dY hb1
   refine sT<|sC<|sP (.slice none 0 0)<|sG<|Sy.ret<|Sy.then_ret<|Sy.retTM1 (b0:=w0) (M:=CRN gc gr sl s.e (R++[])) J (.inl (show _=_ by kernel_rfl)) (λw h=>Sy.St.parts (ls:=[[(gc,134,#[.pointer none,ptr gr,.bool false]),(gr,253,#[sl,.int .i64 (s.e:Int)])],[(gl,149,#[r.v])],r.bl,R,[(a,132,#[ptr gr]),(b,3,#[.int .i64 (most:Int)]),(c,306,#[.func (.func 171) #[] #[ptr g7,ptr g4]])],N]) (ms:=[[(gc,134,#[.pointer none,ptr gr,.bool false]),(gr,253,#[sl,.int .i64 (s.e:Int)])],R]) [[(gl,149,#[r.v])],r.bl,[(a,132,#[ptr gr]),(b,3,#[.int .i64 (most:Int)]),(c,306,#[.func (.func 171) #[] #[ptr g7,ptr g4]])],N] [0,3,1,2,4,5] kZ (by rfl) (by rw [hR1]; simp) (by simp) h) ⟨[],s,sl,[],hA1.bind ⟨λ_=>l1,λy q h1 hy=>?_,λ_ _=>l1⟩,⟨none,0,0,rfl,rfl,Nat.le_refl _,Nat.zero_le _,λh=>(h J).elim⟩,hse,hrest,hI.byt,rfl⟩ hD hD2 hmk h0.out
   rcases hI.no l1 with h | h
   ·exact (h h1).elim
   ·rw [h] at hy; cases hy
theorem Fs (h1:∀ {C cs x},rep C cs x→∃ A n cp,cs=[Value.slice A n cp]) (hm:BN rep) (hp:B7 110 1 ([Value.slice none 0 0]) rep p) (w0:Base) (gc gr gx f most:Nat) (hmost:most<1000000) (tx:TypeId) (A Z:List Value) (sl:Value) (s:RS) (R S:AA) (hS:∀ b∈S,b∈R) (hA:A.length=f) (he:s.e≤200) (hl:s.rest.length≤70368744177664) (hv:BytR (rdC w0 S) sl s.rest) (w:World) (hw:St w0 w (CRS gc gr gx tx (A++([Value.slice none 0 0]++Z)) sl s.e R)) :
  AL 109 #[ptr gc,pT gx f,.int .i64 (most:Int),.func (.func 110) #[] #[]] w (AQ w0 (RdT 1 (Iz 1 rep) (Ch most p) w0 gc gr gx tx A Z s R S)):=by
 refine Sy.enterT (args:=[ptr gc,pT gx f,.int .i64 (most:Int),.func (.func 110) #[] #[]]) hw Tryz.func109 J kL<|sC<|sM 85 #[ptr gc] (λg4=>?_)
 refine sM 238 #[.func (.func 110) #[] #[]] (λg7=>?_)
 obtain ⟨R1,hR1⟩:=xE (R++([(g4,85,#[ptr gc])]++[(g7,238,#[.func (.func 110) #[] #[]])]))
 refine Sy.permS (M:=CRS gc gr gx tx (A++([Value.slice none 0 0]++Z)) sl s.e R1) (List.Perm.of_eq (by rw [hR1]; simp)) ?_
 have mR:∀ x∈R,x∈R1:=λx hx=>by rw [hR1]; exact List.mem_append_left _ hx
 have m4:(g4,85,#[ptr gc])∈R1:=by rw [hR1]; simp
 have m7:(g7,238,#[.func (.func 110) #[] #[]])∈R1:=by rw [hR1]; simp
 refine sG<|Sy.seq<|sC<|sS (ptr gc) (AK (R:=R1) (CM m4) I2 J FN)<|sS (.bool true) (qg (λw hw=>Cs w0.inn gc gr _ _ (List.mem_cons_self ..) w hw))<|sG<|sT<|sC<|sp J<|sS (ptr gc) (AK (R:=R1) (CM m4) I2 J FN)<|sp J<|sP (pT gc 1)<|sS (ptr gr) (qc 0 1 J J CV)<|sp J<|sP (.func (.func 171) #[] #[ptr g7,ptr g4])<|Sy.callT (λw hw=>K1 (rep:=rep) (p:=p) h1 hm hp w0.inn gc gr g4 g7 most hmost sl s ((gx,tx,(A++([Value.slice none 0 0]++Z)).toArray)::R1) S (λx h=>List.mem_cons_of_mem _ (mR x (hS x h))) (List.mem_cons_of_mem _ m4) (List.mem_cons_of_mem _ m7) he hl hv w (hw.perm Bs)) (λv M hM=>?_)
 obtain ⟨l,s',sl',N,q1,q2,q3,q4,q5,rfl⟩:=hM
 refine Sy.permS (M:=CRS gc gr gx tx (A++([Value.slice none 0 0]++Z)) sl' s'.e (R1++N)) Bs<|sp J<|sw 1 J (A++([v]++Z)).toArray (Writes.one f 149 v _ _ J kR kR kR q2.cells.1 q2.cells.2 (by rw [List.size_toArray,List.length_append,hA]; exact Nat.lt_add_of_pos_right (Nat.succ_pos _)) (Bt hA))<|sG<|Sy.ret<|Sy.then_ret ?_
 exact Sy.retT0 J (CRS gc gr gx tx (A++([v]++Z)) sl' s'.e (R++N)) (λw h=>Sy.St.parts (ls:=[[(gc,134,#[.pointer none,ptr gr,.bool false]),(gx,tx,(A++([v]++Z)).toArray),(gr,253,#[sl',.int .i64 (s'.e:Int)])],R,[(g4,85,#[ptr gc])]++[(g7,238,#[.func (.func 110) #[] #[]])],N]) (ms:=[[(gc,134,#[.pointer none,ptr gr,.bool false]),(gx,tx,(A++([v]++Z)).toArray),(gr,253,#[sl',.int .i64 (s'.e:Int)])],R,N]) [[(g4,85,#[ptr gc])]++[(g7,238,#[.func (.func 110) #[] #[]])]] [0,1,3,2] kZ (by rfl) (by rw [hR1]; simp) (by simp) h) (λ_=>⟨l,s',sl',[v],N,q1,rfl,λu hu=>by rw [List.mem_singleton.1 hu]; exact q2.cells.2,⟨v,rfl,q2⟩,q3,q4,q5,rfl⟩)
end
theorem JN (W:World) (n m:Nat) (hn:n<Cu.K4) (hm:m<Cu.K4):(Op.equalIn 9998 55 (.agg (fcs n)) (.agg (fcs m))).run Tryz.prog W=.ok (decide (n=m)) W:=by
 have h:=Bu W 9996 55 22 4 Af CD (λW=>kZ) (wl n) (wl m) rfl J
 rw [Hu hn hm] at h
 exact h
theorem LF (W:World) (a b:Bool):(Op.equalIn 9998 4 (.bool a) (.bool b)).run Tryz.prog W=.ok (a == b) W:=by
 cases a <;> cases b <;> kernel_rfl
theorem O0 (W:World) (x y:Nat) (i:Bool) (u v:Nat) (j:Bool) (hx:x<Cu.K4) (hy:y<Cu.K4) (hu:u<Cu.K4) (hv:v<Cu.K4) :
  (Op.equalIn 9999 57 (.agg (Cu.pcs x y i)) (.agg (Cu.pcs u v j))).run Tryz.prog W=.ok (Cu.sameB x y i u v j) W:=by
 have hS:Tryz.prog.underlying 57=some (.struct (Tryz.prog.fieldsOf 57)):=kZ
 have hpp:Tryz.prog.stoodInHeld 57=false:=kZ
 rw [show (9999:Nat)=9998+1 from rfl,run_equalIn_struct W 9998 57 _ _ hS hpp]
 simp only [Program.fieldsOf,Am]
 have a1:∀ W,(part 55 (Cu.pcs x y i) 0).run Tryz.prog W=.ok (.agg (fcs x)) W:=λW=>by rw [Cu.part_fe,Cu.pcs_x]
 have a2:∀ W,(part 55 (Cu.pcs u v j) 0).run Tryz.prog W=.ok (.agg (fcs u)) W:=λW=>by rw [Cu.part_fe,Cu.pcs_x]
 have a3:∀ W,(part 55 (Cu.pcs x y i) 4).run Tryz.prog W=.ok (.agg (fcs y)) W:=λW=>by rw [Cu.part_fe,Cu.pcs_y]
 have a4:∀ W,(part 55 (Cu.pcs u v j) 4).run Tryz.prog W=.ok (.agg (fcs v)) W:=λW=>by rw [Cu.part_fe,Cu.pcs_y]
 have a5:∀ W,(part 4 (Cu.pcs x y i) 8).run Tryz.prog W=.ok (.bool i) W:=λW=>Cu.part_bool _ 8 i (Cu.pcs_i x y i) W
 have a6:∀ W,(part 4 (Cu.pcs u v j) 8).run Tryz.prog W=.ok (.bool j) W:=λW=>Cu.part_bool _ 8 j (Cu.pcs_i u v j) W
 have e1:∀ W,_:=λW=>JN W x u hx hu
 have e2:∀ W,_:=λW=>JN W y v hy hv
 have e3:∀ W,_:=λW=>LF W i j
 unfold Cu.sameB
 generalize decide (x=u)=b1 at *
 generalize decide (y=v)=b2 at *
 generalize (i == j)=b3 at *
 cases b1 <;> cases b2 <;> cases b3 <;> simp [Op.eqFields,a1,a2,a3,a4,a5,a6,e1,e2,e3,Sem.run_bind,Sem.run_ite]
theorem Km (cs:Array Value) (o:Nat) (n:Nat) (hb:cs[o]? = some (.int .u64 (n:Int))) (W:World):(part 22 cs o).run Tryz.prog W=.ok (.int .u64 (n:Int)) W:=by
 have h1:=Tryz.isAgg22
 simp [part,h1,hb,go_sem]
theorem M8 (cs:Array Value) (o:Nat) (W:World):(part 57 cs o).run Tryz.prog W=.ok (.agg (cs.extract o (o+9))) W:=by
 have h1:=Tryz.isAgg57
 have h2:=Tryz.sizeOf57
 simp [part,h1,h2,go_sem]
theorem Md (W:World) (a b:Int):(Op.equalIn 9999 22 (.int .u64 a) (.int .u64 b)).run Tryz.prog W=.ok (decide (a=b)) W:=by
 kernel_rfl
theorem Lk (W:World) (a:MAmt) (hx:a.pt.x<Cu.K4) (hy:a.pt.y<Cu.K4):(binOp .eql 61 (.agg (cAM a).toArray) (.agg (cAM zAM).toArray)).run Tryz.prog W=.ok (.bool (Ev a)) W:=by
 obtain ⟨bl,v,x,y,i⟩:=a
 dsimp only at hx hy
 have hS:Tryz.prog.underlying 61=some (.struct (Tryz.prog.fieldsOf 61)):=kZ
 have hpp:Tryz.prog.stoodInHeld 61=false:=kZ
 rw [run_eql_struct,show (10000:Nat)=9999+1 from rfl,run_equalIn_struct W 9999 61 _ _ hS hpp]
 simp only [Program.fieldsOf,KQ]
 have c1:((cAM ⟨bl,v,x,y,i⟩).toArray).extract 2 (2+9)=Cu.pcs x y i:=rfl
 have c2:((cAM zAM).toArray).extract 2 (2+9)=Cu.pcs 0 0 false:=rfl
 have a1:∀ W,(part 4 (cAM ⟨bl,v,x,y,i⟩).toArray 0).run Tryz.prog W=.ok (.bool bl) W:=λW=>Cu.part_bool _ 0 bl J W
 have a2:∀ W,(part 4 (cAM zAM).toArray 0).run Tryz.prog W=.ok (.bool false) W:=λW=>Cu.part_bool _ 0 false J W
 have a3:∀ W,(part 22 (cAM ⟨bl,v,x,y,i⟩).toArray 1).run Tryz.prog W=.ok (.int .u64 (v:Int)) W:=λW=>Km _ 1 v J W
 have a4:∀ W,(part 22 (cAM zAM).toArray 1).run Tryz.prog W=.ok (.int .u64 0) W:=λW=>Km _ 1 0 J W
 have a5:∀ W,(part 57 (cAM ⟨bl,v,x,y,i⟩).toArray 2).run Tryz.prog W=.ok (.agg (Cu.pcs x y i)) W:=λW=>by rw [M8,c1]
 have a6:∀ W,(part 57 (cAM zAM).toArray 2).run Tryz.prog W=.ok (.agg (Cu.pcs 0 0 false)) W:=λW=>by rw [M8,c2]
 have e1:∀ W,_:=λW=>Cu.eql_bool_at W bl false
 have e2:∀ W,_:=λW=>Md W (v:Int) 0
 have e3:∀ W,_:=λW=>O0 W x y i 0 0 false hx hy dZ dZ
 have en:Ev ⟨bl,v,x,y,i⟩=((bl == false) && (decide ((v:Int)=0) && Cu.sameB x y i 0 0 false)):=by
  unfold Ev Ff
  dsimp only
  rw [show decide (v=0)=decide ((v:Int)=0) from decide_eq_decide.2 om]
  cases bl <;> simp
 rw [en]
 generalize decide ((v:Int)=0)=b2 at *
 generalize Cu.sameB x y i 0 0 false=b3 at *
 generalize (bl == false)=b1 at *
 cases b1 <;> cases b2 <;> cases b3 <;> simp [Op.eqFields,a1,a2,a3,a4,a5,a6,e1,e2,e3,Sem.run_bind,Sem.run_ite]
theorem RA (w:World) (F:AJ) (o:Oper) (x y:Operand) (a:MAmt) {yt:TypeId} (ho:o.op=.binOp .eql 61 x y yt) (hx:evF F x=.agg (cAM a).toArray) (hy:evF F y=.agg (cAM zAM).toArray) (h1:a.pt.x<Cu.K4) (h2:a.pt.y<Cu.K4):(execOp (evF F) o).run Tryz.prog w=.ok (.value (.bool (Ev a))) w:=by
 have g1:(eqGuard .eql 61 x y (.agg (cAM a).toArray) (.agg (cAM zAM).toArray)).run Tryz.prog w=.ok () w:=by go_simp
 have g2:=Lk w a h1 h2
 unfold execOp
 simp only [ho,hx,hy,Sem.run_bind,g1,g2,Result.andThen_ok,Sem.run_pure]
theorem LG (w:World) (F:AJ) (o:Oper) (x y:Operand) (n m:Nat) {yt:TypeId} (ho:o.op=.binOp .eql 143 x y yt) (hx:evF F x=fv n) (hy:evF F y=fv m) (hn:n<Cu.K4) (hm:m<Cu.K4):(execOp (evF F) o).run Tryz.prog w=.ok (.value (.bool (decide (n=m)))) w:=by
 have h1:=Sc.run_eqGuard_fv .eql x y n m w
 have h2:=Sc.run_eql_fv w n m hn hm
 unfold execOp
 simp only [ho,hx,hy,Sem.run_bind,h1,h2,Result.andThen_ok,Sem.run_pure]
theorem G9 (w:World) (i:MIs) (A:Option Addr) (n cp:Nat) (hn:i.range.length=n) (d1:i.amount.value<18446744073709551616∧i.amount.pt.x<Cu.K4∧i.amount.pt.y<Cu.K4) (h3:i.tokens<18446744073709551616) (h4:i.entropy.length=32) (h5:i.blind<Cu.K4) :
  AL 167 #[.agg (cIS i (.slice A n cp)).toArray] w (Ai w (.bool (DL i))):=by
 obtain ⟨kd,am,rg,tk,en,sc⟩:=i
 dsimp only at hn d1 h3 h4 h5
 have m4:(en.map bv).length=32:=by rw [List.length_map,h4]
 have hlen:(cIS ⟨kd,am,rg,tk,en,sc⟩ (.slice A n cp)).length=50:=by simp only [cIS,cAM,List.length_append,m4,GP,Cd]; rfl
 have hnul:DL ⟨kd,am,rg,tk,en,sc⟩=(Ev am && (decide (n=0) && (decide (tk=0) && (decide (en=z32) && decide (sc=0))))):=by unfold DL; dsimp only; rw [hn]
 refine Sy.enter (args:=[.agg (cIS ⟨kd,am,rg,tk,en,sc⟩ (.slice A n cp)).toArray]) Tryz.func167 J kL<|sC<|sM 145 (cIS ⟨kd,am,rg,tk,en,sc⟩ (.slice A n cp)).toArray (λg1=>?_) kR (λw=>Aq J J kZ hlen w)
 refine sP (.bool false) ?_
 have X0:XAt (rdC (Base.of w) [(g1,145,(cIS ⟨kd,am,rg,tk,en,sc⟩ (.slice A n cp)).toArray)]) g1 0 (cIS ⟨kd,am,rg,tk,en,sc⟩ (.slice A n cp)):=λi u hu=>.inr ⟨_,_,List.mem_singleton.2 J,by rw [Nat.zero_add,List.getElem?_toArray]; exact hu⟩
 have X1:XAt (rdC (Base.of w) [(g1,145,(cIS ⟨kd,am,rg,tk,en,sc⟩ (.slice A n cp)).toArray)]) g1 1 (cAM am++([.slice A n cp]++([uZ (tk:Int)]++(en.map bv++Cu.fws sc)))):=X0.right (n:=1) rfl
 have X2:XAt (rdC (Base.of w) [(g1,145,(cIS ⟨kd,am,rg,tk,en,sc⟩ (.slice A n cp)).toArray)]) g1 12 ([.slice A n cp]++([uZ (tk:Int)]++(en.map bv++Cu.fws sc))):=X1.right (n:=11) rfl
 have X3:XAt (rdC (Base.of w) [(g1,145,(cIS ⟨kd,am,rg,tk,en,sc⟩ (.slice A n cp)).toArray)]) g1 13 ([uZ (tk:Int)]++(en.map bv++Cu.fws sc)):=X2.right (n:=1) rfl
 have X4:XAt (rdC (Base.of w) [(g1,145,(cIS ⟨kd,am,rg,tk,en,sc⟩ (.slice A n cp)).toArray)]) g1 14 (en.map bv++Cu.fws sc):=X3.right (n:=1) rfl
 have X5:XAt (rdC (Base.of w) [(g1,145,(cIS ⟨kd,am,rg,tk,en,sc⟩ (.slice A n cp)).toArray)]) g1 46 (Cu.fws sc):=X4.right m4
 refine sA ?_
 obtain ⟨b1,hb1⟩:=xE (Ev am)
 refine sP (pT g1 1)<|sS (.agg (cAM am).toArray) (BQ (R:=[(g1,145,(cIS ⟨kd,am,rg,tk,en,sc⟩ (.slice A n cp)).toArray)]) (g:=g1) (f:=1) (k:=11) (cs:=cAM am) X1.left (λy hy=>hy) rfl J KQ)<|sP (.agg (cAM zAM).toArray)<|sS (.bool b1) (Quiet.pure (λw=>by rw [hb1]; exact RA w _ _ _ _ am J J J d1.2.1 d1.2.2))<|sp J ?_
 cases b1
 case' false =>
  refine sN<|sN<|sN<|sN<|sP (.bool false)<|sp J<|sN<|sN<|sN<|sP (.bool false)<|sp J<|sN<|sN<|sN<|sN<|sP (.bool false)<|sp J<|sN<|sN<|sN<|sN<|sP (.bool false)<|sp J<|sG<|Sy.ret ?_
  rw [hnul, ← hb1]
  exact rV (.bool false) rfl
 obtain ⟨b2,hb2⟩:=xE (decide (n=0))
 refine sP (pT g1 12)<|sS (.slice A n cp) (AK (R:=[(g1,145,(cIS ⟨kd,am,rg,tk,en,sc⟩ (.slice A n cp)).toArray)]) (g:=g1) (f:=12) X2.one (λy hy=>hy) rfl Aw)<|sP (.int .i64 (n:Int))<|sS (.bool b2) (qeq J J J hb2)<|sP (.bool b2)<|sp J ?_
 cases b2
 case' false =>
  refine sN<|sN<|sN<|sP (.bool false)<|sp J<|sN<|sN<|sN<|sN<|sP (.bool false)<|sp J<|sN<|sN<|sN<|sN<|sP (.bool false)<|sp J<|sG<|Sy.ret ?_
  rw [hnul, ← hb1, ← hb2]
  exact rV (.bool false) rfl
 obtain ⟨b3,hb3⟩:=xE (decide (tk=0))
 refine sP (pT g1 13)<|sS (uZ (tk:Int)) (AK (R:=[(g1,145,(cIS ⟨kd,am,rg,tk,en,sc⟩ (.slice A n cp)).toArray)]) (g:=g1) (f:=13) X3.one (λy hy=>hy) rfl CD)<|sS (.bool b3) (Quiet.pure (AE .eql _ _ _ .u64 _ _ _ J J J (Aa _ _ _ _ _ (by rw [hb3]; exact decide_eq_decide.2 om))))<|sP (.bool b3)<|sp J ?_
 cases b3
 case' false =>
  refine sN<|sN<|sN<|sN<|sP (.bool false)<|sp J<|sN<|sN<|sN<|sN<|sP (.bool false)<|sp J<|sG<|Sy.ret ?_
  rw [hnul, ← hb1, ← hb2, ← hb3]
  exact rV (.bool false) rfl
 obtain ⟨b4,hb4⟩:=xE (decide (en=z32))
 refine sP (pT g1 14)<|sS (.agg (en.map bv).toArray) (BQ (R:=[(g1,145,(cIS ⟨kd,am,rg,tk,en,sc⟩ (.slice A n cp)).toArray)]) (g:=g1) (f:=14) (k:=32) (cs:=en.map bv) X4.left (λy hy=>hy) m4 J Dd)<|sP (.agg (z32.map bv).toArray)<|sS (.bool b4) (Quiet.pure (λw=>by rw [hb4]; exact Ed w _ _ _ _ en z32 h4 J J J J))<|sP (.bool b4)<|sp J ?_
 cases b4
 case' false =>
  refine sN<|sN<|sN<|sN<|sP (.bool false)<|sp J<|sG<|Sy.ret ?_
  rw [hnul, ← hb1, ← hb2, ← hb3, ← hb4]
  exact rV (.bool false) rfl
 obtain ⟨b5,hb5⟩:=xE (decide (sc=0))
 refine sP (pT g1 46)<|sS (fv sc) (BQ (R:=[(g1,145,(cIS ⟨kd,am,rg,tk,en,sc⟩ (.slice A n cp)).toArray)]) (g:=g1) (f:=46) (k:=4) (cs:=Cu.fws sc) X5 (λy hy=>hy) rfl J Be)<|sP (fv 0)<|sS (.bool b5) (Quiet.pure (λw=>by rw [hb5]; exact LG w _ _ _ _ sc 0 J J J h5 dZ))<|sP (.bool b5)<|sp J<|sG<|Sy.ret ?_
 rw [hnul, ← hb1, ← hb2, ← hb3, ← hb4, ← hb5]
 exact rV (.bool b5) rfl
theorem JH (w:World) (p:MPg) (A1 A2 A3:Option Addr) (n1 c1 n2 c2 n3 c3:Nat) (k1:p.tx.length=n1) (k2:p.path.length=n2) (k3:p.script.length=n3) (h0:p.header.length=32) :
  AL 107 #[.agg (cPG p (.slice A1 n1 c1) (.slice A2 n2 c2) (.slice A3 n3 c3)).toArray] w (Ai w (.bool (DU p))):=by
 obtain ⟨hd,tx,pl,mn,pa,sq⟩:=p
 dsimp only at k1 k2 k3 h0
 have m0:(hd.map bv).length=32:=by rw [List.length_map,h0]
 have hlen:(cPG ⟨hd,tx,pl,mn,pa,sq⟩ (.slice A1 n1 c1) (.slice A2 n2 c2) (.slice A3 n3 c3)).length=37:=by simp only [cPG,List.length_append,m0]; rfl
 have hnul:DU ⟨hd,tx,pl,mn,pa,sq⟩=(decide (hd=z32) && (decide (n1=0) && (decide (pl=0) && (decide (mn=0) && (decide (n2=0) && decide (n3=0)))))):=by unfold DU; dsimp only; rw [k1,k2,k3]
 refine Sy.enter (args:=[.agg (cPG ⟨hd,tx,pl,mn,pa,sq⟩ (.slice A1 n1 c1) (.slice A2 n2 c2) (.slice A3 n3 c3)).toArray]) Tryz.func107 J kL<|sC<|sM 148 (cPG ⟨hd,tx,pl,mn,pa,sq⟩ (.slice A1 n1 c1) (.slice A2 n2 c2) (.slice A3 n3 c3)).toArray (λg1=>?_) kR (λw=>Aq J J kZ hlen w)
 refine sP (.bool false) ?_
 have X0:XAt (rdC (Base.of w) [(g1,148,(cPG ⟨hd,tx,pl,mn,pa,sq⟩ (.slice A1 n1 c1) (.slice A2 n2 c2) (.slice A3 n3 c3)).toArray)]) g1 0 (cPG ⟨hd,tx,pl,mn,pa,sq⟩ (.slice A1 n1 c1) (.slice A2 n2 c2) (.slice A3 n3 c3)):=λi u hu=>.inr ⟨_,_,List.mem_singleton.2 J,by rw [Nat.zero_add,List.getElem?_toArray]; exact hu⟩
 have X1:XAt (rdC (Base.of w) [(g1,148,(cPG ⟨hd,tx,pl,mn,pa,sq⟩ (.slice A1 n1 c1) (.slice A2 n2 c2) (.slice A3 n3 c3)).toArray)]) g1 32 ([.slice A1 n1 c1]++([.int .u32 (pl:Int)]++([.int .u32 (mn:Int)]++([.slice A2 n2 c2]++([.slice A3 n3 c3]))))):=X0.right m0
 have X2:XAt (rdC (Base.of w) [(g1,148,(cPG ⟨hd,tx,pl,mn,pa,sq⟩ (.slice A1 n1 c1) (.slice A2 n2 c2) (.slice A3 n3 c3)).toArray)]) g1 33 ([.int .u32 (pl:Int)]++([.int .u32 (mn:Int)]++([.slice A2 n2 c2]++([.slice A3 n3 c3])))):=X1.right (n:=1) rfl
 have X3:XAt (rdC (Base.of w) [(g1,148,(cPG ⟨hd,tx,pl,mn,pa,sq⟩ (.slice A1 n1 c1) (.slice A2 n2 c2) (.slice A3 n3 c3)).toArray)]) g1 34 ([.int .u32 (mn:Int)]++([.slice A2 n2 c2]++([.slice A3 n3 c3]))):=X2.right (n:=1) rfl
 have X4:XAt (rdC (Base.of w) [(g1,148,(cPG ⟨hd,tx,pl,mn,pa,sq⟩ (.slice A1 n1 c1) (.slice A2 n2 c2) (.slice A3 n3 c3)).toArray)]) g1 35 ([.slice A2 n2 c2]++([.slice A3 n3 c3])):=X3.right (n:=1) rfl
 have X5:XAt (rdC (Base.of w) [(g1,148,(cPG ⟨hd,tx,pl,mn,pa,sq⟩ (.slice A1 n1 c1) (.slice A2 n2 c2) (.slice A3 n3 c3)).toArray)]) g1 36 ([.slice A3 n3 c3]):=X4.right (n:=1) rfl
 refine sA ?_
 obtain ⟨b1,hb1⟩:=xE (decide (hd=z32))
 refine sP (pT g1 0)<|sS (.agg (hd.map bv).toArray) (BQ (R:=[(g1,148,(cPG ⟨hd,tx,pl,mn,pa,sq⟩ (.slice A1 n1 c1) (.slice A2 n2 c2) (.slice A3 n3 c3)).toArray)]) (g:=g1) (f:=0) (k:=32) (cs:=hd.map bv) X0.left (λy hy=>hy) m0 J Dd)<|sP (.agg (z32.map bv).toArray)<|sS (.bool b1) (Quiet.pure (λw=>by rw [hb1]; exact Ed w _ _ _ _ hd z32 h0 J J J J))<|sp J ?_
 cases b1
 case' false =>
  refine sN<|sN<|sN<|sN<|sP (.bool false)<|sp J<|sN<|sN<|sN<|sP (.bool false)<|sp J<|sN<|sN<|sN<|sP (.bool false)<|sp J<|sN<|sN<|sN<|sN<|sP (.bool false)<|sp J<|sN<|sN<|sN<|sN<|sP (.bool false)<|sp J<|sG<|Sy.ret ?_
  rw [hnul, ← hb1]
  exact rV (.bool false) rfl
 obtain ⟨b2,hb2⟩:=xE (decide (n1=0))
 refine sP (pT g1 32)<|sS (.slice A1 n1 c1) (AK (R:=[(g1,148,(cPG ⟨hd,tx,pl,mn,pa,sq⟩ (.slice A1 n1 c1) (.slice A2 n2 c2) (.slice A3 n3 c3)).toArray)]) (g:=g1) (f:=32) X1.one (λy hy=>hy) rfl Aw)<|sP (.int .i64 (n1:Int))<|sS (.bool b2) (qeq J J J hb2)<|sP (.bool b2)<|sp J ?_
 cases b2
 case' false =>
  refine sN<|sN<|sN<|sP (.bool false)<|sp J<|sN<|sN<|sN<|sP (.bool false)<|sp J<|sN<|sN<|sN<|sN<|sP (.bool false)<|sp J<|sN<|sN<|sN<|sN<|sP (.bool false)<|sp J<|sG<|Sy.ret ?_
  rw [hnul, ← hb1, ← hb2]
  exact rV (.bool false) rfl
 obtain ⟨b3,hb3⟩:=xE (decide (pl=0))
 refine sP (pT g1 33)<|sS (.int .u32 (pl:Int)) (AK (R:=[(g1,148,(cPG ⟨hd,tx,pl,mn,pa,sq⟩ (.slice A1 n1 c1) (.slice A2 n2 c2) (.slice A3 n3 c3)).toArray)]) (g:=g1) (f:=33) X2.one (λy hy=>hy) rfl F0)<|sS (.bool b3) (Quiet.pure (AE .eql _ _ _ .u32 _ _ _ J J J (Aa _ _ _ _ _ (by rw [hb3]; exact decide_eq_decide.2 om))))<|sP (.bool b3)<|sp J ?_
 cases b3
 case' false =>
  refine sN<|sN<|sN<|sP (.bool false)<|sp J<|sN<|sN<|sN<|sN<|sP (.bool false)<|sp J<|sN<|sN<|sN<|sN<|sP (.bool false)<|sp J<|sG<|Sy.ret ?_
  rw [hnul, ← hb1, ← hb2, ← hb3]
  exact rV (.bool false) rfl
 obtain ⟨b4,hb4⟩:=xE (decide (mn=0))
 refine sP (pT g1 34)<|sS (.int .u32 (mn:Int)) (AK (R:=[(g1,148,(cPG ⟨hd,tx,pl,mn,pa,sq⟩ (.slice A1 n1 c1) (.slice A2 n2 c2) (.slice A3 n3 c3)).toArray)]) (g:=g1) (f:=34) X3.one (λy hy=>hy) rfl F0)<|sS (.bool b4) (Quiet.pure (AE .eql _ _ _ .u32 _ _ _ J J J (Aa _ _ _ _ _ (by rw [hb4]; exact decide_eq_decide.2 om))))<|sP (.bool b4)<|sp J ?_
 cases b4
 case' false =>
  refine sN<|sN<|sN<|sN<|sP (.bool false)<|sp J<|sN<|sN<|sN<|sN<|sP (.bool false)<|sp J<|sG<|Sy.ret ?_
  rw [hnul, ← hb1, ← hb2, ← hb3, ← hb4]
  exact rV (.bool false) rfl
 obtain ⟨b5,hb5⟩:=xE (decide (n2=0))
 refine sP (pT g1 35)<|sS (.slice A2 n2 c2) (AK (R:=[(g1,148,(cPG ⟨hd,tx,pl,mn,pa,sq⟩ (.slice A1 n1 c1) (.slice A2 n2 c2) (.slice A3 n3 c3)).toArray)]) (g:=g1) (f:=35) X4.one (λy hy=>hy) rfl Dg)<|sP (.int .i64 (n2:Int))<|sS (.bool b5) (qeq J J J hb5)<|sP (.bool b5)<|sp J ?_
 cases b5
 case' false =>
  refine sN<|sN<|sN<|sN<|sP (.bool false)<|sp J<|sG<|Sy.ret ?_
  rw [hnul, ← hb1, ← hb2, ← hb3, ← hb4, ← hb5]
  exact rV (.bool false) rfl
 obtain ⟨b6,hb6⟩:=xE (decide (n3=0))
 refine sP (pT g1 36)<|sS (.slice A3 n3 c3) (AK (R:=[(g1,148,(cPG ⟨hd,tx,pl,mn,pa,sq⟩ (.slice A1 n1 c1) (.slice A2 n2 c2) (.slice A3 n3 c3)).toArray)]) (g:=g1) (f:=36) X5.one (λy hy=>hy) rfl Aw)<|sP (.int .i64 (n3:Int))<|sS (.bool b6) (qeq J J J hb6)<|sP (.bool b6)<|sp J<|sG<|Sy.ret ?_
 rw [hnul, ← hb1, ← hb2, ← hb3, ← hb4, ← hb5, ← hb6]
 exact rV (.bool b6) rfl
theorem Pd:PutC 168 4 Pj J1 Dn (λ_=>32):=λw0 gc gw gx f bad s R b cs n hx _ hc hb hl w hw=>by
 obtain ⟨rfl,h1⟩:=hx
 obtain ⟨ok,hok⟩:=xE (J1 n)
 obtain ⟨E,hE⟩:=xE (Dn n)
 have hEl:E.length=32:=by rw [hE]; exact AN _
 have hEm:(E.map bv).length=32:=by rw [List.length_map,hEl]
 have hp:n%Sc.pM<Cu.K4:=Nat.lt_trans (Nat.mod_lt _ dZ) dZ
 rw [← hok, ← hE]
 refine Sy.enterT (args:=[ptr gc,pT gx f]) hw Tryz.func168 J kL ?_
 have ld:∀ {F:AJ} {L:AA} {o:Oper} {x:Operand},(∀ y∈R,y∈L)→o.op=.load 143 x→evF F x=pT gx f→Quiet Tryz.prog w0.inn F L o (fv n):=λhR ho hx=>BQ (R:=R) (cs:=Cu.fws n) hc hR J ho Be hx
 refine Sy.seq<|Sy.regionD (λ_=>false) kR<|sa 0 J J<|sa 1 J J<|sD 2 J (fv n) (ld Ba J J)<|sD 3 J (fv (n%Sc.pM)) (qf (λw=>Sc.norm_any w n h1))<|sa 4 J J<|sa 5 J J<|sD 6 J (fv n) (ld Ba J J)<|sv 7 J (.bool ok) (λw=>by rw [hok]; exact LG w _ _ _ _ (n%Sc.pM) n J J J hp h1)<|sz 8 J J<|sE<|sB<|sp J<|sp J<|sS (fv n) (ld Ba J J)<|sS (.agg (E.map bv).toArray) (qf (λw=>by rw [hE]; exact Sc.bytes_any w n h1))<|sM 36 ((List.replicate 32 (0:UInt8)).map bv).toArray (λg4=>?_)
 refine Sy.permS List.perm_append_comm<|sw 0 J (E.map bv).toArray (Writes.row 36 (E.map bv) 32 _ _ J kR kR kR hEm kZ (Bv E))<|Sy.permS (M:=CWS gc gw bad s (R++[(g4,36,(E.map bv).toArray)])) (permB.trans (List.Perm.of_eq eqCW))<|sA<|sp J<|sP (.slice (pA g4) 32 32)<|Sy.callT (λw hw=>Kf w0.inn gc gw bad s (R++[(g4,36,(E.map bv).toArray)]) b E _ ((J7 Eh).byt hEl dZ) hb (by rw [hEl]; omega) w hw) (λu M hM=>?_)
 obtain ⟨s1,bad1,b1,q1,q2,rfl⟩:=hM
 rw [hEl] at q1
 refine sG<|Sy.seq<|sC<|sp J<|sS (.bool false) (qg (λw hw=>DD w0.inn gc _ _ (List.mem_cons_self ..) w hw))<|sG<|sU<|Sy.skip<|Sy.then_<|Sy.region<|sp J<|sp J<|Sy.callT (λw hw=>B2 w0.inn gc gw bad1 ok s1 (R++[(g4,36,(E.map bv).toArray)]) w hw) (λu M hM=>?_)
 subst hM
 refine Sy.nil ?_
 have q:=q1.then_ (Wrote.must ok bad1 b1)
 rw [Bool.true_and,List.append_nil] at q
 exact Sy.retT0 J (CWS gc gw (bad1 || !ok) s1 R) (λ_ h=>GU h) (λ_=>⟨s1,bad1 || !ok,b1,q,q2,rfl⟩)
theorem Pe:B7 168 4 (Cu.fws 0) Pj OT:=λw0 gc gr gx f tx A Z sl s R S hS hA he hl hv w hw=>by
 obtain ⟨E,hE⟩:=xE (Dn 0)
 have hEl:E.length=32:=by rw [hE]; exact AN _
 have hEm:(E.map bv).length=32:=by rw [List.length_map,hEl]
 refine Sy.enterT (args:=[ptr gc,pT gx f]) hw Tryz.func168 J kL ?_
 have ld:∀ {F:AJ} {o:Oper} {x':Operand},o.op=.load 143 x'→evF F x'=pT gx f→Quiet Tryz.prog w0.inn F (CRS gc gr gx tx (A++(Cu.fws 0++Z)) sl s.e R) o (fv 0):=λho hx=>Quiet.mid 1 gx f 4 tx 143 (A++(Cu.fws 0++Z)) (Cu.fws 0) _ _ ho hx J Be J kR (Cc hA J) (by rw [List.length_append,List.length_append,hA,GP]; omega)
 refine Sy.seq<|Sy.regionD (λ_=>false) kR<|sa 0 J J<|sa 1 J J<|sD 2 J (fv 0) (ld J J)<|sD 3 J (fv (0%Sc.pM)) (qf (λw=>Sc.norm_any w 0 dZ))<|sa 4 J J<|sa 5 J J<|sD 6 J (fv 0) (ld J J)<|sv 7 J (.bool true) (λw=>LG w _ _ _ _ 0 0 J J J dZ dZ)<|sz 8 J J<|sE<|sB<|sp J<|sp J<|sS (fv 0) (ld J J)<|sS (.agg (E.map bv).toArray) (qf (λw=>by rw [hE]; exact Sc.bytes_any w 0 dZ))<|sM 36 ((List.replicate 32 (0:UInt8)).map bv).toArray (λg4=>?_)
 refine Sy.permS List.perm_append_comm<|sw 0 J ([]++(E.map bv++[])).toArray (by rw [List.nil_append,List.append_nil]; exact Writes.row 36 (E.map bv) 32 _ _ J kR kR kR hEm kZ (Bv E))<|sA<|sp J<|sP (.slice (pA g4) 32 32) ?_
 have p4:((g4,36,([]++(E.map bv++[])).toArray)::CRS gc gr gx tx (A++(Cu.fws 0++Z)) sl s.e R).Perm (CRS gc gr g4 36 ([]++(E.map bv++[])) sl s.e ((gx,tx,(A++(Cu.fws 0++Z)).toArray)::R)):=P8
 refine Sy.permS p4<|Sy.callT (λw hw=>Ll 32 dZ dZ w0.inn gc gr g4 0 36 [] [] E hEl sl s ((gx,tx,(A++(Cu.fws 0++Z)).toArray)::R) S (λb h=>List.mem_cons_of_mem _ (hS b h)) J he hl hv w hw) (λu M hM=>?_)
 obtain ⟨x,s1,sl1,cs1,N1,a1,a2,a3,⟨rfl,a4⟩,a5,a6,a7,rfl⟩:=hM
 obtain ⟨m,hm⟩:=xE ((Sc.readS x).1)
 obtain ⟨ok,hok⟩:=xE ((Sc.readS x).2)
 have hmK:m<Cu.K4:=by
  rw [hm]
  unfold Sc.readS
  split
  ·exact Bl x a4
  ·show 0<Cu.K4; decide
 refine sG<|Sy.seq<|sC<|sp J<|sS (.bool true) (qg (λw hw=>Cs w0.inn gc gr _ _ (List.mem_cons_self ..) w hw))<|sG<|sT<|Sy.region<|sp J<|sS (.agg (x.map bv).toArray) (Quiet.mid 1 g4 0 32 36 36 ([]++(x.map bv++[])) (x.map bv) _ _ J kR J JZ J kR (Cc J (by rw [List.length_map,a4])) (by simp only [List.length_append,List.length_map,List.length_nil]; omega))<|sS (.tuple #[fv m,.bool ok]) (qf (λw=>by rw [hm,hok]; exact Sc.read_any w x a4))<|sp J<|sp J<|sp J<|sp J<|sw 3 J (A++(Cu.fws m++Z)).toArray (wMd 143 A (Cu.fws 0) (Cu.fws m) Z 4 f _ _ J kR kR kR hA J J (GO m))<|sp J<|Sy.nil<|Sy.then_ ?_
 obtain ⟨e2,he2⟩:=xE (if ok=true then s1.e else if s1.e=0 then 120 else s1.e)
 have hA2:After OT s m ⟨s1.rest,e2⟩:=a1.bind (by
  rw [← hm, ← hok]
  cases ok
  ·exact After.mustN m (by show e2≠0; rw [he2,if_neg dZ]; split <;> omega)
  ·have e:(⟨s1.rest,e2⟩:RS)=s1:=by rw [he2,if_pos J]
   rw [e]
   exact After.ret m s1)
 have he22:e2≤200:=by rw [he2]; split; exact a5; split <;> omega
 have p5:(CRS gc gr g4 36 ([]++(x.map bv++[])) sl1 s1.e ((gx,tx,(A++(Cu.fws m++Z)).toArray)::(R++N1))).Perm (CRN gc gr sl1 s1.e ((g4,36,([]++(x.map bv++[])).toArray)::((gx,tx,(A++(Cu.fws m++Z)).toArray)::(R++N1)))):=Bs
 refine Sy.region<|sp J<|sp J<|Sy.permS p5<|Sy.callT (λw hw=>Ct w0.inn gc gr sl1 s1.e a5 ((g4,36,([]++(x.map bv++[])).toArray)::((gx,tx,(A++(Cu.fws m++Z)).toArray)::(R++N1))) ok w hw) (λu M hM=>?_)
 subst hM
 rw [← he2]
 refine Sy.nil ?_
 exact Sy.retT0 J (CRS gc gr gx tx (A++(Cu.fws m++Z)) sl1 e2 (R++N1)) (λw h=>Sy.St.parts (ls:=[[(gc,134,#[.pointer none,ptr gr,.bool false])],[(gr,253,#[sl1,.int .i64 (e2:Int)])],[(g4,36,([]++(x.map bv++[])).toArray)],[(gx,tx,(A++(Cu.fws m++Z)).toArray)],R++N1]) (ms:=[[(gc,134,#[.pointer none,ptr gr,.bool false])],[(gx,tx,(A++(Cu.fws m++Z)).toArray)],[(gr,253,#[sl1,.int .i64 (e2:Int)])],R++N1]) [[(g4,36,([]++(x.map bv++[])).toArray)]] [0,3,1,4,2] kZ (by rfl) (by simp) (by simp) h) (λ_=>⟨m,⟨s1.rest,e2⟩,sl1,Cu.fws m,N1,hA2,rfl,GO m,⟨rfl,hmK⟩,he22,a6,a7,rfl⟩)
theorem So:Fw 106 50 EE C9 D1 DQ:=λw0 gc gw gx f bad s R b cs x hx _ hc hb hl w hw=>by
 obtain ⟨z,am,rg,tk,en,sc⟩:=x
 obtain ⟨vr,rfl,d1,h2,h3,h4,h5⟩:=hx
 dsimp only at d1 h2 h3 h4 h5
 unfold DQ at hl
 dsimp only at hl
 have m4:(en.map bv).length=32:=by rw [List.length_map,h4]
 have hlen:(cIS ⟨z,am,rg,tk,en,sc⟩ vr).length=50:=by simp only [cIS,cAM,List.length_append,m4,GP,Cd]; rfl
 have c0:OwnAt R gx f ([.int .i64 z]++(cAM am++([vr]++([uZ (tk:Int)]++(en.map bv++Cu.fws sc))))):=hc
 have c1:OwnAt R gx (f+1) (cAM am++([vr]++([uZ (tk:Int)]++(en.map bv++Cu.fws sc)))):=c0.right (n:=1) rfl
 have c2:OwnAt R gx (f+12) ([vr]++([uZ (tk:Int)]++(en.map bv++Cu.fws sc))):=by have q:=c1.right (n:=11) rfl; rwa [Nat.add_assoc] at q
 have c3:OwnAt R gx (f+13) ([uZ (tk:Int)]++(en.map bv++Cu.fws sc)):=c2.right (n:=1) rfl
 have c4:OwnAt R gx (f+14) (en.map bv++Cu.fws sc):=c3.right (n:=1) rfl
 have c5:OwnAt R gx (f+46) (Cu.fws sc):=by have q:=c4.right m4; rwa [Nat.add_assoc] at q
 have X0:rdC w0.inn R gx f (.int .i64 z):=(c0.at w0.inn).one
 refine Sy.enterT (args:=[ptr gc,pT gx f]) hw Tryz.func106 J kL<|sC<|sp J<|sp J<|sp J<|sP (pT gx f)<|Sy.callT (λw hw=>EX w0.inn gc gw gx f bad s R b z X0 hb om w hw) (λu M hM=>?_)
 obtain ⟨s1,bad1,b1,q1,p1,rfl⟩:=hM
 have l1:b1.length≤b.length+1:=q1.len
 refine sA<|sp J<|sp J<|sP (pT gx f)<|sS (.int .i64 z) (AK (R:=R) X0 Ba J uy3)<|sG<|Sy.block<|Sy.seq<|Sy.block ?_
 by_cases h0:z=0
 ·subst h0
  obtain ⟨A,n,cp,rfl,k2,k3,k4,k5⟩:=h2
  obtain ⟨ok,hok⟩:=xE (DL ⟨0,am,rg,tk,en,sc⟩)
  refine Sy.seq<|Sy.block<|Sy.block<|Sy.seq<|Sy.block<|Sy.seq<|Sy.seq<|sC<|sP (.bool true)<|sp J<|sG<|sT<|Sy.exit<|Sy.then_exit<|Sy.then_exit<|Sy.in_exit<|sB<|sp J<|sp J<|sp J<|sS (.agg (cIS ⟨0,am,rg,tk,en,sc⟩ (.slice A n cp)).toArray) (BQ (R:=R) (cs:=cIS ⟨0,am,rg,tk,en,sc⟩ (.slice A n cp)) (c0.at w0.inn) Ba hlen J FW)<|sS (.bool ok) (qg (λw _=>by rw [hok]; exact G9 w ⟨0,am,rg,tk,en,sc⟩ A n cp k2 d1 h3 h4 h5))<|Sy.callT (λw hw=>B2 w0.inn gc gw bad1 ok s1 R w hw) (λu M hM=>?_)
  subst hM
  refine sG<|Sy.exit<|Sy.in_pass (by decide)<|Sy.in_pass (by decide)<|Sy.then_exit<|Sy.in_pass (by decide)<|Sy.then_exit<|Sy.in_exit ?_
  have q:=(q1.then_ (Wrote.must ok bad1 b1)).le (k':=DQ ⟨0,am,rg,tk,en,sc⟩) (by unfold DQ; dsimp only; omega)
  have e:C9 ⟨0,am,rg,tk,en,sc⟩=(okO 0 && ok):=by rw [hok]; rfl
  exact Sy.retT0 J (CWS gc gw (bad1 || !ok) s1 R) (λ_ h=>h) (λ_=>⟨s1,bad1 || !ok,b1,by rw [e]; exact q,p1,rfl⟩)
 by_cases hk:z=1∨z=2
 ·refine Sy.seq ?_
  refine DN [(0,ptr gc),(1,pT gx f)] (CWS gc gw bad1 s1 R) ?_ ?_
  ·clear hl X0 c0 q1 hc hlen h0
   rcases hk with rfl|rfl
   ·refine Sy.block<|Sy.block<|Sy.seq<|Sy.block<|Sy.seq<|Sy.seq<|sC ?_
    refine sP (.bool false)<|sp J<|sG<|sU<|Sy.skip<|Sy.then_<|Sy.seq<|sC<|sP (.bool true)<|sp J<|sG<|sT<|Sy.exit<|Sy.then_exit<|Sy.then_exit<|Sy.in_pass (by decide)<|Sy.then_exit<|Sy.in_exit<|Sy.in_ ?_
    exact A_ ac2 (λ_ h=>h)
   ·refine Sy.block<|Sy.block<|Sy.seq<|Sy.block<|Sy.seq<|Sy.seq<|sC ?_
    refine sP (.bool false)<|sp J<|sG<|sU<|Sy.skip<|Sy.then_<|Sy.seq<|sC<|sP (.bool false)<|sp J<|sG<|sU<|Sy.skip<|Sy.then_<|sC<|sP (.bool true)<|sp J<|sG<|sT<|Sy.exit<|Sy.then_exit<|Sy.in_pass (by decide)<|Sy.then_exit<|Sy.in_pass (by decide)<|Sy.in_exit ?_
    exact A_ ac2 (λ_ h=>h)
  refine Sy.then_<|Sy.seq<|sC<|sp J<|sp J<|sp J<|sP (pT gx (f+1))<|Sy.callT (λw hw=>LW w0.inn gc gw gx (f+1) bad1 s1 R b1 (cAM am) am ⟨rfl,d1⟩ rfl c1.left p1 (by show _+34≤_; omega) w hw) (λu M hM=>?_)
  obtain ⟨s2,bad2,b2,q2,p2,rfl⟩:=hM
  have l2:b2.length≤b1.length+34:=q2.len
  refine sA<|sp J<|sp J<|sp J<|sP (pT gx (f+12))<|Sy.callT (λw hw=>EQ w0.inn gc gw gx (f+12) bad2 s2 R b2 rg vr 6000 dZ h2 (c2.at w0.inn).one p2 om w hw) (λu M hM=>?_)
  obtain ⟨s3,bad3,b3,q3,p3,rfl⟩:=hM
  have l3:b3.length≤b2.length+(9+rg.length):=q3.len
  refine sA<|sp J<|sp J<|sp J<|sP (pT gx (f+13))<|Sy.callT (λw hw=>Fm w0.inn gc gw gx (f+13) bad3 s3 R b3 tk h3 (c3.at w0.inn).one p3 om w hw) (λu M hM=>?_)
  obtain ⟨s4,bad4,b4,q4,p4,rfl⟩:=hM
  have l4:b4.length≤b3.length+8:=q4.len
  refine sA<|sp J<|sp J<|sp J<|sP (pT gx (f+14))<|Sy.callT (λw hw=>Cx w0.inn gc gw gx (f+14) bad4 s4 R b4 en h4 (c4.at w0.inn).left p4 om w hw) (λu M hM=>?_)
  obtain ⟨s5,bad5,b5,q5,p5,rfl⟩:=hM
  have l5:b5.length≤b4.length+32:=q5.len
  refine Sy.nil<|Sy.then_<|Sy.region<|sp J<|sp J<|sp J<|sP (pT gx (f+46))<|Sy.callT (λw hw=>Pd w0.inn gc gw gx (f+46) bad5 s5 R b5 (Cu.fws sc) sc ⟨rfl,h5⟩ rfl (c5.at w0.inn) p5 (by show _+32≤_; omega) w hw) (λu M hM=>?_)
  obtain ⟨s6,bad6,b6,q6,p6,rfl⟩:=hM
  have l6:b6.length≤b5.length+32:=q6.len
  refine Sy.nil<|Sy.then_<|Sy.exit<|Sy.in_pass (by decide)<|Sy.then_exit<|Sy.in_exit ?_
  have q:=q1.then_ (q2.then_ (q3.then_ (q4.then_ (q5.then_ q6))))
  have e1:okO z=true:=by rcases hk with rfl|rfl <;> rfl
  have e2:C9 ⟨z,am,rg,tk,en,sc⟩=JL ⟨z,am,rg,tk,en,sc⟩:=by unfold C9; rw [if_neg h0,if_pos hk]
  have e3:D1 ⟨z,am,rg,tk,en,sc⟩=[CQ z]++Ip ⟨z,am,rg,tk,en,sc⟩:=by unfold D1; rw [if_neg h0]
  rw [e1,Bool.true_and,Bool.true_and,Bool.true_and] at q
  exact Sy.retT0 J (CWS gc gw bad6 s6 R) (λ_ h=>h) (λ_=>⟨s6,bad6,b6,by rw [e2,e3]; exact q,p6,rfl⟩)
 refine Sy.seq<|Sy.block<|Sy.block<|Sy.seq<|Sy.block<|Sy.seq<|Sy.seq<|sC<|sS (.bool false) (Quiet.pure (AE .eql _ _ _ .i64 _ _ _ J J J (Aa _ _ _ _ _ (decide_eq_false (λe=>h0 e)))))<|sp J<|sG<|sU<|Sy.skip<|Sy.then_<|Sy.seq<|sC<|sS (.bool false) (Quiet.pure (AE .eql _ _ _ .i64 _ _ _ J J J (Aa _ _ _ _ _ (decide_eq_false (λe=>hk (.inl e))))))<|sp J<|sG<|sU<|Sy.skip<|Sy.then_<|sC<|sS (.bool false) (Quiet.pure (AE .eql _ _ _ .i64 _ _ _ J J J (Aa _ _ _ _ _ (decide_eq_false (λe=>hk (.inr e))))))<|sp J<|sG<|sU<|Sy.skip<|Sy.then_<|Sy.exit<|Sy.in_pass (by decide)<|Sy.then_exit<|Sy.in_pass (by decide)<|Sy.in_pass dZ ?_
 refine Sy.then_exit<|Sy.in_exit<|sB<|sp J<|Sy.callT (λw hw=>B2 w0.inn gc gw bad1 false s1 R w hw) (λu M hM=>?_)
 subst hM
 refine sG<|Sy.exit<|Sy.in_exit ?_
 have hno:C9 ⟨z,am,rg,tk,en,sc⟩=false:=by unfold C9; rw [if_neg h0,if_neg hk]
 exact Sy.retT0 J (CWS gc gw (bad1 || !false) s1 R) (λ_ h=>h) (λ_=>⟨s1,bad1 || !false,b1,⟨by rw [hno]; cases bad1 <;> cases bad <;> rfl,λh=>(by cases bad1 <;> cases h),by unfold DQ; dsimp only; omega⟩,p1,rfl⟩)
theorem SW:DL zIS=true:=dZ
theorem JR:zAM.value<18446744073709551616∧zAM.pt.x<Cu.K4∧zAM.pt.y<Cu.K4:=⟨(show (0:Nat)<18446744073709551616 by decide),(show 0<Cu.K4 by decide),(show 0<Cu.K4 by decide)⟩
theorem Sq:B7 106 50 ([Value.int .i64 0]++(([Value.bool false]++([Value.int .u64 0]++lPT ⟨0,0,false⟩))++([Value.slice none 0 0]++([Value.int .u64 0]++(Z32++(Cu.fws 0)))))) EE He:=λw0 gc gr gx f tx A Z sl s R S hS hA he hl hv w hw=>by
 refine Sy.enterT (args:=[ptr gc,pT gx f]) hw Tryz.func106 J kL<|sC<|sp J<|sp J<|sp J<|sP (pT gx f)<|Sy.callT (λw hw=>E_ w0.inn gc gr gx f tx A (([Value.bool false]++([Value.int .u64 0]++lPT ⟨0,0,false⟩))++([Value.slice none 0 0]++([Value.int .u64 0]++(Z32++(Cu.fws 0++Z))))) sl s R S hS hA he hl hv w (by simpa only [List.append_assoc] using hw)) (λu M hM=>?_)
 obtain ⟨x1,s1,sl1,cs1,N1,a1,n1,o1,rfl,e1,h1,y1,rfl⟩:=hM
 have g1:s1.rest.length≤s.rest.length:=h1
 have A1:(A++[Value.int .i64 x1]).length=f+1:=by rw [List.length_append,hA,n1]
 refine sA<|sp J<|sp J<|sP (pT gx f)<|sS (.int .i64 x1) (Quiet.cell 1 gx f tx 3 (A++([Value.int .i64 x1]++(([Value.bool false]++([Value.int .u64 0]++lPT ⟨0,0,false⟩))++([Value.slice none 0 0]++([Value.int .u64 0]++(Z32++(Cu.fws 0++Z))))))).toArray _ _ J kR J uy3 J _ (by rw [List.getElem?_toArray,List.getElem?_append_right om,hA,Nat.sub_self]; rfl)) ?_
 refine sG<|Sy.block<|Sy.seq<|Sy.block ?_
 have hrp1:∀ N,EE (rdB N) ([Value.int .i64 x1]++(([Value.bool false]++([Value.int .u64 0]++lPT ⟨0,0,false⟩))++([Value.slice none 0 0]++([Value.int .u64 0]++(Z32++(Cu.fws 0)))))) ⟨x1,zAM,[],0,z32,0⟩:=λN=>⟨_,rfl,JR,BytR.nil _,(show (0:Nat)<18446744073709551616 by decide),rfl,(show 0<Cu.K4 by decide)⟩
 have hcs:A++(([Value.int .i64 x1]++(([Value.bool false]++([Value.int .u64 0]++lPT ⟨0,0,false⟩))++([Value.slice none 0 0]++([Value.int .u64 0]++(Z32++(Cu.fws 0))))))++Z)=(A++([Value.int .i64 x1]++(([Value.bool false]++([Value.int .u64 0]++lPT ⟨0,0,false⟩))++([Value.slice none 0 0]++([Value.int .u64 0]++(Z32++(Cu.fws 0++Z))))))):=by simp only [List.append_assoc]
 have p5:(CRS gc gr gx tx (A++([Value.int .i64 x1]++(([Value.bool false]++([Value.int .u64 0]++lPT ⟨0,0,false⟩))++([Value.slice none 0 0]++([Value.int .u64 0]++(Z32++(Cu.fws 0++Z))))))) sl1 s1.e (R++N1)).Perm (CRN gc gr sl1 s1.e ((gx,tx,(A++([Value.int .i64 x1]++(([Value.bool false]++([Value.int .u64 0]++lPT ⟨0,0,false⟩))++([Value.slice none 0 0]++([Value.int .u64 0]++(Z32++(Cu.fws 0++Z))))))).toArray)::(R++N1))):=Bs
 by_cases h0:x1=0
 ·subst h0
  refine Sy.seq<|Sy.block<|Sy.block<|Sy.seq<|Sy.block<|Sy.seq<|Sy.seq<|sC<|sP (.bool true)<|sp J<|sG<|sT<|Sy.exit<|Sy.then_exit<|Sy.then_exit<|Sy.in_exit<|sB<|sp J<|sp J<|sp J<|sS (.agg (([Value.int .i64 0]++(([Value.bool false]++([Value.int .u64 0]++lPT ⟨0,0,false⟩))++([Value.slice none 0 0]++([Value.int .u64 0]++(Z32++(Cu.fws 0))))))).toArray) (Quiet.mid 1 gx f 50 tx 145 (A++([Value.int .i64 0]++(([Value.bool false]++([Value.int .u64 0]++lPT ⟨0,0,false⟩))++([Value.slice none 0 0]++([Value.int .u64 0]++(Z32++(Cu.fws 0++Z))))))) ([Value.int .i64 0]++(([Value.bool false]++([Value.int .u64 0]++lPT ⟨0,0,false⟩))++([Value.slice none 0 0]++([Value.int .u64 0]++(Z32++(Cu.fws 0)))))) _ _ J kR J FW J kR (by rw [← hcs]; exact Cc hA J) (by rw [← hcs,List.length_append,List.length_append,hA]; show f+50≤f+(50+_); omega))<|sS (.bool true) (qg (λw _=>by have q:=G9 w zIS none 0 0 J JR (show (0:Nat)<18446744073709551616 by decide) rfl (show 0<Cu.K4 by decide); rw [SW] at q; exact q))<|Sy.permS p5<|Sy.callT (λw hw=>Ct w0.inn gc gr sl1 s1.e e1 ((gx,tx,(A++([Value.int .i64 0]++(([Value.bool false]++([Value.int .u64 0]++lPT ⟨0,0,false⟩))++([Value.slice none 0 0]++([Value.int .u64 0]++(Z32++(Cu.fws 0++Z))))))).toArray)::(R++N1)) true w hw) (λu M hM=>?_)
  subst hM
  rw [if_pos J]
  refine Sy.permS (M:=CRS gc gr gx tx (A++([Value.int .i64 0]++(([Value.bool false]++([Value.int .u64 0]++lPT ⟨0,0,false⟩))++([Value.slice none 0 0]++([Value.int .u64 0]++(Z32++(Cu.fws 0++Z))))))) sl1 s1.e (R++N1)) Bs<|sG<|Sy.exit<|Sy.in_pass (by decide)<|Sy.in_pass (by decide)<|Sy.then_exit<|Sy.in_pass (by decide)<|Sy.then_exit<|Sy.in_exit ?_
  have hAf:After He s ⟨0,zAM,[],0,z32,0⟩ s1:=by
   have q:After (AH CH λk=>if k=0 then BF zIS else AH (BH (decide (k=1∨k=2))) λ_=>K8 k) s zIS s1:=a1.bind (by rw [if_pos J]; exact After.ret _ _)
   exact q
  exact Sy.retT0 J (CRS gc gr gx tx (A++(([Value.int .i64 0]++(([Value.bool false]++([Value.int .u64 0]++lPT ⟨0,0,false⟩))++([Value.slice none 0 0]++([Value.int .u64 0]++(Z32++(Cu.fws 0))))))++Z)) sl1 s1.e (R++N1)) (λ_ h=>by rw [hcs]; exact h) (λ_=>⟨_,s1,sl1,_,N1,hAf,rfl,GF (hrp1 N1),hrp1 N1,e1,h1,y1,rfl⟩)
 by_cases hk:x1=1∨x1=2
 ·refine Sy.seq ?_
  refine DN [(0,ptr gc),(1,pT gx f)] (CRS gc gr gx tx (A++([Value.int .i64 x1]++(([Value.bool false]++([Value.int .u64 0]++lPT ⟨0,0,false⟩))++([Value.slice none 0 0]++([Value.int .u64 0]++(Z32++(Cu.fws 0++Z))))))) sl1 s1.e (R++N1)) ?_ ?_
  ·clear a1 n1 o1 A1 h0 hrp1 hcs p5
   rcases hk with rfl|rfl
   ·refine Sy.block<|Sy.block<|Sy.seq<|Sy.block<|Sy.seq<|Sy.seq<|sC ?_
    refine sP (.bool false)<|sp J<|sG<|sU<|Sy.skip<|Sy.then_<|Sy.seq<|sC<|sP (.bool true)<|sp J<|sG<|sT<|Sy.exit<|Sy.then_exit<|Sy.then_exit<|Sy.in_pass (by decide)<|Sy.then_exit<|Sy.in_exit<|Sy.in_ ?_
    exact A_ ac2 (λ_ h=>h)
   ·refine Sy.block<|Sy.block<|Sy.seq<|Sy.block<|Sy.seq<|Sy.seq<|sC ?_
    refine sP (.bool false)<|sp J<|sG<|sU<|Sy.skip<|Sy.then_<|Sy.seq<|sC<|sP (.bool false)<|sp J<|sG<|sU<|Sy.skip<|Sy.then_<|sC<|sP (.bool true)<|sp J<|sG<|sT<|Sy.exit<|Sy.then_exit<|Sy.in_pass (by decide)<|Sy.then_exit<|Sy.in_pass (by decide)<|Sy.in_exit ?_
    exact A_ ac2 (λ_ h=>h)
  refine Sy.then_<|Sy.seq<|sC<|sp J<|sp J<|sp J<|sP (pT gx (f+1))<|Sy.callT (λw hw=>LX w0.inn gc gr gx (f+1) tx (A++[Value.int .i64 x1]) ([Value.slice none 0 0]++([Value.int .u64 0]++(Z32++(Cu.fws 0++Z)))) sl1 s1 (R++N1) S (λb h=>List.mem_append_left _ (hS b h)) A1 e1 (Nat.le_trans g1 hl) y1 w (by have e:A++[Value.int .i64 x1]++(([Value.bool false]++([Value.int .u64 0]++lPT ⟨0,0,false⟩))++([Value.slice none 0 0]++([Value.int .u64 0]++(Z32++(Cu.fws 0++Z)))))=A++([Value.int .i64 x1]++(([Value.bool false]++([Value.int .u64 0]++lPT ⟨0,0,false⟩))++([Value.slice none 0 0]++([Value.int .u64 0]++(Z32++(Cu.fws 0++Z)))))):=List.append_assoc ..; rw [e]; exact hw)) (λu M hM=>?_)
  obtain ⟨x2,s2,sl2,cs2,N2,a2,n2,o2,⟨rfl,r2⟩,e2,h2,y2,rfl⟩:=hM
  have g2:s2.rest.length≤s.rest.length:=Nat.le_trans h2 g1
  have A2:(A++[Value.int .i64 x1]++(cAM x2)).length=f+12:=by rw [List.length_append,A1,n2]
  refine sA<|sp J<|sp J<|sp J<|sP (pT gx (f+12))<|Sy.callT (λw hw=>ER 6000 dZ w0.inn gc gr gx (f+12) tx (A++[Value.int .i64 x1]++(cAM x2)) ([Value.int .u64 0]++(Z32++(Cu.fws 0++Z))) sl2 s2 (R++N1++N2) S (λb h=>List.mem_append_left _ (List.mem_append_left _ (hS b h))) A2 e2 (Nat.le_trans g2 hl) y2 w (by have e:A++[Value.int .i64 x1]++(cAM x2)++([Value.slice none 0 0]++([Value.int .u64 0]++(Z32++(Cu.fws 0++Z))))=A++[Value.int .i64 x1]++(cAM x2++([Value.slice none 0 0]++([Value.int .u64 0]++(Z32++(Cu.fws 0++Z))))):=List.append_assoc ..; rw [e]; exact hw)) (λu M hM=>?_)
  obtain ⟨x3,s3,sl3,cs3,N3,a3,n3,o3,⟨v3,rfl,r3⟩,e3,h3,y3,rfl⟩:=hM
  have g3:s3.rest.length≤s.rest.length:=Nat.le_trans h3 g2
  have A3:(A++[Value.int .i64 x1]++(cAM x2)++[v3]).length=f+13:=by rw [List.length_append,A2,n3]
  refine sA<|sp J<|sp J<|sp J<|sP (pT gx (f+13))<|Sy.callT (λw hw=>Fo w0.inn gc gr gx (f+13) tx (A++[Value.int .i64 x1]++(cAM x2)++[v3]) (Z32++(Cu.fws 0++Z)) sl3 s3 (R++N1++N2++N3) S (λb h=>List.mem_append_left _ (List.mem_append_left _ (List.mem_append_left _ (hS b h)))) A3 e3 (Nat.le_trans g3 hl) y3 w (by have e:A++[Value.int .i64 x1]++(cAM x2)++[v3]++([Value.int .u64 0]++(Z32++(Cu.fws 0++Z)))=A++[Value.int .i64 x1]++(cAM x2)++([v3]++([Value.int .u64 0]++(Z32++(Cu.fws 0++Z)))):=List.append_assoc ..; rw [e]; exact hw)) (λu M hM=>?_)
  obtain ⟨x4,s4,sl4,cs4,N4,a4,n4,o4,⟨rfl,r4⟩,e4,h4,y4,rfl⟩:=hM
  have g4:s4.rest.length≤s.rest.length:=Nat.le_trans h4 g3
  have A4:(A++[Value.int .i64 x1]++(cAM x2)++[v3]++[Value.int .u64 (x4:Int)]).length=f+14:=by rw [List.length_append,A3,n4]
  refine sA<|sp J<|sp J<|sp J<|sP (pT gx (f+14))<|Sy.callT (λw hw=>Cy w0.inn gc gr gx (f+14) tx (A++[Value.int .i64 x1]++(cAM x2)++[v3]++[Value.int .u64 (x4:Int)]) (Cu.fws 0++Z) sl4 s4 (R++N1++N2++N3++N4) S (λb h=>List.mem_append_left _ (List.mem_append_left _ (List.mem_append_left _ (List.mem_append_left _ (hS b h))))) A4 e4 (Nat.le_trans g4 hl) y4 w (by have e:A++[Value.int .i64 x1]++(cAM x2)++[v3]++[Value.int .u64 (x4:Int)]++(Z32++(Cu.fws 0++Z))=A++[Value.int .i64 x1]++(cAM x2)++[v3]++([Value.int .u64 (x4:Int)]++(Z32++(Cu.fws 0++Z))):=List.append_assoc ..; rw [e]; exact hw)) (λu M hM=>?_)
  obtain ⟨x5,s5,sl5,cs5,N5,a5,n5,o5,⟨rfl,r5⟩,e5,h5,y5,rfl⟩:=hM
  have g5:s5.rest.length≤s.rest.length:=Nat.le_trans h5 g4
  have A5:(A++[Value.int .i64 x1]++(cAM x2)++[v3]++[Value.int .u64 (x4:Int)]++(x5.map bv)).length=f+46:=by rw [List.length_append,A4,n5]
  refine Sy.nil<|Sy.then_<|Sy.region<|sp J<|sp J<|sp J<|sP (pT gx (f+46))<|Sy.callT (λw hw=>Pe w0.inn gc gr gx (f+46) tx (A++[Value.int .i64 x1]++(cAM x2)++[v3]++[Value.int .u64 (x4:Int)]++(x5.map bv)) Z sl5 s5 (R++N1++N2++N3++N4++N5) S (λb h=>List.mem_append_left _ (List.mem_append_left _ (List.mem_append_left _ (List.mem_append_left _ (List.mem_append_left _ (hS b h)))))) A5 e5 (Nat.le_trans g5 hl) y5 w (by have e:A++[Value.int .i64 x1]++(cAM x2)++[v3]++[Value.int .u64 (x4:Int)]++(x5.map bv)++(Cu.fws 0++(Z))=A++[Value.int .i64 x1]++(cAM x2)++[v3]++[Value.int .u64 (x4:Int)]++(x5.map bv++(Cu.fws 0++(Z))):=List.append_assoc ..; rw [e]; exact hw)) (λu M hM=>?_)
  obtain ⟨x6,s6,sl6,cs6,N6,a6,n6,o6,⟨rfl,r6⟩,e6,h6,y6,rfl⟩:=hM
  have g6:s6.rest.length≤s.rest.length:=Nat.le_trans h6 g5
  have A6:(A++[Value.int .i64 x1]++(cAM x2)++[v3]++[Value.int .u64 (x4:Int)]++(x5.map bv)++(Cu.fws x6)).length=f+50:=by rw [List.length_append,A5,n6]
  refine Sy.nil<|Sy.then_<|Sy.exit<|Sy.in_pass (by decide)<|Sy.then_exit<|Sy.in_exit ?_
  have hAf:After He s ⟨x1,x2,x3,x4,x5,x6⟩ s6:=a1.bind (by
   rw [if_neg h0]
   exact After.mustY (decide_eq_true hk) (a2.bind (a3.bind (a4.bind (a5.bind (a6.bind (After.ret _ _)))))))
  have hRp:EE (rdB (N1++(N2++(N3++(N4++(N5++N6)))))) ([Value.int .i64 x1]++(cAM x2++([v3]++([Value.int .u64 (x4:Int)]++(x5.map bv++(Cu.fws x6)))))) ⟨x1,x2,x3,x4,x5,x6⟩:=⟨v3,rfl,r2,r3.le (AV λb h=>by simp [h]),r4,r5,r6⟩
  exact Sy.retT0 J (CRS gc gr gx tx (A++(([Value.int .i64 x1]++(cAM x2++([v3]++([Value.int .u64 (x4:Int)]++(x5.map bv++(Cu.fws x6))))))++Z)) sl6 s6.e (R++(N1++(N2++(N3++(N4++(N5++N6))))))) (λ_ h=>by simpa only [List.append_assoc,List.cons_append,List.nil_append] using h) (λ_=>⟨_,s6,sl6,_,_,hAf,NN hRp,GF hRp,hRp,e6,g6,y6,rfl⟩)
 refine Sy.seq<|Sy.block<|Sy.block<|Sy.seq<|Sy.block<|Sy.seq<|Sy.seq<|sC<|sS (.bool false) (Quiet.pure (AE .eql _ _ _ .i64 _ _ _ J J J (Aa _ _ _ _ _ (decide_eq_false (λe=>h0 e)))))<|sp J<|sG<|sU<|Sy.skip<|Sy.then_<|Sy.seq<|sC<|sS (.bool false) (Quiet.pure (AE .eql _ _ _ .i64 _ _ _ J J J (Aa _ _ _ _ _ (decide_eq_false (λe=>hk (.inl e))))))<|sp J<|sG<|sU<|Sy.skip<|Sy.then_<|sC<|sS (.bool false) (Quiet.pure (AE .eql _ _ _ .i64 _ _ _ J J J (Aa _ _ _ _ _ (decide_eq_false (λe=>hk (.inr e))))))<|sp J<|sG<|sU<|Sy.skip<|Sy.then_<|Sy.exit<|Sy.in_pass (by decide)<|Sy.then_exit<|Sy.in_pass (by decide)<|Sy.in_pass dZ ?_
 refine Sy.then_exit<|Sy.in_exit<|sB<|sp J<|Sy.permS p5<|Sy.callT (λw hw=>Ct w0.inn gc gr sl1 s1.e e1 ((gx,tx,(A++([Value.int .i64 x1]++(([Value.bool false]++([Value.int .u64 0]++lPT ⟨0,0,false⟩))++([Value.slice none 0 0]++([Value.int .u64 0]++(Z32++(Cu.fws 0++Z))))))).toArray)::(R++N1)) false w hw) (λu M hM=>?_)
 subst hM
 obtain ⟨e2,he2⟩:=xE (if false=true then s1.e else if s1.e=0 then 120 else s1.e)
 rw [← he2]
 rw [if_neg dZ] at he2
 have he3:e2≠0:=by rw [he2]; split <;> omega
 have he4:e2≤200:=by rw [he2]; split <;> omega
 refine sG<|Sy.exit<|Sy.in_exit ?_
 have p6:(CRN gc gr sl1 e2 ((gx,tx,(A++([Value.int .i64 x1]++(([Value.bool false]++([Value.int .u64 0]++lPT ⟨0,0,false⟩))++([Value.slice none 0 0]++([Value.int .u64 0]++(Z32++(Cu.fws 0++Z))))))).toArray)::(R++N1))).Perm (CRS gc gr gx tx (A++([Value.int .i64 x1]++(([Value.bool false]++([Value.int .u64 0]++lPT ⟨0,0,false⟩))++([Value.slice none 0 0]++([Value.int .u64 0]++(Z32++(Cu.fws 0++Z))))))) sl1 e2 (R++N1)):=Bs
 have hAf:After He s ⟨x1,zAM,[],0,z32,0⟩ ⟨s1.rest,e2⟩:=a1.bind (by rw [if_neg h0,decide_eq_false hk]; exact After.mustX _ _ he3)
 exact Sy.retT0 J (CRS gc gr gx tx (A++(([Value.int .i64 x1]++(([Value.bool false]++([Value.int .u64 0]++lPT ⟨0,0,false⟩))++([Value.slice none 0 0]++([Value.int .u64 0]++(Z32++(Cu.fws 0))))))++Z)) sl1 e2 (R++N1)) (λ_ h=>by rw [hcs]; exact h.perm p6) (λ_=>⟨_,⟨s1.rest,e2⟩,sl1,_,N1,hAf,rfl,GF (hrp1 N1),hrp1 N1,he4,h1,y1,rfl⟩)
theorem SS {z:Int} (h:GG z=true):okO z=true:=by
 unfold GG at h; unfold okO
 rw [Bool.and_eq_true,decide_eq_true_eq,decide_eq_true_eq] at h ⊢
 omega
theorem WU:Fw 61 122 CY FT D2 Dp:=λw0 gc gw gx f bad s R b cs x hx _ hc hb hl w hw=>by
 obtain ⟨z,pt,ix,iss,pg,wi⟩:=x
 obtain ⟨ci,cg,vw,rfl,h1,h2,h3,h4,h5⟩:=hx
 dsimp only at h1 h2 h3 h4 h5
 unfold Dp at hl
 dsimp only at hl
 have m1:(pt.map bv++[Value.int .u32 (ix:Int)]).length=33:=by rw [List.length_append,List.length_map,h1]; rfl
 have m3:=NN h3
 have m4:=Qn h4
 have c0:OwnAt R gx f ([.int .i64 z]++((pt.map bv++[.int .u32 (ix:Int)])++(ci++(cg++[vw])))):=hc
 have c1:OwnAt R gx (f+1) ((pt.map bv++[.int .u32 (ix:Int)])++(ci++(cg++[vw]))):=c0.right (n:=1) rfl
 have c2:OwnAt R gx (f+34) (ci++(cg++[vw])):=by have q:=c1.right m1; rwa [Nat.add_assoc] at q
 have c4:OwnAt R gx (f+84) (cg++[vw]):=by have q:=c2.right m3; rwa [Nat.add_assoc] at q
 have c5:OwnAt R gx (f+121) [vw]:=by have q:=c4.right m4; rwa [Nat.add_assoc] at q
 have X0:rdC w0.inn R gx f (.int .i64 z):=(c0.at w0.inn).one
 refine Sy.enterT (args:=[ptr gc,pT gx f]) hw Tryz.func61 J kL<|sC<|sp J<|sp J<|sp J<|sP (pT gx f)<|Sy.callT (λw hw=>EX w0.inn gc gw gx f bad s R b z X0 hb om w hw) (λu M hM=>?_)
 obtain ⟨s1,bad1,b1,q1,p1,rfl⟩:=hM
 have l1:b1.length≤b.length+1:=q1.len
 refine sA<|sp J<|sp J<|sp J<|sP (pT gx (f+1))<|Sy.callT (λw hw=>Ls w0.inn gc gw gx (f+1) bad1 s1 R b1 _ (pt,ix) ⟨rfl,h1,h2⟩ m1 (c1.left.at w0.inn) p1 (by show _+36≤_; omega) w hw) (λu M hM=>?_)
 obtain ⟨s2,bad2,b2,q2,p2,rfl⟩:=hM
 have l2:b2.length≤b1.length+36:=q2.len
 refine sA<|sp J<|sp J<|sp J<|sP (pT gx (f+34))<|Sy.callT (λw hw=>So w0.inn gc gw gx (f+34) bad2 s2 R b2 ci iss h3 m3 c2.left p2 om w hw) (λu M hM=>?_)
 obtain ⟨s3,bad3,b3,q3,p3,rfl⟩:=hM
 have l3:b3.length≤b2.length+DQ iss:=q3.len
 refine sG<|Sy.seq<|sC<|sp J<|sp J<|sP (pT gx f)<|sS (.int .i64 z) (AK (R:=R) X0 Ba J uy3)<|sG<|Sy.block<|sC ?_
 have fine:∀ (okP:Bool) (eP:Byt) (bad4 bad5:Bool) (b4 b5:Byt),GG z=true→FT ⟨z,pt,ix,iss,pg,wi⟩=(C9 iss && (okP && okW wi))→D2 ⟨z,pt,ix,iss,pg,wi⟩=[CQ z]++(pt++(nb 4 ix++(D1 iss++(eP++G0 D_ wi))))→Wrote okP eP (Ek pg) bad3 b3 bad4 b4→Wrote (okW wi) (G0 D_ wi) (9+(wi.map wtT).sum) bad4 b4 bad5 b5→Wrote (FT ⟨z,pt,ix,iss,pg,wi⟩) (D2 ⟨z,pt,ix,iss,pg,wi⟩) (Dp ⟨z,pt,ix,iss,pg,wi⟩) bad b bad5 b5:=λokP eP bad4 bad5 b4 b5 hk e1 e2 g4 g5=>by
  have q:=q1.then_ (q2.then_ (q3.then_ (g4.then_ g5)))
  rw [SS hk,Bool.true_and,Bool.true_and] at q
  rw [e1,e2]
  unfold Nd at q
  simp only [List.append_assoc] at q ⊢
  exact q
 by_cases hk1:z=1
 ·subst hk1
  obtain ⟨vt,vp,vs,rfl,d1,⟨A1,n1,k1,rfl,e1,_⟩,d3,d4,⟨A2,n2,k2,rfl,e2,_⟩,⟨A3,n3,k3,rfl,e3,_⟩⟩:=h4
  obtain ⟨ok,hok⟩:=xE (DU pg)
  refine sP (.bool true)<|sp J<|sG<|sT<|Sy.region<|sp J<|sp J<|sp J<|sP (pT gx (f+84))<|sS (.agg (cPG pg (.slice A1 n1 k1) (.slice A2 n2 k2) (.slice A3 n3 k3)).toArray) (BQ (R:=R) (cs:=cPG pg (.slice A1 n1 k1) (.slice A2 n2 k2) (.slice A3 n3 k3)) (c4.left.at w0.inn) Ba m4 J Hz)<|sS (.bool ok) (qg (λw _=>by rw [hok]; exact JH w pg A1 A2 A3 n1 k1 n2 k2 n3 k3 e1 e2 e3 d1))<|Sy.callT (λw hw=>B2 w0.inn gc gw bad3 ok s3 R w hw) (λu M hM=>?_)
  subst hM
  refine Sy.nil<|Sy.in_<|Sy.then_<|Sy.region<|sp J<|sp J<|sp J<|sP (pT gx (f+121))<|Sy.callT (λw hw=>Fq (rep:=DX) IOz Cv Ge w0.inn gc gw gx (f+121) 16 dZ (bad3 || !ok) s3 R b3 vw wi h5 (c5.at w0.inn).one p3 om w hw) (λu M hM=>?_)
  obtain ⟨s5,bad5,b5,q5,p5,rfl⟩:=hM
  refine Sy.nil ?_
  exact Sy.retT0 J (CWS gc gw bad5 s5 R) (λ_ h=>h) (λ_=>⟨s5,bad5,b5,fine ok [] (bad3 || !ok) bad5 b3 b5 J (by rw [hok]; rfl) (by unfold D2; rfl) ((Wrote.must ok bad3 b3).le (Nat.zero_le _)) q5,p5,rfl⟩)
 refine sS (.bool false) (Quiet.pure (AE .eql _ _ _ .i64 _ _ _ J J J (Aa _ _ _ _ _ (decide_eq_false hk1))))<|sp J<|sG<|sU<|sC ?_
 by_cases hk2:z=2
 ·subst hk2
  refine sP (.bool true)<|sp J<|sG<|sT<|Sy.region<|sp J<|sp J<|sp J<|sP (pT gx (f+84))<|Sy.callT (λw hw=>VR w0.inn gc gw gx (f+84) bad3 s3 R b3 cg pg h4 m4 (c4.left.at w0.inn) p3 om w hw) (λu M hM=>?_)
  obtain ⟨s4,bad4,b4,q4,p4,rfl⟩:=hM
  have l4:b4.length≤b3.length+Ek pg:=q4.len
  refine Sy.nil<|Sy.in_<|Sy.then_<|Sy.region<|sp J<|sp J<|sp J<|sP (pT gx (f+121))<|Sy.callT (λw hw=>Fq (rep:=DX) IOz Cv Ge w0.inn gc gw gx (f+121) 16 dZ bad4 s4 R b4 vw wi h5 (c5.at w0.inn).one p4 om w hw) (λu M hM=>?_)
  obtain ⟨s5,bad5,b5,q5,p5,rfl⟩:=hM
  refine Sy.nil ?_
  exact Sy.retT0 J (CWS gc gw bad5 s5 R) (λ_ h=>h) (λ_=>⟨s5,bad5,b5,fine (IP pg) (GS pg) bad4 bad5 b4 b5 J J (by unfold D2; rfl) q4 q5,p5,rfl⟩)
 have hno:FT ⟨z,pt,ix,iss,pg,wi⟩=false:=by
  unfold FT
  dsimp only
  rw [NG (λh=>h.elim hk1 hk2)]; rfl
 refine sS (.bool false) (Quiet.pure (AE .eql _ _ _ .i64 _ _ _ J J J (Aa _ _ _ _ _ (decide_eq_false hk2))))<|sp J<|sG<|sU<|Sy.region<|sp J<|Sy.callT (λw hw=>B2 w0.inn gc gw bad3 false s3 R w hw) (λu M hM=>?_)
 subst hM
 refine Sy.nil<|Sy.in_<|Sy.then_<|Sy.region<|sp J<|sp J<|sp J<|sP (pT gx (f+121))<|Sy.callT (λw hw=>Fq (rep:=DX) IOz Cv Ge w0.inn gc gw gx (f+121) 16 dZ (bad3 || !false) s3 R b3 vw wi h5 (c5.at w0.inn).one p3 om w hw) (λu M hM=>?_)
 obtain ⟨s5,bad5,b5,q5,p5,rfl⟩:=hM
 refine Sy.nil ?_
 have qb:=q5.bad
 have ql:=q5.len
 have hbt:bad5=true:=by rw [qb]; cases bad3 <;> rfl
 exact Sy.retT0 J (CWS gc gw bad5 s5 R) (λ_ h=>h) (λ_=>⟨s5,bad5,b5,⟨by rw [hno,hbt]; cases bad <;> rfl,λh=>(by rw [hbt] at h; cases h),by unfold Dp; dsimp only; omega⟩,p5,rfl⟩)
theorem Qe {A v Z:List Value} {f k:Nat} (hA:A.length=f) (hv:v.length=k):f+k≤(A++(v++Z)).length:=by rw [List.length_append,List.length_append,hA,hv]; omega
theorem SV:DU zPG=true:=dZ
theorem Hf (C:Rdr):ED C (Z32++([Value.slice none 0 0]++([Value.int .u32 0]++([Value.int .u32 0]++([Value.slice none 0 0]++([Value.slice none 0 0])))))) zPG:=⟨_,_,_,rfl,rfl,BytR.nil _,(show (0:Nat)<4294967296 by decide),(show (0:Nat)<4294967296 by decide),⟨none,0,0,rfl,rfl,Nat.le_refl _,Nat.zero_le _,λh=>(h J).elim⟩,BytR.nil _⟩
theorem WV:B7 61 122 ([Value.int .i64 0]++((Z32++([Value.int .u32 0]))++(([Value.int .i64 0]++(([Value.bool false]++([Value.int .u64 0]++lPT ⟨0,0,false⟩))++([Value.slice none 0 0]++([Value.int .u64 0]++(Z32++(Cu.fws 0))))))++((Z32++([Value.slice none 0 0]++([Value.int .u32 0]++([Value.int .u32 0]++([Value.slice none 0 0]++([Value.slice none 0 0]))))))++([Value.slice none 0 0]))))) CY Ej:=λw0 gc gr gx f tx A Z sl s R S hS hA he hl hv w hw=>by
 refine Sy.enterT (args:=[ptr gc,pT gx f]) hw Tryz.func61 J kL<|sC<|sp J<|sp J<|sp J<|sP (pT gx f)<|Sy.callT (λw hw=>E_ w0.inn gc gr gx f tx A ((Z32++([Value.int .u32 0]))++(([Value.int .i64 0]++(([Value.bool false]++([Value.int .u64 0]++lPT ⟨0,0,false⟩))++([Value.slice none 0 0]++([Value.int .u64 0]++(Z32++(Cu.fws 0))))))++((Z32++([Value.slice none 0 0]++([Value.int .u32 0]++([Value.int .u32 0]++([Value.slice none 0 0]++([Value.slice none 0 0]))))))++([Value.slice none 0 0]++Z)))) sl s R S hS hA he hl hv w (by simpa only [List.append_assoc] using hw)) (λu M hM=>?_)
 obtain ⟨x1,s1,sl1,cs1,N1,a1,n1,o1,rfl,e1,h1,y1,rfl⟩:=hM
 have g1:s1.rest.length≤s.rest.length:=h1
 have A1:(A++[Value.int .i64 x1]).length=f+1:=by rw [List.length_append,hA,n1]
 refine sA<|sp J<|sp J<|sp J<|sP (pT gx (f+1))<|Sy.callT (λw hw=>Lt w0.inn gc gr gx (f+1) tx (A++[Value.int .i64 x1]) (([Value.int .i64 0]++(([Value.bool false]++([Value.int .u64 0]++lPT ⟨0,0,false⟩))++([Value.slice none 0 0]++([Value.int .u64 0]++(Z32++(Cu.fws 0))))))++((Z32++([Value.slice none 0 0]++([Value.int .u32 0]++([Value.int .u32 0]++([Value.slice none 0 0]++([Value.slice none 0 0]))))))++([Value.slice none 0 0]++Z))) sl1 s1 (R++N1) S (λb h=>List.mem_append_left _ (hS b h)) A1 e1 (Nat.le_trans g1 hl) y1 w (by have e:A++[Value.int .i64 x1]++((Z32++([Value.int .u32 0]))++(([Value.int .i64 0]++(([Value.bool false]++([Value.int .u64 0]++lPT ⟨0,0,false⟩))++([Value.slice none 0 0]++([Value.int .u64 0]++(Z32++(Cu.fws 0))))))++((Z32++([Value.slice none 0 0]++([Value.int .u32 0]++([Value.int .u32 0]++([Value.slice none 0 0]++([Value.slice none 0 0]))))))++([Value.slice none 0 0]++Z))))=A++([Value.int .i64 x1]++((Z32++([Value.int .u32 0]))++(([Value.int .i64 0]++(([Value.bool false]++([Value.int .u64 0]++lPT ⟨0,0,false⟩))++([Value.slice none 0 0]++([Value.int .u64 0]++(Z32++(Cu.fws 0))))))++((Z32++([Value.slice none 0 0]++([Value.int .u32 0]++([Value.int .u32 0]++([Value.slice none 0 0]++([Value.slice none 0 0]))))))++([Value.slice none 0 0]++Z))))):=List.append_assoc ..; rw [e]; exact hw)) (λu M hM=>?_)
 obtain ⟨x2,s2,sl2,cs2,N2,a2,n2,o2,⟨rfl,r2a,r2b⟩,e2,h2,y2,rfl⟩:=hM
 have g2:s2.rest.length≤s.rest.length:=Nat.le_trans h2 g1
 have A2:(A++[Value.int .i64 x1]++(x2.1.map bv++[Value.int .u32 (x2.2:Int)])).length=f+34:=by rw [List.length_append,A1,n2]
 refine sA<|sp J<|sp J<|sp J<|sP (pT gx (f+34))<|Sy.callT (λw hw=>Sq w0.inn gc gr gx (f+34) tx (A++[Value.int .i64 x1]++(x2.1.map bv++[Value.int .u32 (x2.2:Int)])) ((Z32++([Value.slice none 0 0]++([Value.int .u32 0]++([Value.int .u32 0]++([Value.slice none 0 0]++([Value.slice none 0 0]))))))++([Value.slice none 0 0]++Z)) sl2 s2 (R++N1++N2) S (λb h=>List.mem_append_left _ (List.mem_append_left _ (hS b h))) A2 e2 (Nat.le_trans g2 hl) y2 w (by have e:A++[Value.int .i64 x1]++(x2.1.map bv++[Value.int .u32 (x2.2:Int)])++(([Value.int .i64 0]++(([Value.bool false]++([Value.int .u64 0]++lPT ⟨0,0,false⟩))++([Value.slice none 0 0]++([Value.int .u64 0]++(Z32++(Cu.fws 0))))))++((Z32++([Value.slice none 0 0]++([Value.int .u32 0]++([Value.int .u32 0]++([Value.slice none 0 0]++([Value.slice none 0 0]))))))++([Value.slice none 0 0]++Z)))=A++[Value.int .i64 x1]++(x2.1.map bv++[Value.int .u32 (x2.2:Int)]++(([Value.int .i64 0]++(([Value.bool false]++([Value.int .u64 0]++lPT ⟨0,0,false⟩))++([Value.slice none 0 0]++([Value.int .u64 0]++(Z32++(Cu.fws 0))))))++((Z32++([Value.slice none 0 0]++([Value.int .u32 0]++([Value.int .u32 0]++([Value.slice none 0 0]++([Value.slice none 0 0]))))))++([Value.slice none 0 0]++Z)))):=List.append_assoc ..; rw [e]; exact hw)) (λu M hM=>?_)
 obtain ⟨x3,s3,sl3,cs3,N3,a3,n3,o3,r3,e3,h3,y3,rfl⟩:=hM
 have g3:s3.rest.length≤s.rest.length:=Nat.le_trans h3 g2
 have A3:(A++[Value.int .i64 x1]++(x2.1.map bv++[Value.int .u32 (x2.2:Int)])++(cs3)).length=f+84:=by rw [List.length_append,A2,n3]
 refine Sy.permS (M:=CRS gc gr gx tx (A++[Value.int .i64 x1]++(x2.1.map bv++[Value.int .u32 (x2.2:Int)])++(cs3)++((Z32++([Value.slice none 0 0]++([Value.int .u32 0]++([Value.int .u32 0]++([Value.slice none 0 0]++([Value.slice none 0 0]))))))++([Value.slice none 0 0]++Z))) sl3 s3.e (R++N1++N2++N3)) (List.Perm.of_eq (congrArg (λz=>CRS gc gr gx tx z sl3 s3.e (R++N1++N2++N3)) (show (A++[Value.int .i64 x1]++(x2.1.map bv++[Value.int .u32 (x2.2:Int)])++(cs3++((Z32++([Value.slice none 0 0]++([Value.int .u32 0]++([Value.int .u32 0]++([Value.slice none 0 0]++([Value.slice none 0 0]))))))++([Value.slice none 0 0]++Z))))=(A++[Value.int .i64 x1]++(x2.1.map bv++[Value.int .u32 (x2.2:Int)])++(cs3)++((Z32++([Value.slice none 0 0]++([Value.int .u32 0]++([Value.int .u32 0]++([Value.slice none 0 0]++([Value.slice none 0 0]))))))++([Value.slice none 0 0]++Z))) from (List.append_assoc ..).symm)))<|sG<|Sy.seq<|sC<|sp J<|sp J<|sP (pT gx f)<|sS (.int .i64 x1) (Quiet.cell 1 gx f tx 3 (A++[Value.int .i64 x1]++(x2.1.map bv++[Value.int .u32 (x2.2:Int)])++(cs3)++((Z32++([Value.slice none 0 0]++([Value.int .u32 0]++([Value.int .u32 0]++([Value.slice none 0 0]++([Value.slice none 0 0]))))))++([Value.slice none 0 0]++Z))).toArray _ _ J kR J uy3 J _ (by rw [show (A++[Value.int .i64 x1]++(x2.1.map bv++[Value.int .u32 (x2.2:Int)])++(cs3)++((Z32++([Value.slice none 0 0]++([Value.int .u32 0]++([Value.int .u32 0]++([Value.slice none 0 0]++([Value.slice none 0 0]))))))++([Value.slice none 0 0]++Z)))=A++([Value.int .i64 x1]++(x2.1.map bv++[Value.int .u32 (x2.2:Int)]++(cs3++((Z32++([Value.slice none 0 0]++([Value.int .u32 0]++([Value.int .u32 0]++([Value.slice none 0 0]++([Value.slice none 0 0]))))))++([Value.slice none 0 0]++Z))))) by simp only [List.append_assoc],List.getElem?_toArray,List.getElem?_append_right om,hA,Nat.sub_self]; rfl)) ?_
 refine sG<|Sy.block<|sC ?_
 have p5:(CRS gc gr gx tx (A++[Value.int .i64 x1]++(x2.1.map bv++[Value.int .u32 (x2.2:Int)])++(cs3)++((Z32++([Value.slice none 0 0]++([Value.int .u32 0]++([Value.int .u32 0]++([Value.slice none 0 0]++([Value.slice none 0 0]))))))++([Value.slice none 0 0]++Z))) sl3 s3.e (R++N1++N2++N3)).Perm (CRN gc gr sl3 s3.e ((gx,tx,(A++[Value.int .i64 x1]++(x2.1.map bv++[Value.int .u32 (x2.2:Int)])++(cs3)++((Z32++([Value.slice none 0 0]++([Value.int .u32 0]++([Value.int .u32 0]++([Value.slice none 0 0]++([Value.slice none 0 0]))))))++([Value.slice none 0 0]++Z))).toArray)::(R++N1++N2++N3))):=Bs
 have head:∀ {p:Ps MIn} {y:MIn} {s':RS},After (AH (BH (GG x1)) λ_=>AH (An 32) λp=>AH (BT 4) λx=>AH He λi=>AH (if x1=2 then Jp else BF zPG) λg=>AH (Ch 16 (Bq 256)) λw=>BF ⟨x1,p,x,i,g,w⟩) s1 y s'→After Ej s y s':=λh=>a1.bind h
 have a2':∀ {α:Type} {q:Byt→Nat→Ps α} {y:α} {s':RS},After (q x2.1 x2.2) s2 y s'→After (AH (An 32) λp=>AH (BT 4) λx=>q p x) s1 y s':=λ{α} {q} {y} {s'} h=>by
  have e:(AH (An 32) λp=>AH (BT 4) λx=>q p x)=AH R4 λz=>q z.1 z.2:=by
   funext l
   unfold R4
   cases ht:An 32 l with
   | none=>rw [bind_none ht,bind_none]; exact bind_none ht
   | some u =>
    obtain ⟨p,r⟩:=u
    rw [bind_some ht]
    cases hn:BT 4 r with
    | none=>rw [bind_none hn,bind_none]; rw [bind_some ht,bind_none hn]
    | some v =>
     obtain ⟨x,r2⟩:=v
     rw [bind_some hn,bind_some (show AH (An 32) (λp=>AH (BT 4) λn=>BF (p,n)) l=some ((p,x),r2) by rw [bind_some ht,bind_some hn]; rfl)]
  rw [e]
  exact a2.bind h
 by_cases hk1:x1=1
 ·subst hk1
  refine sP (.bool true)<|sp J<|sG<|sT<|Sy.region<|sp J<|sp J<|sp J<|sP (pT gx (f+84))<|sS (.agg (Z32++([Value.slice none 0 0]++([Value.int .u32 0]++([Value.int .u32 0]++([Value.slice none 0 0]++([Value.slice none 0 0])))))).toArray) (Quiet.mid 1 gx (f+84) 37 tx 148 (A++[Value.int .i64 1]++(x2.1.map bv++[Value.int .u32 (x2.2:Int)])++(cs3)++((Z32++([Value.slice none 0 0]++([Value.int .u32 0]++([Value.int .u32 0]++([Value.slice none 0 0]++([Value.slice none 0 0]))))))++([Value.slice none 0 0]++Z))) (Z32++([Value.slice none 0 0]++([Value.int .u32 0]++([Value.int .u32 0]++([Value.slice none 0 0]++([Value.slice none 0 0])))))) _ _ J kR J Hz J kR (Cc A3 J) (Qe A3 J))<|sS (.bool true) (qg (λw _=>by have q:=JH w zPG none none none 0 0 0 0 0 0 J J J rfl; rw [SV] at q; exact q))<|Sy.permS (M:=CRN gc gr sl3 s3.e ((gx,tx,(A++[Value.int .i64 1]++(x2.1.map bv++[Value.int .u32 (x2.2:Int)])++(cs3)++((Z32++([Value.slice none 0 0]++([Value.int .u32 0]++([Value.int .u32 0]++([Value.slice none 0 0]++([Value.slice none 0 0]))))))++([Value.slice none 0 0]++Z))).toArray)::(R++N1++N2++N3))) Bs<|Sy.callT (λw hw=>Ct w0.inn gc gr sl3 s3.e e3 ((gx,tx,(A++[Value.int .i64 1]++(x2.1.map bv++[Value.int .u32 (x2.2:Int)])++(cs3)++((Z32++([Value.slice none 0 0]++([Value.int .u32 0]++([Value.int .u32 0]++([Value.slice none 0 0]++([Value.slice none 0 0]))))))++([Value.slice none 0 0]++Z))).toArray)::(R++N1++N2++N3)) true w hw) (λu M hM=>?_)
  subst hM
  rw [if_pos J]
  refine Sy.permS (M:=CRS gc gr gx tx (A++[Value.int .i64 1]++(x2.1.map bv++[Value.int .u32 (x2.2:Int)])++(cs3)++((Z32++([Value.slice none 0 0]++([Value.int .u32 0]++([Value.int .u32 0]++([Value.slice none 0 0]++([Value.slice none 0 0]))))))++([Value.slice none 0 0]++Z))) sl3 s3.e (R++N1++N2++N3)) Bs<|Sy.nil<|Sy.in_<|Sy.then_<|Sy.region ?_
  have A4:(A++[Value.int .i64 1]++(x2.1.map bv++[Value.int .u32 (x2.2:Int)])++(cs3)++((Z32++([Value.slice none 0 0]++([Value.int .u32 0]++([Value.int .u32 0]++([Value.slice none 0 0]++([Value.slice none 0 0])))))))).length=f+121:=by rw [List.length_append,A3]; rfl
  refine sp J<|sp J<|sp J<|sP (pT gx (f+121))<|Sy.callT (λw hw=>Fs (rep:=DX) (p:=Bq 256) IOz Cv Gf w0.inn gc gr gx (f+121) 16 dZ tx (A++[Value.int .i64 1]++(x2.1.map bv++[Value.int .u32 (x2.2:Int)])++(cs3)++((Z32++([Value.slice none 0 0]++([Value.int .u32 0]++([Value.int .u32 0]++([Value.slice none 0 0]++([Value.slice none 0 0])))))))) Z sl3 s3 (R++N1++N2++N3) S (λb h=>List.mem_append_left _ (List.mem_append_left _ (List.mem_append_left _ (hS b h)))) A4 e3 (Nat.le_trans g3 hl) y3 w (by have e:A++[Value.int .i64 1]++(x2.1.map bv++[Value.int .u32 (x2.2:Int)])++(cs3)++((Z32++([Value.slice none 0 0]++([Value.int .u32 0]++([Value.int .u32 0]++([Value.slice none 0 0]++([Value.slice none 0 0])))))))++([Value.slice none 0 0]++Z)=A++[Value.int .i64 1]++(x2.1.map bv++[Value.int .u32 (x2.2:Int)])++(cs3)++((Z32++([Value.slice none 0 0]++([Value.int .u32 0]++([Value.int .u32 0]++([Value.slice none 0 0]++([Value.slice none 0 0]))))))++([Value.slice none 0 0]++Z)):=List.append_assoc ..; rw [e]; exact hw)) (λu M hM=>?_)
  obtain ⟨x5,s5,sl5,cs5,N5,a5,n5,o5,⟨v5,rfl,r5⟩,e5,h5,y5,rfl⟩:=hM
  refine Sy.nil ?_
  have hAf:After Ej s ⟨1,x2.1,x2.2,x3,zPG,x5⟩ s5:=head (p:=Ej) (After.mustY J (a2' (a3.bind (After.bind (by rw [if_neg dZ]; exact After.ret _ _) (a5.bind (After.ret _ _))))))
  have hRp:CY (rdB (N1++(N2++(N3++N5)))) ([Value.int .i64 1]++(x2.1.map bv++[Value.int .u32 (x2.2:Int)]++(cs3++((Z32++([Value.slice none 0 0]++([Value.int .u32 0]++([Value.int .u32 0]++([Value.slice none 0 0]++([Value.slice none 0 0]))))))++([v5]))))) ⟨1,x2.1,x2.2,x3,zPG,x5⟩:=⟨cs3,(Z32++([Value.slice none 0 0]++([Value.int .u32 0]++([Value.int .u32 0]++([Value.slice none 0 0]++([Value.slice none 0 0])))))),v5,rfl,r2a,r2b,IV (AV λb h=>by simp [h]) r3,Hf _,LstR.le (rep:=DX) Cv (AV λb h=>by simp [h]) r5⟩
  exact Sy.retT0 J (CRS gc gr gx tx (A++(([Value.int .i64 1]++(x2.1.map bv++[Value.int .u32 (x2.2:Int)]++(cs3++((Z32++([Value.slice none 0 0]++([Value.int .u32 0]++([Value.int .u32 0]++([Value.slice none 0 0]++([Value.slice none 0 0]))))))++([v5])))))++Z)) sl5 s5.e (R++(N1++(N2++(N3++N5))))) (λ_ h=>by simpa only [List.append_assoc,List.cons_append,List.nil_append] using h) (λ_=>⟨_,s5,sl5,_,_,hAf,Qo hRp,NC hRp,hRp,e5,Nat.le_trans h5 g3,y5,rfl⟩)
 refine sS (.bool false) (Quiet.pure (AE .eql _ _ _ .i64 _ _ _ J J J (Aa _ _ _ _ _ (decide_eq_false hk1))))<|sp J<|sG<|sU<|sC ?_
 by_cases hk2:x1=2
 ·subst hk2
  refine sP (.bool true)<|sp J<|sG<|sT<|Sy.region<|sp J<|sp J<|sp J<|sP (pT gx (f+84))<|Sy.callT (λw hw=>VS w0.inn gc gr gx (f+84) tx (A++[Value.int .i64 2]++(x2.1.map bv++[Value.int .u32 (x2.2:Int)])++(cs3)) ([Value.slice none 0 0]++Z) sl3 s3 (R++N1++N2++N3) S (λb h=>List.mem_append_left _ (List.mem_append_left _ (List.mem_append_left _ (hS b h)))) A3 e3 (Nat.le_trans g3 hl) y3 w hw) (λu M hM=>?_)
  obtain ⟨x4,s4,sl4,cs4,N4,a4,n4,o4,r4,e4,h4,y4,rfl⟩:=hM
  have g4:s4.rest.length≤s.rest.length:=Nat.le_trans h4 g3
  have A4:(A++[Value.int .i64 2]++(x2.1.map bv++[Value.int .u32 (x2.2:Int)])++(cs3)++(cs4)).length=f+121:=by rw [List.length_append,A3,n4]
  refine Sy.nil<|Sy.in_<|Sy.then_<|Sy.region<|sp J<|sp J<|sp J<|sP (pT gx (f+121))<|Sy.callT (λw hw=>Fs (rep:=DX) (p:=Bq 256) IOz Cv Gf w0.inn gc gr gx (f+121) 16 dZ tx (A++[Value.int .i64 2]++(x2.1.map bv++[Value.int .u32 (x2.2:Int)])++(cs3)++(cs4)) Z sl4 s4 (R++N1++N2++N3++N4) S (λb h=>List.mem_append_left _ (List.mem_append_left _ (List.mem_append_left _ (List.mem_append_left _ (hS b h))))) A4 e4 (Nat.le_trans g4 hl) y4 w (by have e:A++[Value.int .i64 2]++(x2.1.map bv++[Value.int .u32 (x2.2:Int)])++(cs3)++(cs4)++([Value.slice none 0 0]++Z)=A++[Value.int .i64 2]++(x2.1.map bv++[Value.int .u32 (x2.2:Int)])++(cs3)++(cs4++([Value.slice none 0 0]++Z)):=List.append_assoc ..; rw [e]; exact hw)) (λu M hM=>?_)
  obtain ⟨x5,s5,sl5,cs5,N5,a5,n5,o5,⟨v5,rfl,r5⟩,e5,h5,y5,rfl⟩:=hM
  refine Sy.nil ?_
  have hAf:After Ej s ⟨2,x2.1,x2.2,x3,x4,x5⟩ s5:=head (p:=Ej) (After.mustY J (a2' (a3.bind (After.bind (by rw [if_pos J]; exact a4) (a5.bind (After.ret _ _))))))
  have hRp:CY (rdB (N1++(N2++(N3++(N4++N5))))) ([Value.int .i64 2]++(x2.1.map bv++[Value.int .u32 (x2.2:Int)]++(cs3++(cs4++([v5]))))) ⟨2,x2.1,x2.2,x3,x4,x5⟩:=⟨cs3,cs4,v5,rfl,r2a,r2b,IV (AV λb h=>by simp [h]) r3,ME (AV λb h=>by simp [h]) r4,LstR.le (rep:=DX) Cv (AV λb h=>by simp [h]) r5⟩
  exact Sy.retT0 J (CRS gc gr gx tx (A++(([Value.int .i64 2]++(x2.1.map bv++[Value.int .u32 (x2.2:Int)]++(cs3++(cs4++([v5])))))++Z)) sl5 s5.e (R++(N1++(N2++(N3++(N4++N5)))))) (λ_ h=>by simpa only [List.append_assoc,List.cons_append,List.nil_append] using h) (λ_=>⟨_,s5,sl5,_,_,hAf,Qo hRp,NC hRp,hRp,e5,Nat.le_trans h5 g4,y5,rfl⟩)
 refine sS (.bool false) (Quiet.pure (AE .eql _ _ _ .i64 _ _ _ J J J (Aa _ _ _ _ _ (decide_eq_false hk2))))<|sp J<|sG<|sU<|Sy.region<|sp J<|Sy.permS p5<|Sy.callT (λw hw=>Ct w0.inn gc gr sl3 s3.e e3 ((gx,tx,(A++[Value.int .i64 x1]++(x2.1.map bv++[Value.int .u32 (x2.2:Int)])++(cs3)++((Z32++([Value.slice none 0 0]++([Value.int .u32 0]++([Value.int .u32 0]++([Value.slice none 0 0]++([Value.slice none 0 0]))))))++([Value.slice none 0 0]++Z))).toArray)::(R++N1++N2++N3)) false w hw) (λu M hM=>?_)
 subst hM
 obtain ⟨e4,he4⟩:=xE (if false=true then s3.e else if s3.e=0 then 120 else s3.e)
 rw [← he4]
 rw [if_neg dZ] at he4
 have hne:e4≠0:=by rw [he4]; split <;> omega
 have he4':e4≤200:=by rw [he4]; split <;> omega
 refine Sy.permS (M:=CRS gc gr gx tx (A++[Value.int .i64 x1]++(x2.1.map bv++[Value.int .u32 (x2.2:Int)])++(cs3)++((Z32++([Value.slice none 0 0]++([Value.int .u32 0]++([Value.int .u32 0]++([Value.slice none 0 0]++([Value.slice none 0 0]))))))++([Value.slice none 0 0]++Z))) sl3 e4 (R++N1++N2++N3)) Bs<|Sy.nil<|Sy.in_<|Sy.then_<|Sy.region ?_
 have A4:(A++[Value.int .i64 x1]++(x2.1.map bv++[Value.int .u32 (x2.2:Int)])++(cs3)++((Z32++([Value.slice none 0 0]++([Value.int .u32 0]++([Value.int .u32 0]++([Value.slice none 0 0]++([Value.slice none 0 0])))))))).length=f+121:=by rw [List.length_append,A3]; rfl
 refine sp J<|sp J<|sp J<|sP (pT gx (f+121))<|Sy.callT (λw hw=>Fs (rep:=DX) (p:=Bq 256) IOz Cv Gf w0.inn gc gr gx (f+121) 16 dZ tx (A++[Value.int .i64 x1]++(x2.1.map bv++[Value.int .u32 (x2.2:Int)])++(cs3)++((Z32++([Value.slice none 0 0]++([Value.int .u32 0]++([Value.int .u32 0]++([Value.slice none 0 0]++([Value.slice none 0 0])))))))) Z sl3 ⟨s3.rest,e4⟩ (R++N1++N2++N3) S (λb h=>List.mem_append_left _ (List.mem_append_left _ (List.mem_append_left _ (hS b h)))) A4 he4' (Nat.le_trans g3 hl) y3 w (by have e:A++[Value.int .i64 x1]++(x2.1.map bv++[Value.int .u32 (x2.2:Int)])++(cs3)++((Z32++([Value.slice none 0 0]++([Value.int .u32 0]++([Value.int .u32 0]++([Value.slice none 0 0]++([Value.slice none 0 0])))))))++([Value.slice none 0 0]++Z)=A++[Value.int .i64 x1]++(x2.1.map bv++[Value.int .u32 (x2.2:Int)])++(cs3)++((Z32++([Value.slice none 0 0]++([Value.int .u32 0]++([Value.int .u32 0]++([Value.slice none 0 0]++([Value.slice none 0 0]))))))++([Value.slice none 0 0]++Z)):=List.append_assoc ..; rw [e]; exact hw)) (λu M hM=>?_)
 obtain ⟨x5,s5,sl5,cs5,N5,a5,n5,o5,⟨v5,rfl,r5⟩,e5,h5,y5,rfl⟩:=hM
 refine Sy.nil ?_
 have hAf:After Ej s ⟨x1,x2.1,x2.2,x3,zPG,x5⟩ s5:=head (p:=Ej) (by rw [NG (λh=>h.elim hk1 hk2)]; exact After.mustX _ _ (a5.bad hne))
 have hRp:CY (rdB (N1++(N2++(N3++N5)))) ([Value.int .i64 x1]++(x2.1.map bv++[Value.int .u32 (x2.2:Int)]++(cs3++((Z32++([Value.slice none 0 0]++([Value.int .u32 0]++([Value.int .u32 0]++([Value.slice none 0 0]++([Value.slice none 0 0]))))))++([v5]))))) ⟨x1,x2.1,x2.2,x3,zPG,x5⟩:=⟨cs3,(Z32++([Value.slice none 0 0]++([Value.int .u32 0]++([Value.int .u32 0]++([Value.slice none 0 0]++([Value.slice none 0 0])))))),v5,rfl,r2a,r2b,IV (AV λb h=>by simp [h]) r3,Hf _,LstR.le (rep:=DX) Cv (AV λb h=>by simp [h]) r5⟩
 exact Sy.retT0 J (CRS gc gr gx tx (A++(([Value.int .i64 x1]++(x2.1.map bv++[Value.int .u32 (x2.2:Int)]++(cs3++((Z32++([Value.slice none 0 0]++([Value.int .u32 0]++([Value.int .u32 0]++([Value.slice none 0 0]++([Value.slice none 0 0]))))))++([v5])))))++Z)) sl5 s5.e (R++(N1++(N2++(N3++N5))))) (λ_ h=>by simpa only [List.append_assoc,List.cons_append,List.nil_append] using h) (λ_=>⟨_,s5,sl5,_,_,hAf,Qo hRp,NC hRp,hRp,e5,Nat.le_trans h5 g3,y5,rfl⟩)
noncomputable def NV:TypeInfo:=(Tryz.prog.info? 151).getD default
theorem E3:Tryz.prog.info? 151=some NV:=kZ
noncomputable def K_ins:LK:=⟨151,23,152,225,153,226,228,295,294,341,60,101,102,103,104,163,199,61,122,376,([Value.int .i64 0]++((Z32++([Value.int .u32 0]))++(([Value.int .i64 0]++(([Value.bool false]++([Value.int .u64 0]++lPT ⟨0,0,false⟩))++([Value.slice none 0 0]++([Value.int .u64 0]++(Z32++(Cu.fws 0))))))++((Z32++([Value.slice none 0 0]++([Value.int .u32 0]++([Value.int .u32 0]++([Value.slice none 0 0]++([Value.slice none 0 0]))))))++([Value.slice none 0 0]))))),NV⟩
theorem QS:K_ins.Ok:={
 c_f0:=⟨_,_,Tryz.func60⟩,
 c_fL:=⟨_,_,Tryz.func101⟩,
 c_f1:=⟨_,_,Tryz.func102⟩,
 c_fP:=⟨_,_,Tryz.func103⟩,
 c_f2:=⟨_,_,Tryz.func104⟩,
 c_fI:=⟨_,_,Tryz.func163⟩,
 c_fJ:=⟨_,_,Tryz.func199⟩,
 ute:=⟨_,KR,rfl⟩,
 uts:=Gi,
 ufw:=⟨_,VB,rfl⟩,
 ufr:=⟨_,U_,rfl⟩,
 inf:=E3,
 zero:=⟨_,rfl,by kernel_rfl⟩,
 size:=rfl,
 byt:=rfl,
 zl:=kZ,
 pos:=(by decide:0<122),
 top:=(by decide:122≤16777216),
 btop:=(by decide:376≤100000000),
 its:=kZ,
 ifw:=kZ,
 ifr:=kZ,
 zts:=⟨(Tryz.prog.info? 23).getD default,by kernel_rfl,by kernel_rfl⟩,
 e_fe:=enters_of Tryz.func61 kR J,
 e_f2:=enters_of Tryz.func104 kR J,
 e_fP:=enters_of Tryz.func103 kR J,
 e_f1:=enters_of Tryz.func102 kR J,
 e_fL:=enters_of Tryz.func101 kR J,
 e_fI:=enters_of Tryz.func163 kR J,
 e_fJ:=enters_of Tryz.func199 kR J }
theorem ML {α:Type} {rep:Rdr→List Value→α→Prop} {ok:α→Bool} {enc:α→Byt} {wt:α→Nat} (hm:BN rep) (hp:Fw 61 122 rep ok enc wt) (w0:Base) (gc gw gx f most:Nat) (hmo:most<1000000) (bad:Bool) (s:Slc) (R:AA) (b:Byt) (v:Value) (l:List α) (hv:LstR (rdC w0 R) 122 rep v l) (hc:rdC w0 R gx f v) (hb:BS s b) (hlen:b.length+(9+(l.map wt).sum)≤70368744170000) (w:World) (hw:St w0 w (CWS gc gw bad s R)) :
  Calls Tryz.prog 60 #[ptr gc,pT gx f,.int .i64 (most:Int),.func (.func 61) #[] #[]] w (AQ w0 (WrC gc gw R (decide (l.length≤most) && l.all ok) (Ap l.length++l.flatMap enc) (9+(l.map wt).sum) bad b)):=EZ (rep:=rep) (ok:=ok) (enc:=enc) (wt:=wt) QS hm hp w0 gc gw gx f most hmo bad s R b v l hv hc hb hlen w hw
theorem MR {α:Type} {rep:Rdr→List Value→α→Prop} {p:Ps α} (hm:BN rep) (hp:B7 61 122 (([Value.int .i64 0]++((Z32++([Value.int .u32 0]))++(([Value.int .i64 0]++(([Value.bool false]++([Value.int .u64 0]++lPT ⟨0,0,false⟩))++([Value.slice none 0 0]++([Value.int .u64 0]++(Z32++(Cu.fws 0))))))++((Z32++([Value.slice none 0 0]++([Value.int .u32 0]++([Value.int .u32 0]++([Value.slice none 0 0]++([Value.slice none 0 0]))))))++([Value.slice none 0 0])))))) rep p) (w0:Base) (gc gr gx f most:Nat) (hmost:most<1000000) (tx:TypeId) (A Z:List Value) (sl:Value) (s:RS) (R S:AA) (hS:∀ b∈S,b∈R) (hA:A.length=f) (he:s.e≤200) (hl:s.rest.length≤70368744177664) (hv:BytR (rdC w0 S) sl s.rest) (w:World) (hw:St w0 w (CRS gc gr gx tx (A++([Value.slice none 0 0]++Z)) sl s.e R)) :
  Calls Tryz.prog 60 #[ptr gc,pT gx f,.int .i64 (most:Int),.func (.func 61) #[] #[]] w (AQ w0 (RdT 1 (Iz 122 rep) (Ch most p) w0 gc gr gx tx A Z s R S)):=Ea (rep:=rep) (p:=p) QS hm hp w0 gc gr gx f most hmost tx A Z sl s R S hS hA he hl hv w hw
end Wr
end
end Go.Proofs.YtdbcombmmnihbaaGreat
