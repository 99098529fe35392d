/-
  Texts of ours, put together: SymT, Lift3, PLift5, ScBase, ScOps, SigA, ScEq, ScB32, SigB, SymX, SigC, SymV, ScProd, ScMul, Concat, SigD, SigE, CrvY, RefNumber, CrvE, CrvZ, SigF, SigG, ScNum, EcN, SigM, SigN, ScFold, ScRefAdd, ScRefMul, GenM, GenR, ScRefs, SigR, SigK, EqB, SigAlive, ComM, ComV, SigV, RingA, RingB, RingC, RingD, RingE, SymY, SymR, SymQ, SymW.
-/
import Derived.Test.YtmennpefjofhjaaGreatDoorBD3
set_option linter.unusedVariables false
set_option linter.unusedSimpArgs false
namespace Go.Proofs.YtmennpefjofhjaaGreatDoor
section
namespace Sy
open Go.RowKit
def Lst (w:World) (s:Nat) (A:Option Addr) (n:Nat) (el:Nat→List Value):Prop:=∃ g o,0<n→A=some ⟨g,o,none⟩∧g<w.heap.size∧∀ j,j<n→w.rangeAt g (o+j*s) (el j)
theorem Lst.below {w w':World} {s n:Nat} {A:Option Addr} {el:Nat→List Value} (h:Lst w s A n el) (hb:Below w.heap.size w w'):Lst w' s A n el:=by
 obtain ⟨g,o,h⟩:=h
 refine ⟨g,o,λhn=>?_⟩
 obtain ⟨h1,h2,h3⟩:=h hn
 exact ⟨h1,Nat.lt_of_lt_of_le h2 hb.size,λj hj i v hi=>(Below.cell (p:=⟨g,o+j*s+i,none⟩) hb h2).trans (h3 j hj i v hi)⟩
theorem range_sub {w:World} {g f:Nat} {cs:List Value} (h:w.rangeAt g f cs) (k:Nat) {m:List Value} (e:(cs.drop k).take m.length=m):w.rangeAt g (f+k) m:=λj v hj=>by
 have hlt:j<m.length:=(List.getElem?_eq_some_iff.1 hj).1
 have h2:=h (k+j) v (by rw [← e,List.getElem?_take_of_lt hlt,List.getElem?_drop] at hj; exact hj)
 rwa [← Nat.add_assoc] at h2
theorem range_one {w:World} {g f:Nat} {cs:List Value} (h:w.rangeAt g f cs) (k:Nat) {v:Value} (e:cs[k]? = some v):w.cell? ⟨g,f+k,none⟩=some v:=h k v e
section
variable {P:Program} {w0:Base} {n:Nat} {F:Slots} {L:Blocks} {o:Oper}
theorem exec_atO (t e:TypeId) (x kx:Operand) (A:Option Addr) (g f len cap k s:Nat) (ki:IntKind) (hA:A=some ⟨g,f,none⟩) (ho:o.op=.indexAddr t x kx) (hx:evF F x=.slice A len cap) (hkx:evF F kx=.int ki (k:Int)) (ht:P.underlying t=some (.slice e)) (hsz:∀ w,(sizeOf e).run P w=.ok s w) (hk:k<len) (w:World) :
  (execOp (evF F) o).run P w=.ok (.value (.pointer (some ⟨g,f+k*s,none⟩))) w:=by
 subst hA
 exact exec_at t e x kx g f len cap k s ki ho hx hkx ht hsz hk w
theorem Writes.row {g:Nat} {t:TypeId} {cs:Array Value} (ty:TypeId) (c:List Value) (m:Nat) (x y:Operand) (ho:o.op=.store ty x y) (hx:evF F x=.pointer (some ⟨g,0,none⟩)) (hy:evF F y=.agg c.toArray) (hi:(P.info? ty).map (·.size)=some m) (hc:c.length=m) (hs:cs.size=m) (h1:∀ u∈c,u.oneCell'=true):Writes P F o g t cs c.toArray :=
 Writes.store 0 ty c.toArray x y ho hx hy (by rw [hi,List.size_toArray,hc]) (by rw [List.size_toArray,hc,hs,Nat.zero_add]; exact Nat.le_refl _) (by rw [List.all_toArray,List.all_eq_true]; exact h1) (by
  have:=Cu.setAll_all c 0 cs (by omega)
  simpa using this)
end
end Sy
end
section
namespace Sh
open Go.ChangeShapes Go.WideShapes Go.ChangeAt Go.RowKit Go.Deep
instance:Inhabited Tx:=⟨⟨none,[],0⟩⟩
end Sh
end
section
namespace Cu
open Go.ChangeShapes Go.WideShapes Go.ChangeAt Go.RowKit Sy Go.Deep
theorem bulk_pos {H:Type} (d:DataW H):1≤Rows.uptoBulk d:=by
 cases d with
 | lit l=>cases l <;> simp [Rows.uptoBulk]
 | _=>simp [Rows.uptoBulk]
theorem bulk_len {H:Type}:∀ l:List (DataW H),l.length≤Rows.uptoBulkAll l
 | []=>Nat.zero_le _
 | d::r=>by
  have h1:=bulk_pos d
  have h2:=bulk_len r
  simp only [Rows.uptoBulkAll,List.length_cons]
  omega
theorem lst_of {w:World} {s n:Nat} {A:Option Addr} {el:Nat→List Value} (h:0<n→∃ b o,A=some ⟨b,o,none⟩∧b<w.heap.size∧∀ j,j<n→w.rangeAt b (o+j*s) (el j)):Lst w s A n el:=by
 rcases Nat.eq_zero_or_pos n with h0 | h0
 ·exact ⟨0,0,λh1=>absurd h1 (by omega)⟩
 ·obtain ⟨b,o,q⟩:=h h0
  exact ⟨b,o,λ_=>q⟩
theorem one_int {H:Type} {enc:TypeId×Value→H} {P:Program} {W:World} {t:TypeId} {fuel:Nat} {cs:List Value} {x:DataW H×List MemPlace} (ht:P.underlying t=some (.int .i64)) (hf:DataW.trod enc P W 0 (λ_=>true) true fuel t cs=some x):∃ z:Int,cs=[.int .i64 z] ∧ -9223372036854775808≤z∧z<9223372036854775808:=by
 cases fuel with
 | zero=>simp [DataW.trod] at hf
 | succ m =>
  obtain ⟨a,e,_,wa⟩:=DataW.trod_int ht hf
  refine ⟨a,e,?_⟩
  simp [Lit.wf,IntKind.min,IntKind.max,IntKind.signed,IntKind.bits] at wa
  omega
end Cu
end
section
namespace Sc
open Go.RowKit Go.Lib
theorem gap_any (w:World):Calls Tryz.prog 175 #[] w λe w'=>e=.returned (fv 432420386565659656852420866394968145599)∧Below w.heap.size w w':=by
 go_enter Tryz.func175,Tryz.ntmps175
 go_wp2
 exact bodyPost_ret (results_cell_row rfl _ _ w.heap.size _ _ (0,0) _ rfl (heap_alloc_new w _) Tryz.underlying42 rfl kR) rfl ⟨rfl,(Below.refl _ _).alloc (Nat.le_refl _) _⟩
set_option maxHeartbeats 8000000 in
set_option maxRecDepth 100000 in
theorem plus_any (w:World) (x y:Nat) (hx:x<(2^256)) (hy:y<(2^256)):Calls Tryz.prog 210 #[fv x,fv y] w λe w'=>(∃ s k:Nat,s<(2^256)∧k≤1∧s+(2^256)*k=x+y∧e=.returned (.tuple #[fv s,.int .u64 (k:Int)]))∧Below w.heap.size w w':=by
 obtain ⟨x0,x1,x2,x3,a0,a1,a2,a3,ex,fx⟩:=words_of x hx
 obtain ⟨y0,y1,y2,y3,b0,b1,b2,b3,ey,fy⟩:=words_of y hy
 rw [fx,fy]
 obtain ⟨s0,c0,d0,k0,e0,r0⟩:=add0_ex x0 y0 a0 b0
 obtain ⟨s1,c1,d1,k1,e1,r1⟩:=addc_ex x1 y1 c0 a1 b1 k0
 obtain ⟨s2,c2,d2,k2,e2,r2⟩:=addc_ex x2 y2 c1 a2 b2 k1
 obtain ⟨s3,c3,d3,k3,e3,r3⟩:=addc_ex x3 y3 c2 a3 b3 k2
 have fin:s0+18446744073709551616*s1+340282366920938463463374607431768211456*s2+6277101735386680763835789423207666416102355444464034512896*s3+(2^256)*c3=x+y:=by omega
 have hs:=Lib.hid (fv_mk s0 s1 s2 s3 d0 d1 d2 d3)
 have hlt:=Lib.hid (fv_lt s0 s1 s2 s3 d0 d1 d2 d3)
 have HF:=Lib.hid fin
 have HK:=Lib.hid k3
 clear ex ey fx fy e0 e1 e2 e3 a0 a1 a2 a3 b0 b1 b2 b3 d0 d1 d2 d3 k0 k1 k2 k3 fin hx hy
 go_enter Tryz.func210,Tryz.ntmps210
 go_wp2_with fail
 go_loopw [5,7] (λbo i wr=>Below w.heap.size w wr∧Blk wr w.heap.size 42 #[.int .u64 (x0:Int),.int .u64 (x1:Int),.int .u64 (x2:Int),.int .u64 (x3:Int)]∧Blk wr (w.heap.size+1) 42 #[.int .u64 (y0:Int),.int .u64 (y1:Int),.int .u64 (y2:Int),.int .u64 (y3:Int)]∧Hid ((i=.int .i64 0∧bo=.int .u64 0∧Blk wr (w.heap.size+2) 42 #[.int .u64 0,.int .u64 0,.int .u64 0,.int .u64 0])∨(i=.int .i64 1∧bo=.int .u64 (c0:Int)∧Blk wr (w.heap.size+2) 42 #[.int .u64 (s0:Int),.int .u64 0,.int .u64 0,.int .u64 0])∨(i=.int .i64 2∧bo=.int .u64 (c1:Int)∧Blk wr (w.heap.size+2) 42 #[.int .u64 (s0:Int),.int .u64 (s1:Int),.int .u64 0,.int .u64 0])∨(i=.int .i64 3∧bo=.int .u64 (c2:Int)∧Blk wr (w.heap.size+2) 42 #[.int .u64 (s0:Int),.int .u64 (s1:Int),.int .u64 (s2:Int),.int .u64 0])∨(i=.int .i64 4∧bo=.int .u64 (c3:Int)∧Blk wr (w.heap.size+2) 42 #[.int .u64 (s0:Int),.int .u64 (s1:Int),.int .u64 (s2:Int),.int .u64 (s3:Int)]))) (λ_ i _=>4 - (intOf i).toNat)
 case atStart=>exact ⟨below_alloc3 w _ _ _,((Blk.new w _ _).alloc _).alloc _,(blk_new2 w _ _ _).alloc _,Lib.hid (.inl ⟨rfl,rfl,blk_new3 w _ _ _ _⟩)⟩
 case round =>
  obtain ⟨hb,BX,BY,HI⟩:=hrel
  have lX:=BX.lt
  have lY:=BY.lt
  rcases HI.out with ⟨rfl,rfl,BW⟩ | ⟨rfl,rfl,BW⟩ | ⟨rfl,rfl,BW⟩ | ⟨rfl,rfl,BW⟩ | ⟨rfl,rfl,BW⟩
  ·clear HI
   have px:wr.cell? ⟨w.heap.size,0,none⟩=some (.int .u64 (x0:Int)):=BX.cell 0
   have py:wr.cell? ⟨w.heap.size+1,0,none⟩=some (.int .u64 (y0:Int)):=BY.cell 0
   go_wp2
   refine wp_region_G (λj=>j == 13) kR ?_
   try simp only [Act.put]
   refine tk 0 rfl ?_
   try simp only [Act.put,aA,aZ,aS]
   refine tk 1 rfl ?_
   try simp only [Act.put,aA,aZ,aS]
   refine tk 2 rfl ?_
   try simp only [Act.put,aA,aZ,aS]
   refine tkw 3 rfl (YieldsG.pure (v:=.int .u64 (x0:Int)) (by rfl) (λw9 h9=>by have hz:=(Below.cell (p:=⟨w.heap.size,0,none⟩) h9 lX).trans px; go_simp; first | done | simp [hz])) ?_
   try simp only [Act.put,aA,aZ,aS]
   refine tk 4 rfl ?_
   try simp only [Act.put,aA,aZ,aS]
   refine tk 5 rfl ?_
   try simp only [Act.put,aA,aZ,aS]
   refine tkw 6 rfl (YieldsG.pure (v:=.int .u64 (y0:Int)) (by rfl) (λw9 h9=>by have hz:=(Below.cell (p:=⟨w.heap.size+1,0,none⟩) h9 lY).trans py; go_simp; first | done | simp [hz])) ?_
   try simp only [Act.put,aA,aZ,aS]
   refine tk 7 rfl ?_
   try simp only [Act.put,aA,aZ,aS]
   refine tkw 8 rfl (YieldsG.pure (v:=.tuple #[.int .u64 (s0:Int),.int .u64 (c0:Int)]) (by rfl) (λw9 h9=>by go_simp)) ?_
   try simp only [Act.put,aA,aZ,aS]
   refine tk 9 rfl ?_
   try simp only [Act.put,aA,aZ,aS]
   refine tk 10 rfl ?_
   try simp only [Act.put,aA,aZ,aS]
   refine wpAnyG_takeA 11 rfl kR (λ_ _ _ h=>h) (λ_=>YieldsG.pure (by rfl) (λw9 _=>by go_simp; try with_reducible rfl)) ?_
   try simp only [Act.put,aA,aZ,aS]
   refine tk 12 rfl ?_
   try simp only [Act.put,aA,aZ,aS]
   refine wpAnyG_sole 13 rfl kR (by rfl) (λu hu K hK=>?_)
   have BX:=Gr.blk hu BX
   have BY:=Gr.blk hu BY
   have BW:=Gr.blk hu BW
   have hb:=Below.gr hb hu
   have pc:u.cell? ⟨w.heap.size+2,0,none⟩=some (.int .u64 0):=BW.cell 0
   have pf:=BW.frozen 0
   clear hu px py
   go_simp
   refine hK _ _ (λe=>by cases e) ?_
   clear hK K
   have hb:=hb.setCell (p:=⟨w.heap.size+2,0,none⟩) (by show w.heap.size≤w.heap.size+2; omega) (.int .u64 (s0:Int))
   have BX:=BX.far (p:=⟨w.heap.size+2,0,none⟩) (by show w.heap.size≠w.heap.size+2; omega) (.int .u64 (s0:Int))
   have BY:=BY.far (p:=⟨w.heap.size+2,0,none⟩) (by show w.heap.size+1≠w.heap.size+2; omega) (.int .u64 (s0:Int))
   have BW:=BW.set_ 0 (.int .u64 (s0:Int))
   refine wpAnyG_takeA 14 rfl kR (λ_ _ _ h=>h) (λ_=>YieldsG.pure (by rfl) (λw9 _=>by go_simp; try with_reducible rfl)) ?_
   try simp only [Act.put,aA,aZ,aS]
   refine wpAnyG_done kR (λv hv=>?_)
   have hb:=Below.gr hb hv
   have BX:=Gr.blk hv BX
   have BY:=Gr.blk hv BY
   have BW:=Gr.blk hv BW
   clear hv pc pf
   go_wp2
   refine ⟨⟨hb,BX,BY,Lib.hid (.inr (.inl (⟨rfl,rfl,BW⟩)))⟩,by decide⟩
  ·clear HI
   have px:wr.cell? ⟨w.heap.size,1,none⟩=some (.int .u64 (x1:Int)):=BX.cell 1
   have py:wr.cell? ⟨w.heap.size+1,1,none⟩=some (.int .u64 (y1:Int)):=BY.cell 1
   go_wp2
   refine wp_region_G (λj=>j == 13) kR ?_
   try simp only [Act.put]
   refine tk 0 rfl ?_
   try simp only [Act.put,aA,aZ,aS]
   refine tk 1 rfl ?_
   try simp only [Act.put,aA,aZ,aS]
   refine tk 2 rfl ?_
   try simp only [Act.put,aA,aZ,aS]
   refine tkw 3 rfl (YieldsG.pure (v:=.int .u64 (x1:Int)) (by rfl) (λw9 h9=>by have hz:=(Below.cell (p:=⟨w.heap.size,1,none⟩) h9 lX).trans px; go_simp; first | done | simp [hz])) ?_
   try simp only [Act.put,aA,aZ,aS]
   refine tk 4 rfl ?_
   try simp only [Act.put,aA,aZ,aS]
   refine tk 5 rfl ?_
   try simp only [Act.put,aA,aZ,aS]
   refine tkw 6 rfl (YieldsG.pure (v:=.int .u64 (y1:Int)) (by rfl) (λw9 h9=>by have hz:=(Below.cell (p:=⟨w.heap.size+1,1,none⟩) h9 lY).trans py; go_simp; first | done | simp [hz])) ?_
   try simp only [Act.put,aA,aZ,aS]
   refine tk 7 rfl ?_
   try simp only [Act.put,aA,aZ,aS]
   refine tkw 8 rfl (YieldsG.pure (v:=.tuple #[.int .u64 (s1:Int),.int .u64 (c1:Int)]) (by rfl) (λw9 h9=>by go_simp)) ?_
   try simp only [Act.put,aA,aZ,aS]
   refine tk 9 rfl ?_
   try simp only [Act.put,aA,aZ,aS]
   refine tk 10 rfl ?_
   try simp only [Act.put,aA,aZ,aS]
   refine wpAnyG_takeA 11 rfl kR (λ_ _ _ h=>h) (λ_=>YieldsG.pure (by rfl) (λw9 _=>by go_simp; try with_reducible rfl)) ?_
   try simp only [Act.put,aA,aZ,aS]
   refine tk 12 rfl ?_
   try simp only [Act.put,aA,aZ,aS]
   refine wpAnyG_sole 13 rfl kR (by rfl) (λu hu K hK=>?_)
   have BX:=Gr.blk hu BX
   have BY:=Gr.blk hu BY
   have BW:=Gr.blk hu BW
   have hb:=Below.gr hb hu
   have pc:u.cell? ⟨w.heap.size+2,1,none⟩=some (.int .u64 0):=BW.cell 1
   have pf:=BW.frozen 1
   clear hu px py
   go_simp
   refine hK _ _ (λe=>by cases e) ?_
   clear hK K
   have hb:=hb.setCell (p:=⟨w.heap.size+2,1,none⟩) (by show w.heap.size≤w.heap.size+2; omega) (.int .u64 (s1:Int))
   have BX:=BX.far (p:=⟨w.heap.size+2,1,none⟩) (by show w.heap.size≠w.heap.size+2; omega) (.int .u64 (s1:Int))
   have BY:=BY.far (p:=⟨w.heap.size+2,1,none⟩) (by show w.heap.size+1≠w.heap.size+2; omega) (.int .u64 (s1:Int))
   have BW:=BW.set_ 1 (.int .u64 (s1:Int))
   refine wpAnyG_takeA 14 rfl kR (λ_ _ _ h=>h) (λ_=>YieldsG.pure (by rfl) (λw9 _=>by go_simp; try with_reducible rfl)) ?_
   try simp only [Act.put,aA,aZ,aS]
   refine wpAnyG_done kR (λv hv=>?_)
   have hb:=Below.gr hb hv
   have BX:=Gr.blk hv BX
   have BY:=Gr.blk hv BY
   have BW:=Gr.blk hv BW
   clear hv pc pf
   go_wp2
   refine ⟨⟨hb,BX,BY,Lib.hid (.inr (.inr (.inl (⟨rfl,rfl,BW⟩))))⟩,by decide⟩
  ·clear HI
   have px:wr.cell? ⟨w.heap.size,2,none⟩=some (.int .u64 (x2:Int)):=BX.cell 2
   have py:wr.cell? ⟨w.heap.size+1,2,none⟩=some (.int .u64 (y2:Int)):=BY.cell 2
   go_wp2
   refine wp_region_G (λj=>j == 13) kR ?_
   try simp only [Act.put]
   refine tk 0 rfl ?_
   try simp only [Act.put,aA,aZ,aS]
   refine tk 1 rfl ?_
   try simp only [Act.put,aA,aZ,aS]
   refine tk 2 rfl ?_
   try simp only [Act.put,aA,aZ,aS]
   refine tkw 3 rfl (YieldsG.pure (v:=.int .u64 (x2:Int)) (by rfl) (λw9 h9=>by have hz:=(Below.cell (p:=⟨w.heap.size,2,none⟩) h9 lX).trans px; go_simp; first | done | simp [hz])) ?_
   try simp only [Act.put,aA,aZ,aS]
   refine tk 4 rfl ?_
   try simp only [Act.put,aA,aZ,aS]
   refine tk 5 rfl ?_
   try simp only [Act.put,aA,aZ,aS]
   refine tkw 6 rfl (YieldsG.pure (v:=.int .u64 (y2:Int)) (by rfl) (λw9 h9=>by have hz:=(Below.cell (p:=⟨w.heap.size+1,2,none⟩) h9 lY).trans py; go_simp; first | done | simp [hz])) ?_
   try simp only [Act.put,aA,aZ,aS]
   refine tk 7 rfl ?_
   try simp only [Act.put,aA,aZ,aS]
   refine tkw 8 rfl (YieldsG.pure (v:=.tuple #[.int .u64 (s2:Int),.int .u64 (c2:Int)]) (by rfl) (λw9 h9=>by go_simp)) ?_
   try simp only [Act.put,aA,aZ,aS]
   refine tk 9 rfl ?_
   try simp only [Act.put,aA,aZ,aS]
   refine tk 10 rfl ?_
   try simp only [Act.put,aA,aZ,aS]
   refine wpAnyG_takeA 11 rfl kR (λ_ _ _ h=>h) (λ_=>YieldsG.pure (by rfl) (λw9 _=>by go_simp; try with_reducible rfl)) ?_
   try simp only [Act.put,aA,aZ,aS]
   refine tk 12 rfl ?_
   try simp only [Act.put,aA,aZ,aS]
   refine wpAnyG_sole 13 rfl kR (by rfl) (λu hu K hK=>?_)
   have BX:=Gr.blk hu BX
   have BY:=Gr.blk hu BY
   have BW:=Gr.blk hu BW
   have hb:=Below.gr hb hu
   have pc:u.cell? ⟨w.heap.size+2,2,none⟩=some (.int .u64 0):=BW.cell 2
   have pf:=BW.frozen 2
   clear hu px py
   go_simp
   refine hK _ _ (λe=>by cases e) ?_
   clear hK K
   have hb:=hb.setCell (p:=⟨w.heap.size+2,2,none⟩) (by show w.heap.size≤w.heap.size+2; omega) (.int .u64 (s2:Int))
   have BX:=BX.far (p:=⟨w.heap.size+2,2,none⟩) (by show w.heap.size≠w.heap.size+2; omega) (.int .u64 (s2:Int))
   have BY:=BY.far (p:=⟨w.heap.size+2,2,none⟩) (by show w.heap.size+1≠w.heap.size+2; omega) (.int .u64 (s2:Int))
   have BW:=BW.set_ 2 (.int .u64 (s2:Int))
   refine wpAnyG_takeA 14 rfl kR (λ_ _ _ h=>h) (λ_=>YieldsG.pure (by rfl) (λw9 _=>by go_simp; try with_reducible rfl)) ?_
   try simp only [Act.put,aA,aZ,aS]
   refine wpAnyG_done kR (λv hv=>?_)
   have hb:=Below.gr hb hv
   have BX:=Gr.blk hv BX
   have BY:=Gr.blk hv BY
   have BW:=Gr.blk hv BW
   clear hv pc pf
   go_wp2
   refine ⟨⟨hb,BX,BY,Lib.hid (.inr (.inr (.inr (.inl (⟨rfl,rfl,BW⟩)))))⟩,by decide⟩
  ·clear HI
   have px:wr.cell? ⟨w.heap.size,3,none⟩=some (.int .u64 (x3:Int)):=BX.cell 3
   have py:wr.cell? ⟨w.heap.size+1,3,none⟩=some (.int .u64 (y3:Int)):=BY.cell 3
   go_wp2
   refine wp_region_G (λj=>j == 13) kR ?_
   try simp only [Act.put]
   refine tk 0 rfl ?_
   try simp only [Act.put,aA,aZ,aS]
   refine tk 1 rfl ?_
   try simp only [Act.put,aA,aZ,aS]
   refine tk 2 rfl ?_
   try simp only [Act.put,aA,aZ,aS]
   refine tkw 3 rfl (YieldsG.pure (v:=.int .u64 (x3:Int)) (by rfl) (λw9 h9=>by have hz:=(Below.cell (p:=⟨w.heap.size,3,none⟩) h9 lX).trans px; go_simp; first | done | simp [hz])) ?_
   try simp only [Act.put,aA,aZ,aS]
   refine tk 4 rfl ?_
   try simp only [Act.put,aA,aZ,aS]
   refine tk 5 rfl ?_
   try simp only [Act.put,aA,aZ,aS]
   refine tkw 6 rfl (YieldsG.pure (v:=.int .u64 (y3:Int)) (by rfl) (λw9 h9=>by have hz:=(Below.cell (p:=⟨w.heap.size+1,3,none⟩) h9 lY).trans py; go_simp; first | done | simp [hz])) ?_
   try simp only [Act.put,aA,aZ,aS]
   refine tk 7 rfl ?_
   try simp only [Act.put,aA,aZ,aS]
   refine tkw 8 rfl (YieldsG.pure (v:=.tuple #[.int .u64 (s3:Int),.int .u64 (c3:Int)]) (by rfl) (λw9 h9=>by go_simp)) ?_
   try simp only [Act.put,aA,aZ,aS]
   refine tk 9 rfl ?_
   try simp only [Act.put,aA,aZ,aS]
   refine tk 10 rfl ?_
   try simp only [Act.put,aA,aZ,aS]
   refine wpAnyG_takeA 11 rfl kR (λ_ _ _ h=>h) (λ_=>YieldsG.pure (by rfl) (λw9 _=>by go_simp; try with_reducible rfl)) ?_
   try simp only [Act.put,aA,aZ,aS]
   refine tk 12 rfl ?_
   try simp only [Act.put,aA,aZ,aS]
   refine wpAnyG_sole 13 rfl kR (by rfl) (λu hu K hK=>?_)
   have BX:=Gr.blk hu BX
   have BY:=Gr.blk hu BY
   have BW:=Gr.blk hu BW
   have hb:=Below.gr hb hu
   have pc:u.cell? ⟨w.heap.size+2,3,none⟩=some (.int .u64 0):=BW.cell 3
   have pf:=BW.frozen 3
   clear hu px py
   go_simp
   refine hK _ _ (λe=>by cases e) ?_
   clear hK K
   have hb:=hb.setCell (p:=⟨w.heap.size+2,3,none⟩) (by show w.heap.size≤w.heap.size+2; omega) (.int .u64 (s3:Int))
   have BX:=BX.far (p:=⟨w.heap.size+2,3,none⟩) (by show w.heap.size≠w.heap.size+2; omega) (.int .u64 (s3:Int))
   have BY:=BY.far (p:=⟨w.heap.size+2,3,none⟩) (by show w.heap.size+1≠w.heap.size+2; omega) (.int .u64 (s3:Int))
   have BW:=BW.set_ 3 (.int .u64 (s3:Int))
   refine wpAnyG_takeA 14 rfl kR (λ_ _ _ h=>h) (λ_=>YieldsG.pure (by rfl) (λw9 _=>by go_simp; try with_reducible rfl)) ?_
   try simp only [Act.put,aA,aZ,aS]
   refine wpAnyG_done kR (λv hv=>?_)
   have hb:=Below.gr hb hv
   have BX:=Gr.blk hv BX
   have BY:=Gr.blk hv BY
   have BW:=Gr.blk hv BW
   clear hv pc pf
   go_wp2
   refine ⟨⟨hb,BX,BY,Lib.hid (.inr (.inr (.inr (.inr (⟨rfl,rfl,BW⟩)))))⟩,by decide⟩
  ·clear HI
   obtain ⟨s,hsd⟩:∃ s,s=s0+18446744073709551616*s1+340282366920938463463374607431768211456*s2+6277101735386680763835789423207666416102355444464034512896*s3:=⟨_,rfl⟩
   have hf:=hs.out
   have hl:=hlt.out
   have hn:=HF.out
   rw [← hsd] at hf hl hn
   have BS:=BW.eq_ (fcs_words hf.symm).symm
   have HS:=Lib.hid (And.intro hl hn)
   clear hf hl hn hsd
   go_wp2_with (first | ((with_reducible refine here_load (d:=some 24) ?_); refine wpList_load_fv rfl _ _ rfl (w.heap.size+2) rfl (s) _ _ _ (BS) (fv_fcs s) Tryz.underlying42 rfl kR ?_) | ((with_reducible refine here_store ?_); refine wpList_store_blk rfl _ _ _ rfl (w.heap.size+2) (fcs (s)) rfl rfl _ _ (BS) kR (by rfl) (fcs_one _) ?_; intro w9 hL9 hB9 hK9))
   exact bodyPost_ret (res_cell_tmp rfl _ _ (w.heap.size+2) _ _ _ _ rfl hL9 rfl Tryz.underlying42 rfl kR) rfl ⟨⟨s,c3,HS.out.1,HK.out,HS.out.2,rfl⟩,hb.trans (hB9 _ (by omega))⟩
end Sc
end
section
namespace Sc
open Go.RowKit Go.Lib
set_option maxRecDepth 100000
theorem plus_fv (w:World) (x y s k:Nat) (hx:x<(2^256)) (hy:y<(2^256)) (hs:s<(2^256)) (he:s+(2^256)*k=x+y) :
  Calls Tryz.prog 210 #[fv x,fv y] w λe w'=>e=.returned (.tuple #[fv s,.int .u64 (k:Int)])∧Below w.heap.size w w':=by
 refine (plus_any w x y hx hy).mono ?_
 rintro e w' ⟨⟨s',k',hs',hk',he',rfl⟩,hb⟩
 obtain rfl:k'=k:=by omega
 obtain rfl:s'=s:=by omega
 exact ⟨rfl,hb⟩
set_option maxHeartbeats 1000000 in
theorem addF_any (w:World) (x y:Nat) (hx:x<(2^256)) (hy:y<(2^256)):Calls Tryz.prog 156 #[fv x,fv y] w λe w'=>e=.returned (fv (addP x y))∧Below w.heap.size w w':=by
 obtain ⟨p,hp⟩:∃ p,p=x%pM:=⟨_,rfl⟩
 obtain ⟨q,hq⟩:∃ q,q=y%pM:=⟨_,rfl⟩
 obtain ⟨z,hz⟩:∃ z,z=addP x y:=⟨_,rfl⟩
 have lp:p<115792089237316195423570985008687907852837564279074904382605163141518161494337:=by rw [hp]; exact mod_lt_p x
 have lq:q<115792089237316195423570985008687907852837564279074904382605163141518161494337:=by rw [hq]; exact mod_lt_p y
 have hzs:z=(p+q)%pM:=by rw [hz,addP,hp,hq, ← Nat.add_mod]
 obtain ⟨s,k,hs,hk,he⟩:∃ s k:Nat,s<(2^256)∧k≤1∧s+(2^256)*k=p+q:=⟨(p+q)%(2^256),(p+q) / (2^256),by omega,by omega,by omega⟩
 have cx:∀ w,Calls Tryz.prog 116 #[fv x] w λe w'=>e=.returned (fv p)∧Below w.heap.size w w':=by
  intro w; rw [hp]; exact norm_any w x hx
 have cy:∀ w,Calls Tryz.prog 116 #[fv y] w λe w'=>e=.returned (fv q)∧Below w.heap.size w w':=by
  intro w; rw [hq]; exact norm_any w y hy
 have cp:=λw=>plus_fv w p q s k (by omega) (by omega) hs he
 have cr:=λw=>reduce_at w s k z k rfl hs hk (by omega) (by rw [hzs, ← he])
 rw [← hz]
 obtain ⟨x0,x1,x2,x3,fx⟩:=words_fv x hx
 obtain ⟨y0,y1,y2,y3,fy⟩:=words_fv y hy
 have FX:=Lib.hid fx
 have FY:=Lib.hid fy
 rw [fx,fy]
 clear fx fy hx hy hp hq hz lp lq hzs hs hk he
 go_enter Tryz.func156,Tryz.ntmps156
 go_wp2
 refine wp_region_G (λj=>j == 8) kR ?_
 try simp only [Act.put]
 refine tkw 0 rfl (YieldsG.loadF (by rfl) _ _ rfl (w.heap.size) rfl (x) _ _ (((Blk.new w _ _).alloc _).alloc _) (FX.out) Tryz.underlying42 rfl kR) ?_
 try simp only [Act.put,aA,aZ,aS]
 refine tkw 1 rfl (YieldsG.call (v:=fv p) (by rfl) 116 _ (λw9=>by go_simp; try (first | with_reducible rfl | rfl)) (λw9 h9=>cx w9)) ?_
 try simp only [Act.put,aA,aZ,aS]
 refine tkw 2 rfl (YieldsG.loadF (by rfl) _ _ rfl (w.heap.size+1) rfl (y) _ _ ((blk_new2 w _ _ _).alloc _) (FY.out) Tryz.underlying42 rfl kR) ?_
 try simp only [Act.put,aA,aZ,aS]
 refine tkw 3 rfl (YieldsG.call (v:=fv q) (by rfl) 116 _ (λw9=>by go_simp; try (first | with_reducible rfl | rfl)) (λw9 h9=>cy w9)) ?_
 try simp only [Act.put,aA,aZ,aS]
 refine tkw 4 rfl (YieldsG.call (v:=.tuple #[fv s,.int .u64 (k:Int)]) (by rfl) 210 _ (λw9=>by go_simp; try (first | with_reducible rfl | rfl)) (λw9 h9=>cp w9)) ?_
 try simp only [Act.put,aA,aZ,aS]
 refine tk 5 rfl ?_
 try simp only [Act.put,aA,aZ,aS]
 refine tk 6 rfl ?_
 try simp only [Act.put,aA,aZ,aS]
 refine tkw 7 rfl (YieldsG.call (v:=fv z) (by rfl) 176 _ (λw9=>by go_simp; try (first | with_reducible rfl | rfl)) (λw9 h9=>cr w9)) ?_
 try simp only [Act.put,aA,aZ,aS]
 refine wpAnyG_store 8 rfl kR (by rfl) _ _ _ rfl (w.heap.size+2) (fcs (z)) rfl rfl _ _ (blk_new3 w _ _ _ _) kR (by rfl) (fcs_one _) rfl (λw6 h6 w7 hB7 hL7=>?_)
 try simp only [Act.put]
 refine wpAnyG_done kR (λw8 h8=>?_)
 have hfin:=Gr.blk h8 hL7
 have hb9:=(Below.gr (below_alloc3 w _ _ _) h6).trans ((hB7 _ (by omega)).trans (Below.mono h8 (by have:=hL7.lt; omega)))
 go_wp2
 exact bodyPost_ret (results_cell_row rfl _ _ (w.heap.size+2) _ _ (0,0) _ rfl hfin Tryz.underlying42 rfl kR) rfl ⟨rfl,hb9⟩
set_option maxHeartbeats 1000000 in
theorem negF_any (w:World) (x:Nat) (hx:x<(2^256)):Calls Tryz.prog 173 #[fv x] w λe w'=>e=.returned (fv (negP x))∧Below w.heap.size w w':=by
 obtain ⟨o,ho⟩:∃ o,o=115792089237316195423570985008687907852837564279074904382605163141518161494337:=⟨_,rfl⟩
 obtain ⟨p,hp⟩:∃ p,p=x%pM:=⟨_,rfl⟩
 obtain ⟨z,hz⟩:∃ z,z=negP x:=⟨_,rfl⟩
 have lp:p<115792089237316195423570985008687907852837564279074904382605163141518161494337:=by rw [hp]; exact mod_lt_p x
 obtain ⟨s,hs⟩:∃ s,s=o - p:=⟨_,rfl⟩
 have hzs:z=s%pM:=by rw [hz,negP,hs,ho,hp]; rfl
 have co:=λw=>order_at w o ho
 have cx:∀ w,Calls Tryz.prog 116 #[fv x] w λe w'=>e=.returned (fv p)∧Below w.heap.size w w':=by
  intro w; rw [hp]; exact norm_any w x hx
 have cm:=λw=>minus_fv w o p s 0 (by omega) (by omega) (by omega) (by omega)
 have cz:∀ w,Calls Tryz.prog 116 #[fv s] w λe w'=>e=.returned (fv z)∧Below w.heap.size w w':=by
  intro w; rw [hzs]; exact norm_any w s (by omega)
 obtain ⟨x0,x1,x2,x3,fx⟩:=words_fv x hx
 have FX:=Lib.hid fx
 rw [fx, ← hz]
 clear fx hx ho hp hz lp hs hzs
 go_enter Tryz.func173,Tryz.ntmps173
 go_wp2
 refine wp_region_G (λj=>j == 8) kR ?_
 try simp only [Act.put]
 refine tkw 0 rfl (YieldsG.call (v:=fv o) (by rfl) 222 _ (λw9=>by go_simp; try (first | with_reducible rfl | rfl)) (λw9 h9=>co w9)) ?_
 try simp only [Act.put,aA,aZ,aS]
 refine tkw 1 rfl (YieldsG.loadF (by rfl) _ _ rfl (w.heap.size) rfl (x) _ _ ((Blk.new w _ _).alloc _) (FX.out) Tryz.underlying42 rfl kR) ?_
 try simp only [Act.put,aA,aZ,aS]
 refine tkw 2 rfl (YieldsG.call (v:=fv p) (by rfl) 116 _ (λw9=>by go_simp; try (first | with_reducible rfl | rfl)) (λw9 h9=>cx w9)) ?_
 try simp only [Act.put,aA,aZ,aS]
 refine tkw 3 rfl (YieldsG.call (v:=.tuple #[fv s,.int .u64 ((0:Nat):Int)]) (by rfl) 221 _ (λw9=>by go_simp; try (first | with_reducible rfl | rfl)) (λw9 h9=>cm w9)) ?_
 try simp only [Act.put,aA,aZ,aS]
 refine tk 4 rfl ?_
 try simp only [Act.put,aA,aZ,aS]
 refine tk 5 rfl ?_
 try simp only [Act.put,aA,aZ,aS]
 refine wpAnyG_takeA 6 rfl kR (λ_ _ _ h=>h) (λ_=>YieldsG.pure (by rfl) (λw9 _=>by go_simp; try with_reducible rfl)) ?_
 try simp only [Act.put,aA,aZ,aS]
 refine wpAnyG_sole 7 rfl kR (by rfl) (λw3 h3 K hK=>?_)
 go_simp
 refine hK _ _ (λ_=>gr_alloc _ _) ?_
 clear hK K
 try simp only [Act.put,aA,aZ,aS]
 refine wpAnyG_store 8 rfl kR (by rfl) _ _ _ rfl (w3.heap.size) (fcs (s)) rfl rfl _ _ (Blk.new w3 _ _) kR (by rfl) (fcs_one _) rfl (λw6 h6 w7 hB7 hL7=>?_)
 try simp only [Act.put]
 refine wpAnyG_takeA 9 rfl kR (λ_ _ _ h=>h) (λ_=>YieldsG.pure (by rfl) (λw9 _=>by go_simp; try with_reducible rfl)) ?_
 try simp only [Act.put,aA,aZ,aS]
 refine wpAnyG_done kR (λw8 h8=>?_)
 have BS:=Gr.blk h8 hL7
 have hsz:w.heap.size+2≤w3.heap.size:=by have:=h3.size; simp at this; omega
 have BR:Blk w8 (w.heap.size+1) 42 _:=Gr.blk h8 (Blk.below (B:=w3.heap.size) (Gr.blk h6 (Blk.alloc (Gr.blk h3 (blk_new2 w _ _ _)) _)) (hB7 _ (Nat.le_refl _)) (by omega))
 have hB:Below w.heap.size w w8:=Below.gr ((Below.gr ((Below.gr (below_alloc2 w _ _) h3).alloc (by omega) _) h6).trans (hB7 _ (by omega))) h8
 clear h3 h6 hB7 hL7 h8 cm co cx
 go_wp2_with (first | ((with_reducible refine here_load (d:=some 12) ?_); refine wpList_load_fv rfl _ _ rfl (w3.heap.size) rfl (s) _ _ _ (BS) (fv_fcs s) Tryz.underlying42 rfl kR ?_))
 refine (cz _).mono ?_
 rintro e w9 ⟨rfl,hb⟩
 have BR9:=Gr.blk hb BR
 have hB9:=Below.gr hB hb
 go_wp2_with (first | ((with_reducible refine here_store ?_); refine wpList_store_blk rfl _ _ _ rfl (w.heap.size+1) (fcs (z)) rfl rfl _ _ (BR9) kR (by rfl) (fcs_one _) ?_; intro wz hL hBz hKz))
 exact bodyPost_ret (results_cell_row rfl _ _ (w.heap.size+1) _ _ (0,0) _ rfl hL Tryz.underlying42 rfl kR) rfl ⟨rfl,hB9.trans (hBz _ (by omega))⟩
theorem sub_isF (x y:Nat):addP x (negP y)=subP x y:=by
 unfold addP negP subP
 rw [Nat.add_mod_mod]
set_option maxHeartbeats 1000000 in
theorem subF_any (w:World) (x y:Nat) (hx:x<(2^256)) (hy:y<(2^256)):Calls Tryz.prog 114 #[fv x,fv y] w λe w'=>e=.returned (fv (subP x y))∧Below w.heap.size w w':=by
 obtain ⟨g,hg⟩:∃ g,g=negP y:=⟨_,rfl⟩
 obtain ⟨z,hz⟩:∃ z,z=subP x y:=⟨_,rfl⟩
 have cg:∀ w,Calls Tryz.prog 173 #[fv y] w λe w'=>e=.returned (fv g)∧Below w.heap.size w w':=by
  intro w; rw [hg]; exact negF_any w y hy
 have ca:∀ w,Calls Tryz.prog 156 #[fv x,fv g] w λe w'=>e=.returned (fv z)∧Below w.heap.size w w':=by
  intro w; rw [hz, ← sub_isF, ← hg]; exact addF_any w x g hx (by rw [hg]; exact negP_lt _)
 rw [← hz]
 obtain ⟨x0,x1,x2,x3,fx⟩:=words_fv x hx
 obtain ⟨y0,y1,y2,y3,fy⟩:=words_fv y hy
 have FX:=Lib.hid fx
 have FY:=Lib.hid fy
 rw [fx,fy]
 clear fx fy hx hy hg hz
 go_enter Tryz.func114,Tryz.ntmps114
 go_wp2
 refine wp_region_G (λj=>j == 4) kR ?_
 try simp only [Act.put]
 refine tkw 0 rfl (YieldsG.loadF (by rfl) _ _ rfl (w.heap.size) rfl (x) _ _ (((Blk.new w _ _).alloc _).alloc _) (FX.out) Tryz.underlying42 rfl kR) ?_
 try simp only [Act.put,aA,aZ,aS]
 refine tkw 1 rfl (YieldsG.loadF (by rfl) _ _ rfl (w.heap.size+1) rfl (y) _ _ ((blk_new2 w _ _ _).alloc _) (FY.out) Tryz.underlying42 rfl kR) ?_
 try simp only [Act.put,aA,aZ,aS]
 refine tkw 2 rfl (YieldsG.call (v:=fv g) (by rfl) 173 _ (λw9=>by go_simp; try (first | with_reducible rfl | rfl)) (λw9 h9=>cg w9)) ?_
 try simp only [Act.put,aA,aZ,aS]
 refine tkw 3 rfl (YieldsG.call (v:=fv z) (by rfl) 156 _ (λw9=>by go_simp; try (first | with_reducible rfl | rfl)) (λw9 h9=>ca w9)) ?_
 try simp only [Act.put,aA,aZ,aS]
 refine wpAnyG_store 4 rfl kR (by rfl) _ _ _ rfl (w.heap.size+2) (fcs (z)) rfl rfl _ _ (blk_new3 w _ _ _ _) kR (by rfl) (fcs_one _) rfl (λw6 h6 w7 hB7 hL7=>?_)
 try simp only [Act.put]
 refine wpAnyG_done kR (λw8 h8=>?_)
 have hfin:=Gr.blk h8 hL7
 have hb9:=(Below.gr (below_alloc3 w _ _ _) h6).trans ((hB7 _ (by omega)).trans (Below.mono h8 (by have:=hL7.lt; omega)))
 go_wp2
 exact bodyPost_ret (results_cell_row rfl _ _ (w.heap.size+2) _ _ (0,0) _ rfl hfin Tryz.underlying42 rfl kR) rfl ⟨rfl,hb9⟩
end Sc
end
section
namespace Cu
open Go.RowKit Sy
set_option maxRecDepth 100000
set_option maxHeartbeats 4000000
def evP (k:Nat):Pt:=Ec.nm finv (k%Sc.pM) bP
theorem evP_on (k:Nat):Ec.On (evP k):=bP_on.nm fld _
end Cu
end
section
namespace Sc
open Go.RowKit Go.Lib
theorem run_equalIn_fv (W:World) (n m:Nat) (hn:n<(2^256)) (hm:m<(2^256)):(Op.equalIn 10000 42 (fv n) (fv m)).run Tryz.prog W=.ok (decide (n=m)) W:=by
 rw [fv_wl,fv_wl]
 have h:=run_equalIn_words W 9998 42 40 4 Tryz.underlying42 Tryz.underlying40 (λW=>by kernel_rfl) (wl n) (wl m) rfl rfl
 rw [wl_beq hn hm] at h
 exact h
theorem run_neq_fv (W:World) (n m:Nat) (hn:n<(2^256)) (hm:m<(2^256)):(binOp .neq 42 (fv n) (fv m)).run Tryz.prog W=.ok (.bool (decide (n≠m))) W:=by
 have h:=run_equalIn_fv W n m hn hm
 rw [fv_wl,fv_wl] at h ⊢
 rw [run_neq_struct,h]
 by_cases e:n=m <;> simp [e]
theorem run_eqGuard_fv (op:BinOp) (x y:Operand) (n m:Nat) (W:World):(eqGuard op 42 x y (fv n) (fv m)).run Tryz.prog W=.ok () W:=by
 rw [fv_fcs,fv_fcs]
 go_simp
end Sc
end
section
namespace Sc
open Go.RowKit Go.Lib
set_option maxHeartbeats 8000000 in
set_option maxRecDepth 100000 in
theorem words_any (w:World) (l:List UInt8) (hl:l.length=32):Calls Tryz.prog 186 #[.agg (l.map bv).toArray] w λe w'=>e=.returned (fv (valB l))∧Below w.heap.size w w':=by
 have HL:=Lib.hid hl
 clear hl
 go_enter Tryz.func186,Tryz.ntmps186
 go_wp2_with (first | ((with_reducible refine here_load (d:=some 6) ?_); refine wpList_load_blk rfl _ _ rfl w.heap.size rfl _ _ _ (((Blk.new w _ _).alloc _).alloc _) Tryz.underlying22 rfl (b32_info HL.out) ?_))
 go_loopw [7] (λi wr=>∃ k y0 y1 y2 y3:Nat,k≤32∧i=.int .i64 (k:Int)∧Hid (y0=wdB l k 0∧y1=wdB l k 1∧y2=wdB l k 2∧y3=wdB l k 3)∧Below w.heap.size w wr∧Blk wr (w.heap.size+2) 42 #[.int .u64 (y3:Int),.int .u64 (y2:Int),.int .u64 (y1:Int),.int .u64 (y0:Int)]∧Blk wr (w.heap.size+1) 42 #[.int .u64 0,.int .u64 0,.int .u64 0,.int .u64 0]) (λi _=>32 - (intOf i).toNat)
 case atStart=>exact ⟨0,0,0,0,0,by omega,rfl,Lib.hid ⟨(wdB_zero l 0).symm,(wdB_zero l 1).symm,(wdB_zero l 2).symm,(wdB_zero l 3).symm⟩,below_alloc3 w _ _ _,blk_new3 w _ _ _ _,(blk_new2 w _ _ _).alloc _⟩
 case round =>
  obtain ⟨k,y0,y1,y2,y3,hk,rfl,HY,hb,hP,hR⟩:=hrel
  have q3:wr.cell? ⟨w.heap.size+1+1,0,none⟩=some (.int .u64 (y3:Int)):=hP.cell 0
  have q2:wr.cell? ⟨w.heap.size+1+1,1,none⟩=some (.int .u64 (y2:Int)):=hP.cell 1
  have q1:wr.cell? ⟨w.heap.size+1+1,2,none⟩=some (.int .u64 (y1:Int)):=hP.cell 2
  have q0:wr.cell? ⟨w.heap.size+1+1,3,none⟩=some (.int .u64 (y0:Int)):=hP.cell 3
  have ff:∀ j,wr.frozen? ⟨w.heap.size+1+1,j,none⟩=false:=λj=>hP.frozen j
  by_cases hlt:k<32
  ·obtain ⟨c,hc⟩:∃ c,l[k]? = some c:=⟨l[k]'(by rw [HL.out]; exact hlt),List.getElem?_eq_getElem _⟩
   have HC:=Lib.hid hc
   obtain ⟨m,hm⟩:∃ m,m=c.toNat:=⟨_,rfl⟩
   have hm8:m<256:=by rw [hm]; exact c.toNat_lt
   have hI:∀ W,(Instr.index 22 (.agg (l.map bv).toArray) (.int .i64 (k:Int))).run Tryz.prog W=.ok (.int .u8 (m:Int)) W:=λW=>by
    rw [run_index_b32 W l k c hc hlt,hm]; rfl
   have HM:=Lib.hid hm
   have HR:=Lib.hid (And.intro hb (And.intro hP hR))
   clear hb hP hR hc hk hm
   rcases (show k=0∨k=1∨k=2∨k=3∨k=4∨k=5∨k=6∨k=7∨k=8∨k=9∨k=10∨k=11∨k=12∨k=13∨k=14∨k=15∨k=16∨k=17∨k=18∨k=19∨k=20∨k=21∨k=22∨k=23∨k=24∨k=25∨k=26∨k=27∨k=28∨k=29∨k=30∨k=31 by omega) with rfl | rfl | rfl | rfl | rfl | rfl | rfl | rfl | rfl | rfl | rfl | rfl | rfl | rfl | rfl | rfl | rfl | rfl | rfl | rfl | rfl | rfl | rfl | rfl | rfl | rfl | rfl | rfl | rfl | rfl | rfl | rfl
   all_goals
    simp only [Int.cast_ofNat_Int] at hI
   all_goals
    first
    | ((have hy:y0<72057594037927936:=by rw [HY.out.1]; exact wdB_lt l _ 0 (by decide)); (have ho:=or_add y0 m hy hm8); go_wp2; (refine ⟨⟨_,y0*256+m,y1,y2,y3,by decide,rfl,Lib.hid ⟨by rw [HY.out.1,HM.out]; exact (wdB_step l _ 0 c HC.out (by decide)).symm,by rw [HY.out.2.1]; exact (wdB_same l _ 1 (by decide)).symm,by rw [HY.out.2.2.1]; exact (wdB_same l _ 2 (by decide)).symm,by rw [HY.out.2.2.2]; exact (wdB_same l _ 3 (by decide)).symm⟩,HR.out.1.setCell (by show w.heap.size≤w.heap.size+1+1; omega) _,Blk.eq_ (HR.out.2.1.set_ 3 _) (by rw [show ((y0*256+m:Nat):Int)=(y0:Int)*256+(m:Int) by omega]; rfl),HR.out.2.2.far (by show w.heap.size+1≠w.heap.size+1+1; omega) _⟩,by simp [intOf]⟩))
    | ((have hy:y1<72057594037927936:=by rw [HY.out.2.1]; exact wdB_lt l _ 1 (by decide)); (have ho:=or_add y1 m hy hm8); go_wp2; (refine ⟨⟨_,y0,y1*256+m,y2,y3,by decide,rfl,Lib.hid ⟨by rw [HY.out.1]; exact (wdB_same l _ 0 (by decide)).symm,by rw [HY.out.2.1,HM.out]; exact (wdB_step l _ 1 c HC.out (by decide)).symm,by rw [HY.out.2.2.1]; exact (wdB_same l _ 2 (by decide)).symm,by rw [HY.out.2.2.2]; exact (wdB_same l _ 3 (by decide)).symm⟩,HR.out.1.setCell (by show w.heap.size≤w.heap.size+1+1; omega) _,Blk.eq_ (HR.out.2.1.set_ 2 _) (by rw [show ((y1*256+m:Nat):Int)=(y1:Int)*256+(m:Int) by omega]; rfl),HR.out.2.2.far (by show w.heap.size+1≠w.heap.size+1+1; omega) _⟩,by simp [intOf]⟩))
    | ((have hy:y2<72057594037927936:=by rw [HY.out.2.2.1]; exact wdB_lt l _ 2 (by decide)); (have ho:=or_add y2 m hy hm8); go_wp2; (refine ⟨⟨_,y0,y1,y2*256+m,y3,by decide,rfl,Lib.hid ⟨by rw [HY.out.1]; exact (wdB_same l _ 0 (by decide)).symm,by rw [HY.out.2.1]; exact (wdB_same l _ 1 (by decide)).symm,by rw [HY.out.2.2.1,HM.out]; exact (wdB_step l _ 2 c HC.out (by decide)).symm,by rw [HY.out.2.2.2]; exact (wdB_same l _ 3 (by decide)).symm⟩,HR.out.1.setCell (by show w.heap.size≤w.heap.size+1+1; omega) _,Blk.eq_ (HR.out.2.1.set_ 1 _) (by rw [show ((y2*256+m:Nat):Int)=(y2:Int)*256+(m:Int) by omega]; rfl),HR.out.2.2.far (by show w.heap.size+1≠w.heap.size+1+1; omega) _⟩,by simp [intOf]⟩))
    | ((have hy:y3<72057594037927936:=by rw [HY.out.2.2.2]; exact wdB_lt l _ 3 (by decide)); (have ho:=or_add y3 m hy hm8); go_wp2; (refine ⟨⟨_,y0,y1,y2,y3*256+m,by decide,rfl,Lib.hid ⟨by rw [HY.out.1]; exact (wdB_same l _ 0 (by decide)).symm,by rw [HY.out.2.1]; exact (wdB_same l _ 1 (by decide)).symm,by rw [HY.out.2.2.1]; exact (wdB_same l _ 2 (by decide)).symm,by rw [HY.out.2.2.2,HM.out]; exact (wdB_step l _ 3 c HC.out (by decide)).symm⟩,HR.out.1.setCell (by show w.heap.size≤w.heap.size+1+1; omega) _,Blk.eq_ (HR.out.2.1.set_ 0 _) (by rw [show ((y3*256+m:Nat):Int)=(y3:Int)*256+(m:Int) by omega]; rfl),HR.out.2.2.far (by show w.heap.size+1≠w.heap.size+1+1; omega) _⟩,by simp [intOf]⟩))
  ·have p1:¬ (k:Int)<32:=by omega
   obtain rfl:k=32:=by omega
   have b0:y0<18446744073709551616:=by rw [HY.out.1]; exact wdB_lt8 l _ _
   have b1:y1<18446744073709551616:=by rw [HY.out.2.1]; exact wdB_lt8 l _ _
   have b2:y2<18446744073709551616:=by rw [HY.out.2.2.1]; exact wdB_lt8 l _ _
   have b3:y3<18446744073709551616:=by rw [HY.out.2.2.2]; exact wdB_lt8 l _ _
   obtain ⟨z,hz⟩:∃ z,z=y3+18446744073709551616*y2+340282366920938463463374607431768211456*y1+6277101735386680763835789423207666416102355444464034512896*y0:=⟨_,rfl⟩
   have fz:=fv_mk y3 y2 y1 y0 b3 b2 b1 b0
   rw [← hz] at fz
   have hzv:valB l=z:=by rw [wdB_all l HL.out,hz,HY.out.1,HY.out.2.1,HY.out.2.2.1,HY.out.2.2.2]
   have HZ:=Lib.hid hzv
   have FZ:=Lib.hid fz.symm
   have HP:=Lib.hid hP
   have HR:=Lib.hid hR
   clear HY b0 b1 b2 b3 hz fz hzv q0 q1 q2 q3 ff hP hR
   go_wp2_with (first | ((with_reducible refine here_load (d:=some 25) ?_); refine wpList_load_fv rfl _ _ rfl (w.heap.size+2) rfl (z) _ _ _ (HP.out) (FZ.out) Tryz.underlying42 rfl (by kernel_rfl) ?_) | ((with_reducible refine here_store ?_); refine wpList_store_blk rfl _ _ _ rfl (w.heap.size+1) (fcs (z)) rfl rfl _ _ (HR.out) (by kernel_rfl) (by rfl) (fcs_one _) ?_; intro vz hLz hqz hKz))
   exact bodyPost_ret (results_cell_row rfl _ _ (w.heap.size+1) _ _ (0,0) _ rfl hLz Tryz.underlying42 rfl (by kernel_rfl)) rfl ⟨by rw [HZ.out]; rfl,hb.trans (hqz _ (by omega))⟩
def readS (l:List UInt8):Nat×Bool:=if valB l<pM then (valB l,true) else (0,false)
set_option maxHeartbeats 2000000 in
set_option maxRecDepth 100000 in
theorem read_any (w:World) (l:List UInt8) (hl:l.length=32):Calls Tryz.prog 133 #[.agg (l.map bv).toArray] w λe w'=>e=.returned (.tuple #[fv (readS l).1,.bool (readS l).2])∧Below w.heap.size w w':=by
 obtain ⟨z,hz⟩:∃ z,z=valB l:=⟨_,rfl⟩
 have hzl:z<(2^256):=by rw [hz]; exact valB_lt32 l hl
 obtain ⟨n,hn⟩:∃ n,n=z%pM:=⟨_,rfl⟩
 have hnl:n<(2^256):=by rw [hn]; exact mod_lt z
 obtain ⟨b,hbd⟩:∃ b,b=decide (n≠z):=⟨_,rfl⟩
 have eb:∀ W,(binOp .neq 42 (fv n) (fv z)).run Tryz.prog W=.ok (.bool b) W:=λW=>by rw [hbd]; exact run_neq_fv W n z hnl hzl
 have cw:∀ w,Calls Tryz.prog 186 #[.agg (l.map bv).toArray] w λe w'=>e=.returned (fv z)∧Below w.heap.size w w':=by
  intro w; rw [hz]; exact words_any w l hl
 have cn:∀ w,Calls Tryz.prog 116 #[fv z] w λe w'=>e=.returned (fv n)∧Below w.heap.size w w':=by
  intro w; rw [hn]; exact norm_any w z hzl
 have hS:readS l=if b=true then (0,false) else (z,true):=by
  unfold readS
  rw [← hz,hbd,hn]
  by_cases h:z<pM
  ·rw [if_pos h,Nat.mod_eq_of_lt h]; simp
  ·have h2:z%pM≠z:=λe=>h (by rw [← e]; exact mod_lt_p z)
   rw [if_neg h]; simp [h2]
 have HS:=Lib.hid hS
 have HL:=Lib.hid hl
 clear hl hz hzl hn hnl hbd hS
 go_enter Tryz.func133,Tryz.ntmps133
 go_wp2_with (first | ((with_reducible refine here_load (d:=some 5) ?_); refine wpList_load_blk rfl _ _ rfl w.heap.size rfl _ _ _ ((Blk.new w _ _).alloc _) Tryz.underlying22 rfl (b32_info HL.out) ?_))
 refine (cw _).mono ?_
 rintro e w1 ⟨rfl,k1⟩
 have BR:=Gr.blk k1 (blk_new2 w _ _ _)
 have sz:=BR.lt
 have hB:=Below.gr (below_alloc2 w _ _) k1
 clear k1 cw
 go_wp2_with (first | ((with_reducible refine here_store ?_); refine wpList_store_blk rfl _ _ _ rfl (w1.heap.size) (fcs (z)) rfl rfl _ _ (Blk.new w1 _ _) (by kernel_rfl) (by rfl) (fcs_one _) ?_; intro w2 hL2 hq2 hK2; have CR:=hK2 _ (by omega) _ _ (BR.alloc _); have hB2:=(hB.alloc (by omega) _).trans (hq2 _ (by omega))))
 refine wp_region_G (λ_=>false) (by kernel_rfl) ?_
 try simp only [Act.put]
 refine tkw 0 rfl (YieldsG.loadF (by rfl) _ _ rfl (w1.heap.size) rfl (z) _ _ (hL2) (fv_fcs _) Tryz.underlying42 rfl (by kernel_rfl)) ?_
 try simp only [Act.put,aA,aZ,aS]
 refine tkw 1 rfl (YieldsG.call (v:=fv n) (by rfl) 116 _ (λw9=>by go_simp; try (first | with_reducible rfl | rfl)) (λw9 h9=>cn w9)) ?_
 try simp only [Act.put,aA,aZ,aS]
 refine tkw 2 rfl (YieldsG.loadF (by rfl) _ _ rfl (w1.heap.size) rfl (z) _ _ (hL2) (fv_fcs _) Tryz.underlying42 rfl (by kernel_rfl)) ?_
 try simp only [Act.put,aA,aZ,aS]
 refine tkw 3 rfl (YieldsG.pure (v:=.bool b) (by rfl) (λw9 h9=>by go_simp; rw [run_eqGuard_fv]; simp only [Result.andThen_ok])) ?_
 try simp only [Act.put,aA,aZ,aS]
 refine wpAnyG_done (by kernel_rfl) (λu hu=>?_)
 have hbu:=Below.gr hB2 hu
 have BRu:=Gr.blk hu CR
 have BP:=Gr.blk hu hL2
 clear hu hB2 CR hL2 eb cn
 cases b
 ·have HT:Hid (readS l=(z,true)):=Lib.hid (by rw [HS.out]; rfl)
  clear HS
  go_wp2_with (first | ((with_reducible refine here_load (d:=some 12) ?_); refine wpList_load_fv rfl _ _ rfl (w1.heap.size) rfl (z) _ _ _ (BP) (fv_fcs _) Tryz.underlying42 rfl (by kernel_rfl) ?_) | ((with_reducible refine here_store ?_); refine wpList_store_blk rfl _ _ _ rfl (w.heap.size+1) (fcs (z)) rfl rfl _ _ (BRu) (by kernel_rfl) (by rfl) (fcs_one _) ?_; intro vz hLz hqz hKz))
  exact bodyPost_ret (res_cell_tmp rfl _ _ (w.heap.size+1) _ _ _ _ rfl hLz rfl Tryz.underlying42 rfl (by kernel_rfl)) rfl ⟨by rw [HT.out]; rfl,hbu.trans (hqz _ (by omega))⟩
 ·have HT:Hid (readS l=(0,false)):=Lib.hid (by rw [HS.out]; rfl)
  clear HS
  go_wp2_with (first | ((with_reducible refine here_store ?_); refine wpList_store_blk rfl _ _ _ rfl (w.heap.size+1) _ rfl rfl _ _ (BRu) (by kernel_rfl) (by rfl) (by simp [Value.oneCell']) ?_; intro vz hLz hqz hKz))
  exact bodyPost_ret (res_cell_tmp rfl _ _ (w.heap.size+1) _ _ _ _ rfl hLz rfl Tryz.underlying42 rfl (by kernel_rfl)) rfl ⟨by rw [HT.out]; rfl,hbu.trans (hqz _ (by omega))⟩
set_option maxHeartbeats 2000000 in
set_option maxRecDepth 100000 in
theorem reduceB_any (w:World) (l:List UInt8) (hl:l.length=32):Calls Tryz.prog 144 #[.agg (l.map bv).toArray] w λe w'=>e=.returned (fv (valB l%pM))∧Below w.heap.size w w':=by
 obtain ⟨z,hz⟩:∃ z,z=valB l:=⟨_,rfl⟩
 have hzl:z<(2^256):=by rw [hz]; exact valB_lt32 l hl
 obtain ⟨n,hn⟩:∃ n,n=z%pM:=⟨_,rfl⟩
 have cw:∀ w,Calls Tryz.prog 186 #[.agg (l.map bv).toArray] w λe w'=>e=.returned (fv z)∧Below w.heap.size w w':=by
  intro w; rw [hz]; exact words_any w l hl
 have cn:∀ w,Calls Tryz.prog 116 #[fv z] w λe w'=>e=.returned (fv n)∧Below w.heap.size w w':=by
  intro w; rw [hn]; exact norm_any w z hzl
 rw [← hz, ← hn]
 have HL:=Lib.hid hl
 clear hl hz hzl hn
 go_enter Tryz.func144,Tryz.ntmps144
 go_wp2_with (first | ((with_reducible refine here_load (d:=some 3) ?_); refine wpList_load_blk rfl _ _ rfl w.heap.size rfl _ _ _ ((Blk.new w _ _).alloc _) Tryz.underlying22 rfl (b32_info HL.out) ?_))
 refine (cw _).mono ?_
 rintro e w1 ⟨rfl,k1⟩
 go_wp2_with fail
 refine (cn _).mono ?_
 rintro e w2 ⟨rfl,k2⟩
 have BR:=Gr.blk k2 (Gr.blk k1 (blk_new2 w _ _ _))
 have hB:=Below.gr (Below.gr (below_alloc2 w _ _) k1) k2
 clear k1 k2 cw cn
 go_wp2_with (first | ((with_reducible refine here_store ?_); refine wpList_store_blk rfl _ _ _ rfl (w.heap.size+1) (fcs (n)) rfl rfl _ _ (BR) (by kernel_rfl) (by rfl) (fcs_one _) ?_; intro vz hLz hqz hKz))
 exact bodyPost_ret (results_cell_row rfl _ _ (w.heap.size+1) _ _ (0,0) _ rfl hLz Tryz.underlying42 rfl (by kernel_rfl)) rfl ⟨rfl,hB.trans (hqz _ (by omega))⟩
end Sc
end
section
namespace Cu
open Go.RowKit Sy
theorem texts_blk {w:World} {g:Nat} {t:TypeId} {ts:List Sh.Tx} (hb:Blk w g t (ts.map Sh.Tx.val).toArray) (hok:∀ x∈ts,x.ok w):Sh.Texts w (some ⟨g,0,none⟩) ts:=λ_ =>
 ⟨g,0,rfl,hb.lt,λj y hy=>by
  rw [Nat.zero_add]
  refine ⟨(hb.cell j).trans ?_,hok y (List.mem_of_getElem? hy)⟩
  rw [List.getElem?_toArray,List.getElem?_map,hy]
  rfl⟩
theorem tag_c (w:World) (nm:ByteArray) (hnm:nm.size≤1000000000) (g:Nat) (t:TypeId) (ts:List Sh.Tx) (n ct:Nat) (X:List UInt8) (hX:Sh.cat ts=X) (hn:ts.length=n) (hb:Blk w g t (ts.map Sh.Tx.val).toArray) (hok:∀ x∈ts,x.ok w) (hl:X.length≤1000000000) (hn2:n≤1000000000) (ht:Sh.TabAt w 1) :
  Calls Tryz.prog 106 #[.string nm,.slice (some ⟨g,0,none⟩) n ct] w (Gets w (.agg ((Sh.taggedS nm.data.toList X).map bv).toArray)):=by
 subst hX hn
 exact Sh.tagged_any w nm _ ts ct (texts_blk hb hok) ht hnm hl hn2
theorem ok_key {w:World} {g:Nat} {t:TypeId} {l:List UInt8} (hb:Blk w g t (l.map bv).toArray) (hl:l.length=32):(Sh.Tx.mk (some ⟨g,0,none⟩) l 32).ok w:=⟨Sh.Src.of_blk hb,by show l.length≤32; omega,by show 32≤9223372036854775807; omega⟩
theorem ok3 {w:World} {a b c:Sh.Tx} (ha:a.ok w) (hb:b.ok w) (hc:c.ok w):∀ x∈[a,b,c],x.ok w:=λx hx=>by
 simp only [List.mem_cons,List.not_mem_nil,or_false] at hx
 rcases hx with rfl | rfl | rfl <;> assumption
theorem tagS_length (nm m:List UInt8):(Sh.taggedS nm m).length=32:=Sh.sum_length _
end Cu
end
section
namespace Sy
open Go.RowKit
section
variable {P:Program} {w0:Base} {n:Nat} {Q:Exit→Act→World→Prop} {F:Slots} {L:Blocks}
end
end Sy
end
section
namespace Cu
open Go.RowKit Sy
end Cu
end
section
namespace Sy
open Go.RowKit
abbrev twoV (g1:Nat) (t1:TypeId) (c1:Array Value) (g2:Nat) (t2:TypeId) (c2:Array Value):List (Nat×Obj):=[(g1,.cells c1 t1),(g2,.cells c2 t2)]
section
variable {P:Program} {w0:Base} {n:Nat} {Q:Exit→Act→World→Prop} {F:Slots} {L:Blocks} {ops:Array Oper} {V:List (Nat×Obj)} {fuel:Nat} {listed:Array Bool}
def wpV (P:Program) (w0:Base) (n:Nat) (ops:Array Oper) (Q:Exit→Act→World→Prop) (V:List (Nat×Obj)) (F:Slots) (L:Blocks) (fuel:Nat) (listed:Array Bool):Prop:=∀ a wb w,Fr w0.ds a n F→St w0 wb L→GrV V wb w→wpAnyV P V .any ops Q fuel listed a w
theorem regionV {i:Nat} (V:List (Nat×Obj)) (h:wpV P w0 n ops Q V F L ops.size (Array.replicate ops.size false)) (hm:P.follows .mixedOrders=true:=by kernel_rfl) (hf:w0.fence=Fence.wide:=by rfl):wpC P w0 n Q F L (.region i ops true):=λa w ha hw=>by
 rw [hf]
 exact wpIn_wide.2 (wp_region_V V hm (h a w w ha hw (GrV.refl w)))
theorem takeV (i:Nat) {oi:Oper} (hi0:ops.toList[i]? = some oi) (v:Value) (h:wpV P w0 n ops Q V (putF F oi.dst v) L fuel (listed.setIfInBounds i true)) (hq:∀ w,(execOp (evF F) oi).run P w=.ok (.value v) w:=by intro _; kernel_rfl) (hc:canTakeA .any ops listed i=true:=by kernel_rfl)
  (hg:good ops n F oi=true:=by kernel_rfl) (hQ:∀ c v a w,Q (.panic c) (a.put oi.dst v) w→Q (.panic c) a w:=by exact λ_ _ _ _ h=>h):wpV P w0 n ops Q V F L (fuel+1) listed:=λa wb w ha hw hv =>
 wpAnyV_take i hi0 hc (λc=>hQ c v) (YieldsV.pure (ha.wanted (good_spec hg).1) (λw1 _=>by rw [good_exec hg ha]; exact hq w1)) (h _ wb w (ha.put (good_spec hg).2.2.1 v) hw hv)
theorem loadV (i:Nat) {oi:Oper} (hi0:ops.toList[i]? = some oi) (j g f:Nat) (t ty:TypeId) (cs:Array Value) (d:TypeDesc) (v:Value) (x:Operand) (ho:oi.op=.load ty x) (hu:P.underlying ty=some d) (hfar:∀ w,St w0 w L→V.all (λx=>x.1 != g)=true)
  (h:wpV P w0 n ops Q V (putF F oi.dst v) L fuel (listed.setIfInBounds i true)) (hx:evF F x=.pointer (some ⟨g,f,none⟩):=by kernel_rfl) (hL:L[j]? = some (g,t,cs):=by kernel_rfl) (hd:d.isRow=false:=by rfl) (hv:cs[f]? = some v:=by kernel_rfl) (hc:canTakeA .any ops listed i=true:=by kernel_rfl)
  (hg:good ops n F oi=true:=by kernel_rfl) (hQ:∀ c v a w,Q (.panic c) (a.put oi.dst v) w→Q (.panic c) a w:=by exact λ_ _ _ _ h=>h):wpV P w0 n ops Q V F L (fuel+1) listed:=λa wb w ha hw hV =>
 wpAnyV_take i hi0 hc (λc=>hQ c v) (YieldsV.pure (ha.wanted (good_spec hg).1) (λw1 h1=>by
  rw [good_exec hg ha]
  have hb:=(hV.trans h1).blk (hw.get hL) (hfar wb hw)
  have hcell:w1.cell? ⟨g,f,none⟩=some v:=(hb.cell f).trans hv
  have hagg:(isAgg ty).run P w1=.ok false w1:=by
   cases d <;> first | (cases hd; done) | simp [isAgg,underlying,hu]
  unfold execOp
  simp only [ho,hx,Instr.loadAt,Instr.sureAddr,Sem.run_bind,Sem.run_pure,Result.andThen_ok,loadVar,hagg,Bool.false_eq_true,if_false,run_load,hcell])) (h _ wb w (ha.put (good_spec hg).2.2.1 v) hw hV)
theorem storesV (i k:Nat) {oi ok:Oper} (hi0:ops.toList[i]? = some oi) (hk0:ops.toList[k]? = some ok) (p q g1 g2:Nat) (t1 t2:TypeId) (b1 b2 c1 c2:Array Value) (ty1 ty2:TypeId) (x1 y1 x2 y2:Operand) (ho1:oi.op=.store ty1 x1 y1) (ho2:ok.op=.store ty2 x2 y2)
  (hpq:p<q) (h:X w0 n Q (putF (putF F oi.dst undef) ok.dst undef) ((L.set p (g1,t1,c1)).set q (g2,t2,c2)) .normal)
  (hx1:evF F x1=.pointer (some ⟨g1,0,none⟩):=by kernel_rfl) (hy1:evF F y1=.agg c1:=by kernel_rfl) (hx2:evF (putF F oi.dst undef) x2=.pointer (some ⟨g2,0,none⟩):=by kernel_rfl) (hy2:evF (putF F oi.dst undef) y2=.agg c2:=by kernel_rfl)
  (hL1:L[p]? = some (g1,t1,b1):=by kernel_rfl) (hL2:L[q]? = some (g2,t2,b2):=by kernel_rfl) {n1 n2:Nat} (hs1:b1.size=n1:=by kernel_rfl) (hs2:b2.size=n2:=by kernel_rfl) (hc1:c1.size=n1:=by kernel_rfl) (hc2:c2.size=n2:=by kernel_rfl)
  (hr1:Region.ready .any ops listed=[i]:=by kernel_rfl) (hr2:Region.ready .any ops (listed.setIfInBounds i true)=[k]:=by kernel_rfl) (hr3:Region.ready .any ops ((listed.setIfInBounds i true).setIfInBounds k true)=[]:=by kernel_rfl)
  (hg1:good ops n F oi=true:=by kernel_rfl) (hg2:good ops n (putF F oi.dst undef) ok=true:=by kernel_rfl) (hi1:(P.info? ty1).map (·.size)=some c1.size:=by kernel_rfl) (hi2:(P.info? ty2).map (·.size)=some c2.size:=by kernel_rfl)
  (ha1:c1.all (·.oneCell')=true:=by kernel_rfl) (ha2:c2.all (·.oneCell')=true:=by kernel_rfl):wpV P w0 n ops Q (twoV g1 t1 c1 g2 t2 c2) F L (fuel+2) listed:=λa wb w ha hw hV=>by
 have hb1:=hw.get hL1
 have hb2:=hw.get hL2
 have hp:=(List.getElem?_eq_some_iff.1 hL1).1
 have hq:=(List.getElem?_eq_some_iff.1 hL2).1
 have hne:g1≠g2:=λe=>by
  have:=List.pairwise_iff_getElem.1 hw.apart p q (by simpa using hp) (by simpa using hq) hpq
  simp only [List.getElem_map] at this
  rw [(List.getElem?_eq_some_iff.1 hL1).2,(List.getElem?_eq_some_iff.1 hL2).2] at this
  exact this e
 refine wpAnyV_store i hi0 hr1 (ha.wanted (good_spec hg1).1) ty1 x1 y1 ho1 g1 c1 ((ha.eval ((good_spec hg1).2.1 _ (by simp [ho1,Op.operands]))).trans hx1) ((ha.eval ((good_spec hg1).2.1 _ (by simp [ho1,Op.operands]))).trans hy1) t1 (by simp) (λw1 h1=>(hV.trans h1).some hb1 (hs1.trans hc1.symm) (λo ho=>?_)) hi1 ha1 (λw1 h1 w2 h2 hB=>?_)
 ·simp only [List.mem_cons,Prod.mk.injEq,List.not_mem_nil,or_false] at ho
  rcases ho with ⟨_,rfl⟩ | ⟨e,_⟩
  ·exact ⟨c1,rfl,rfl⟩
  ·exact absurd e hne
 have ha':=ha.put (good_spec hg1).2.2.1 undef
 refine wpAnyV_store k hk0 hr2 (ha'.wanted (good_spec hg2).1) ty2 x2 y2 ho2 g2 c2 ((ha'.eval ((good_spec hg2).2.1 _ (by simp [ho2,Op.operands]))).trans hx2) ((ha'.eval ((good_spec hg2).2.1 _ (by simp [ho2,Op.operands]))).trans hy2) t2 (by simp) (λw3 h3=>(((hV.trans h1).trans h2).trans h3).some hb2 (hs2.trans hc2.symm) (λo ho=>?_)) hi2 ha2 (λw3 h3 w4 h4 hB2=>?_)
 ·simp only [List.mem_cons,Prod.mk.injEq,List.not_mem_nil,or_false] at ho
  rcases ho with ⟨e,_⟩ | ⟨_,rfl⟩
  ·exact absurd e.symm hne
  ·exact ⟨c2,rfl,rfl⟩
 refine wpAnyV_done hr3 (λw5 h5=>h _ _ (ha'.put (good_spec hg2).2.2.1 undef) ?_)
 have hall:=((((hV.trans h1).trans h2).trans h3).trans h4).trans h5
 have f1:Blk w5 g1 t1 c1:=((h3.trans h4).trans h5).done hB (λo ho=>by
  simp only [List.mem_cons,Prod.mk.injEq,List.not_mem_nil,or_false] at ho
  rcases ho with ⟨_,rfl⟩ | ⟨e,_⟩
  ·rfl
  ·exact absurd e hne)
 have f2:Blk w5 g2 t2 c2:=h5.done hB2 (λo ho=>by
  simp only [List.mem_cons,Prod.mk.injEq,List.not_mem_nil,or_false] at ho
  rcases ho with ⟨e,_⟩ | ⟨_,rfl⟩
  ·exact absurd e.symm hne
  ·rfl)
 have hlow:∀ x∈twoV g1 t1 c1 g2 t2 c2,w0.world.heap.size≤x.1:=λx hx=>by
  simp only [List.mem_cons,List.not_mem_nil,or_false] at hx
  rcases hx with rfl | rfl
  ·exact (hw.blk g1 t1 b1 (List.mem_of_getElem? hL1)).1
  ·exact (hw.blk g2 t2 b2 (List.mem_of_getElem? hL2)).1
 have hbel:=hall.below (B:=w0.world.heap.size) hw.below.size hlow
 refine ⟨hw.below.trans hbel,λg t cs hm=>?_,?_,Nat.le_trans hw.size hall.size,λz o hz ho hc=>?_⟩
 ·obtain ⟨j,hj⟩:=List.getElem?_of_mem hm
  rw [List.getElem?_set] at hj
  split at hj
  ·rename_i e
   have hj2:(g2,t2,c2)=(g,t,cs):=by simpa [hq] using hj
   cases hj2
   exact ⟨(hw.blk _ _ _ (List.mem_of_getElem? hL2)).1,f2⟩
  ·rw [List.getElem?_set] at hj
   split at hj
   ·have hj2:(g1,t1,c1)=(g,t,cs):=by simpa [hp] using hj
    cases hj2
    exact ⟨(hw.blk _ _ _ (List.mem_of_getElem? hL1)).1,f1⟩
   ·rename_i e2 e1
    refine ⟨(hw.blk _ _ _ (List.mem_of_getElem? hj)).1,hall.blk (hw.get hj) ?_⟩
    have hjl:=(List.getElem?_eq_some_iff.1 hj).1
    have hpair:=List.pairwise_iff_getElem.1 hw.apart
    have far:∀ (r gr:Nat) (tr:TypeId) (cr:Array Value),L[r]? = some (gr,tr,cr)→r≠j→gr≠g:=λr gr tr cr hr hrj e=>by
     have hrl:=(List.getElem?_eq_some_iff.1 hr).1
     rcases Nat.lt_or_gt_of_ne hrj with hlt | hlt
     ·have:=hpair r j (by simpa using hrl) (by simpa using hjl) hlt
      simp only [List.getElem_map] at this
      rw [(List.getElem?_eq_some_iff.1 hr).2,(List.getElem?_eq_some_iff.1 hj).2] at this
      exact this e
     ·have:=hpair j r (by simpa using hjl) (by simpa using hrl) hlt
      simp only [List.getElem_map] at this
      rw [(List.getElem?_eq_some_iff.1 hr).2,(List.getElem?_eq_some_iff.1 hj).2] at this
      exact this e.symm
    simp only [List.all_cons,List.all_nil,Bool.and_true,Bool.and_eq_true,bne_iff_ne]
    exact ⟨far p g1 t1 b1 hL1 e1,far q g2 t2 b2 hL2 e2⟩
 ·have hmap:((L.set p (g1,t1,c1)).set q (g2,t2,c2)).map (·.1)=L.map (·.1):=by
   refine List.ext_getElem? λj=>?_
   rw [List.getElem?_map,List.getElem?_map,List.getElem?_set,List.getElem?_set]
   split
   ·rename_i e
    subst e
    rw [hL2]
    simp [hq]
   ·split
    ·rename_i e
     subst e
     rw [hL1]
     simp [hp]
    ·rfl
  rw [hmap]
  exact hw.apart
 ·have h6:=hw.non z o hz ho hc
  rcases hall.block z (Array.getElem?_eq_some_iff.1 h6).1 with e | ⟨o',hm,e⟩
  ·exact e.trans h6
  ·exfalso
   simp only [List.mem_cons,Prod.mk.injEq,List.not_mem_nil,or_false] at hm
   rcases hm with ⟨rfl,_⟩ | ⟨rfl,_⟩
   ·unfold Blk at hb1
    rw [hb1] at h6
    cases h6
    cases hc
   ·unfold Blk at hb2
    rw [hb2] at h6
    cases h6
    cases hc
theorem far_of {i j k:Nat} {g1 g2 g:Nat} {t1 t2:TypeId} {c1 c2:Array Value} (h1:(L.map (·.1))[i]? = some g1:=by kernel_rfl) (h2:(L.map (·.1))[j]? = some g2:=by kernel_rfl) (h3:(L.map (·.1))[k]? = some g:=by kernel_rfl) (hik:i<k) (hjk:j<k):∀ w,St w0 w L→(twoV g1 t1 c1 g2 t2 c2).all (λx=>x.1 != g)=true:=λw hw=>by
 have hpair:=List.pairwise_iff_getElem.1 hw.apart
 have far:∀ (r gr:Nat),(L.map (·.1))[r]? = some gr→r<k→gr≠g:=λr gr hr hrk e=>by
  have:=hpair r k (List.getElem?_eq_some_iff.1 hr).1 (List.getElem?_eq_some_iff.1 h3).1 hrk
  rw [(List.getElem?_eq_some_iff.1 hr).2,(List.getElem?_eq_some_iff.1 h3).2] at this
  exact this e
 simp only [List.all_cons,List.all_nil,Bool.and_true,Bool.and_eq_true,bne_iff_ne]
 exact ⟨far i g1 h1 hik,far j g2 h2 hjk⟩
end
end Sy
end
section
namespace Sc
open Go.RowKit Go.Lib
theorem step_ex (v m x y:Nat) (hv:v<18446744073709551616) (hm:m<18446744073709551616) (hx:x<18446744073709551616) (hy:y<18446744073709551616):∃ lo hi:Nat,lo<18446744073709551616∧hi<18446744073709551616∧lo+18446744073709551616*hi=v*m+x+y:=by
 have h:v*m≤18446744073709551615*18446744073709551615:=Nat.mul_le_mul (by omega) (by omega)
 exact ⟨(v*m+x+y)%18446744073709551616,(v*m+x+y) / 18446744073709551616,by omega,by omega,by omega⟩
set_option maxHeartbeats 1000000 in
theorem step_at (w:World) (v m x y lo hi:Nat) (hv:v<18446744073709551616) (hm:m<18446744073709551616) (hx:x<18446744073709551616) (hy:y<18446744073709551616) (hlo:lo<18446744073709551616) (he:lo+18446744073709551616*hi=v*m+x+y) :
  Calls Tryz.prog 223 #[.int .u64 (v:Int),.int .u64 (m:Int),.int .u64 (x:Int),.int .u64 (y:Int)] w λe w'=>e=.returned (.tuple #[.int .u64 (lo:Int),.int .u64 (hi:Int)])∧w'=w:=by
 have h:v*m≤18446744073709551615*18446744073709551615:=Nat.mul_le_mul (by omega) (by omega)
 obtain ⟨p,q,bq,bp,hpq⟩:=mul_ex v m hv hm
 obtain ⟨s,k,bs,bk,hsk,ra⟩:=add0_ex q x bq hx
 obtain ⟨t,l,bt,bl,htl,rb⟩:=add0_ex s y bs hy
 have hsum:p+k+l<18446744073709551616:=by omega
 have hsum1:p+k<18446744073709551616:=by omega
 obtain rfl:t=lo:=by omega
 have HI:Hid (hi=p+k+l):=Lib.hid (by omega)
 have cm:=λw=>mul64_at w v m p q hv hm bq hpq
 clear h hpq hsk htl he hlo bs bq bp
 go_enter Tryz.func223,Tryz.ntmps223
 go_wp2_with fail
 refine (cm _).mono ?_
 rintro e w1 ⟨rfl,rfl⟩
 go_wp2
 go_ret2
 exact ⟨by rw [HI.out]; rfl,rfl⟩
theorem step_c (w:World) (v m x y lo hi:Nat) (hv:v<18446744073709551616) (hm:m<18446744073709551616) (hx:x<18446744073709551616) (hy:y<18446744073709551616) (hlo:lo<18446744073709551616) (he:lo+18446744073709551616*hi=v*m+x+y) :
  Calls Tryz.prog 223 #[.int .u64 ((v:Nat):Int),.int .u64 ((m:Nat):Int),.int .u64 ((x:Nat):Int),.int .u64 ((y:Nat):Int)] w (Sy.Gets w (.tuple #[.int .u64 ((lo:Nat):Int),.int .u64 ((hi:Nat):Int)])) :=
 (step_at w v m x y lo hi hv hm hx hy hlo he).mono λe w' ⟨h1,h2⟩=>⟨h1,by rw [h2]; exact Below.refl _ _⟩
end Sc
namespace Fz
open Go.RowKit Go.Lib Sy
theorem prod_split {x y lo hi:Nat} {R:Nat→Nat} (hx:x<(2^256)) (hy:y<(2^256)) (he:lo+(2^256)*hi=x*y) (h:vR R 8=vR (wd x) 4*vR (wd y) 4):vR R 4+vR (λt=>R (4+t)) 4*(2^256)=lo+(2^256)*hi:=by
 rw [wd4 hx,wd4 hy,show (8:Nat)=4+4 from rfl,vR_split] at h
 rw [he, ← h]
theorem prod_parts {x y lo hi:Nat} {R:Nat→Nat} (hx:x<(2^256)) (hy:y<(2^256)) (hlo:lo<(2^256)) (he:lo+(2^256)*hi=x*y) (h:vR R 8=vR (wd x) 4*vR (wd y) 4) (hR:vR R 4<18446744073709551616 ^ 4):lo=vR R 4:=by
 have q:=prod_split hx hy he h
 have hR':vR R 4<(2^256):=hR
 omega
theorem prod_high {x y lo hi:Nat} {R:Nat→Nat} (hx:x<(2^256)) (hy:y<(2^256)) (hlo:lo<(2^256)) (he:lo+(2^256)*hi=x*y) (h:vR R 8=vR (wd x) 4*vR (wd y) 4) (hR:vR R 4<18446744073709551616 ^ 4):hi=vR (λt=>R (4+t)) 4:=by
 have q:=prod_split hx hy he h
 have hR':vR R 4<(2^256):=hR
 omega
set_option maxHeartbeats 4000000 in
set_option maxRecDepth 100000 in
theorem productZ (w:World) (x y lo hi:Nat) (hx:x<(2^256)) (hy:y<(2^256)) (hlo:Hid (lo<(2^256))) (he:Hid (lo+(2^256)*hi=x*y)):Calls Tryz.prog 174 #[fv x,fv y] w (Gets w (.tuple #[fv lo,fv hi])):=by
 refine Sy.enter (args:=[fv x,fv y]) Tryz.func174 rfl kL ?_
 refine sC ?_
 refine sM 42 (fcs x) (λg0=>?_)
 refine sM 42 (fcs y) (λg1=>?_)
 refine sM 42 (fcs 0) (λg2=>?_)
 refine sM 42 (fcs 0) (λg3=>?_)
 refine sA ?_
 refine Sy.make kR 214 (rw8 (λ_=>0)) ptr kF (λg4=>?_)
 refine sG<|Sy.seq<|sC ?_
 refine sS (fv x) (qL 0 g0 0 4 42 42 (fcs x) rfl Tryz.underlying42)<|sP (.int .i64 0) ?_
 refine sG<|Sy.block ?_
 refine Sy.loopX (T:=Nat→Nat) 4 (λk1 y1=>[(2,.pointer (some ⟨g0,0,none⟩)),(3,.pointer (some ⟨g1,0,none⟩)),(4,.pointer (some ⟨g2,0,none⟩)),(5,.pointer (some ⟨g3,0,none⟩)),(6,.pointer (some ⟨g4,0,none⟩)),(12,fv x),(13,.int .i64 ((k1:Nat):Int))]) (λk1 y1=>[(g0,42,(fcs x)),(g1,42,(fcs y)),(g2,42,(fcs 0)),(g3,42,(fcs 0)),(g4,214,(rw8 y1))]) (λk1 y1=>(∀ t,y1 t<18446744073709551616)∧vR y1 8=vR (wd x) k1*vR (wd y) 4∧∀ t,k1+4≤t→y1 t=0) (λ_=>0) [true,true,true,true,true] (⟨λ_=>by show (0:Nat)<18446744073709551616; decide,by rw [vR_zero]; exact (Nat.zero_mul _).symm,λ_ _=>rfl⟩) (all_cons kR (all_cons kR (all_cons kR (all_cons kR (all_cons kR (all_cons kR (all_cons kR all_nil))))))) kR (λk1 y1 hk1 hh1=>?_)
 refine sC ?_
 obtain ⟨b1,hb1⟩:∃ z:Bool,z=decide (k1<4):=⟨_,rfl⟩
 refine sS (.bool b1) (Quiet.pure (exec_int .lss _ _ _ .i64 _ _ _ rfl rfl rfl (int_lss _ _ _ _ _ (by rw [hb1]; exact decide_eq_decide.2 (by omega))))) ?_
 refine sG<|Sy.seq ?_
 cases b1
 ·have lb1:¬ (k1<4):=of_decide_eq_false hb1.symm
  refine sU<|Sy.exit<|Sy.then_exit<|Sy.then_exit ?_
  obtain rfl:k1=4:=by omega
  refine Sy.in_exit<|Sy.then_<|Sy.seq ?_
  refine Sy.regionV (twoV g2 42 (fcs (vR y1 4)) g3 42 (fcs (vR (λt=>y1 (4+t)) 4))) ?_
  refine Sy.takeV 0 rfl (.pointer (some ⟨g4,0,none⟩)) ?_
  refine Sy.loadV 1 rfl 4 g4 0 214 40 (rw8 y1) _ (.int .u64 ((y1 0:Nat):Int)) _ rfl Tryz.underlying40 (far_of (i:=2) (j:=3) (k:=4) (hik:=by decide) (hjk:=by decide)) ?_
  refine Sy.takeV 2 rfl (.pointer (some ⟨g4,1,none⟩)) ?_
  refine Sy.loadV 3 rfl 4 g4 1 214 40 (rw8 y1) _ (.int .u64 ((y1 1:Nat):Int)) _ rfl Tryz.underlying40 (far_of (i:=2) (j:=3) (k:=4) (hik:=by decide) (hjk:=by decide)) ?_
  refine Sy.takeV 4 rfl (.pointer (some ⟨g4,2,none⟩)) ?_
  refine Sy.loadV 5 rfl 4 g4 2 214 40 (rw8 y1) _ (.int .u64 ((y1 2:Nat):Int)) _ rfl Tryz.underlying40 (far_of (i:=2) (j:=3) (k:=4) (hik:=by decide) (hjk:=by decide)) ?_
  refine Sy.takeV 6 rfl (.pointer (some ⟨g4,3,none⟩)) ?_
  refine Sy.loadV 7 rfl 4 g4 3 214 40 (rw8 y1) _ (.int .u64 ((y1 3:Nat):Int)) _ rfl Tryz.underlying40 (far_of (i:=2) (j:=3) (k:=4) (hik:=by decide) (hjk:=by decide)) ?_
  refine Sy.takeV 8 rfl (fv (vR y1 4)) ?_ (hq:=λw=>by rw [← row_fv hh1.1]; kernel_rfl)
  refine Sy.takeV 9 rfl (.pointer (some ⟨g4,4,none⟩)) ?_
  refine Sy.loadV 10 rfl 4 g4 4 214 40 (rw8 y1) _ (.int .u64 ((y1 4:Nat):Int)) _ rfl Tryz.underlying40 (far_of (i:=2) (j:=3) (k:=4) (hik:=by decide) (hjk:=by decide)) ?_
  refine Sy.takeV 11 rfl (.pointer (some ⟨g4,5,none⟩)) ?_
  refine Sy.loadV 12 rfl 4 g4 5 214 40 (rw8 y1) _ (.int .u64 ((y1 5:Nat):Int)) _ rfl Tryz.underlying40 (far_of (i:=2) (j:=3) (k:=4) (hik:=by decide) (hjk:=by decide)) ?_
  refine Sy.takeV 13 rfl (.pointer (some ⟨g4,6,none⟩)) ?_
  refine Sy.loadV 14 rfl 4 g4 6 214 40 (rw8 y1) _ (.int .u64 ((y1 6:Nat):Int)) _ rfl Tryz.underlying40 (far_of (i:=2) (j:=3) (k:=4) (hik:=by decide) (hjk:=by decide)) ?_
  refine Sy.takeV 15 rfl (.pointer (some ⟨g4,7,none⟩)) ?_
  refine Sy.loadV 16 rfl 4 g4 7 214 40 (rw8 y1) _ (.int .u64 ((y1 7:Nat):Int)) _ rfl Tryz.underlying40 (far_of (i:=2) (j:=3) (k:=4) (hik:=by decide) (hjk:=by decide)) ?_
  refine Sy.takeV 17 rfl (fv (vR (λt=>y1 (4+t)) 4)) ?_ (hq:=λw=>by rw [← row_fv (R:=λt=>y1 (4+t)) (λt=>hh1.1 _)]; kernel_rfl)
  refine Sy.storesV 18 19 rfl rfl 2 3 g2 g3 42 42 (fcs 0) (fcs 0) (fcs (vR y1 4)) (fcs (vR (λt=>y1 (4+t)) 4)) 42 42 _ _ _ _ rfl rfl (by decide) ?_ (n1:=4) (n2:=4)
  refine Sy.then_<|Sy.ret ?_
  rw [show (.tuple #[fv lo,fv hi]:Value)=.tuple #[fv (vR y1 4),fv (vR (λt=>y1 (4+t)) 4)] from by rw [prod_parts hx hy hlo.out he.out hh1.2.1 (vR_lt hh1.1 4),prod_high hx hy hlo.out he.out hh1.2.1 (vR_lt hh1.1 4)]]
  exact Sy.ret2 (v:=fv (vR y1 4)) (u:=fv (vR (λt=>y1 (4+t)) 4)) rfl (.inl (Res.cell (ty':=42) g2 2 (fcs (vR y1 4)) _ kR kR Tryz.underlying42 rfl kR kR)) (.inl (Res.cell (ty':=42) g3 3 (fcs (vR (λt=>y1 (4+t)) 4)) _ kR kR Tryz.underlying42 rfl kR kR))
 ·have lb1:k1<4:=of_decide_eq_true hb1.symm
  refine sT<|Sy.skip<|Sy.then_<|Sy.seq<|Sy.block<|sC ?_
  refine sP (.int .i64 ((k1:Nat):Int))<|sS (.int .u64 ((wd x k1:Nat):Int)) (Quiet.pure (exec_idx _ _ _ _ _ 4 k1 .i64 _ _ rfl rfl rfl Tryz.underlying42 Tryz.underlying40 rfl kF (by omega) (fcs_at x (by omega) rfl)))<|sP (.int .i64 ((k1:Nat):Int))<|sP (.int .u64 ((wd x k1:Nat):Int)) ?_
  refine sA ?_
  refine sP (.int .u64 0) ?_
  refine sG<|Sy.seq<|sC ?_
  refine sS (fv y) (qL 1 g1 0 4 42 42 (fcs y) rfl Tryz.underlying42)<|sP (.int .i64 0) ?_
  refine sG<|Sy.block ?_
  refine Sy.loopX (T:=(Nat→Nat)×Nat) 4 (λk2 y2=>[(2,.pointer (some ⟨g0,0,none⟩)),(3,.pointer (some ⟨g1,0,none⟩)),(4,.pointer (some ⟨g2,0,none⟩)),(5,.pointer (some ⟨g3,0,none⟩)),(6,.pointer (some ⟨g4,0,none⟩)),(7,.int .i64 ((k1:Nat):Int)),(8,.int .u64 ((wd x k1:Nat):Int)),(9,.int .u64 ((y2.2:Nat):Int)),(12,fv x),(13,.int .i64 ((k1:Nat):Int)),(17,fv y),(18,.int .i64 ((k2:Nat):Int))]) (λk2 y2=>[(g0,42,(fcs x)),(g1,42,(fcs y)),(g2,42,(fcs 0)),(g3,42,(fcs 0)),(g4,214,(rw8 y2.1))]) (λk2 y2=>(∀ t,y2.1 t<18446744073709551616)∧y2.2<18446744073709551616∧vR y2.1 8+y2.2*18446744073709551616 ^ (k1+k2)=vR y1 8+wd x k1*vR (wd y) k2*18446744073709551616 ^ k1∧∀ t,k1+4≤t→y2.1 t=0) (y1,0) [true,true,true,true,true] (⟨hh1.1,by show (0:Nat)<18446744073709551616; decide,by show vR y1 8+0*_=_+_*0*_; omega,hh1.2.2⟩) (all_cons kR (all_cons kR (all_cons kR (all_cons kR (all_cons kR (all_cons kR (all_cons kR (all_cons kR (all_cons kR (all_cons kR (all_cons kR (all_cons kR all_nil)))))))))))) kR (λk2 y2 hk2 hh2=>?_)
  refine sC ?_
  obtain ⟨b2,hb2⟩:∃ z:Bool,z=decide (k2<4):=⟨_,rfl⟩
  refine sS (.bool b2) (Quiet.pure (exec_int .lss _ _ _ .i64 _ _ _ rfl rfl rfl (int_lss _ _ _ _ _ (by rw [hb2]; exact decide_eq_decide.2 (by omega))))) ?_
  refine sG<|Sy.seq ?_
  cases b2
  ·have lb2:¬ (k2<4):=of_decide_eq_false hb2.symm
   refine sU<|Sy.exit<|Sy.then_exit<|Sy.then_exit ?_
   obtain rfl:k2=4:=by omega
   refine Sy.in_exit<|Sy.then_<|Sy.region ?_
   refine sP (.int .i64 ((k1:Nat):Int))<|sS (.int .i64 ((k1+4:Nat):Int)) (Quiet.pure (exec_int .add _ _ _ .i64 _ _ _ rfl rfl rfl (int_add _ _ _ _ _ ((wrap_i64 (by omega) (by omega)).trans (by omega)))))<|sP (.int .u64 ((y2.2:Nat):Int))<|sS (.pointer (some ⟨g4,0+(k1+4)*1,none⟩)) (Quiet.pure (exec_atA 214 _ _ _ g4 0 _ (k1+4) 1 .i64 rfl rfl rfl Tryz.underlying214 kF (by omega))) ?_
   refine Sy.write kR 4 g4 214 (rw8 y2.1) (rw8 (upd y2.1 (k1+4) y2.2)) kR (Writes.one (0+(k1+4)*1) 40 (.int .u64 ((y2.2:Nat):Int)) _ _ rfl kR kR kR rfl rfl (rw8_fit _ (k:=k1+4) (by omega) (by omega)) (rw8_set _ _ (by omega) (by omega))) ?_
   refine Sy.nil<|Sy.in_<|Sy.then_<|Sy.region ?_
   refine sS (.int .i64 ((k1+1:Nat):Int)) (Quiet.pure (exec_int .add _ _ _ .i64 _ _ _ rfl rfl rfl (int_add _ _ _ _ _ ((wrap_i64 (by omega) (by omega)).trans (by omega)))))<|sP (.int .i64 ((k1+1:Nat):Int)) ?_
   refine Sy.nil ?_
   have hq:=outerM hh1.2.1 hh2.2.2.1 (hh2.2.2.2 _ (Nat.le_refl _)) (by omega)
   exact Sy.againX (upd y2.1 (k1+4) y2.2) [true,true,true,true,true] (by omega) (⟨upd_lt hh2.1 hh2.2.1,hq,λt ht=>(upd_ne (by omega)).trans (hh2.2.2.2 t (by omega))⟩) (all_cons kR (all_cons kR (all_cons kR (all_cons kR (all_cons kR (all_cons kR (all_cons kR all_nil))))))) kR
  ·have lb2:k2<4:=of_decide_eq_true hb2.symm
   refine sT<|Sy.skip<|Sy.then_<|Sy.seq<|Sy.block<|sC ?_
   refine sP (.int .i64 ((k2:Nat):Int))<|sS (.int .u64 ((wd y k2:Nat):Int)) (Quiet.pure (exec_idx _ _ _ _ _ 4 k2 .i64 _ _ rfl rfl rfl Tryz.underlying42 Tryz.underlying40 rfl kF (by omega) (fcs_at y (by omega) rfl)))<|sP (.int .i64 ((k2:Nat):Int))<|sP (.int .u64 ((wd y k2:Nat):Int)) ?_
   refine sG<|Sy.region ?_
   refine sP (.int .i64 ((k1:Nat):Int))<|sP (.int .i64 ((k2:Nat):Int))<|sS (.int .i64 ((k1+k2:Nat):Int)) (Quiet.pure (exec_int .add _ _ _ .i64 _ _ _ rfl rfl rfl (int_add _ _ _ _ _ ((wrap_i64 (by omega) (by omega)).trans (by omega)))))<|sP (.int .u64 ((wd x k1:Nat):Int))<|sP (.int .u64 ((wd y k2:Nat):Int))<|sP (.int .i64 ((k1:Nat):Int))<|sP (.int .i64 ((k2:Nat):Int))<|sS (.int .i64 ((k1+k2:Nat):Int)) (Quiet.pure (exec_int .add _ _ _ .i64 _ _ _ rfl rfl rfl (int_add _ _ _ _ _ ((wrap_i64 (by omega) (by omega)).trans (by omega))))) ?_
   refine sS (.pointer (some ⟨g4,0+(k1+k2)*1,none⟩)) (Quiet.pure (exec_atA 214 _ _ _ g4 0 _ (k1+k2) 1 .i64 rfl rfl rfl Tryz.underlying214 kF (by omega)))<|sS (.int .u64 ((y2.1 (k1+k2):Nat):Int)) (Quiet.cell 4 g4 (0+(k1+k2)*1) 214 40 (rw8 y2.1) _ _ rfl kR kR Tryz.underlying40 rfl _ (rw8_at y2.1 (k:=k1+k2) (by omega) (by omega)))<|sP (.int .u64 ((y2.2:Nat):Int)) ?_
   obtain ⟨lo,hi,llo,lhi,elo⟩:=Sc.step_ex (wd x k1) (wd y k2) (y2.1 (k1+k2)) y2.2 (by first | assumption | exact wd_lt _ _ | exact hh1.1 _ | exact hh2.1 _ | exact hh2.2.1 | decide) (by first | assumption | exact wd_lt _ _ | exact hh1.1 _ | exact hh2.1 _ | exact hh2.2.1 | decide) (by first | assumption | exact wd_lt _ _ | exact hh1.1 _ | exact hh2.1 _ | exact hh2.2.1 | decide) (by first | assumption | exact wd_lt _ _ | exact hh1.1 _ | exact hh2.1 _ | exact hh2.2.1 | decide)
   refine sS (.tuple #[.int .u64 ((lo:Nat):Int),.int .u64 ((hi:Nat):Int)]) (qF 223 #[.int .u64 ((wd x k1:Nat):Int),.int .u64 ((wd y k2:Nat):Int),.int .u64 ((y2.1 (k1+k2):Nat):Int),.int .u64 ((y2.2:Nat):Int)] (λw=>Sc.step_c w (wd x k1) (wd y k2) (y2.1 (k1+k2)) y2.2 lo hi (by first | assumption | exact wd_lt _ _ | exact hh1.1 _ | exact hh2.1 _ | exact hh2.2.1 | decide) (by first | assumption | exact wd_lt _ _ | exact hh1.1 _ | exact hh2.1 _ | exact hh2.2.1 | decide) (by first | assumption | exact wd_lt _ _ | exact hh1.1 _ | exact hh2.1 _ | exact hh2.2.1 | decide) (by first | assumption | exact wd_lt _ _ | exact hh1.1 _ | exact hh2.1 _ | exact hh2.2.1 | decide) llo elo))<|sP (.tuple #[.int .u64 ((lo:Nat):Int),.int .u64 ((hi:Nat):Int)])<|sP (.int .u64 ((lo:Nat):Int))<|sP (.int .u64 ((hi:Nat):Int))<|sS (.pointer (some ⟨g4,0+(k1+k2)*1,none⟩)) (Quiet.pure (exec_atA 214 _ _ _ g4 0 _ (k1+k2) 1 .i64 rfl rfl rfl Tryz.underlying214 kF (by omega))) ?_
   refine Sy.write kR 4 g4 214 (rw8 y2.1) (rw8 (upd y2.1 (k1+k2) lo)) kR (Writes.one (0+(k1+k2)*1) 40 (.int .u64 ((lo:Nat):Int)) _ _ rfl kR kR kR rfl rfl (rw8_fit _ (k:=k1+k2) (by omega) (by omega)) (rw8_set _ _ (by omega) (by omega))) ?_
   refine sP (.int .u64 ((hi:Nat):Int)) ?_
   refine Sy.nil<|Sy.in_<|Sy.then_<|Sy.region ?_
   refine sS (.int .i64 ((k2+1:Nat):Int)) (Quiet.pure (exec_int .add _ _ _ .i64 _ _ _ rfl rfl rfl (int_add _ _ _ _ _ ((wrap_i64 (by omega) (by omega)).trans (by omega)))))<|sP (.int .i64 ((k2+1:Nat):Int)) ?_
   refine Sy.nil ?_
   have hin:=innerZ (vR_upd y2.1 (k1+k2) lo 8 (by omega)) hh2.2.2.1 elo (P0:=18446744073709551616 ^ k2) (by rw [Nat.add_comm,Nat.pow_add])
   exact Sy.againX ((upd y2.1 (k1+k2) lo,hi)) [true,true,true,true,true] (by omega) (⟨upd_lt hh2.1 llo,lhi,by rw [← Nat.add_assoc,Nat.pow_succ]; exact hin,λt ht=>(upd_ne (by omega)).trans (hh2.2.2.2 t ht)⟩) (all_cons kR (all_cons kR (all_cons kR (all_cons kR (all_cons kR (all_cons kR (all_cons kR (all_cons kR (all_cons kR (all_cons kR (all_cons kR (all_cons kR all_nil)))))))))))) kR
end Fz
namespace Sc
open Go.RowKit Go.Lib
theorem product_any (w:World) (x y lo hi:Nat) (hx:x<(2^256)) (hy:y<(2^256)) (hlo:lo<(2^256)) (_:hi<(2^256)) (he:lo+(2^256)*hi=x*y):Calls Tryz.prog 174 #[fv x,fv y] w λe w'=>e=.returned (.tuple #[fv lo,fv hi])∧Below w.heap.size w w' :=
 Fz.productZ w x y lo hi hx hy (hid hlo) (hid he)
end Sc
end
section
namespace Sc
open Go.RowKit Go.Lib
theorem mul_step (s h l h' s':Nat) (hl:l+(2^256)*h'=h*432420386565659656852420866394968145599) (hs:s'=addP s l):(s'+(2^256)*h')%pM=(s+(2^256)*h)%pM:=by
 rw [hs,addP,Nat.mod_add_mod]
 refine mod_of_mult (k:=h) ?_
 omega
theorem fold_ex (h:Nat) (_:h<(2^256)):∃ l h':Nat,l<(2^256)∧l+(2^256)*h'=h*432420386565659656852420866394968145599:=⟨h*432420386565659656852420866394968145599%(2^256),h*432420386565659656852420866394968145599 / (2^256),by omega,by omega⟩
theorem gap_at (w:World) (g:Nat) (hg:g=432420386565659656852420866394968145599):Calls Tryz.prog 175 #[] w λe w'=>e=.returned (fv g)∧Below w.heap.size w w':=by
 subst hg; exact gap_any w
set_option maxHeartbeats 8000000 in
set_option maxRecDepth 100000 in
theorem mulF_any (w:World) (x y:Nat) (hx:x<(2^256)) (hy:y<(2^256)):Calls Tryz.prog 115 #[fv x,fv y] w λe w'=>e=.returned (fv (mulP x y))∧Below w.heap.size w w':=by
 have hxy:x*y≤115792089237316195423570985008687907853269984665640564039457584007913129639935*115792089237316195423570985008687907853269984665640564039457584007913129639935:=Nat.mul_le_mul (by omega) (by omega)
 obtain ⟨s0,h0,ls0,lh0,e0⟩:∃ lo hi:Nat,lo<(2^256)∧hi<(2^256)∧lo+(2^256)*hi=x*y:=⟨x*y%(2^256),x*y / (2^256),by omega,by omega,by omega⟩
 obtain ⟨l1,h1,ll1,e1⟩:=fold_ex h0 lh0
 have lh1:h1≤432420386565659656852420866394968145599:=by omega
 obtain ⟨l2,h2,ll2,e2⟩:=fold_ex h1 (by omega)
 have lh2:h2≤2:=by omega
 obtain ⟨l3,h3,ll3,e3⟩:=fold_ex h2 (by omega)
 have lh3:h3=0:=by omega
 obtain ⟨s1,hs1⟩:∃ s,s=addP s0 l1:=⟨_,rfl⟩
 obtain ⟨s2,hs2⟩:∃ s,s=addP s1 l2:=⟨_,rfl⟩
 obtain ⟨s3,hs3⟩:∃ s,s=addP s2 l3:=⟨_,rfl⟩
 have ls1:s1<(2^256):=by rw [hs1]; exact addP_lt _ _
 have ls2:s2<(2^256):=by rw [hs2]; exact addP_lt _ _
 have hfin:mulP x y=s3:=by
  have q1:=mul_step s0 h0 l1 h1 s1 e1 hs1
  have q2:=mul_step s1 h1 l2 h2 s2 e2 hs2
  have q3:=mul_step s2 h2 l3 h3 s3 e3 hs3
  rw [q2,q1,e0,lh3,Nat.mul_zero,Nat.add_zero] at q3
  have:s3%pM=s3:=by rw [hs3,addP,Nat.mod_mod]
  rw [mulP, ← q3,this]
 obtain ⟨g,hg⟩:∃ g,g=432420386565659656852420866394968145599:=⟨_,rfl⟩
 have cg:=λw=>gap_at w g hg
 have cp:=λw=>product_any w x y s0 h0 hx hy ls0 lh0 e0
 have p1:=λw=>product_any w h0 g l1 h1 lh0 (by omega) ll1 (by omega) (by rw [hg]; exact e1)
 have p2:=λw=>product_any w h1 g l2 h2 (by omega) (by omega) ll2 (by omega) (by rw [hg]; exact e2)
 have p3:=λw=>product_any w h2 g l3 h3 (by omega) (by omega) ll3 (by omega) (by rw [hg]; exact e3)
 have c1:∀ w,Calls Tryz.prog 156 #[fv s0,fv l1] w λe w'=>e=.returned (fv s1)∧Below w.heap.size w w':=by
  intro w; rw [hs1]; exact addF_any w s0 l1 ls0 ll1
 have c2:∀ w,Calls Tryz.prog 156 #[fv s1,fv l2] w λe w'=>e=.returned (fv s2)∧Below w.heap.size w w':=by
  intro w; rw [hs2]; exact addF_any w s1 l2 ls1 ll2
 have c3:∀ w,Calls Tryz.prog 156 #[fv s2,fv l3] w λe w'=>e=.returned (fv s3)∧Below w.heap.size w w':=by
  intro w; rw [hs3]; exact addF_any w s2 l3 ls2 ll3
 rw [hfin]
 obtain ⟨x0,x1,x2,x3,fx⟩:=words_fv x hx
 obtain ⟨y0,y1,y2,y3,fy⟩:=words_fv y hy
 have FX:=Lib.hid fx
 have FY:=Lib.hid fy
 rw [fx,fy]
 clear fx fy hx hy hxy ls0 lh0 e0 ll1 e1 lh1 ll2 e2 lh2 ll3 e3 lh3 hs1 hs2 hs3 ls1 ls2 hfin hg
 go_enter Tryz.func115,Tryz.ntmps115
 go_wp2_with (first | ((with_reducible refine here_load (d:=some 9) ?_); refine wpList_load_fv rfl _ _ rfl (w.heap.size) rfl (x) _ _ _ (((Blk.new w _ _).alloc _).alloc _) (FX.out) Tryz.underlying42 rfl (by kernel_rfl) ?_) | ((with_reducible refine here_load (d:=some 10) ?_); refine wpList_load_fv rfl _ _ rfl (w.heap.size+1) rfl (y) _ _ _ ((blk_new2 w _ _ _).alloc _) (FY.out) Tryz.underlying42 rfl (by kernel_rfl) ?_))
 refine (cp _).mono ?_
 rintro e w1 ⟨rfl,k1⟩
 have BR:Blk w1 (w.heap.size+2) 42 _:=Gr.blk k1 (blk_new3 w _ _ _ _)
 have hB:=Below.gr (below_alloc3 w _ _ _) k1
 have sz:w.heap.size+2<w1.heap.size:=BR.lt
 clear k1 cp
 go_wp2_with (first | ((with_reducible refine here_store ?_); refine wpList_store_blk rfl _ _ _ rfl (w1.heap.size) (fcs (s0)) rfl rfl _ _ ((Blk.new w1 _ _).alloc _) (by kernel_rfl) (by rfl) (fcs_one _) ?_; intro w2 hL2 hB2' hK2; have CR2:=hK2 _ (by omega) _ _ ((BR.alloc _).alloc _); have CH2:=hK2 _ (by omega) _ _ (blk_new2 w1 _ _ _); have hB2:=((hB.alloc (by omega) _).alloc (by simp <;> omega) _).trans (hB2' _ (by omega))) | ((with_reducible refine here_store ?_); refine wpList_store_blk rfl _ _ _ rfl (w1.heap.size+1) (fcs (h0)) rfl rfl _ _ (CH2) (by kernel_rfl) (by rfl) (fcs_one _) ?_; intro w3 hL3 hB3' hK3; have CR3:=hK3 _ (by omega) _ _ CR2; have CS3:=hK3 _ (by omega) _ _ hL2; have hB3:=hB2.trans (hB3' _ (by omega))))
 go_loopw [14] (λi wr=>Below w.heap.size w wr∧Blk wr (w.heap.size+2) 42 #[.int .u64 0,.int .u64 0,.int .u64 0,.int .u64 0]∧Hid ((i=.int .i64 0∧Blk wr w1.heap.size 42 (fcs s0)∧Blk wr (w1.heap.size+1) 42 (fcs h0))∨(i=.int .i64 1∧Blk wr w1.heap.size 42 (fcs s1)∧Blk wr (w1.heap.size+1) 42 (fcs h1))∨(i=.int .i64 2∧Blk wr w1.heap.size 42 (fcs s2)∧Blk wr (w1.heap.size+1) 42 (fcs h2))∨(i=.int .i64 3∧Blk wr w1.heap.size 42 (fcs s3)∧Blk wr (w1.heap.size+1) 42 (fcs h3)))) (λi _=>3 - (intOf i).toNat)
 case atStart=>exact ⟨hB3,CR3,Lib.hid (.inl ⟨rfl,CS3,hL3⟩)⟩
 case round =>
  obtain ⟨hb,CR,HI⟩:=hrel
  rcases HI.out with ⟨rfl,BS,BH⟩ | ⟨rfl,BS,BH⟩ | ⟨rfl,BS,BH⟩ | ⟨rfl,BS,BH⟩
  ·clear HI
   have szr:w1.heap.size+1<wr.heap.size:=BH.lt
   go_wp2
   refine wp_region_G (λj=>j == 6 || j == 7) (by kernel_rfl) ?_
   try simp only [Act.put]
   refine tkw 0 rfl (YieldsG.loadF (by rfl) _ _ rfl (w1.heap.size+1) rfl (h0) _ _ (BH.alloc _) (fv_fcs _) Tryz.underlying42 rfl (by kernel_rfl)) ?_
   try simp only [Act.put,aA,aZ,aS]
   refine tkw 1 rfl (YieldsG.call (v:=fv g) (by rfl) 175 _ (λw9=>by go_simp; try (first | with_reducible rfl | rfl)) (λw9 h9=>cg w9)) ?_
   try simp only [Act.put,aA,aZ,aS]
   refine tkw 2 rfl (YieldsG.call (v:=.tuple #[fv l1,fv h1]) (by rfl) 174 _ (λw9=>by go_simp; try (first | with_reducible rfl | rfl)) (λw9 h9=>p1 w9)) ?_
   try simp only [Act.put,aA,aZ,aS]
   refine tk 3 rfl ?_
   try simp only [Act.put,aA,aZ,aS]
   refine tk 4 rfl ?_
   try simp only [Act.put,aA,aZ,aS]
   refine wpAnyG_takeA 5 rfl (by kernel_rfl) (λ_ _ _ h=>h) (λ_=>YieldsG.pure (by rfl) (λw9 _=>by go_simp; try with_reducible rfl)) ?_
   try simp only [Act.put,aA,aZ,aS]
   refine wpAnyG_storeK 6 rfl (by kernel_rfl) (by rfl) _ _ _ rfl (wr.heap.size) (fcs l1) rfl rfl _ _ (Blk.new wr _ _) (by kernel_rfl) (by rfl) (fcs_one _) rfl (λu1 g1 v1 hB1 hK1 hL1=>?_)
   try simp only [Act.put]
   have BH1:=hK1 _ (by omega) _ _ (Gr.blk g1 (BH.alloc _))
   have BS1:=hK1 _ (by omega) _ _ (Gr.blk g1 (BS.alloc _))
   have CR1:=hK1 _ (by omega) _ _ (Gr.blk g1 (CR.alloc _))
   have hb1:=(Below.gr (hb.alloc (by omega) _) g1).trans (hB1 _ (by omega))
   refine wpAnyG_storeK 7 rfl (by kernel_rfl) (by rfl) _ _ _ rfl (w1.heap.size+1) (fcs h1) rfl rfl _ _ (BH1) (by kernel_rfl) (by rfl) (fcs_one _) rfl (λu2 g2 v2 hB2 hK2 hL2=>?_)
   try simp only [Act.put]
   have BL2:=hK2 _ (by omega) _ _ (Gr.blk g2 hL1)
   have BS2:=hK2 _ (by omega) _ _ (Gr.blk g2 BS1)
   have CR2:=hK2 _ (by omega) _ _ (Gr.blk g2 CR1)
   have hb2:=(Below.gr hb1 g2).trans (hB2 _ (by omega))
   refine wpAnyG_done (by kernel_rfl) (λv hv=>?_)
   have DH:=Gr.blk hv hL2
   have DL:=Gr.blk hv BL2
   have DS:=Gr.blk hv BS2
   have DR:=Gr.blk hv CR2
   have hbv:=Below.gr hb2 hv
   clear hv g1 g2 BH1 BS1 CR1 hb1 BL2 BS2 CR2 hb2 hL1 hL2 hB1 hB2 hK1 hK2
   go_wp2_with (first | ((with_reducible refine here_load (d:=some 22) ?_); refine wpList_load_fv rfl _ _ rfl (w1.heap.size) rfl (s0) _ _ _ (DS) (fv_fcs _) Tryz.underlying42 rfl (by kernel_rfl) ?_) | ((with_reducible refine here_load (d:=some 23) ?_); refine wpList_load_fv rfl _ _ rfl (wr.heap.size) rfl (l1) _ _ _ (DL) (fv_fcs _) Tryz.underlying42 rfl (by kernel_rfl) ?_))
   refine (c1 _).mono ?_
   rintro e y1 ⟨rfl,k1⟩
   have EH:=Gr.blk k1 DH
   have ES:=Gr.blk k1 DS
   have ER:=Gr.blk k1 DR
   have hby:=Below.gr hbv k1
   clear k1
   go_wp2_with (first | ((with_reducible refine here_store ?_); refine wpList_store_blk rfl _ _ _ rfl (w1.heap.size) (fcs (s1)) rfl rfl _ _ (ES) (by kernel_rfl) (by rfl) (fcs_one _) ?_; intro y2 hLy hBy hKy))
   exact ⟨⟨hby.trans (hBy _ (by omega)),hKy _ (by omega) _ _ ER,Lib.hid (.inr (.inl (⟨rfl,hLy,hKy _ (by omega) _ _ EH⟩)))⟩,by decide⟩
  ·clear HI
   have szr:w1.heap.size+1<wr.heap.size:=BH.lt
   go_wp2
   refine wp_region_G (λj=>j == 6 || j == 7) (by kernel_rfl) ?_
   try simp only [Act.put]
   refine tkw 0 rfl (YieldsG.loadF (by rfl) _ _ rfl (w1.heap.size+1) rfl (h1) _ _ (BH.alloc _) (fv_fcs _) Tryz.underlying42 rfl (by kernel_rfl)) ?_
   try simp only [Act.put,aA,aZ,aS]
   refine tkw 1 rfl (YieldsG.call (v:=fv g) (by rfl) 175 _ (λw9=>by go_simp; try (first | with_reducible rfl | rfl)) (λw9 h9=>cg w9)) ?_
   try simp only [Act.put,aA,aZ,aS]
   refine tkw 2 rfl (YieldsG.call (v:=.tuple #[fv l2,fv h2]) (by rfl) 174 _ (λw9=>by go_simp; try (first | with_reducible rfl | rfl)) (λw9 h9=>p2 w9)) ?_
   try simp only [Act.put,aA,aZ,aS]
   refine tk 3 rfl ?_
   try simp only [Act.put,aA,aZ,aS]
   refine tk 4 rfl ?_
   try simp only [Act.put,aA,aZ,aS]
   refine wpAnyG_takeA 5 rfl (by kernel_rfl) (λ_ _ _ h=>h) (λ_=>YieldsG.pure (by rfl) (λw9 _=>by go_simp; try with_reducible rfl)) ?_
   try simp only [Act.put,aA,aZ,aS]
   refine wpAnyG_storeK 6 rfl (by kernel_rfl) (by rfl) _ _ _ rfl (wr.heap.size) (fcs l2) rfl rfl _ _ (Blk.new wr _ _) (by kernel_rfl) (by rfl) (fcs_one _) rfl (λu1 g1 v1 hB1 hK1 hL1=>?_)
   try simp only [Act.put]
   have BH1:=hK1 _ (by omega) _ _ (Gr.blk g1 (BH.alloc _))
   have BS1:=hK1 _ (by omega) _ _ (Gr.blk g1 (BS.alloc _))
   have CR1:=hK1 _ (by omega) _ _ (Gr.blk g1 (CR.alloc _))
   have hb1:=(Below.gr (hb.alloc (by omega) _) g1).trans (hB1 _ (by omega))
   refine wpAnyG_storeK 7 rfl (by kernel_rfl) (by rfl) _ _ _ rfl (w1.heap.size+1) (fcs h2) rfl rfl _ _ (BH1) (by kernel_rfl) (by rfl) (fcs_one _) rfl (λu2 g2 v2 hB2 hK2 hL2=>?_)
   try simp only [Act.put]
   have BL2:=hK2 _ (by omega) _ _ (Gr.blk g2 hL1)
   have BS2:=hK2 _ (by omega) _ _ (Gr.blk g2 BS1)
   have CR2:=hK2 _ (by omega) _ _ (Gr.blk g2 CR1)
   have hb2:=(Below.gr hb1 g2).trans (hB2 _ (by omega))
   refine wpAnyG_done (by kernel_rfl) (λv hv=>?_)
   have DH:=Gr.blk hv hL2
   have DL:=Gr.blk hv BL2
   have DS:=Gr.blk hv BS2
   have DR:=Gr.blk hv CR2
   have hbv:=Below.gr hb2 hv
   clear hv g1 g2 BH1 BS1 CR1 hb1 BL2 BS2 CR2 hb2 hL1 hL2 hB1 hB2 hK1 hK2
   go_wp2_with (first | ((with_reducible refine here_load (d:=some 22) ?_); refine wpList_load_fv rfl _ _ rfl (w1.heap.size) rfl (s1) _ _ _ (DS) (fv_fcs _) Tryz.underlying42 rfl (by kernel_rfl) ?_) | ((with_reducible refine here_load (d:=some 23) ?_); refine wpList_load_fv rfl _ _ rfl (wr.heap.size) rfl (l2) _ _ _ (DL) (fv_fcs _) Tryz.underlying42 rfl (by kernel_rfl) ?_))
   refine (c2 _).mono ?_
   rintro e y1 ⟨rfl,k1⟩
   have EH:=Gr.blk k1 DH
   have ES:=Gr.blk k1 DS
   have ER:=Gr.blk k1 DR
   have hby:=Below.gr hbv k1
   clear k1
   go_wp2_with (first | ((with_reducible refine here_store ?_); refine wpList_store_blk rfl _ _ _ rfl (w1.heap.size) (fcs (s2)) rfl rfl _ _ (ES) (by kernel_rfl) (by rfl) (fcs_one _) ?_; intro y2 hLy hBy hKy))
   exact ⟨⟨hby.trans (hBy _ (by omega)),hKy _ (by omega) _ _ ER,Lib.hid (.inr (.inr (.inl (⟨rfl,hLy,hKy _ (by omega) _ _ EH⟩))))⟩,by decide⟩
  ·clear HI
   have szr:w1.heap.size+1<wr.heap.size:=BH.lt
   go_wp2
   refine wp_region_G (λj=>j == 6 || j == 7) (by kernel_rfl) ?_
   try simp only [Act.put]
   refine tkw 0 rfl (YieldsG.loadF (by rfl) _ _ rfl (w1.heap.size+1) rfl (h2) _ _ (BH.alloc _) (fv_fcs _) Tryz.underlying42 rfl (by kernel_rfl)) ?_
   try simp only [Act.put,aA,aZ,aS]
   refine tkw 1 rfl (YieldsG.call (v:=fv g) (by rfl) 175 _ (λw9=>by go_simp; try (first | with_reducible rfl | rfl)) (λw9 h9=>cg w9)) ?_
   try simp only [Act.put,aA,aZ,aS]
   refine tkw 2 rfl (YieldsG.call (v:=.tuple #[fv l3,fv h3]) (by rfl) 174 _ (λw9=>by go_simp; try (first | with_reducible rfl | rfl)) (λw9 h9=>p3 w9)) ?_
   try simp only [Act.put,aA,aZ,aS]
   refine tk 3 rfl ?_
   try simp only [Act.put,aA,aZ,aS]
   refine tk 4 rfl ?_
   try simp only [Act.put,aA,aZ,aS]
   refine wpAnyG_takeA 5 rfl (by kernel_rfl) (λ_ _ _ h=>h) (λ_=>YieldsG.pure (by rfl) (λw9 _=>by go_simp; try with_reducible rfl)) ?_
   try simp only [Act.put,aA,aZ,aS]
   refine wpAnyG_storeK 6 rfl (by kernel_rfl) (by rfl) _ _ _ rfl (wr.heap.size) (fcs l3) rfl rfl _ _ (Blk.new wr _ _) (by kernel_rfl) (by rfl) (fcs_one _) rfl (λu1 g1 v1 hB1 hK1 hL1=>?_)
   try simp only [Act.put]
   have BH1:=hK1 _ (by omega) _ _ (Gr.blk g1 (BH.alloc _))
   have BS1:=hK1 _ (by omega) _ _ (Gr.blk g1 (BS.alloc _))
   have CR1:=hK1 _ (by omega) _ _ (Gr.blk g1 (CR.alloc _))
   have hb1:=(Below.gr (hb.alloc (by omega) _) g1).trans (hB1 _ (by omega))
   refine wpAnyG_storeK 7 rfl (by kernel_rfl) (by rfl) _ _ _ rfl (w1.heap.size+1) (fcs h3) rfl rfl _ _ (BH1) (by kernel_rfl) (by rfl) (fcs_one _) rfl (λu2 g2 v2 hB2 hK2 hL2=>?_)
   try simp only [Act.put]
   have BL2:=hK2 _ (by omega) _ _ (Gr.blk g2 hL1)
   have BS2:=hK2 _ (by omega) _ _ (Gr.blk g2 BS1)
   have CR2:=hK2 _ (by omega) _ _ (Gr.blk g2 CR1)
   have hb2:=(Below.gr hb1 g2).trans (hB2 _ (by omega))
   refine wpAnyG_done (by kernel_rfl) (λv hv=>?_)
   have DH:=Gr.blk hv hL2
   have DL:=Gr.blk hv BL2
   have DS:=Gr.blk hv BS2
   have DR:=Gr.blk hv CR2
   have hbv:=Below.gr hb2 hv
   clear hv g1 g2 BH1 BS1 CR1 hb1 BL2 BS2 CR2 hb2 hL1 hL2 hB1 hB2 hK1 hK2
   go_wp2_with (first | ((with_reducible refine here_load (d:=some 22) ?_); refine wpList_load_fv rfl _ _ rfl (w1.heap.size) rfl (s2) _ _ _ (DS) (fv_fcs _) Tryz.underlying42 rfl (by kernel_rfl) ?_) | ((with_reducible refine here_load (d:=some 23) ?_); refine wpList_load_fv rfl _ _ rfl (wr.heap.size) rfl (l3) _ _ _ (DL) (fv_fcs _) Tryz.underlying42 rfl (by kernel_rfl) ?_))
   refine (c3 _).mono ?_
   rintro e y1 ⟨rfl,k1⟩
   have EH:=Gr.blk k1 DH
   have ES:=Gr.blk k1 DS
   have ER:=Gr.blk k1 DR
   have hby:=Below.gr hbv k1
   clear k1
   go_wp2_with (first | ((with_reducible refine here_store ?_); refine wpList_store_blk rfl _ _ _ rfl (w1.heap.size) (fcs (s3)) rfl rfl _ _ (ES) (by kernel_rfl) (by rfl) (fcs_one _) ?_; intro y2 hLy hBy hKy))
   exact ⟨⟨hby.trans (hBy _ (by omega)),hKy _ (by omega) _ _ ER,Lib.hid (.inr (.inr (.inr (⟨rfl,hLy,hKy _ (by omega) _ _ EH⟩))))⟩,by decide⟩
  ·clear HI
   go_wp2_with (first | ((with_reducible refine here_load (d:=some 26) ?_); refine wpList_load_fv rfl _ _ rfl (w1.heap.size) rfl (s3) _ _ _ (BS) (fv_fcs _) Tryz.underlying42 rfl (by kernel_rfl) ?_) | ((with_reducible refine here_store ?_); refine wpList_store_blk rfl _ _ _ rfl (w.heap.size+2) (fcs (s3)) rfl rfl _ _ (CR) (by kernel_rfl) (by rfl) (fcs_one _) ?_; intro w9 hL9 hB9 hK9))
   exact bodyPost_ret (results_cell_row rfl _ _ (w.heap.size+2) _ _ (0,0) _ rfl hL9 Tryz.underlying42 rfl (by kernel_rfl)) rfl ⟨rfl,hb.trans (hB9 _ (by omega))⟩
end Sc
end
section
namespace Sh
open Go.RowKit Sp
end Sh
end
section
namespace Cu
open Go.RowKit Sy
set_option maxRecDepth 100000
set_option maxHeartbeats 4000000
end Cu
end
section
namespace Cu
open Go.RowKit Sy
set_option maxRecDepth 100000
set_option maxHeartbeats 4000000
end Cu
end
section
namespace Cu
open Go.RowKit Sy
set_option maxRecDepth 100000
set_option maxHeartbeats 4000000
section
variable {P:Program} {w0:Base} {n:Nat} {F:Slots} {L:Blocks}
theorem retG {w1:World} {fn:Func} {r:ResultVar} {v:Value} {R:Value→Blocks→Prop} (i:Nat) (b:Nat×TypeId×Array Value) (hr:fn.results=#[r]) (h:Has P F L r v) (hb:L[i]? = some b) (hR:R v [b]):X (Base.of w1) n (bodyPost P fn (GetsN w1 R)) F L .ret:=λa w ha hw=>by
 refine bodyPost_ret (v:=v) ?_ ha.1 ⟨v,[b],rfl,hR,hw.below,λg t cs hm=>?_,by simp⟩
 ·rcases Res.run h ha hw with ⟨t,rfl,e1⟩ | ⟨t,ty,ad,rfl,e1,e2⟩ <;> simp [results,Result.andThen, *]
 ·obtain rfl:=List.mem_singleton.1 hm
  exact hw.blk _ _ _ (List.mem_of_getElem? hb)
end
end Cu
end
section
section
open Go.RowKit Go.Lib
end
end
section
namespace Cu
open Go.RowKit Sy
end Cu
end
section
namespace Cu
open Go.RowKit Sy
set_option maxRecDepth 100000
set_option maxHeartbeats 4000000
section
variable {P:Program} {w0:Base} {F:Slots} {L:Blocks} {o:Oper}
end
end Cu
end
section
namespace Cu
open Go.RowKit Sy
set_option maxRecDepth 100000
set_option maxHeartbeats 4000000
def trl (k x y:Nat) (i:Bool):List Value:=fws k++(fws x++(fws y++[Value.bool i]))
def two (z e px py:Nat) (pi:Bool) (j:Nat):Trm:=if j=0 then ⟨z,gx.val,gy.val,false⟩ else ⟨e,px,py,pi⟩
def rPt (z e px py:Nat) (pi:Bool):Pt:=Ec.add finv (Ec.nm finv (z%Sc.pM) bP) (Ec.nm finv (e%Sc.pM) (dec px py pi))
theorem rPt_on (z e px py:Nat) (pi:Bool):Ec.On (rPt z e px py pi):=Ec.On.add fld (bP_on.nm fld _) ((dec_on _ _ _).nm fld _)
theorem two_c (w:World) (g:Nat) (t:TypeId) (z e px py:Nat) (pi:Bool) (hz:z<K4) (he:e<K4) (hx:px<K4) (hy:py<K4) (hb:Blk w g t (trl z gx.val gy.val false++trl e px py pi).toArray):Calls Tryz.prog 138 #[.slice (some ⟨g,0,none⟩) 2 2] w (Gets w (ptv (rPt z e px py pi))):=by
 have hr:w.rangeAt g 0 (trl z gx.val gy.val false++trl e px py pi):=blk_range hb (by rw [List.drop_zero]; exact List.take_of_length_le (Nat.le_refl _))
 have h:=multi_any w (some ⟨g,0,none⟩) g 0 2 2 (two z e px py pi) (Nat.le_refl _) (by decide) (λj=>by
  unfold two
  split
  ·exact ⟨hz,lt4 _,lt4 _⟩
  ·exact ⟨he,hx,hy⟩) (λ_=>⟨rfl,hb.lt,λj hj=>by
  rcases j with _ | _ | j
  ·exact range_left hr
  ·exact range_right hr rfl
  ·omega⟩)
 have e0:Ec.sumL finv (λt=>Ec.nm finv (two z e px py pi t).kn (two z e px py pi t).pt) (List.range 2)=rPt z e px py pi:=by
  have d0:dec gx.val gy.val false=bP:=dec_fin gx gy bP_on
  unfold rPt
  rw [← d0]
  show Ec.add finv (Ec.add finv none (Ec.nm finv (z%Sc.pM) (dec gx.val gy.val false))) (Ec.nm finv (e%Sc.pM) (dec px py pi))=_
  rw [Ec.zero_add]
 rw [e0] at h
 exact h
end Cu
end
section
namespace Cu
open Go.RowKit Sy
end Cu
end
section
namespace Nt
theorem pr_44706919:Pr 44706919:=small_prime (b:=6687) (by decide) (by decide) (by decide +kernel)
theorem pr_120233:Pr 120233:=small_prime (b:=347) (by decide) (by decide) (by decide +kernel)
theorem pr_545358713:Pr 545358713:=small_prime (b:=23354) (by decide) (by decide) (by decide +kernel)
theorem pr_305873:Pr 305873:=small_prime (b:=554) (by decide) (by decide) (by decide +kernel)
theorem pr_293:Pr 293:=small_prime (b:=18) (by decide) (by decide) (by decide +kernel)
theorem pr_n1:Pr 174723607534414371449:=by
 refine pock (F:=44706919*120233) (by decide) (λr hr hrN=>?_) (by decide)
 have h0:=pock_pm 68 2 (by decide) pr_44706919 (by decide) (by decide +kernel) (by decide +kernel) (by decide) r hr hrN
 have h1:=pock_pm 68 2 (by decide) pr_120233 (by decide) (by decide +kernel) (by decide +kernel) (by decide) r hr hrN
 exact Nat.Coprime.mul_dvd_of_dvd_of_dvd (by decide) h0 h1
theorem pr_n3:Pr 29047611873442575647497758179:=by
 refine pock (F:=545358713*(305873*293)) (by decide) (λr hr hrN=>?_) (by decide)
 have h0:=pock_pm 95 2 (by decide) pr_545358713 (by decide) (by decide +kernel) (by decide +kernel) (by decide) r hr hrN
 have h1:=pock_pm 95 2 (by decide) pr_305873 (by decide) (by decide +kernel) (by decide +kernel) (by decide) r hr hrN
 have h2:=pock_pm 95 2 (by decide) pr_293 (by decide) (by decide +kernel) (by decide +kernel) (by decide) r hr hrN
 exact Nat.Coprime.mul_dvd_of_dvd_of_dvd (by decide) h0 (Nat.Coprime.mul_dvd_of_dvd_of_dvd (by decide) h1 h2)
theorem pr_n2:Pr 341948486974166000522343609283189 :=
 pock (F:=29047611873442575647497758179) (by decide) (λr hr hrN=>pock_pm 109 2 (by decide) pr_n3 (by decide) (by decide +kernel) (by decide +kernel) (by decide) r hr hrN) (by decide)
theorem pr_n:Pr 115792089237316195423570985008687907852837564279074904382605163141518161494337:=by
 refine pock (F:=174723607534414371449*341948486974166000522343609283189) (by decide) (λr hr hrN=>?_) (by decide)
 have h0:=pock_pm 256 2 (by decide) pr_n1 (by decide) (by decide +kernel) (by decide +kernel) (by decide) r hr hrN
 have h1:=pock_pm 256 2 (by decide) pr_n2 (by decide) (by decide +kernel) (by decide +kernel) (by decide) r hr hrN
 exact Nat.Coprime.mul_dvd_of_dvd_of_dvd (by decide) h0 h1
end Nt
end
section
namespace Cu
open Go.RowKit
def fc {α:Type} (x:Nat) (f:Nat→α):α:=match x with
 | 0=>f 0
 | n+1=>f (n+1)
theorem fc_eq {α:Type} (x:Nat) (f:Nat→α):fc x f=f x:=by cases x <;> rfl
def ml (a b:Nat):Nat:=a*b%pM
def sb (a b:Nat):Nat:=(pM - b+a)%pM
def ad (a b:Nat):Nat:=(a+b)%pM
def dbK {α:Type} (x y z:Nat) (k:Nat→Nat→Nat→α):α :=
 fc (ml (ml x x) 3) λu=>fc (ml (ml x (ml y y)) 4) λq=>fc (sb (ml u u) (ad q q)) λX=>fc (sb (ml u (sb q X)) (ml (ml (ml y y) (ml y y)) 8)) λY=>fc (ml (ml y z) 2) λZ=>k X Y Z
theorem dbK_eq {α:Type} (a:J) (k:Nat→Nat→Nat→α):dbK a.x.val a.y.val a.z.val k=k (dblJ a).x.val (dblJ a).y.val (dblJ a).z.val:=by
 unfold dbK
 simp only [fc_eq]
 rfl
def bJ:J:=⟨gx,gy,1⟩
def adK {α:Type} (x y z:Nat) (k:Nat→Nat→Nat→α):α :=
 cond (Nat.beq z 0) (k gx.val gy.val 1)<|fc (sb (ml gx.val (ml z z)) x) λc=>fc (sb (ml gy.val (ml (ml z z) z)) y) λr =>
 cond (Nat.beq c 0 && Nat.beq r 0) (dbK x y z k)<|fc (ml (ml c c) c) λd=>fc (ml x (ml c c)) λe =>
 fc (sb (sb (ml r r) d) (ad e e)) λX=>fc (sb (ml r (sb e X)) (ml y d)) λY=>fc (ml z c) λZ=>k X Y Z
theorem one_ne:(1:Fp)≠0:=by decide +kernel
theorem uJ_b (a:J):uJ a bJ=a.x:=by
 show a.x*(1*1)=a.x
 grobner
theorem vJ_b (a:J):vJ a bJ=a.y:=by
 show a.y*(1*1*1)=a.y
 grobner
theorem zero_val (a:Fp):Nat.beq a.val 0=true↔a=0:=by
 rw [Nat.beq_eq]
 exact ⟨λh=>Fin.ext h,λh=>by rw [h]; rfl⟩
theorem adK_eq {α:Type} (a:J) (k:Nat→Nat→Nat→α):adK a.x.val a.y.val a.z.val k=k (addJ a bJ).x.val (addJ a bJ).y.val (addJ a bJ).z.val:=by
 unfold adK
 by_cases h:a.z=0
 ·rw [(zero_val _).2 h,addJ_1 h]
  rfl
 ·rw [show Nat.beq a.z.val 0=false from by cases e:Nat.beq a.z.val 0 with | false=>rfl | true=>exact absurd ((zero_val _).1 e) h]
  simp only [cond_false,fc_eq]
  have hc:cJ a bJ=gx*(a.z*a.z) - a.x:=by unfold cJ; rw [uJ_b]; rfl
  have hr:rJ a bJ=gy*(a.z*a.z*a.z) - a.y:=by unfold rJ; rw [vJ_b]; rfl
  have ec:sb (ml gx.val (ml a.z.val a.z.val)) a.x.val=(cJ a bJ).val:=by rw [hc]; rfl
  have er:sb (ml gy.val (ml (ml a.z.val a.z.val) a.z.val)) a.y.val=(rJ a bJ).val:=by rw [hr]; rfl
  rw [ec,er]
  by_cases hz:cJ a bJ=0∧rJ a bJ=0
  ·rw [(zero_val _).2 hz.1,(zero_val _).2 hz.2,addJ_3 h one_ne hz.1 hz.2]
   exact dbK_eq a k
  ·have e:(Nat.beq (cJ a bJ).val 0 && Nat.beq (rJ a bJ).val 0)=false:=by
    cases q:(Nat.beq (cJ a bJ).val 0 && Nat.beq (rJ a bJ).val 0) with
    | false=>rfl
    | true =>
     rw [Bool.and_eq_true] at q
     exact absurd ⟨(zero_val _).1 q.1,(zero_val _).1 q.2⟩ hz
   rw [e,addJ_4 h one_ne hz]
   simp only [cond_false]
   have s1:szJ a bJ=a.z*cJ a bJ:=by
    show a.z*1*cJ a bJ=_
    grobner
   unfold sxJ syJ sxJ
   rw [s1,uJ_b,vJ_b]
   rfl
def gK {α:Type} (m:Nat):Nat→Nat→Nat→Nat→(Nat→Nat→Nat→α)→α
 | 0,x,y,z,k=>k x y z
 | i+1,x,y,z,k=>dbK x y z λx y z=>cond (Nat.beq (m / 2 ^ i%2) 1) (adK x y z λx y z=>gK m i x y z k) (gK m i x y z k)
theorem bJ_rep:Ec.Rep bJ bP:=by
 show (1:Fp)≠0∧gx=gx*(1*1)∧gy=gy*(1*1*1)
 exact ⟨one_ne,by grobner,by grobner⟩
theorem gK_rep {α:Type} (m:Nat) (k:Nat→Nat→Nat→α):∀ (i:Nat) (a:J) (t:Nat),Ec.Rep a (Ec.nm finv t bP)→∃ a':J,gK m i a.x.val a.y.val a.z.val k=k a'.x.val a'.y.val a'.z.val∧Ec.Rep a' (Ec.nm finv (t*2 ^ i+m%2 ^ i) bP)
 | 0,a,t,h=>⟨a,rfl,by rw [Nat.pow_zero,Nat.mul_one,Nat.mod_one,Nat.add_zero]; exact h⟩
 | i+1,a,t,h=>by
  have o:=bP_on.nm fld t
  have h2:Ec.Rep (dblJ a) (Ec.nm finv (t+t) bP):=by
   rw [Ec.nm_add fld bP_on]
   exact dblJ_rep o h
  show ∃ a',dbK _ _ _ _=_∧_
  rw [dbK_eq,Nat.mod_pow_succ,Nat.pow_succ]
  by_cases hb:m / 2 ^ i%2=1
  ·rw [show Nat.beq (m / 2 ^ i%2) 1=true from by rw [hb]; rfl,cond_true,adK_eq]
   have h3:Ec.Rep (addJ (dblJ a) bJ) (Ec.nm finv (t+t+1) bP):=by
    rw [Ec.nm_add fld bP_on,Ec.nm_one]
    exact addJ_rep (bP_on.nm fld _) bP_on h2 bJ_rep
   obtain ⟨a',e,r⟩:=gK_rep m k i _ _ h3
   refine ⟨a',e,?_⟩
   rw [show (t+t+1)*2 ^ i+m%2 ^ i=t*(2 ^ i*2)+(m%2 ^ i+2 ^ i*(m / 2 ^ i%2)) from by rw [hb,Nat.mul_one,Nat.add_mul,Nat.one_mul,Nat.add_mul, ← Nat.mul_assoc,Nat.mul_two]; omega] at r
   exact r
  ·have h0:m / 2 ^ i%2=0:=by omega
   rw [h0]
   show ∃ a',gK m i _ _ _ k=_∧_
   obtain ⟨a',e,r⟩:=gK_rep m k i _ _ h2
   refine ⟨a',e,?_⟩
   rw [show (t+t)*2 ^ i+m%2 ^ i=t*(2 ^ i*2)+(m%2 ^ i+2 ^ i*0) from by rw [Nat.mul_zero,Nat.add_mul, ← Nat.mul_assoc,Nat.mul_two]; omega] at r
   exact r
def oJ:J:=⟨0,0,0⟩
theorem oJ_rep:Ec.Rep oJ (Ec.nm finv 0 bP):=rfl
def nN:Nat:=115792089237316195423570985008687907852837564279074904382605163141518161494337
set_option maxRecDepth 100000 in
theorem nN_big:nN%2 ^ 256=nN:=by decide +kernel
set_option maxRecDepth 100000 in
theorem chain:gK nN 256 0 0 0 (λ_ _ z=>z)=0:=by decide +kernel
theorem gK_none {m:Nat} (hm:m%2 ^ 256=m) (h:gK m 256 0 0 0 (λ_ _ z=>z)=0):Ec.nm finv m bP=none:=by
 obtain ⟨a,e,r⟩:=gK_rep m (λ_ _ z=>z) 256 oJ 0 oJ_rep
 rw [Nat.zero_mul,Nat.zero_add,hm] at r
 have e':gK m 256 0 0 0 (λ_ _ z=>z)=a.z.val:=e
 rw [h] at e'
 have hz:a.z=0:=Fin.ext e'.symm
 revert r
 cases Ec.nm finv m bP with
 | none=>exact λ_=>rfl
 | some P =>
  obtain ⟨X,Y⟩:=P
  exact λr=>absurd hz r.1
theorem n_base:Ec.nm finv nN bP=none:=gK_none nN_big chain
theorem prime_div (q:Nat) (hp:Nt.Pr q) (h1:¬ q=0) (d:Nat) (h:d ∣ q):d=1∨d=q:=by
 rcases Nat.lt_or_ge d q with hlt | hge
 ·left
  have h0:0<d:=by
   rcases Nat.eq_zero_or_pos d with rfl | h0
   ·exact absurd (Nat.eq_zero_of_zero_dvd h) h1
   ·exact h0
  have:=hp.2 d h0 hlt
  rwa [Nat.gcd_eq_left h] at this
 ·right
  exact Nat.le_antisymm (Nat.le_of_dvd (by omega) h) hge
set_option maxRecDepth 100000 in
theorem prime_nN:Nt.Pr nN:=Nt.pr_n
theorem n_prime:∀ d,d ∣ nN→d=1∨d=nN:=prime_div nN prime_nN (by decide +kernel)
theorem n_any {P:Pt} (hP:Ec.On P):Ec.nm finv nN P=none :=
 Ec.all_order fld (by decide +kernel) bP_on (by unfold bP; exact λh=>by cases h) n_base n_prime (by decide +kernel) hP
theorem nm_modN {P:Pt} (hP:Ec.On P) (k:Nat):Ec.nm finv (k%nN) P=Ec.nm finv k P:=Ec.nm_mod fld hP (n_any hP) k
end Cu
end
section
namespace Cu
open Go.RowKit Sy
theorem nN_pM:nN=Sc.pM:=by decide +kernel
theorem nm_p {P:Pt} (hP:Ec.On P) (k:Nat):Ec.nm finv (k%Sc.pM) P=Ec.nm finv k P:=by
 have h:=nm_modN hP k
 rwa [nN_pM] at h
theorem nm_negP {P:Pt} (hP:Ec.On P) (k:Nat):Ec.nm finv (Sc.negP k%Sc.pM) P=Ec.neg (Ec.nm finv (k%Sc.pM) P):=by
 have hlt:k%Sc.pM<Sc.pM:=Sc.mod_lt_p k
 have e1:Ec.nm finv (Sc.negP k%Sc.pM) P=Ec.nm finv (Sc.pM - k%Sc.pM) P:=by
  unfold Sc.negP
  rw [nm_p hP,nm_p hP]
 have e2:Ec.add finv (Ec.nm finv (k%Sc.pM) P) (Ec.nm finv (Sc.pM - k%Sc.pM) P)=none:=by
  rw [← Ec.nm_add fld hP,show k%Sc.pM+(Sc.pM - k%Sc.pM)=Sc.pM by omega, ← nm_p hP,Nat.mod_self]
  rfl
 have o1:=hP.nm fld (k%Sc.pM)
 have o2:=hP.nm fld (Sc.pM - k%Sc.pM)
 rw [e1]
 have e3:=congrArg (Ec.add finv (Ec.neg (Ec.nm finv (k%Sc.pM) P))) e2
 rw [← Ec.assoc fld o1.neg o1 o2,Ec.neg_add,Ec.zero_add,Ec.add_zero] at e3
 exact e3
end Cu
end
section
namespace Cu
open Go.RowKit Sy
end Cu
end
section
namespace Sc
open Go.RowKit Go.Lib
end Sc
end
section
namespace Sc
open Go.RowKit Go.Lib
section
variable {P:Program} {ops:Array Oper}
end
end Sc
end
section
namespace Sc
open Go.RowKit Go.Lib
end Sc
end
section
namespace Cu
open Go.RowKit Sy
set_option maxRecDepth 100000
theorem conv_u8 (w:World) (F:Slots) (o:Oper) (x:Operand) (k:Nat) (hk:k<256) (ho:o.op=.convert 3 5 x) (hx:evF F x=.int .i64 (k:Int)):(execOp (evF F) o).run Tryz.prog w=.ok (.value (bv (UInt8.ofNat k))) w:=by
 have h:(convert 3 5 (.int .i64 (k:Int))).run Tryz.prog w=.ok (bv (UInt8.ofNat k)) w:=by
  have e:(UInt8.ofNat k).toNat=k:=by rw [UInt8.toNat_ofNat']; omega
  unfold bv
  rw [e]
  go_simp
  exact wrap_u8 (by omega) (by omega)
 unfold execOp
 simp only [ho,hx,Sem.run_bind,h,Result.andThen_ok,Sem.run_pure]
end Cu
end
section
namespace Cu
open Go.RowKit Sy
end Cu
end
section
namespace Cu
open Go.RowKit Sy
set_option maxRecDepth 100000
set_option maxHeartbeats 4000000
end Cu
end
section
namespace Cu
open Go.RowKit Sy
set_option maxRecDepth 100000
set_option maxHeartbeats 4000000
end Cu
end
section
namespace Cu
open Go.RowKit Sy
end Cu
end
section
namespace Cu
open Go.RowKit Sy
theorem neq_digest (w:World) (F:Slots) (o:Oper) (x y:Operand) (a b:List UInt8) (ha:a.length=32) (hb:b.length=32) {yt:TypeId} (ho:o.op=.binOp .neq 23 x y yt) (hx:evF F x=.agg (a.map bv).toArray) (hy:evF F y=.agg (b.map bv).toArray):(execOp (evF F) o).run Tryz.prog w=.ok (.value (.bool (decide (a≠b)))) w:=by
 have h1:(eqGuard .neq 23 x y (.agg (a.map bv).toArray) (.agg (b.map bv).toArray)).run Tryz.prog w=.ok () w:=by go_simp
 have h2:(binOp .neq 23 (.agg (a.map bv).toArray) (.agg (b.map bv).toArray)).run Tryz.prog w=.ok (.bool (decide (a≠b))) w:=by
  have h:=run_equalIn_bytes (P:=Tryz.prog) w 9998 23 5 32 Tryz.underlying23 Tryz.underlying5 (λW=>by kernel_rfl) a b ha hb
  rw [run_neq_struct,show (10000:Nat)=9998+2 from rfl,show (Op.equalIn (9998+2) 23 (.agg (a.map bv).toArray) (.agg (b.map bv).toArray)).run Tryz.prog w=_ from h]
  by_cases e:a=b <;> simp [e]
 unfold execOp
 simp only [ho,hx,hy,Sem.run_bind,h1,h2,Result.andThen_ok,Sem.run_pure]
end Cu
end
section
namespace Cu
open Go.RowKit Sy
end Cu
end
section
namespace Cu
open Go.RowKit Sy
end Cu
end
section
namespace Cu
open Go.RowKit Sy
set_option maxRecDepth 100000
set_option maxHeartbeats 4000000
def pml (x y:Nat) (i:Bool):List Value:=fws x++(fws y++[Value.bool i])
theorem sameB_self (a b:Nat) (i:Bool):sameB a b i a b i=true:=by
 unfold sameB
 simp
theorem neq_sc (w:World) (F:Slots) (o:Oper) (x y:Operand) (n m:Nat) {yt:TypeId} (ho:o.op=.binOp .neq 42 x y yt) (hx:evF F x=fv n) (hy:evF F y=fv m) (hn:n<K4) (hm:m<K4):(execOp (evF F) o).run Tryz.prog w=.ok (.value (.bool (!decide (n=m)))) w:=by
 have h1:=Sc.run_eqGuard_fv .neq x y n m w
 have h2:=Sc.run_neq_fv w n m hn hm
 rw [decide_not] at h2
 unfold execOp
 simp only [ho,hx,hy,Sem.run_bind,h1,h2,Result.andThen_ok,Sem.run_pure]
theorem mul_of7 {P R:Pt} {k a b:Nat} {i:Bool} (hk:k<K4) (ha:a<K4) (hb:b<K4) (h1:dec a b i=P) (he:Ec.nm finv (k%Sc.pM) P=R) (w:World):Calls Tryz.prog 108 #[fv k,pv a b i] w (Gets w (pv (pX R) (pY R) (pI R))):=by
 have h:=mul_any w k a b i hk ha hb
 rw [h1,he,ptv_parts] at h
 exact h
end Cu
end
section
namespace Cu
open Go.RowKit Sy
end Cu
end
section
namespace Cu
open Go.RowKit Sy
set_option maxRecDepth 100000
set_option maxHeartbeats 4000000
def CodeIs (P:Pt) (v:Value) (M:Blocks):Prop:=∃ g,v=.slice (some ⟨g,0,none⟩) 33 33∧M=[(g,191,((encS P).map bv).toArray)]
def openB (x px py:Nat) (pi:Bool):Bool:=sameB (pX (evP x)) (pY (evP x)) (pI (evP x)) px py pi
theorem code_any (w:World) (px py:Nat) (pi:Bool) (hpx:px<K4) (hpy:py<K4):Calls Tryz.prog 105 #[pv px py pi] w (GetsN w (CodeIs (dec px py pi))):=by
 refine Sy.enter (args:=[pv px py pi]) Tryz.func105 rfl kL ?_
 refine sC ?_
 refine sM 48 (pcs px py pi) (λg0=>?_)
 refine sP (.slice none 0 0) ?_
 refine sA ?_
 refine sS (pv px py pi) (qL 0 g0 0 9 48 48 (pcs px py pi) rfl Tryz.underlying48)<|sS (.agg ((encS (dec px py pi)).map bv).toArray) (qF 162 #[pv px py pi] (λw=>enc_any w px py pi hpx hpy)) ?_
 refine Sy.make kR 191 (Zl 33).toArray ptr kF (λg1=>?_)
 refine Sy.write kR 1 g1 191 (Zl 33).toArray ((encS (dec px py pi)).map bv).toArray kR (Writes.store 0 191 ((encS (dec px py pi)).map bv).toArray _ _ rfl kR kR (by rw [key_sz (encS (dec px py pi)) (encS_length _)]; kernel_rfl) (by rw [key_sz (encS (dec px py pi)) (encS_length _)]; exact Nat.le_of_ble_eq_true kR) (key_one _) (key_set _ _ (by rw [(encS_length _)]; kernel_rfl))) ?_
 refine sA ?_
 refine sP (.slice (some ⟨g1,0,none⟩) 33 33)<|sP (.slice (some ⟨g1,0,none⟩) 33 33) ?_
 refine sG<|Sy.ret ?_
 exact retG 1 (g1,191,((encS (dec px py pi)).map bv).toArray) rfl (v:=.slice (some ⟨g1,0,none⟩) 33 33) (.inl (show _=_ by kernel_rfl)) kR ⟨_,rfl,rfl⟩
theorem opens_any (w:World) (x px py:Nat) (pi:Bool) (hx:x<K4) (hpx:px<K4) (hpy:py<K4):Calls Tryz.prog 104 #[fv x,pv px py pi] w (Gets w (.bool (openB x px py pi))):=by
 have hPX:=pX_lt (evP x)
 have hPY:=pY_lt (evP x)
 refine Sy.enter (args:=[fv x,pv px py pi]) Tryz.func104 rfl kL ?_
 refine sC ?_
 refine sM 42 (fcs x) (λg0=>?_)
 refine sM 48 (pcs px py pi) (λg1=>?_)
 refine sP (.bool false) ?_
 refine sH (λj=>false) ?_
 refine sD 0 rfl (fv x) (qL 0 g0 0 4 42 42 (fcs x) rfl Tryz.underlying42)<|sD 1 rfl (pv gx.val gy.val false) (qF 110 #[] (base_c))<|sD 2 rfl (pv (pX (evP x)) (pY (evP x)) (pI (evP x))) (qF 108 #[fv x,pv gx.val gy.val false] (λw=>mul_of7 hx (lt4 _) (lt4 _) (show dec gx.val gy.val false=bP from dec_fin gx gy bP_on) rfl w))<|sD 3 rfl (pv px py pi) (qL 1 g1 0 9 48 48 (pcs px py pi) rfl Tryz.underlying48) ?_
 obtain ⟨b1,hb1⟩:∃ z:Bool,z=sameB (pX (evP x)) (pY (evP x)) (pI (evP x)) px py pi:=⟨_,rfl⟩
 refine sD 4 rfl (.bool b1) (Quiet.pure (λw=>by rw [hb1]; exact eql_pt w _ _ _ _ _ _ _ _ _ _ rfl rfl rfl lK lK lK lK))<|sZ 5 rfl (.bool b1) ?_
 refine sI ?_
 refine Sy.ret ?_
 rw [show (.bool (openB x px py pi):Value)=.bool b1 from by unfold openB; rw [hb1]]
 exact rV (.bool b1) rfl
theorem answer_any (w:World) (s e px py:Nat) (pi:Bool) (hs:s<K4) (he:e<K4) (hpx:px<K4) (hpy:py<K4):Calls Tryz.prog 117 #[fv s,fv e,pv px py pi] w (GetsN w (CodeIs (rPt s e px py pi))):=by
 refine Sy.enter (args:=[fv s,fv e,pv px py pi]) Tryz.func117 rfl kL ?_
 refine sC ?_
 refine sM 42 (fcs s) (λg0=>?_)
 refine sM 42 (fcs e) (λg1=>?_)
 refine sM 48 (pcs px py pi) (λg2=>?_)
 refine sP (.slice none 0 0) ?_
 refine sH (λj=>false) ?_
 refine sD 0 rfl (fv s) (qL 0 g0 0 4 42 42 (fcs s) rfl Tryz.underlying42)<|sD 1 rfl (pv gx.val gy.val false) (qF 110 #[] (base_c))<|sZ 2 rfl (trv s gx.val gy.val false)<|sD 3 rfl (fv e) (qL 1 g1 0 4 42 42 (fcs e) rfl Tryz.underlying42)<|sD 4 rfl (pv px py pi) (qL 2 g2 0 9 48 48 (pcs px py pi) rfl Tryz.underlying48)<|sZ 5 rfl (trv e px py pi) ?_
 refine Sy.makeD 6 rfl kR kR 173 (trl s gx.val gy.val false++(trl e px py pi)).toArray (λg=>.slice (some ⟨g,0,none⟩) 2 2) kF (λg3=>?_)
 refine sD 7 rfl (pv (pX (rPt s e px py pi)) (pY (rPt s e px py pi)) (pI (rPt s e px py pi))) (qG 138 #[.slice (some ⟨g3,0,none⟩) 2 2] (λw hw=>by rw [← ptv_parts]; exact two_c w g3 _ _ _ px py pi hs he hpx hpy (hw.get (i:=3) rfl))) ?_
 refine Sy.callND 8 rfl kR kR 105 #[pv (pX (rPt s e px py pi)) (pY (rPt s e px py pi)) (pI (rPt s e px py pi))] kF ((CodeIs (rPt s e px py pi))) (λw hw=>by have q:=code_any w (pX (rPt s e px py pi)) (pY (rPt s e px py pi)) (pI (rPt s e px py pi)) (pX_lt _) (pY_lt _); rwa [dec_parts (rPt_on _ _ _ _ _)] at q) (λvq Mq hR0=>?_)
 obtain ⟨q7,rfl,rfl⟩:=hR0
 refine sZ 9 rfl (.slice (some ⟨q7,0,none⟩) 33 33) ?_
 refine sI ?_
 refine Sy.ret ?_
 exact retG 4 (q7,191,((encS (rPt s e px py pi)).map bv).toArray) rfl (v:=.slice (some ⟨q7,0,none⟩) 33 33) (.inl (show _=_ by kernel_rfl)) kR ⟨_,rfl,rfl⟩
end Cu
end
section
namespace Cu
open Go.RowKit Sy
set_option maxRecDepth 100000
set_option maxHeartbeats 4000000
def rgNonce:ByteArray:=⟨#[116,111,108,108,104,111,117,115,101,47,110,111,110,99,101]⟩
def rgFake:ByteArray:=⟨#[116,111,108,108,104,111,117,115,101,47,102,97,107,101]⟩
def rgStep:ByteArray:=⟨#[116,111,108,108,104,111,117,115,101,47,115,116,101,112]⟩
def rgFirst:ByteArray:=⟨#[116,111,108,108,104,111,117,115,101,47,102,105,114,115,116]⟩
def rgRing:ByteArray:=⟨#[116,111,108,108,104,111,117,115,101,47,114,105,110,103]⟩
def bndc (RA:Option Addr) (RN RC:Nat) (bm:List UInt8):List Value:=.slice RA RN RC::bm.map bv
def bndv (RA:Option Addr) (RN RC:Nat) (bm:List UInt8):Value:=.agg (bndc RA RN RC bm).toArray
theorem src_tail {w:World} {g:Nat} {t:TypeId} {v:Value} {l:List UInt8} (hb:Blk w g t (v::l.map bv).toArray):Sh.Src w (some ⟨g,1,none⟩) l:=λ_=>⟨g,1,rfl,hb.lt,λj u hj=>by
 refine (hb.cell (1+j)).trans ?_
 rw [Nat.add_comm,List.getElem?_toArray,List.getElem?_cons_succ,List.getElem?_map,hj]
 rfl⟩
theorem tagB_c (w:World) (nm:ByteArray) (hnm:nm.size≤1000000000) (g g1 g2 g3:Nat) (t t1 t2 t3:TypeId) (x y:List UInt8) (hx:x.length=32) (hy:y.length=32) (RA:Option Addr) (RN RC:Nat) (l:List UInt8) (k:Nat) (hk:l.length=k) (hk2:k≤100)
  (h1:Blk w g1 t1 (x.map bv).toArray) (h2:Blk w g2 t2 (bndc RA RN RC y).toArray) (h3:Blk w g3 t3 (l.map bv).toArray) (hb:Blk w g t #[.slice (some ⟨g1,0,none⟩) 32 32,.slice (some ⟨g2,1,none⟩) 32 32,.slice (some ⟨g3,0,none⟩) k k]) (ht:Sh.TabAt w 1) :
  Calls Tryz.prog 106 #[.string nm,.slice (some ⟨g,0,none⟩) 3 3] w (Gets w (.agg ((Sh.taggedS nm.data.toList (x++y++l)).map bv).toArray)):=by
 refine tag_c w nm hnm g t [⟨some ⟨g1,0,none⟩,x,32⟩,⟨some ⟨g2,1,none⟩,y,32⟩,⟨some ⟨g3,0,none⟩,l,k⟩] 3 3 (x++y++l) (by simp [Sh.cat]) rfl ?_ (ok3 (ok_key h1 hx) ⟨src_tail (v:=.slice RA RN RC) h2,by show y.length≤32; omega,by show 32≤9223372036854775807; omega⟩ ⟨Sh.Src.of_blk h3,by show l.length≤k; omega,by show k≤9223372036854775807; omega⟩) (by rw [List.length_append,List.length_append,hx,hy]; omega) (by decide) ht
 rw [List.map_cons,List.map_cons,List.map_cons,List.map_nil]
 unfold Sh.Tx.val
 rw [hx,hy,hk]
 exact hb
theorem tagX_c (w:World) (nm:ByteArray) (hnm:nm.size≤1000000000) (g g1 g3:Nat) (t t1 t3:TypeId) (y m:List UInt8) (hy:y.length=32) (A:Option Addr) (n c:Nat) (hn:m.length=n) (hm:n≤999999900) (hc:n≤c) (hc2:c≤9223372036854775807) (RA:Option Addr) (RN RC:Nat) (l:List UInt8) (k:Nat) (hk:l.length=k) (hk2:k≤60)
  (h1:Blk w g1 t1 (bndc RA RN RC y).toArray) (hs:Sh.Src w A m) (h3:Blk w g3 t3 (l.map bv).toArray) (hb:Blk w g t #[.slice (some ⟨g1,1,none⟩) 32 32,.slice A n c,.slice (some ⟨g3,0,none⟩) k k]) (ht:Sh.TabAt w 1) :
  Calls Tryz.prog 106 #[.string nm,.slice (some ⟨g,0,none⟩) 3 3] w (Gets w (.agg ((Sh.taggedS nm.data.toList (y++m++l)).map bv).toArray)):=by
 subst hn
 refine tag_c w nm hnm g t [⟨some ⟨g1,1,none⟩,y,32⟩,⟨A,m,c⟩,⟨some ⟨g3,0,none⟩,l,k⟩] 3 3 (y++m++l) (by simp [Sh.cat]) rfl ?_ (ok3 ⟨src_tail (v:=.slice RA RN RC) h1,by show y.length≤32; omega,by show 32≤9223372036854775807; omega⟩ ⟨hs,hc,hc2⟩ ⟨Sh.Src.of_blk h3,by show l.length≤k; omega,by show k≤9223372036854775807; omega⟩) (by rw [List.length_append,List.length_append,hy]; omega) (by decide) ht
 rw [List.map_cons,List.map_cons,List.map_cons,List.map_nil]
 unfold Sh.Tx.val
 rw [hy,hk]
 exact hb
def rgN (bm sd:List UInt8) (i:Nat):Nat:=valB (Sh.taggedS rgNonce.data.toList (sd++bm++[UInt8.ofNat i]))%Sc.pM
def rgF (bm sd:List UInt8) (i j:Nat):Nat:=valB (Sh.taggedS rgFake.data.toList (sd++bm++[UInt8.ofNat i,UInt8.ofNat j]))%Sc.pM
def rgC (bm x:List UInt8) (i j:Nat):Nat:=valB (Sh.taggedS rgStep.data.toList (bm++x++[UInt8.ofNat i,UInt8.ofNat j]))%Sc.pM
theorem rgN_lt (bm sd:List UInt8) (i:Nat):rgN bm sd i<K4:=Sc.mod_lt _
theorem rgF_lt (bm sd:List UInt8) (i j:Nat):rgF bm sd i j<K4:=Sc.mod_lt _
theorem rgC_lt (bm x:List UInt8) (i j:Nat):rgC bm x i j<K4:=Sc.mod_lt _
theorem nonceG_any (w:World) (RA:Option Addr) (RN RC:Nat) (bm:List UInt8) (hbm:bm.length=32) (sd:List UInt8) (hsd:sd.length=32) (i:Nat) (hi:i<256) (ht:Sh.TabAt w 1):Calls Tryz.prog 109 #[bndv RA RN RC bm,.agg (sd.map bv).toArray,.int .i64 ((i:Nat):Int)] w (Gets w (fv (rgN bm sd i))):=by
 refine Sy.enter (args:=[bndv RA RN RC bm,.agg (sd.map bv).toArray,.int .i64 ((i:Nat):Int)]) Tryz.func109 rfl kL ?_
 refine sC ?_
 refine sM 86 (bndc RA RN RC bm).toArray (λg0=>?_)
 refine sM 23 (sd.map bv).toArray (λg1=>?_)
 refine sM 42 (fcs 0) (λg2=>?_)
 refine sH (λj=>j == 9) ?_
 refine sZ 0 rfl (.slice (some ⟨g1,0,none⟩) 32 32)<|sZ 1 rfl (.pointer (some ⟨g0,1,none⟩))<|sZ 2 rfl (.slice (some ⟨g0,1,none⟩) 32 32)<|sZ 3 rfl (.int .i64 ((i:Nat):Int))<|sD 4 rfl (bv (UInt8.ofNat i)) (Quiet.pure (λw=>conv_u8 w _ _ _ i (by omega) rfl rfl)) ?_
 refine Sy.makeD 5 rfl kR kR 5 #[bv (UInt8.ofNat i)] (λg=>.slice (some ⟨g,0,none⟩) 1 1) kF (λg3=>?_)
 refine Sy.makeD 6 rfl kR kR 24 #[.slice (some ⟨g1,0,none⟩) 32 32,.slice (some ⟨g0,1,none⟩) 32 32,.slice (some ⟨g3,0,none⟩) 1 1] (λg=>.slice (some ⟨g,0,none⟩) 3 3) kF (λg4=>?_)
 refine sD 7 rfl (.agg ((Sh.taggedS rgNonce.data.toList (sd++bm++[(UInt8.ofNat i)])).map bv).toArray) (qG 106 #[.string rgNonce,.slice (some ⟨g4,0,none⟩) 3 3] (λw hw=>tagB_c w rgNonce (by decide) g4 g1 g0 g3 _ _ _ _ sd bm hsd hbm RA RN RC [(UInt8.ofNat i)] 1 rfl (by decide) (hw.get (i:=1) rfl) (hw.get (i:=0) rfl) (hw.get (i:=3) rfl) (hw.get (i:=4) rfl) (ht.below hw.below ht.lt)))<|sD 8 rfl (fv (valB (Sh.taggedS rgNonce.data.toList (sd++bm++[(UInt8.ofNat i)]))%Sc.pM)) (qF 144 #[.agg ((Sh.taggedS rgNonce.data.toList (sd++bm++[(UInt8.ofNat i)])).map bv).toArray] (λw=>Sc.reduceB_any w (Sh.taggedS rgNonce.data.toList (sd++bm++[(UInt8.ofNat i)])) (tagS_length _ _)))<|sX 9 rfl 2 g2 42 (fcs 0) (fcs (valB (Sh.taggedS rgNonce.data.toList (sd++bm++[(UInt8.ofNat i)]))%Sc.pM)) (wS 0 42 (fcs (valB (Sh.taggedS rgNonce.data.toList (sd++bm++[(UInt8.ofNat i)]))%Sc.pM)) rfl) ?_
 refine sI ?_
 refine Sy.ret ?_
 rw [show (fv (rgN bm sd i):Value)=fv (valB (Sh.taggedS rgNonce.data.toList (sd++bm++[(UInt8.ofNat i)]))%Sc.pM) from rfl]
 exact rC (v:=fv (valB (Sh.taggedS rgNonce.data.toList (sd++bm++[(UInt8.ofNat i)]))%Sc.pM)) 42 g2 2 (fcs (valB (Sh.taggedS rgNonce.data.toList (sd++bm++[(UInt8.ofNat i)]))%Sc.pM)) rfl Tryz.underlying42
theorem fakeG_any (w:World) (RA:Option Addr) (RN RC:Nat) (bm:List UInt8) (hbm:bm.length=32) (sd:List UInt8) (hsd:sd.length=32) (i j:Nat) (hi:i<256) (hj:j<256) (ht:Sh.TabAt w 1):Calls Tryz.prog 171 #[bndv RA RN RC bm,.agg (sd.map bv).toArray,.int .i64 ((i:Nat):Int),.int .i64 ((j:Nat):Int)] w (Gets w (fv (rgF bm sd i j))):=by
 refine Sy.enter (args:=[bndv RA RN RC bm,.agg (sd.map bv).toArray,.int .i64 ((i:Nat):Int),.int .i64 ((j:Nat):Int)]) Tryz.func171 rfl kL ?_
 refine sC ?_
 refine sM 86 (bndc RA RN RC bm).toArray (λg0=>?_)
 refine sM 23 (sd.map bv).toArray (λg1=>?_)
 refine sM 42 (fcs 0) (λg2=>?_)
 refine sH (λj=>j == 11) ?_
 refine sZ 0 rfl (.slice (some ⟨g1,0,none⟩) 32 32)<|sZ 1 rfl (.pointer (some ⟨g0,1,none⟩))<|sZ 2 rfl (.slice (some ⟨g0,1,none⟩) 32 32)<|sZ 3 rfl (.int .i64 ((i:Nat):Int))<|sD 4 rfl (bv (UInt8.ofNat i)) (Quiet.pure (λw=>conv_u8 w _ _ _ i (by omega) rfl rfl))<|sZ 5 rfl (.int .i64 ((j:Nat):Int))<|sD 6 rfl (bv (UInt8.ofNat j)) (Quiet.pure (λw=>conv_u8 w _ _ _ j (by omega) rfl rfl)) ?_
 refine Sy.makeD 7 rfl kR kR 5 #[bv (UInt8.ofNat i),bv (UInt8.ofNat j)] (λg=>.slice (some ⟨g,0,none⟩) 2 2) kF (λg3=>?_)
 refine Sy.makeD 8 rfl kR kR 24 #[.slice (some ⟨g1,0,none⟩) 32 32,.slice (some ⟨g0,1,none⟩) 32 32,.slice (some ⟨g3,0,none⟩) 2 2] (λg=>.slice (some ⟨g,0,none⟩) 3 3) kF (λg4=>?_)
 refine sD 9 rfl (.agg ((Sh.taggedS rgFake.data.toList (sd++bm++[(UInt8.ofNat i),(UInt8.ofNat j)])).map bv).toArray) (qG 106 #[.string rgFake,.slice (some ⟨g4,0,none⟩) 3 3] (λw hw=>tagB_c w rgFake (by decide) g4 g1 g0 g3 _ _ _ _ sd bm hsd hbm RA RN RC [(UInt8.ofNat i),(UInt8.ofNat j)] 2 rfl (by decide) (hw.get (i:=1) rfl) (hw.get (i:=0) rfl) (hw.get (i:=3) rfl) (hw.get (i:=4) rfl) (ht.below hw.below ht.lt)))<|sD 10 rfl (fv (valB (Sh.taggedS rgFake.data.toList (sd++bm++[(UInt8.ofNat i),(UInt8.ofNat j)]))%Sc.pM)) (qF 144 #[.agg ((Sh.taggedS rgFake.data.toList (sd++bm++[(UInt8.ofNat i),(UInt8.ofNat j)])).map bv).toArray] (λw=>Sc.reduceB_any w (Sh.taggedS rgFake.data.toList (sd++bm++[(UInt8.ofNat i),(UInt8.ofNat j)])) (tagS_length _ _)))<|sX 11 rfl 2 g2 42 (fcs 0) (fcs (valB (Sh.taggedS rgFake.data.toList (sd++bm++[(UInt8.ofNat i),(UInt8.ofNat j)]))%Sc.pM)) (wS 0 42 (fcs (valB (Sh.taggedS rgFake.data.toList (sd++bm++[(UInt8.ofNat i),(UInt8.ofNat j)]))%Sc.pM)) rfl) ?_
 refine sI ?_
 refine Sy.ret ?_
 rw [show (fv (rgF bm sd i j):Value)=fv (valB (Sh.taggedS rgFake.data.toList (sd++bm++[(UInt8.ofNat i),(UInt8.ofNat j)]))%Sc.pM) from rfl]
 exact rC (v:=fv (valB (Sh.taggedS rgFake.data.toList (sd++bm++[(UInt8.ofNat i),(UInt8.ofNat j)]))%Sc.pM)) 42 g2 2 (fcs (valB (Sh.taggedS rgFake.data.toList (sd++bm++[(UInt8.ofNat i),(UInt8.ofNat j)]))%Sc.pM)) rfl Tryz.underlying42
theorem chalG_any (w:World) (RA:Option Addr) (RN RC:Nat) (bm:List UInt8) (hbm:bm.length=32) (A:Option Addr) (x:List UInt8) (n c:Nat) (hn:x.length=n) (hm:n≤999999900) (hc:n≤c) (hc2:c≤9223372036854775807) (hs:Sh.Src w A x) (i j:Nat) (hi:i<256) (hj:j<256) (ht:Sh.TabAt w 1):Calls Tryz.prog 113 #[bndv RA RN RC bm,.slice A n c,.int .i64 ((i:Nat):Int),.int .i64 ((j:Nat):Int)] w (Gets w (fv (rgC bm x i j))):=by
 refine Sy.enter (args:=[bndv RA RN RC bm,.slice A n c,.int .i64 ((i:Nat):Int),.int .i64 ((j:Nat):Int)]) Tryz.func113 rfl kL ?_
 refine sC ?_
 refine sM 86 (bndc RA RN RC bm).toArray (λg0=>?_)
 refine sM 42 (fcs 0) (λg1=>?_)
 refine sA ?_
 refine sP (.pointer (some ⟨g0,1,none⟩))<|sP (.slice (some ⟨g0,1,none⟩) 32 32)<|sP (.slice A n c)<|sP (.int .i64 ((i:Nat):Int))<|sS (bv (UInt8.ofNat i)) (Quiet.pure (λw=>conv_u8 w _ _ _ i (by omega) rfl rfl))<|sP (.int .i64 ((j:Nat):Int))<|sS (bv (UInt8.ofNat j)) (Quiet.pure (λw=>conv_u8 w _ _ _ j (by omega) rfl rfl)) ?_
 refine Sy.make kR 5 #[bv (UInt8.ofNat i),bv (UInt8.ofNat j)] (λg=>.slice (some ⟨g,0,none⟩) 2 2) kF (λg2=>?_)
 refine Sy.make kR 24 #[.slice (some ⟨g0,1,none⟩) 32 32,.slice A n c,.slice (some ⟨g2,0,none⟩) 2 2] (λg=>.slice (some ⟨g,0,none⟩) 3 3) kF (λg3=>?_)
 refine sS (.agg ((Sh.taggedS rgStep.data.toList (bm++x++[(UInt8.ofNat i),(UInt8.ofNat j)])).map bv).toArray) (qG 106 #[.string rgStep,.slice (some ⟨g3,0,none⟩) 3 3] (λw hw=>tagX_c w rgStep (by decide) g3 g0 g2 _ _ _ bm x hbm A n c hn hm hc hc2 RA RN RC [(UInt8.ofNat i),(UInt8.ofNat j)] 2 rfl (by decide) (hw.get (i:=0) rfl) (hs.below hw.below) (hw.get (i:=2) rfl) (hw.get (i:=3) rfl) (ht.below hw.below ht.lt)))<|sS (fv (valB (Sh.taggedS rgStep.data.toList (bm++x++[(UInt8.ofNat i),(UInt8.ofNat j)]))%Sc.pM)) (qF 144 #[.agg ((Sh.taggedS rgStep.data.toList (bm++x++[(UInt8.ofNat i),(UInt8.ofNat j)])).map bv).toArray] (λw=>Sc.reduceB_any w (Sh.taggedS rgStep.data.toList (bm++x++[(UInt8.ofNat i),(UInt8.ofNat j)])) (tagS_length _ _)))<|sW 1 g1 42 (fcs 0) (fcs (valB (Sh.taggedS rgStep.data.toList (bm++x++[(UInt8.ofNat i),(UInt8.ofNat j)]))%Sc.pM)) (wS 0 42 (fcs (valB (Sh.taggedS rgStep.data.toList (bm++x++[(UInt8.ofNat i),(UInt8.ofNat j)]))%Sc.pM)) rfl) ?_
 refine sG<|Sy.ret ?_
 rw [show (fv (rgC bm x i j):Value)=fv (valB (Sh.taggedS rgStep.data.toList (bm++x++[(UInt8.ofNat i),(UInt8.ofNat j)]))%Sc.pM) from rfl]
 exact rC (v:=fv (valB (Sh.taggedS rgStep.data.toList (bm++x++[(UInt8.ofNat i),(UInt8.ofNat j)]))%Sc.pM)) 42 g1 1 (fcs (valB (Sh.taggedS rgStep.data.toList (bm++x++[(UInt8.ofNat i),(UInt8.ofNat j)]))%Sc.pM)) rfl Tryz.underlying42
end Cu
end
section
namespace Cu
open Go.RowKit Sy
set_option maxRecDepth 100000
set_option maxHeartbeats 4000000
def ixB (N:Nat) (p:Nat→Bool):Int:=match (List.range N).find? p with
 | some k=>(k:Int)
 | none => -1
theorem ixB_at {N k:Nat} {p:Nat→Bool} (hk:k<N) (h:∀ a,a<k→p a=false) (hp:p k=true):ixB N p=(k:Int):=by
 unfold ixB
 rw [List.find?_range_eq_some.2 ⟨hp,List.mem_range.2 hk,λj hj=>by rw [h j hj]; rfl⟩]
theorem ixB_no {N:Nat} {p:Nat→Bool} (h:∀ a,a<N→p a=false):ixB N p = -1:=by
 unfold ixB
 rw [List.find?_range_eq_none.2 λj hj=>by rw [h j hj]; rfl]
theorem ixB_any (N:Nat) (p:Nat→Bool):decide (ixB N p ≥ 0)=(List.range N).any p:=by
 unfold ixB
 cases h:(List.range N).find? p with
 | none =>
  have q:(List.range N).any p=false:=by
   rw [List.any_eq_false]
   intro x hx e
   rw [List.find?_eq_none] at h
   exact h x hx e
  rw [q]; rfl
 | some k =>
  have q:(List.range N).any p=true:=List.any_eq_true.2 ⟨k,List.mem_of_find?_eq_some h,List.find?_some h⟩
  rw [q]; exact decide_eq_true (Int.natCast_nonneg k)
def badK (X Y:Nat→Nat) (I:Nat→Bool) (k:Nat):Bool:=!rightB (X k) (Y k) (I k)
theorem badf_any (w:World) (x y:Nat) (i:Bool) (hx:x<K4) (hy:y<K4):Calls Tryz.prog 165 #[pv x y i] w (Gets w (.bool (!rightB x y i))):=by
 refine Sy.enter (args:=[pv x y i]) Tryz.func165 rfl kL ?_
 refine sC ?_
 refine sM 48 (pcs x y i) (λg0=>?_)
 refine sP (.bool false) ?_
 refine sA ?_
 refine sS (pv x y i) (qL 0 g0 0 9 48 48 (pcs x y i) rfl Tryz.underlying48) ?_
 obtain ⟨b1,hb1⟩:∃ z:Bool,z=rightB x y i:=⟨_,rfl⟩
 refine sS (.bool b1) (qF 166 #[pv x y i] (λw=>by rw [hb1]; exact right_b w x y i hx hy)) ?_
 cases b1
 ·refine sP (.bool true)<|sP (.bool true) ?_
  refine sG<|Sy.ret ?_
  rw [show (.bool (!rightB x y i):Value)=.bool true from by rw [← hb1]; rfl]
  exact rV (.bool true) rfl
 ·refine sP (.bool false)<|sP (.bool false) ?_
  refine sG<|Sy.ret ?_
  rw [show (.bool (!rightB x y i):Value)=.bool false from by rw [← hb1]; rfl]
  exact rV (.bool false) rfl
theorem ixf_any (w:World) (A:Option Addr) (N c:Nat) (X Y:Nat→Nat) (I:Nat→Bool) (hX:∀ k,X k<K4) (hY:∀ k,Y k<K4) (hN:N≤4611686018427387904) (hlk:Lst w 9 A N (λk=>pml (X k) (Y k) (I k))):Calls Tryz.prog 214 #[.slice A N c,.func (.func 165) #[] #[]] w (Gets w (.int .i64 (ixB N (badK X Y I)))):=by
 obtain ⟨gK,oK,hT⟩:=hlk
 refine Sy.enter (args:=[.slice A N c,.func (.func 165) #[] #[]]) Tryz.func214 rfl kL ?_
 refine sC ?_
 refine sP (.int .i64 0) ?_
 refine sG<|Sy.seq<|sC ?_
 refine sP (.slice A N c)<|sP (.int .i64 ((N:Nat):Int))<|sP (.int .i64 0) ?_
 refine sG<|Sy.block ?_
 refine Sy.loopH N (λk1=>∀ a,a<k1→badK X Y I a=false) (λk1=>[(0,.slice A N c),(1,.func (.func 165) #[] #[]),(7,.int .i64 ((N:Nat):Int)),(8,.int .i64 ((k1:Nat):Int))]) (λk1=>[]) [] (M:=[]) (λa ha=>absurd ha (Nat.not_lt_zero _)) (all_cons kR (all_cons kR (all_cons kR (all_cons kR all_nil)))) kR rfl (λk1 hk1 hh=>?_)
 have hh1:=hh
 refine sC ?_
 obtain ⟨b1,hb1⟩:∃ z:Bool,z=decide (k1<N):=⟨_,rfl⟩
 refine sS (.bool b1) (Quiet.pure (exec_int .lss _ _ _ .i64 _ _ _ rfl rfl rfl (int_lss _ _ _ _ _ (by rw [hb1]; exact decide_eq_decide.2 (by omega))))) ?_
 refine sG<|Sy.seq ?_
 cases b1
 ·have lb1:¬ (k1<N):=of_decide_eq_false hb1.symm
  refine sU<|Sy.exit<|Sy.then_exit<|Sy.then_exit ?_
  obtain rfl:N=k1:=by omega
  refine Sy.in_exit<|sB ?_
  refine sP (.int .i64 (-1)) ?_
  refine sG<|Sy.ret ?_
  rw [show (.int .i64 (ixB N (badK X Y I)):Value)=.int .i64 (-1) from by rw [ixB_no (λa ha=>hh1 a (by omega))]]
  exact rV (.int .i64 (-1)) rfl
 ·have lb1:k1<N:=of_decide_eq_true hb1.symm
  refine sT<|Sy.skip<|Sy.then_<|Sy.seq<|Sy.block<|sC ?_
  refine sP (.int .i64 ((k1:Nat):Int))<|sP (.int .i64 ((k1:Nat):Int)) ?_
  refine sA ?_
  refine sP (.func (.func 165) #[] #[])<|sP (.slice A N c)<|sP (.int .i64 ((k1:Nat):Int))<|sS (.pointer (some ⟨gK,oK+k1*9,none⟩)) (Quiet.pure (exec_atO 45 _ _ _ A gK oK N c k1 9 .i64 (hT (by omega)).1 rfl rfl rfl Tryz.underlying45 kF (by omega)))<|sS (pv (X k1) (Y k1) (I k1)) (Quiet.there gK (oK+k1*9) 9 48 (pml (X k1) (Y k1) (I k1)) _ _ rfl kR (hT (by omega)).2.1 ((hT (by omega)).2.2 k1 (by omega)) Tryz.underlying48 rfl kR rfl _ rfl) ?_
  obtain ⟨b2,hb2⟩:∃ z:Bool,z=badK X Y I k1:=⟨_,rfl⟩
  refine sS (.bool b2) (qG 165 #[pv (X k1) (Y k1) (I k1)] (λw hw=>by rw [hb2]; exact badf_any w _ _ _ (hX _) (hY _))) ?_
  refine sG ?_
  cases b2
  ·refine sU<|Sy.skip<|Sy.in_<|Sy.then_<|Sy.region ?_
   refine sS (.int .i64 ((k1+1:Nat):Int)) (Quiet.pure (exec_int .add _ _ _ .i64 _ _ _ rfl rfl rfl (int_add _ _ _ _ _ ((wrap_i64 (by omega) (by omega)).trans (by omega)))))<|sP (.int .i64 ((k1+1:Nat):Int)) ?_
   refine Sy.nil ?_
   exact Sy.againH [] (M:=[]) (by omega) (λa ha=>(Nat.lt_succ_iff_lt_or_eq.1 ha).elim (hh1 a) (λh=>by rw [h]; exact hb2.symm)) (all_cons kR (all_cons kR (all_cons kR (all_cons kR all_nil)))) kR rfl
  ·refine sT<|sC ?_
   refine sP (.int .i64 ((k1:Nat):Int))<|sP (.int .i64 ((k1:Nat):Int)) ?_
   refine sG<|Sy.ret<|Sy.in_ret<|Sy.then_ret<|Sy.then_ret<|Sy.in_ret<|Sy.then_ret ?_
   rw [show (.int .i64 (ixB N (badK X Y I)):Value)=.int .i64 ((k1:Nat):Int) from by rw [ixB_at (by omega) hh1 hb2.symm]]
   exact rV (.int .i64 ((k1:Nat):Int)) rfl
theorem cnf_any (w:World) (A:Option Addr) (N c:Nat) (X Y:Nat→Nat) (I:Nat→Bool) (hX:∀ k,X k<K4) (hY:∀ k,Y k<K4) (hN:N≤4611686018427387904) (hlk:Lst w 9 A N (λk=>pml (X k) (Y k) (I k))):Calls Tryz.prog 164 #[.slice A N c,.func (.func 165) #[] #[]] w (Gets w (.bool ((List.range N).any (badK X Y I)))):=by
 have hlk0:=hlk
 obtain ⟨gK,oK,hT⟩:=hlk
 refine Sy.enter (args:=[.slice A N c,.func (.func 165) #[] #[]]) Tryz.func164 rfl kL ?_
 refine sC ?_
 refine sP (.bool false) ?_
 refine sA ?_
 refine sP (.slice A N c)<|sP (.func (.func 165) #[] #[])<|sS (.int .i64 (ixB N (badK X Y I))) (Quiet.callS 214 #[.slice A N c,.func (.func 165) #[] #[]] kF (λw hw=>ixf_any w A N c X Y I hX hY hN (hlk0.below hw.below))) ?_
 obtain ⟨b1,hb1⟩:∃ z:Bool,z=decide ((ixB N (badK X Y I)) ≥ 0):=⟨_,rfl⟩
 refine sS (.bool b1) (Quiet.pure (exec_int .geq _ _ _ .i64 _ _ _ rfl rfl rfl (int_geq _ _ _ _ _ hb1.symm)))<|sP (.bool b1) ?_
 refine sG<|Sy.ret ?_
 rw [show (.bool ((List.range N).any (badK X Y I)):Value)=.bool b1 from by rw [← ixB_any,hb1]]
 exact rV (.bool b1) rfl
theorem bad_any (w:World) (A:Option Addr) (N c:Nat) (X Y:Nat→Nat) (I:Nat→Bool) (hX:∀ k,X k<K4) (hY:∀ k,Y k<K4) (hN:N≤4611686018427387904) (hlk:Lst w 9 A N (λk=>pml (X k) (Y k) (I k))):Calls Tryz.prog 103 #[.slice A N c] w (Gets w (.bool ((List.range N).any (badK X Y I)))):=by
 have hlk0:=hlk
 obtain ⟨gK,oK,hT⟩:=hlk
 refine Sy.enter (args:=[.slice A N c]) Tryz.func103 rfl kL ?_
 refine sC ?_
 refine sP (.bool false) ?_
 refine sA ?_
 refine sP (.slice A N c) ?_
 obtain ⟨b1,hb1⟩:∃ z:Bool,z=(List.range N).any (badK X Y I):=⟨_,rfl⟩
 refine sS (.bool b1) (Quiet.callS 164 #[.slice A N c,.func (.func 165) #[] #[]] kF (λw hw=>by rw [hb1]; exact cnf_any w A N c X Y I hX hY hN (hlk0.below hw.below)))<|sP (.bool b1) ?_
 refine sG<|Sy.ret ?_
 rw [show (.bool ((List.range N).any (badK X Y I)):Value)=.bool b1 from by rw [hb1]]
 exact rV (.bool b1) rfl
end Cu
end
section
namespace Cu
open Go.RowKit Sy
set_option maxRecDepth 100000
set_option maxHeartbeats 4000000
def mnF (D:Nat→Nat):Nat→Nat
 | 0=>D 0
 | k+1=>min (mnF D k) (D (k+1))
def mxF (D:Nat→Nat):Nat→Nat
 | 0=>D 0
 | k+1=>max (mxF D k) (D (k+1))
theorem mnF_ge (D:Nat→Nat) (a k:Nat):a≤mnF D k↔∀ j,j≤k→a≤D j:=by
 induction k with
 | zero=>exact ⟨λh j hj=>by rw [Nat.le_zero.1 hj]; exact h,λh=>h 0 (Nat.le_refl _)⟩
 | succ k ih =>
  show a≤min (mnF D k) (D (k+1))↔_
  rw [Nat.le_min,ih]
  exact ⟨λh j hj=>(Nat.lt_or_eq_of_le hj).elim (λq=>h.1 j (by omega)) (λq=>by rw [q]; exact h.2),λh=>⟨λj hj=>h j (by omega),h _ (Nat.le_refl _)⟩⟩
theorem mxF_le (D:Nat→Nat) (a k:Nat):mxF D k≤a↔∀ j,j≤k→D j≤a:=by
 induction k with
 | zero=>exact ⟨λh j hj=>by rw [Nat.le_zero.1 hj]; exact h,λh=>h 0 (Nat.le_refl _)⟩
 | succ k ih =>
  show max (mxF D k) (D (k+1))≤a↔_
  rw [Nat.max_le,ih]
  exact ⟨λh j hj=>(Nat.lt_or_eq_of_le hj).elim (λq=>h.1 j (by omega)) (λq=>by rw [q]; exact h.2),λh=>⟨λj hj=>h j (by omega),h _ (Nat.le_refl _)⟩⟩
theorem exec_max {F:Slots} {o:Oper} (x y:Operand) {ts:Array TypeId} (k:IntKind) (a b c:Nat) (ho:o.op=.call { callee:=.builtin .max,args:=#[x,y],argTypes:=ts }) (hx:evF F x=.int k (a:Int)) (hy:evF F y=.int k (b:Int)) (h:max a b=c) (w:World):(execOp (evF F) o).run Tryz.prog w=.ok (.value (.int k (c:Int))) w:=by
 have e:(if (a:Int)<(b:Int) then (b:Int) else (a:Int))=(c:Int):=by split <;> omega
 unfold execOp
 simp [ho,hx,hy,resolve,invoke,builtin,Builtin.max_,Builtin.max2]
 omega
theorem min_any (w:World) (A:Option Addr) (M c:Nat) (D:Nat→Nat) (hN:M+1≤4611686018427387904) (hlk:Lst w 1 A (M+1) (λk=>[.int .i64 ((D k:Nat):Int)])):Calls Tryz.prog 130 #[.slice A (M+1) c] w (Gets w (.int .i64 ((mnF D M:Nat):Int))):=by
 obtain ⟨gK,oK,hT⟩:=hlk
 refine Sy.enter (args:=[.slice A (M+1) c]) Tryz.func130 rfl kL ?_
 refine sC ?_
 refine sP (.int .i64 0) ?_
 refine sG<|Sy.seq<|sC ?_
 refine sP (.slice A (M+1) c)<|sP (.int .i64 (((M+1):Nat):Int)) ?_
 obtain ⟨b1,hb1⟩:∃ z:Bool,z=decide ((M+1)<1):=⟨_,rfl⟩
 refine sS (.bool b1) (Quiet.pure (exec_int .lss _ _ _ .i64 _ _ _ rfl rfl rfl (int_lss _ _ _ _ _ (by rw [hb1]; exact decide_eq_decide.2 (by omega))))) ?_
 refine sG ?_
 cases b1
 ·have lb1:¬ ((M+1)<1):=of_decide_eq_false hb1.symm
  refine sU<|Sy.skip<|sB ?_
  refine sP (.slice A (M+1) c)<|sS (.pointer (some ⟨gK,oK+0*1,none⟩)) (Quiet.pure (exec_atO 57 _ _ _ A gK oK (M+1) c 0 1 .i64 (hT (by omega)).1 rfl rfl rfl Tryz.underlying57 kF (by omega)))<|sS (.int .i64 (((D 0):Nat):Int)) (Quiet.thereOne gK (oK+0*1) 3 _ _ rfl kR (hT (by omega)).2.1 _ (range_one ((hT (by omega)).2.2 0 (by omega)) 0 rfl) Tryz.underlying3 rfl)<|sP (.int .i64 (((D 0):Nat):Int)) ?_
  refine sG<|Sy.seq<|sC ?_
  refine sP (.int .i64 1) ?_
  refine sG<|Sy.block ?_
  refine Sy.loopK M (λk1=>[(0,.slice A (M+1) c),(3,.int .i64 (((mnF D k1):Nat):Int)),(4,.int .i64 ((k1+1:Nat):Int))]) (λk1=>[]) [] (M:=[]) (all_cons kR (all_cons kR (all_cons kR all_nil))) kR rfl (λk1 hk1=>?_)
  refine Sy.seq<|sC ?_
  refine sP (.int .i64 ((k1+1:Nat):Int))<|sP (.slice A (M+1) c)<|sP (.int .i64 (((M+1):Nat):Int)) ?_
  obtain ⟨b2,hb2⟩:∃ z:Bool,z=decide (k1+1<(M+1)):=⟨_,rfl⟩
  refine sS (.bool b2) (Quiet.pure (exec_int .lss _ _ _ .i64 _ _ _ rfl rfl rfl (int_lss _ _ _ _ _ (by rw [hb2]; exact decide_eq_decide.2 (by omega))))) ?_
  refine sG ?_
  cases b2
  ·have lb2:¬ (k1+1<(M+1)):=of_decide_eq_false hb2.symm
   refine sU<|Sy.exit<|Sy.then_exit<|Sy.then_exit ?_
   obtain rfl:M=k1:=by omega
   refine Sy.in_exit<|sB ?_
   refine sP (.int .i64 (((mnF D M):Nat):Int))<|sP (.int .i64 (((mnF D M):Nat):Int)) ?_
   refine sG<|Sy.ret ?_
   rw [show (.int .i64 ((mnF D M:Nat):Int):Value)=.int .i64 (((mnF D M):Nat):Int) from rfl]
   exact rV (.int .i64 (((mnF D M):Nat):Int)) rfl
  ·have lb2:k1+1<(M+1):=of_decide_eq_true hb2.symm
   refine sT<|Sy.skip<|Sy.then_<|Sy.seq<|Sy.block<|Sy.region ?_
   refine sP (.int .i64 (((mnF D k1):Nat):Int))<|sP (.slice A (M+1) c)<|sP (.int .i64 ((k1+1:Nat):Int))<|sS (.pointer (some ⟨gK,oK+(k1+1)*1,none⟩)) (Quiet.pure (exec_atO 57 _ _ _ A gK oK (M+1) c (k1+1) 1 .i64 (hT (by omega)).1 rfl rfl rfl Tryz.underlying57 kF (by omega)))<|sS (.int .i64 (((D (k1+1)):Nat):Int)) (Quiet.thereOne gK (oK+(k1+1)*1) 3 _ _ rfl kR (hT (by omega)).2.1 _ (range_one ((hT (by omega)).2.2 (k1+1) (by omega)) 0 rfl) Tryz.underlying3 rfl)<|sS (.int .i64 (((mnF D (k1+1)):Nat):Int)) (Quiet.pure (exec_min _ _ .i64 (mnF D k1) (D (k1+1)) (mnF D (k1+1)) rfl rfl rfl rfl))<|sP (.int .i64 (((mnF D (k1+1)):Nat):Int)) ?_
   refine Sy.nil<|Sy.in_<|Sy.then_<|Sy.region ?_
   refine sP (.int .i64 ((k1+1:Nat):Int))<|sS (.int .i64 (((k1+1)+1:Nat):Int)) (Quiet.pure (exec_int .add _ _ _ .i64 _ _ _ rfl rfl rfl (int_add _ _ _ _ _ ((wrap_i64 (by omega) (by omega)).trans (by omega)))))<|sP (.int .i64 (((k1+1)+1:Nat):Int)) ?_
   refine Sy.nil ?_
   exact Sy.againK [] (M:=[]) (by omega) (all_cons kR (all_cons kR (all_cons kR all_nil))) kR rfl
 ·have lb1:(M+1)<1:=of_decide_eq_true hb1.symm
  exact absurd lb1 (by omega)
theorem max_any (w:World) (A:Option Addr) (M c:Nat) (D:Nat→Nat) (hN:M+1≤4611686018427387904) (hlk:Lst w 1 A (M+1) (λk=>[.int .i64 ((D k:Nat):Int)])):Calls Tryz.prog 131 #[.slice A (M+1) c] w (Gets w (.int .i64 ((mxF D M:Nat):Int))):=by
 obtain ⟨gK,oK,hT⟩:=hlk
 refine Sy.enter (args:=[.slice A (M+1) c]) Tryz.func131 rfl kL ?_
 refine sC ?_
 refine sP (.int .i64 0) ?_
 refine sG<|Sy.seq<|sC ?_
 refine sP (.slice A (M+1) c)<|sP (.int .i64 (((M+1):Nat):Int)) ?_
 obtain ⟨b1,hb1⟩:∃ z:Bool,z=decide ((M+1)<1):=⟨_,rfl⟩
 refine sS (.bool b1) (Quiet.pure (exec_int .lss _ _ _ .i64 _ _ _ rfl rfl rfl (int_lss _ _ _ _ _ (by rw [hb1]; exact decide_eq_decide.2 (by omega))))) ?_
 refine sG ?_
 cases b1
 ·have lb1:¬ ((M+1)<1):=of_decide_eq_false hb1.symm
  refine sU<|Sy.skip<|sB ?_
  refine sP (.slice A (M+1) c)<|sS (.pointer (some ⟨gK,oK+0*1,none⟩)) (Quiet.pure (exec_atO 57 _ _ _ A gK oK (M+1) c 0 1 .i64 (hT (by omega)).1 rfl rfl rfl Tryz.underlying57 kF (by omega)))<|sS (.int .i64 (((D 0):Nat):Int)) (Quiet.thereOne gK (oK+0*1) 3 _ _ rfl kR (hT (by omega)).2.1 _ (range_one ((hT (by omega)).2.2 0 (by omega)) 0 rfl) Tryz.underlying3 rfl)<|sP (.int .i64 (((D 0):Nat):Int)) ?_
  refine sG<|Sy.seq<|sC ?_
  refine sP (.int .i64 1) ?_
  refine sG<|Sy.block ?_
  refine Sy.loopK M (λk1=>[(0,.slice A (M+1) c),(3,.int .i64 (((mxF D k1):Nat):Int)),(4,.int .i64 ((k1+1:Nat):Int))]) (λk1=>[]) [] (M:=[]) (all_cons kR (all_cons kR (all_cons kR all_nil))) kR rfl (λk1 hk1=>?_)
  refine Sy.seq<|sC ?_
  refine sP (.int .i64 ((k1+1:Nat):Int))<|sP (.slice A (M+1) c)<|sP (.int .i64 (((M+1):Nat):Int)) ?_
  obtain ⟨b2,hb2⟩:∃ z:Bool,z=decide (k1+1<(M+1)):=⟨_,rfl⟩
  refine sS (.bool b2) (Quiet.pure (exec_int .lss _ _ _ .i64 _ _ _ rfl rfl rfl (int_lss _ _ _ _ _ (by rw [hb2]; exact decide_eq_decide.2 (by omega))))) ?_
  refine sG ?_
  cases b2
  ·have lb2:¬ (k1+1<(M+1)):=of_decide_eq_false hb2.symm
   refine sU<|Sy.exit<|Sy.then_exit<|Sy.then_exit ?_
   obtain rfl:M=k1:=by omega
   refine Sy.in_exit<|sB ?_
   refine sP (.int .i64 (((mxF D M):Nat):Int))<|sP (.int .i64 (((mxF D M):Nat):Int)) ?_
   refine sG<|Sy.ret ?_
   rw [show (.int .i64 ((mxF D M:Nat):Int):Value)=.int .i64 (((mxF D M):Nat):Int) from rfl]
   exact rV (.int .i64 (((mxF D M):Nat):Int)) rfl
  ·have lb2:k1+1<(M+1):=of_decide_eq_true hb2.symm
   refine sT<|Sy.skip<|Sy.then_<|Sy.seq<|Sy.block<|Sy.region ?_
   refine sP (.int .i64 (((mxF D k1):Nat):Int))<|sP (.slice A (M+1) c)<|sP (.int .i64 ((k1+1:Nat):Int))<|sS (.pointer (some ⟨gK,oK+(k1+1)*1,none⟩)) (Quiet.pure (exec_atO 57 _ _ _ A gK oK (M+1) c (k1+1) 1 .i64 (hT (by omega)).1 rfl rfl rfl Tryz.underlying57 kF (by omega)))<|sS (.int .i64 (((D (k1+1)):Nat):Int)) (Quiet.thereOne gK (oK+(k1+1)*1) 3 _ _ rfl kR (hT (by omega)).2.1 _ (range_one ((hT (by omega)).2.2 (k1+1) (by omega)) 0 rfl) Tryz.underlying3 rfl)<|sS (.int .i64 (((mxF D (k1+1)):Nat):Int)) (Quiet.pure (exec_max _ _ .i64 (mxF D k1) (D (k1+1)) (mxF D (k1+1)) rfl rfl rfl rfl))<|sP (.int .i64 (((mxF D (k1+1)):Nat):Int)) ?_
   refine Sy.nil<|Sy.in_<|Sy.then_<|Sy.region ?_
   refine sP (.int .i64 ((k1+1:Nat):Int))<|sS (.int .i64 (((k1+1)+1:Nat):Int)) (Quiet.pure (exec_int .add _ _ _ .i64 _ _ _ rfl rfl rfl (int_add _ _ _ _ _ ((wrap_i64 (by omega) (by omega)).trans (by omega)))))<|sP (.int .i64 (((k1+1)+1:Nat):Int)) ?_
   refine Sy.nil ?_
   exact Sy.againK [] (M:=[]) (by omega) (all_cons kR (all_cons kR (all_cons kR all_nil))) kR rfl
 ·have lb1:(M+1)<1:=of_decide_eq_true hb1.symm
  exact absurd lb1 (by omega)
def szB (N:Nat) (D:Nat→Nat):Bool:=decide (1≤N) && (decide (N≤32) && (decide (1≤mnF D (N - 1)) && decide (mxF D (N - 1)≤64)))
theorem szB_iff (N:Nat) (D:Nat→Nat):szB N D=true↔1≤N∧N≤32∧∀ j,j<N→1≤D j∧D j≤64:=by
 unfold szB
 simp only [Bool.and_eq_true,decide_eq_true_eq,mnF_ge,mxF_le]
 exact ⟨λ⟨a,b,c,d⟩=>⟨a,b,λj hj=>⟨c j (by omega),d j (by omega)⟩⟩,λ⟨a,b,c⟩=>⟨a,b,λj hj=>(c j (by omega)).1,λj hj=>(c j (by omega)).2⟩⟩
theorem szB_1 {N:Nat} {D:Nat→Nat} (h:N<1):szB N D=false:=by unfold szB; rw [decide_eq_false (by omega:¬ 1≤N)]; rfl
theorem szB_2 {N:Nat} {D:Nat→Nat} (h:N>32):szB N D=false:=by unfold szB; rw [decide_eq_false (by omega:¬ N≤32),Bool.false_and,Bool.and_false]
theorem szB_3 {N:Nat} {D:Nat→Nat} (h:¬ (mnF D (N - 1) ≥ 1)):szB N D=false:=by unfold szB; rw [show decide (1≤mnF D (N - 1))=false from decide_eq_false h,Bool.false_and,Bool.and_false,Bool.and_false]
theorem szB_4 {N:Nat} {D:Nat→Nat} (h1:¬ N<1) (h2:¬ N>32) (h3:mnF D (N - 1) ≥ 1):szB N D=decide (mxF D (N - 1)≤64):=by
 unfold szB
 rw [decide_eq_true (by omega:1≤N),decide_eq_true (by omega:N≤32),show decide (1≤mnF D (N - 1))=true from decide_eq_true h3,Bool.true_and,Bool.true_and,Bool.true_and]
theorem min_anyN (w:World) (A:Option Addr) (N c:Nat) (D:Nat→Nat) (h1:1≤N) (hN:N≤4611686018427387904) (hlk:Lst w 1 A N (λk=>[.int .i64 ((D k:Nat):Int)])):Calls Tryz.prog 130 #[.slice A N c] w (Gets w (.int .i64 ((mnF D (N - 1):Nat):Int))):=by
 have e:N - 1+1=N:=by omega
 have q:=min_any w A (N - 1) c D (by omega) (by rw [e]; exact hlk)
 rwa [e] at q
theorem max_anyN (w:World) (A:Option Addr) (N c:Nat) (D:Nat→Nat) (h1:1≤N) (hN:N≤4611686018427387904) (hlk:Lst w 1 A N (λk=>[.int .i64 ((D k:Nat):Int)])):Calls Tryz.prog 131 #[.slice A N c] w (Gets w (.int .i64 ((mxF D (N - 1):Nat):Int))):=by
 have e:N - 1+1=N:=by omega
 have q:=max_any w A (N - 1) c D (by omega) (by rw [e]; exact hlk)
 rwa [e] at q
theorem allowed_any (w:World) (A:Option Addr) (N c:Nat) (D:Nat→Nat) (hN:N≤4611686018427387904) (hlk:Lst w 1 A N (λk=>[.int .i64 ((D k:Nat):Int)])):Calls Tryz.prog 69 #[.slice A N c] w (Gets w (.bool (szB N D))):=by
 have hlk0:=hlk
 obtain ⟨gK,oK,hT⟩:=hlk
 refine Sy.enter (args:=[.slice A N c]) Tryz.func69 rfl kL ?_
 refine sC ?_
 refine sP (.bool false) ?_
 refine sG<|Sy.seq<|sC ?_
 refine sP (.slice A N c)<|sP (.int .i64 ((N:Nat):Int)) ?_
 obtain ⟨b1,hb1⟩:∃ z:Bool,z=decide (N<1):=⟨_,rfl⟩
 refine sS (.bool b1) (Quiet.pure (exec_int .lss _ _ _ .i64 _ _ _ rfl rfl rfl (int_lss _ _ _ _ _ (by rw [hb1]; exact decide_eq_decide.2 (by omega)))))<|sP (.bool b1) ?_
 cases b1
 ·have lb1:¬ (N<1):=of_decide_eq_false hb1.symm
  refine sP (.slice A N c)<|sP (.int .i64 ((N:Nat):Int)) ?_
  obtain ⟨b2,hb2⟩:∃ z:Bool,z=decide (N>32):=⟨_,rfl⟩
  refine sS (.bool b2) (Quiet.pure (exec_int .gtr _ _ _ .i64 _ _ _ rfl rfl rfl (int_gtr _ _ _ _ _ (by rw [hb2]; exact decide_eq_decide.2 (by omega)))))<|sP (.bool b2) ?_
  refine sG ?_
  cases b2
  ·have lb2:¬ (N>32):=of_decide_eq_false hb2.symm
   refine sU<|Sy.skip<|sB ?_
   refine sP (.slice A N c)<|sS (.int .i64 (((mnF D (N - 1)):Nat):Int)) (Quiet.callS 130 #[.slice A N c] kF (λw hw=>min_anyN w A N c D (by omega) hN (hlk0.below hw.below))) ?_
   obtain ⟨b3,hb3⟩:∃ z:Bool,z=decide ((mnF D (N - 1)) ≥ 1):=⟨_,rfl⟩
   refine sS (.bool b3) (Quiet.pure (exec_int .geq _ _ _ .i64 _ _ _ rfl rfl rfl (int_geq _ _ _ _ _ (by rw [hb3]; exact decide_eq_decide.2 (by omega)))))<|sP (.bool b3) ?_
   cases b3
   ·have lb3:¬ ((mnF D (N - 1)) ≥ 1):=of_decide_eq_false hb3.symm
    refine sN<|sN<|sN ?_
    refine sP (.bool false)<|sP (.bool false) ?_
    refine sG<|Sy.ret ?_
    rw [show (.bool (szB N D):Value)=.bool false from by rw [szB_3 lb3]]
    exact rV (.bool false) rfl
   ·have lb3:(mnF D (N - 1)) ≥ 1:=of_decide_eq_true hb3.symm
    refine sP (.slice A N c)<|sS (.int .i64 (((mxF D (N - 1)):Nat):Int)) (Quiet.callS 131 #[.slice A N c] kF (λw hw=>max_anyN w A N c D (by omega) hN (hlk0.below hw.below))) ?_
    obtain ⟨b4,hb4⟩:∃ z:Bool,z=decide ((mxF D (N - 1))≤64):=⟨_,rfl⟩
    refine sS (.bool b4) (Quiet.pure (exec_int .leq _ _ _ .i64 _ _ _ rfl rfl rfl (int_leq _ _ _ _ _ (by rw [hb4]; exact decide_eq_decide.2 (by omega)))))<|sP (.bool b4)<|sP (.bool b4) ?_
    refine sG<|Sy.ret ?_
    rw [show (.bool (szB N D):Value)=.bool b4 from by rw [szB_4 lb1 lb2 lb3, ← hb4]]
    exact rV (.bool b4) rfl
  ·have lb2:N>32:=of_decide_eq_true hb2.symm
   refine sT<|sC ?_
   refine sP (.bool false) ?_
   refine sG<|Sy.ret<|Sy.then_ret ?_
   rw [show (.bool (szB N D):Value)=.bool false from by rw [szB_2 lb2]]
   exact rV (.bool false) rfl
 ·have lb1:N<1:=of_decide_eq_true hb1.symm
  refine sN<|sN<|sN ?_
  refine sP (.bool true) ?_
  refine sG<|sT<|sC ?_
  refine sP (.bool false) ?_
  refine sG<|Sy.ret<|Sy.then_ret ?_
  rw [show (.bool (szB N D):Value)=.bool false from by rw [szB_1 lb1]]
  exact rV (.bool false) rfl
end Cu
end
section
namespace Cu
open Go.RowKit Sy
set_option maxRecDepth 100000
set_option maxHeartbeats 4000000
def badR (n:Nat→Nat) (X Y:Nat→Nat→Nat) (I:Nat→Nat→Bool) (i:Nat):Bool:=(List.range (n i)).any (badK (X i) (Y i) (I i))
theorem ixr_any (w:World) (R:Option Addr) (NR cR:Nat) (a:Nat→Option Addr) (n c:Nat→Nat) (X Y:Nat→Nat→Nat) (I:Nat→Nat→Bool) (hX:∀ i k,X i k<K4) (hY:∀ i k,Y i k<K4) (hNR:NR≤4611686018427387904) (hn:∀ i,n i≤4611686018427387904) (hlr:Lst w 1 R NR (λi=>[.slice (a i) (n i) (c i)])) (hlk:∀ i,i<NR→Lst w 9 (a i) (n i) (λk=>pml (X i k) (Y i k) (I i k))):Calls Tryz.prog 163 #[.slice R NR cR,.func (.func 103) #[] #[]] w (Gets w (.int .i64 (ixB NR (badR n X Y I)))):=by
 have hlr0:=hlr
 obtain ⟨gR,oR,hR⟩:=hlr
 refine Sy.enter (args:=[.slice R NR cR,.func (.func 103) #[] #[]]) Tryz.func163 rfl kL ?_
 refine sC ?_
 refine sP (.int .i64 0) ?_
 refine sG<|Sy.seq<|sC ?_
 refine sP (.slice R NR cR)<|sP (.int .i64 ((NR:Nat):Int))<|sP (.int .i64 0) ?_
 refine sG<|Sy.block ?_
 refine Sy.loopH NR (λk1=>∀ a,a<k1→badR n X Y I a=false) (λk1=>[(0,.slice R NR cR),(1,.func (.func 103) #[] #[]),(7,.int .i64 ((NR:Nat):Int)),(8,.int .i64 ((k1:Nat):Int))]) (λk1=>[]) [] (M:=[]) (λa ha=>absurd ha (Nat.not_lt_zero _)) (all_cons kR (all_cons kR (all_cons kR (all_cons kR all_nil)))) kR rfl (λk1 hk1 hh=>?_)
 have hh1:=hh
 refine sC ?_
 obtain ⟨b1,hb1⟩:∃ z:Bool,z=decide (k1<NR):=⟨_,rfl⟩
 refine sS (.bool b1) (Quiet.pure (exec_int .lss _ _ _ .i64 _ _ _ rfl rfl rfl (int_lss _ _ _ _ _ (by rw [hb1]; exact decide_eq_decide.2 (by omega))))) ?_
 refine sG<|Sy.seq ?_
 cases b1
 ·have lb1:¬ (k1<NR):=of_decide_eq_false hb1.symm
  refine sU<|Sy.exit<|Sy.then_exit<|Sy.then_exit ?_
  obtain rfl:NR=k1:=by omega
  refine Sy.in_exit<|sB ?_
  refine sP (.int .i64 (-1)) ?_
  refine sG<|Sy.ret ?_
  rw [show (.int .i64 (ixB NR (badR n X Y I)):Value)=.int .i64 (-1) from by rw [ixB_no (λa ha=>hh1 a (by omega))]]
  exact rV (.int .i64 (-1)) rfl
 ·have lb1:k1<NR:=of_decide_eq_true hb1.symm
  refine sT<|Sy.skip<|Sy.then_<|Sy.seq<|Sy.block<|sC ?_
  refine sP (.int .i64 ((k1:Nat):Int))<|sP (.int .i64 ((k1:Nat):Int)) ?_
  refine sA ?_
  refine sP (.func (.func 103) #[] #[])<|sP (.slice R NR cR)<|sP (.int .i64 ((k1:Nat):Int))<|sS (.pointer (some ⟨gR,oR+k1*1,none⟩)) (Quiet.pure (exec_atO 25 _ _ _ R gR oR NR cR k1 1 .i64 (hR (by omega)).1 rfl rfl rfl Tryz.underlying25 kF (by omega)))<|sS (.slice (a k1) (n k1) (c k1)) (Quiet.thereOne gR (oR+k1*1) 45 _ _ rfl kR (hR (by omega)).2.1 _ (range_one ((hR (by omega)).2.2 k1 (by omega)) 0 rfl) Tryz.underlying45 rfl) ?_
  obtain ⟨b2,hb2⟩:∃ z:Bool,z=badR n X Y I k1:=⟨_,rfl⟩
  refine sS (.bool b2) (qG 103 #[.slice (a k1) (n k1) (c k1)] (λw hw=>by rw [hb2]; exact bad_any w _ _ _ _ _ _ (hX k1) (hY k1) (hn k1) ((hlk k1 (by omega)).below hw.below))) ?_
  refine sG ?_
  cases b2
  ·refine sU<|Sy.skip<|Sy.in_<|Sy.then_<|Sy.region ?_
   refine sS (.int .i64 ((k1+1:Nat):Int)) (Quiet.pure (exec_int .add _ _ _ .i64 _ _ _ rfl rfl rfl (int_add _ _ _ _ _ ((wrap_i64 (by omega) (by omega)).trans (by omega)))))<|sP (.int .i64 ((k1+1:Nat):Int)) ?_
   refine Sy.nil ?_
   exact Sy.againH [] (M:=[]) (by omega) (λa ha=>(Nat.lt_succ_iff_lt_or_eq.1 ha).elim (hh1 a) (λh=>by rw [h]; exact hb2.symm)) (all_cons kR (all_cons kR (all_cons kR (all_cons kR all_nil)))) kR rfl
  ·refine sT<|sC ?_
   refine sP (.int .i64 ((k1:Nat):Int))<|sP (.int .i64 ((k1:Nat):Int)) ?_
   refine sG<|Sy.ret<|Sy.in_ret<|Sy.then_ret<|Sy.then_ret<|Sy.in_ret<|Sy.then_ret ?_
   rw [show (.int .i64 (ixB NR (badR n X Y I)):Value)=.int .i64 ((k1:Nat):Int) from by rw [ixB_at (by omega) hh1 hb2.symm]]
   exact rV (.int .i64 ((k1:Nat):Int)) rfl
theorem cnr_any (w:World) (R:Option Addr) (NR cR:Nat) (a:Nat→Option Addr) (n c:Nat→Nat) (X Y:Nat→Nat→Nat) (I:Nat→Nat→Bool) (hX:∀ i k,X i k<K4) (hY:∀ i k,Y i k<K4) (hNR:NR≤4611686018427387904) (hn:∀ i,n i≤4611686018427387904) (hlr:Lst w 1 R NR (λi=>[.slice (a i) (n i) (c i)])) (hlk:∀ i,i<NR→Lst w 9 (a i) (n i) (λk=>pml (X i k) (Y i k) (I i k))):Calls Tryz.prog 102 #[.slice R NR cR,.func (.func 103) #[] #[]] w (Gets w (.bool ((List.range NR).any (badR n X Y I)))):=by
 have hlr0:=hlr
 obtain ⟨gR,oR,hR⟩:=hlr
 refine Sy.enter (args:=[.slice R NR cR,.func (.func 103) #[] #[]]) Tryz.func102 rfl kL ?_
 refine sC ?_
 refine sP (.bool false) ?_
 refine sA ?_
 refine sP (.slice R NR cR)<|sP (.func (.func 103) #[] #[])<|sS (.int .i64 (ixB NR (badR n X Y I))) (Quiet.callS 163 #[.slice R NR cR,.func (.func 103) #[] #[]] kF (λw hw=>ixr_any w R NR cR a n c X Y I hX hY hNR hn (hlr0.below hw.below) (λi hi=>(hlk i hi).below hw.below))) ?_
 obtain ⟨b1,hb1⟩:∃ z:Bool,z=decide ((ixB NR (badR n X Y I)) ≥ 0):=⟨_,rfl⟩
 refine sS (.bool b1) (Quiet.pure (exec_int .geq _ _ _ .i64 _ _ _ rfl rfl rfl (int_geq _ _ _ _ _ hb1.symm)))<|sP (.bool b1) ?_
 refine sG<|Sy.ret ?_
 rw [show (.bool ((List.range NR).any (badR n X Y I)):Value)=.bool b1 from by rw [← ixB_any,hb1]]
 exact rV (.bool b1) rfl
end Cu
end
section
namespace Sy
open Go.RowKit
theorem St.perm {w0:Base} {w:World} {L M:Blocks} (h:St w0 w L) (p:L.Perm M):St w0 w M :=
 ⟨h.below,λg t cs hm=>h.blk g t cs (p.mem_iff.2 hm),(p.map _).nodup_iff.1 h.apart,h.size,h.non⟩
theorem perm_at {α:Type _} {l m:List α} (is:List Nat) (hi:is.isPerm (List.range l.length)=true) (hm:is.map (λi=>l[i]?)=m.map some):l.Perm m:=by
 have h1:(is.map (λi=>l[i]?)).Perm ((List.range l.length).map (λi=>l[i]?)):=(List.isPerm_iff.1 hi).map _
 have h2:(List.range l.length).map (λi=>l[i]?)=l.map some:=by
  refine List.ext_getElem (by simp) λi h _=>?_
  simp only [List.getElem_map,List.getElem_range]
  exact List.getElem?_eq_getElem (by simpa using h)
 rw [hm,h2] at h1
 have h3:=h1.filterMap id
 simpa [List.filterMap_map] using h3.symm
section
variable {P:Program} {w0:Base} {n:Nat} {Q:Exit→Act→World→Prop} {F:Slots} {L:Blocks} {ops:Array Oper} {ex:Nat→Bool} {fuel:Nat} {listed:Array Bool}
theorem oneCallN {i:Nat} {oi:Oper} (hi0:ops.toList[i]? = some oi) (hg:good ops n F oi=true) (f:FuncId) (args:Array Value) (he:∀ w,(execOp (evF F) oi).run P w=.ok (.enter f args) w) (R:Value→Blocks→Prop)
  (hc:∀ w,St w0 w L→Calls P f args w (GetsN w R)) (h:∀ v M,R v M→wpD P w0 n ops Q ex (putF F oi.dst v) (L++M) fuel (listed.setIfInBounds i true)):wpO P w0 n ops Q ex F L fuel listed i :=
 ⟨oi,by simpa using hi0,(good_spec hg).1,λa w ha hw w1 h1 K hK=>by
  unfold Oper.wp
  rw [good_exec hg ha,he w1]
  refine Calls.mono (hc w1 (hw.gr h1)) λe w' he'=>?_
  obtain ⟨v,M,rfl,hR,hb,hM,hn⟩:=he'
  exact hK _ _ (λ_=>hb) (h v M hR _ _ (ha.put (good_spec hg).2.2.1 v) ((hw.gr h1).addN hb hM hn))⟩
theorem joinG {T:Type} (FF:T→Slots) (LL:T→Blocks) (H:T→Prop) (fu:Nat) (li:Array Bool) {fuel':Nat} (h:∀ x,H x→wpD P w0 n ops Q ex (FF x) (LL x) fu li) (k:(∀ x,H x→wpD P w0 n ops Q ex (FF x) (LL x) fu li)→wpD P w0 n ops Q ex F L fuel' listed):wpD P w0 n ops Q ex F L fuel' listed:=k h
end
end Sy
end
section
namespace Sy
open Go.RowKit
section
variable {P:Program} {w0:Base} {n:Nat} {Q:Exit→Act→World→Prop} {F:Slots} {L:Blocks} {ops:Array Oper} {o:Oper} {l:List Oper}
def From (w0:Base) (L:Blocks) (A:Option Addr) (news:List Value):Prop:=∀ w,St w0 w L→(news=[]∨∃ a,A=some a∧∀ j u,news[j]? = some u→w.cell? (a.add j)=some u)
theorem From.blk {i g f:Nat} {t:TypeId} {cs:Array Value} {news:List Value} (hL:L[i]? = some (g,t,cs)) (hn:(cs.toList.drop f).take news.length=news):From w0 L (some ⟨g,f,none⟩) news:=λw hw =>
 .inr ⟨_,rfl,λj u hj=>by
  rw [addr_off]
  exact blk_range (hw.get hL) hn j u hj⟩
theorem appendG (hg:good ops n F o=true) (ts e:TypeId) (inf:TypeInfo) (z:Value) (sz by_:Nat) (ht:P.underlying ts=some (.slice e)) (hinf:P.info? e=some inf) (hz:inf.zero=some z) (hs1:inf.size=sz) (hb1:inf.bytes=by_) (hzs:z.cells.size=sz) (h0:0<sz)
  (s x:Operand) (ho:o.op=.call { callee:=.builtin .append,args:=#[s,x],argTypes:=#[ts,ts] })
  (i g len cap:Nat) (old sp:List Value) (hs:evF F s=.slice (some ⟨g,0,none⟩) len cap) (hL:L[i]? = some (g,e,(old++sp).toArray)) (hlen:old.length=len*sz) (hsp:sp.length+len*sz=cap*sz) (hmax:cap≤maxLen)
  (A:Option Addr) (m c:Nat) (news:List Value) (hx:evF F x=.slice A m c) (hf:From w0 L A news) (hm:news.length=m*sz) (hmc:m≤c) (h1:∀ u∈news,u.oneCell'=true) (hsmall:(len+m)*by_≤140737488355328) (h63:len+m≤maxLen)
  (h:∀ (g' cap':Nat) (sp':List Value),sp'.length+(len+m)*sz=cap'*sz→len+m≤cap'→cap'≤maxLen→wpS P w0 n ops Q (putF F o.dst (.slice (some ⟨g',0,none⟩) (len+m) cap')) (L.set i (g',e,(old++news++sp').toArray)) l):wpS P w0 n ops Q F L (o::l):=λa w ha hw=>by
 obtain ⟨k1,_,k3,_⟩:=good_spec hg
 refine wpList_step λK hK=>?_
 rw [if_pos (ha.wanted k1)]
 have hb:=hw.get hL
 have hle:len≤cap:=Nat.le_of_mul_le_mul_right (by omega) h0
 have step:∀ v' w',(Builtin.append_ #[ts,ts] o.type #[.slice (some ⟨g,0,none⟩) len cap,.slice A m c]).run P w=.ok v' w'→K (a.put o.dst v') w'→o.wp P a w K Q:=λv' w' hr hk=>by
  unfold Oper.wp
  rw [good_exec hg ha]
  unfold execOp
  simp only [ho,resolve,invoke,builtin,Sem.run_bind,Sem.run_pure,Result.andThen_ok,List.map_toArray,List.map_cons,List.map_nil,hs,hx,hr]
  exact hk
 rcases hf w hw with rfl | ⟨ad,rfl,hn⟩
 ·have hm0:m=0:=by
   rcases Nat.eq_zero_or_pos m with h | h
   ·exact h
   ·have:=Nat.mul_pos h h0
    simp at hm
    omega
  subst hm0
  have hr:(Builtin.append_ #[ts,ts] o.type #[.slice (some ⟨g,0,none⟩) len cap,.slice A 0 c]).run P w=.ok (.slice (some ⟨g,0,none⟩) len cap) w:=by
   have hfc:(Builtin.firstCells inf.size 0 (.slice A 0 c)).run P w=.ok #[] w:=by
    cases A with
    | none=>simp [Builtin.firstCells,Sem.run_pure]
    | some a=>simpa using run_firstCells_some (P:=P) w inf.size 0 a 0 c [] (by simp) (λj u hj=>by cases hj)
   have hst:∀ a:Addr,(storeCells a []).run P w=.ok () w:=λa=>by simp [storeCells,Sem.run_pure]
   simp [Builtin.append_,run_underlying ht,sizeOf,typeInfo,hinf,hle,Builtin.lenOf,hfc,hst]
  refine step _ w hr ?_
  have hset:L.set i (g,e,(old++[]++sp).toArray)=L:=by
   rw [List.append_nil]
   refine List.ext_getElem? λj=>?_
   rw [List.getElem?_set]
   by_cases e':i=j
   ·subst e'
    rw [if_pos rfl,if_pos (List.getElem?_eq_some_iff.1 hL).1,hL]
   ·rw [if_neg e']
  refine hK _ _ (h g cap sp (by simpa using hsp) (by omega) hmax _ _ (ha.put k3 _) ?_)
  rw [hset]
  exact hw
 ·have hown:w.ownsRow 0 e sz (.slice (some ⟨g,0,none⟩) len cap) len old:=⟨hlen,.inr ⟨g,cap,_,rfl,Nat.zero_le _,hb,hle,hmax,by rw [List.size_toArray,List.length_append]; omega,by show (old++sp).take _=old; rw [List.take_left' hlen]⟩⟩
  have last:∀ (w':World) (g' cap':Nat) (cur:Array Value),cur.size=cap'*sz→len+m≤cap'→cap'≤maxLen→cur.toList.take ((len+m)*sz)=old++news→St w0 w' (L.set i (g',e,cur))→K (a.put o.dst (.slice (some ⟨g',0,none⟩) (len+m) cap')) w':=λw' g' cap' cur h2 h2' h3 h4 h5=>by
   have hc:cur=(old++news++cur.toList.drop ((len+m)*sz)).toArray:=by
    rw [← h4,List.take_append_drop]
   rw [hc] at h5
   refine hK _ _ (h g' cap' _ ?_ h2' h3 _ _ (ha.put k3 _) h5)
   have h6:=Nat.mul_le_mul_right sz h2'
   rw [List.length_drop,Array.length_toList,h2]
   omega
  rcases Nat.lt_or_ge cap (len+m) with hlt | hge
  ·obtain ⟨v',w',hr,hrow,hgr⟩:=run_append_arg_grows (P:=P) w ts o.type e inf z sz by_ ht hinf hz hs1 hb1 hzs h0 ⟨g,0,none⟩ len cap old hlen (hown.cells (g:=g) rfl) ad m c news hm hn hlt h63 hsmall
   refine step v' w' hr ?_
   rcases hrow.2 with ⟨rfl,h0'⟩ | ⟨g',cap',cur,rfl,q1,q2,q3,q4,q5,q6⟩
   ·omega
   ·exact last w' g' cap' cur q5 q3 q4 q6 (hw.setNew (⟨hgr.os,hgr.tape,hgr.output,hgr.size,λk hk=>hgr.block k hk (by simp)⟩) (List.getElem?_eq_some_iff.1 hL).1 q1 q2)
  ·obtain ⟨w',hr,hrow,hgr⟩:=run_append_own_spare (P:=P) w 0 ts o.type e inf sz ht hinf hs1 g len cap old hown ad m c news hm hn h1 hge
   refine step _ w' hr ?_
   rcases hrow.2 with ⟨h0',_⟩ | ⟨g',cap',cur,hv,_,q2,q3,q4,q5,q6⟩
   ·cases h0'
   ·cases hv
    exact last w' g cap cur q5 q3 q4 q6 (hw.set hL hgr q2)
theorem appendGNil (hg:good ops n F o=true) (ts e:TypeId) (inf:TypeInfo) (z:Value) (sz by_:Nat) (ht:P.underlying ts=some (.slice e)) (hinf:P.info? e=some inf) (hz:inf.zero=some z) (hs1:inf.size=sz) (hb1:inf.bytes=by_) (hzs:z.cells.size=sz) (h0:0<sz)
  (s x:Operand) (ho:o.op=.call { callee:=.builtin .append,args:=#[s,x],argTypes:=#[ts,ts] }) (hs:evF F s=.slice none 0 0)
  (A:Option Addr) (m c:Nat) (news:List Value) (hx:evF F x=.slice A m c) (hf:From w0 L A news) (hm:news.length=m*sz) (hm0:0<m) (h1:∀ u∈news,u.oneCell'=true) (hsmall:m*by_≤140737488355328) (h63:m≤maxLen)
  (h:∀ (g' cap':Nat) (sp':List Value),sp'.length+m*sz=cap'*sz→m≤cap'→cap'≤maxLen→wpS P w0 n ops Q (putF F o.dst (.slice (some ⟨g',0,none⟩) m cap')) (L++[(g',e,(news++sp').toArray)]) l):wpS P w0 n ops Q F L (o::l):=λa w ha hw=>by
 obtain ⟨k1,_,k3,_⟩:=good_spec hg
 refine wpList_step λK hK=>?_
 rw [if_pos (ha.wanted k1)]
 rcases hf w hw with rfl | ⟨ad,rfl,hn⟩
 ·have:=Nat.mul_pos hm0 h0
  simp at hm
  omega
 obtain ⟨v',w',hr,hrow,hgr,hnil⟩:=run_append_own (P:=P) w w.heap.size ts o.type e inf z sz by_ ht hinf hz hs1 hb1 hzs h0 (.slice none 0 0) 0 [] (World.ownsRow_nil w _ e sz) ad m c news hm hn h1 (by omega) (by rw [Nat.zero_add]; exact hsmall) (Nat.le_refl _)
 rcases hrow.2 with ⟨_,h0'⟩ | ⟨g',cap',cur,rfl,q1,q2,q3,q4,q5,q6⟩
 ·omega
 have q6':cur.toList.take (m*sz)=news:=by simpa using q6
 unfold Oper.wp
 rw [good_exec hg ha]
 unfold execOp
 simp only [ho,resolve,invoke,builtin,Sem.run_bind,Sem.run_pure,Result.andThen_ok,List.map_toArray,List.map_cons,List.map_nil,hs,hx,hr]
 have hc:cur=(news++cur.toList.drop (m*sz)).toArray:=by rw [← q6',List.take_append_drop]
 rw [hc] at q2
 rw [Nat.zero_add] at q3 ⊢
 refine hK _ _ (h g' cap' _ ?_ q3 q4 _ _ (ha.put k3 _) (hw.add (⟨hgr.os,hgr.tape,hgr.output,hgr.size,λk hk=>hgr.block k hk (by simp [Value.ownBlock])⟩) q1 q2))
 have h6:=Nat.mul_le_mul_right sz q3
 rw [List.length_drop,Array.length_toList,q5]
 omega
theorem permC {c:Code} {M:Blocks} (p:L.Perm M) (h:wpC P w0 n Q F M c):wpC P w0 n Q F L c:=λa w ha hw=>h a w ha (hw.perm p)
theorem permS {M:Blocks} (p:L.Perm M) (h:wpS P w0 n ops Q F M l):wpS P w0 n ops Q F L l:=λa w ha hw=>h a w ha (hw.perm p)
end
end Sy
end
section
namespace Sy
open Go.RowKit
structure Slc where
 v:Value
 bl:Blocks
structure Slc.Is (r:Slc) (e:TypeId) (sz:Nat) (xs:List (List Value)):Prop where
 len:∀ x∈xs,x.length=sz
 one:∀ x∈xs, ∀ u∈x,u.oneCell'=true
 row:(xs=[]∧r=⟨.slice none 0 0,[]⟩)∨∃ g cap sp,r=⟨.slice (some ⟨g,0,none⟩) xs.length cap,[(g,e,(xs.flatten++sp).toArray)]⟩∧sp.length+xs.length*sz=cap*sz∧xs.length≤cap∧cap≤maxLen
theorem Slc.Is.nil (e:TypeId) (sz:Nat):Slc.Is ⟨.slice none 0 0,[]⟩ e sz []:=⟨λ_ h=>(by cases h),λ_ h=>(by cases h),.inl ⟨rfl,rfl⟩⟩
theorem flat_len' {sz:Nat}:∀ {xs:List (List Value)},(∀ x∈xs,x.length=sz)→xs.flatten.length=xs.length*sz
 | [],_=>by simp
 | x::xs,h=>by
  rw [List.flatten_cons,List.length_append,h x (List.mem_cons_self ..),flat_len' λy hy=>h y (List.mem_cons_of_mem _ hy),List.length_cons,Nat.add_mul,Nat.one_mul,Nat.add_comm]
theorem flat_at' {sz:Nat}:∀ {xs:List (List Value)} (sp:List Value),(∀ x∈xs,x.length=sz)→∀ (j:Nat) (x:List Value),xs[j]? = some x→((xs.flatten++sp).drop (j*sz)).take sz=x
 | [],_,_,_,_,h=>by simp at h
 | y::xs,sp,h,0,x,hx=>by
  have hy:=h y (List.mem_cons_self ..)
  simp only [List.getElem?_cons_zero,Option.some.injEq] at hx
  subst hx
  rw [Nat.zero_mul,List.drop_zero,List.flatten_cons,List.append_assoc,List.take_append_of_le_length (by omega),List.take_of_length_le (by omega)]
 | y::xs,sp,h,j+1,x,hx=>by
  have hy:=h y (List.mem_cons_self ..)
  rw [List.getElem?_cons_succ] at hx
  have ih:=flat_at' sp (λz hz=>h z (List.mem_cons_of_mem _ hz)) j x hx
  rw [List.flatten_cons,List.append_assoc,List.drop_append,hy,List.drop_of_length_le (by rw [hy,Nat.add_mul,Nat.one_mul]; omega),List.nil_append,Nat.add_mul,Nat.one_mul,Nat.add_sub_cancel]
  exact ih
theorem Slc.Is.out {r:Slc} {e:TypeId} {sz:Nat} {xs:List (List Value)} (h:r.Is e sz xs):∃ A c,r.v=.slice A xs.length c∧xs.length≤c∧c≤maxLen∧∀ {w0:Base} {w:World} {L:Blocks},St w0 w L→(∀ b∈r.bl,b∈L)→Lst w sz A xs.length (λi=>xs.getD i []):=by
 rcases h.row with ⟨rfl,rfl⟩ | ⟨g,cap,sp,rfl,h1,h2,h3⟩
 ·exact ⟨none,0,rfl,Nat.le_refl _,Nat.zero_le _,λ_ _=>⟨0,0,λhn=>absurd hn (Nat.lt_irrefl _)⟩⟩
 ·refine ⟨some ⟨g,0,none⟩,cap,rfl,h2,h3,λ{w0 w L} hw hb=>⟨g,0,λhn=>?_⟩⟩
  have hbk:=(hw.blk g e _ (hb _ (List.mem_singleton.2 rfl))).2
  refine ⟨rfl,hbk.lt,λj hj i v hi=>?_⟩
  have hx:xs[j]? = some (xs.getD j []):=by rw [List.getD_eq_getElem?_getD,List.getElem?_eq_getElem hj]; rfl
  have hl:=h.len _ (List.mem_of_getElem? hx)
  have hi':i<sz:=by rw [← hl]; exact (List.getElem?_eq_some_iff.1 hi).1
  refine (hbk.cell _).trans ?_
  have q:=flat_at' sp h.len j _ hx
  have hi:(xs.getD j [])[i]? = some v:=hi
  rw [← q,List.getElem?_take_of_lt hi',List.getElem?_drop] at hi
  rw [Nat.zero_add,List.getElem?_toArray]
  exact hi
section
variable {P:Program} {w0:Base} {n:Nat} {Q:Exit→Act→World→Prop} {F:Slots} {pre T:Blocks} {ops:Array Oper} {o:Oper} {l:List Oper}
theorem Quiet.lenR {L:Blocks} {r:Slc} {e t:TypeId} {sz m:Nat} {xs:List (List Value)} (hr:r.Is e sz xs) (hm:xs.length=m) (x:Operand) {e':TypeId} (ht:P.underlying t=some (.slice e')) (ho:o.op=.call { callee:=.builtin .len,args:=#[x],argTypes:=#[t] }) (hx:evF F x=r.v):Quiet P w0 F L o (.int .i64 (m:Int)):=Quiet.pure λw=>by
 subst hm
 rcases hr.row with ⟨rfl,rfl⟩ | ⟨g,cap,sp,rfl,_⟩ <;>
 ·unfold execOp
  simp only [ho,resolve,invoke,builtin,Sem.run_bind,Sem.run_pure,Result.andThen_ok,List.map_toArray,List.map_cons,List.map_nil,hx]
  simp [Builtin.len_,run_underlying ht,goInt,Result.andThen]
theorem appendR (hg:good ops n F o=true) (ts e:TypeId) (inf:TypeInfo) (z:Value) (sz by_:Nat) (ht:P.underlying ts=some (.slice e)) (hinf:P.info? e=some inf) (hz:inf.zero=some z) (hs1:inf.size=sz) (hb1:inf.bytes=by_) (hzs:z.cells.size=sz) (h0:0<sz)
  (s x:Operand) (ho:o.op=.call { callee:=.builtin .append,args:=#[s,x],argTypes:=#[ts,ts] })
  {r:Slc} {xs:List (List Value)} (hr:r.Is e sz xs) (hs:evF F s=r.v) (y:List Value) (hy:y.length=sz) (hy1:∀ u∈y,u.oneCell'=true)
  (j gx:Nat) (tx:TypeId) (hx:evF F x=.slice (some ⟨gx,0,none⟩) 1 1) (hLx:(pre++(r.bl++T))[j]? = some (gx,tx,y.toArray)) (hsmall:(xs.length+1)*by_≤140737488355328) (h63:xs.length+1≤maxLen)
  (h:∀ r':Slc,r'.Is e sz (xs++[y])→wpS P w0 n ops Q (putF F o.dst r'.v) (pre++(r'.bl++T)) l):wpS P w0 n ops Q F (pre++(r.bl++T)) (o::l):=by
 have hfrom:From w0 (pre++(r.bl++T)) (some ⟨gx,0,none⟩) y:=From.blk hLx (by simp)
 have hlen:∀ u∈xs++[y],u.length=sz:=λu hu=>by
  rcases List.mem_append.1 hu with hu | hu
  ·exact hr.len u hu
  ·rw [List.mem_singleton.1 hu]; exact hy
 have hone:∀ u∈xs++[y], ∀ v∈u,v.oneCell'=true:=λu hu=>by
  rcases List.mem_append.1 hu with hu | hu
  ·exact hr.one u hu
  ·rw [List.mem_singleton.1 hu]; exact hy1
 rcases hr.row with ⟨rfl,rfl⟩ | ⟨g,cap,sp,rfl,q1,q2,q3⟩
 ·refine appendGNil hg ts e inf z sz by_ ht hinf hz hs1 hb1 hzs h0 s x ho hs (some ⟨gx,0,none⟩) 1 1 y hx hfrom (by omega) (by decide) hy1 (by simpa using hsmall) (by simpa using h63) (λg' cap' sp' h1 h2 h3=>?_)
  have hq:=h ⟨.slice (some ⟨g',0,none⟩) 1 cap',[(g',e,(y++sp').toArray)]⟩ ⟨hlen,hone,.inr ⟨g',cap',sp',by simp,by simpa using h1,by simpa using h2,h3⟩⟩
  exact permS (by
   rw [List.nil_append,List.append_assoc]
   exact (List.perm_append_comm (l₁:=T) (l₂:=[(g',e,(y++sp').toArray)])).append_left pre) hq
 ·have hi:(pre++([(g,e,(xs.flatten++sp).toArray)]++T))[pre.length]? = some (g,e,(xs.flatten++sp).toArray):=by
   rw [List.getElem?_append_right (Nat.le_refl _),Nat.sub_self]
   rfl
  refine appendG hg ts e inf z sz by_ ht hinf hz hs1 hb1 hzs h0 s x ho pre.length g xs.length cap xs.flatten sp hs hi (flat_len' hr.len) q1 q3 (some ⟨gx,0,none⟩) 1 1 y hx hfrom (by omega) (Nat.le_refl _) hy1 hsmall h63 (λg' cap' sp' h1 h2 h3=>?_)
  have hq:=h ⟨.slice (some ⟨g',0,none⟩) (xs.length+1) cap',[(g',e,(xs.flatten++y++sp').toArray)]⟩ ⟨hlen,hone,.inr ⟨g',cap',sp',by simp,by simpa using h1,by simpa using h2,h3⟩⟩
  have he:(pre++([(g,e,(xs.flatten++sp).toArray)]++T)).set pre.length (g',e,(xs.flatten++y++sp').toArray)=pre++([(g',e,(xs.flatten++y++sp').toArray)]++T):=by
   rw [List.set_append_right _ _ (Nat.le_refl _),Nat.sub_self]
   rfl
  rw [he]
  exact hq
theorem movT {b:Nat×TypeId×Array Value} (h:wpS P w0 n ops Q F ((pre++[b])++T) l):wpS P w0 n ops Q F ((pre++T)++[b]) l :=
 permS (by
  rw [List.append_assoc,List.append_assoc]
  exact (List.perm_append_comm (l₁:=T) (l₂:=[b])).append_left pre) h
theorem setT {i:Nat} {b:Nat×TypeId×Array Value} (h:wpS P w0 n ops Q F ((pre.set i b)++T) l) (hi:Nat.ble (i+1) pre.length=true:=by kernel_rfl):wpS P w0 n ops Q F ((pre++T).set i b) l:=by
 rw [List.set_append_left _ _ (Nat.le_of_ble_eq_true hi)]
 exact h
theorem St.pick {w:World} {M:Blocks} (is:List Nat) (hn:is.Nodup) (hm:is.map (λi=>pre[i]?)=M.map some) (hw:St w0 w (pre++T)):St w0 w (M++T):=by
 have hsub:∀ b∈M,b∈pre:=λb hb=>by
  have:some b∈M.map some:=List.mem_map.2 ⟨b,hb,rfl⟩
  rw [← hm] at this
  obtain ⟨i,_,hi⟩:=List.mem_map.1 this
  exact List.mem_of_getElem? hi
 have hap:=hw.apart
 rw [List.map_append,List.nodup_append] at hap
 obtain ⟨hp,hT,hd⟩:=hap
 refine ⟨hw.below,λg t cs hb=>hw.blk g t cs (by
  rcases List.mem_append.1 hb with hb | hb
  ·exact List.mem_append.2 (.inl (hsub _ hb))
  ·exact List.mem_append.2 (.inr hb)),?_,hw.size,hw.non⟩
 rw [List.map_append,List.nodup_append]
 refine ⟨?_,hT,λa ha b hb=>hd a (by
  obtain ⟨x,hx,rfl⟩:=List.mem_map.1 ha
  exact List.mem_map.2 ⟨x,hsub x hx,rfl⟩) b hb⟩
 have hlen:is.length=M.length:=by simpa using congrArg List.length hm
 rw [List.Nodup,List.pairwise_map,List.pairwise_iff_getElem]
 intro a b ha hb hab e
 have q:∀ (c:Nat) (hc:c<M.length),pre[is[c]'(by omega)]? = some M[c]:=λc hc=>by
  have:=congrArg (λl=>l[c]?) hm
  simp only [List.getElem?_map] at this
  rw [List.getElem?_eq_getElem (by omega),List.getElem?_eq_getElem hc] at this
  simpa using this
 have q1:=List.getElem?_eq_some_iff.1 (q a ha)
 have q2:=List.getElem?_eq_some_iff.1 (q b hb)
 obtain ⟨l1,e1⟩:=q1
 obtain ⟨l2,e2⟩:=q2
 have hne:is[a]'(by omega)≠is[b]'(by omega):=λe3=>by
  have:=List.pairwise_iff_getElem.1 hn a b (by omega) (by omega) hab
  exact this e3
 have hpw:=List.pairwise_iff_getElem.1 hp
 rcases Nat.lt_or_gt_of_ne hne with hlt | hlt
 ·have:=hpw _ _ (by simpa using l1) (by simpa using l2) hlt
  simp only [List.getElem_map,e1,e2] at this
  exact this e
 ·have:=hpw _ _ (by simpa using l2) (by simpa using l1) hlt
  simp only [List.getElem_map,e1,e2] at this
  exact this e.symm
theorem loopT {L:Blocks} {Y:Type} {c:Code} (N:Nat) (FF:Nat→Y→Slots) (LL:Nat→Y→Blocks) (H:Nat→Y→Prop) (x0:Y) (h0:H 0 x0) (hF:∀ p∈FF 0 x0,F.lookup p.1=some p.2) (hL:∀ w,St w0 w L→St w0 w (LL 0 x0))
  (hr:∀ k x,k≤N→H k x→wpC P w0 n (Exit.then (NextX w0 n N FF LL H k) Q) (FF k x) (LL k x) c):wpC P w0 n Q F L (.loop c) :=
 loopI N (λk a w=>∃ x,H k x∧Fr w0.ds a n (FF k x)∧St w0 w (LL k x)) (λ_ w ha hw=>⟨x0,h0,ha.all hF,hL w hw⟩)
  λk hk a w ⟨x,hx,ha,hw⟩=>hr k x hk hx a w ha hw
theorem againT {L:Blocks} {Y:Type} {N:Nat} {FF:Nat→Y→Slots} {LL:Nat→Y→Blocks} {H:Nat→Y→Prop} {k:Nat} {R:Exit→Act→World→Prop} (y:Y) (hk:k<N) (hy:H (k+1) y) (hF:∀ p∈FF (k+1) y,F.lookup p.1=some p.2) (hL:∀ w,St w0 w L→St w0 w (LL (k+1) y)) :
  X w0 n (Exit.then (NextX w0 n N FF LL H k) R) F L .normal:=λ_ w ha hw=>⟨hk,y,hy,ha.all hF,hL w hw⟩
theorem Slc.Is.cells {r:Slc} {e:TypeId} {sz:Nat} {xs:List (List Value)} (h:r.Is e sz xs):r.v.cells=#[r.v]∧r.v.oneCell'=true:=by
 rcases h.row with ⟨rfl,rfl⟩ | ⟨g,cap,sp,rfl,_⟩ <;> exact ⟨rfl,rfl⟩
end
theorem fold_all:∀ (c:List Value) (off k:Nat) (cs:Array Value),(c.zipIdx k).foldl (λcs x=>cs.setIfInBounds (off+x.2) x.1) cs=setAll cs (off+k) c
 | [],_,_,_=>rfl
 | v::c,off,k,cs=>by
  rw [List.zipIdx_cons,List.foldl_cons,fold_all c off (k+1)]
  rfl
section
variable {P:Program} {w0:Base} {F:Slots} {L:Blocks} {o:Oper}
theorem exec_upto (t:TypeId) (x hx':Operand) (g f len cap hi s:Nat) (kh:IntKind) (ho:o.op=.slice t x none (some hx') none) (hx:evF F x=.slice (some ⟨g,f,none⟩) len cap) (hh:evF F hx'=.int kh (hi:Int)) (ht:P.underlying t=some (.slice (P.elem t))) (hsz:∀ w,(sizeOf (P.elem t)).run P w=.ok s w) (h1:hi≤cap) (w:World) :
  (execOp (evF F) o).run P w=.ok (.value (.slice (some ⟨g,f,none⟩) hi cap)) w:=by
 have e:(Instr.sliceAt t (.slice (some ⟨g,f,none⟩) len cap) none (some (.int kh (hi:Int))) none).run P w=.ok (.slice (some ⟨g,f,none⟩) hi cap) w:=by
  rw [run_sliceAt_slice w t _ _ _ _ ht]
  simp [Instr.slice,run_underlying ht,Instr.sliceBounds,Instr.sliceBound,asIntOf,h1,hsz,Result.andThen,Addr.add]
 unfold execOp
 simp only [ho,hx,hh,Option.map_some,Option.map_none,e,Sem.run_bind,Sem.run_pure,Result.andThen_ok]
end
theorem Slc.Is.mk' {g nn cap:Nat} {e:TypeId} {sz:Nat} {xs:List (List Value)} {cs:List Value} (hl:∀ x∈xs,x.length=sz) (h1:∀ x∈xs, ∀ u∈x,u.oneCell'=true) (hn:xs.length=nn) (hc:cs.take (nn*sz)=xs.flatten) (hs:cs.length=cap*sz) (hle:nn≤cap) (hm:cap≤maxLen):Slc.Is ⟨.slice (some ⟨g,0,none⟩) nn cap,[(g,e,cs.toArray)]⟩ e sz xs:=by
 subst hn
 refine ⟨hl,h1,.inr ⟨g,cap,cs.drop (xs.length*sz),?_,?_,hle,hm⟩⟩
 ·rw [← hc,List.take_append_drop]
 ·have:=Nat.mul_le_mul_right sz hle
  rw [List.length_drop]
  omega
end Sy
end
section
namespace Sy
open Go.RowKit
section
variable {P:Program} {w0:Base} {n:Nat} {Q:Exit→Act→World→Prop} {F:Slots} {L M:Blocks} {ops:Array Oper} {ex:Nat→Bool} {fuel:Nat} {listed:Array Bool} {pre T:Blocks}
theorem permD (p:L.Perm M) (h:wpD P w0 n ops Q ex F M fuel listed):wpD P w0 n ops Q ex F L fuel listed:=λa w ha hw=>h a w ha (hw.perm p)
theorem mov_perm {b:Nat×TypeId×Array Value}:((pre++T)++[b]).Perm ((pre++[b])++T):=by
 rw [List.append_assoc,List.append_assoc]
 exact (List.perm_append_comm (l₁:=T) (l₂:=[b])).append_left pre
theorem movTD {b:Nat×TypeId×Array Value} (h:wpD P w0 n ops Q ex F ((pre++[b])++T) fuel listed):wpD P w0 n ops Q ex F ((pre++T)++[b]) fuel listed:=permD mov_perm h
theorem setTD {i:Nat} {b:Nat×TypeId×Array Value} (h:wpD P w0 n ops Q ex F ((pre.set i b)++T) fuel listed) (hi:Nat.ble (i+1) pre.length=true:=by kernel_rfl):wpD P w0 n ops Q ex F ((pre++T).set i b) fuel listed:=by
 rw [List.set_append_left _ _ (Nat.le_of_ble_eq_true hi)]
 exact h
def onlyQ (Q:Exit→Act→World→Prop) (K:Act→World→Prop):Exit→Act→World→Prop
 | .normal=>K
 | .panic c=>Q (.panic c)
 | _=>λ_ _=>False
theorem wp_only {o:Oper} {a:Act} {w:World} {K' K:Act→World→Prop} (h:o.wp P a w K (onlyQ Q K')):o.wp P a w K Q:=by
 unfold Oper.wp at *
 generalize (execOp a.eval o).run P w=r at *
 cases r with
 | ok x w' =>
  cases x <;> simp only [Oper.upon] at h ⊢ <;>
   first
    | exact h
    | exact Calls.mono h (λe w'' he=>by cases e <;> first | exact he | (obtain ⟨_,_,q⟩:=he; exact q.elim))
 | halt x w'=>cases x <;> simp only [Oper.upon] at h ⊢ <;> exact h
theorem soleD (k:Nat) {oi:Oper} (hi0:ops.toList[k]? = some oi) (h:∀ Q',(∀ F' L',wpD P w0 n ops Q ex F' L' fuel (listed.setIfInBounds k true)→wpS P w0 n ops Q' F' L' [])→wpS P w0 n ops Q' F L [oi])
  (hg:wantedF ops F oi=some true:=by kernel_rfl) (hr:Region.ready .any ops listed=[k]:=by kernel_rfl) (hex:ex k=true:=by rfl):wpD P w0 n ops Q ex F L (fuel+1) listed:=λa w ha hw =>
 wpAnyG_sole k hi0 hr (ha.wanted hg) λw1 h1 K hK=>by
  have q:=h (onlyQ Q K) (λF' L' hd a' w' ha' hw'=>wpList_nil (hK _ _ (λe=>by rw [hex] at e; cases e) (hd a' w' ha' hw'))) a w1 ha (hw.gr h1)
  unfold wpList at q
  rw [if_pos (ha.wanted hg)] at q
  rcases q with q | ⟨_,a',w',q⟩
  ·exact wp_only (K':=K) q
  ·exact q.elim
end
def rowsB (r:Nat→Slc) (n:Nat):Blocks:=(List.range n).flatMap λi=>(r i).bl
def rowsX (r:Nat→Slc) (n i:Nat):Blocks:=((List.range n).filter λj=>j != i).flatMap λj=>(r j).bl
def putR (r:Nat→Slc) (i:Nat) (x:Slc):Nat→Slc:=λj=>if j=i then x else r j
def nilS:Slc:=⟨.slice none 0 0,[]⟩
section
variable {r:Nat→Slc} {n i:Nat} {x:Slc}
theorem putR_self:putR r i x i=x:=if_pos rfl
theorem putR_ne {j:Nat} (h:j≠i):putR r i x j=r j:=if_neg h
theorem rows_perm (r:Nat→Slc) (hi:i<n):(rowsB r n).Perm ((r i).bl++rowsX r n i):=by
 have h1:(List.range n).Perm (i::(List.range n).erase i):=List.perm_cons_erase (List.mem_range.2 hi)
 rw [List.nodup_range.erase_eq_filter] at h1
 exact h1.flatMap_right _
theorem rowsX_put (r:Nat→Slc) (n i:Nat) (x:Slc):rowsX (putR r i x) n i=rowsX r n i:=by
 unfold rowsX
 rw [List.flatMap_def,List.flatMap_def]
 refine congrArg _ (List.map_congr_left λj hj=>?_)
 have:j≠i:=by simpa using (List.mem_filter.1 hj).2
 rw [putR_ne this]
theorem rows_back (hi:i<n):(x.bl++rowsX r n i).Perm (rowsB (putR r i x) n):=by
 have h:=(rows_perm (putR r i x) hi).symm
 rwa [putR_self,rowsX_put] at h
theorem rows_mem (hi:i<n) {b:Nat×TypeId×Array Value} (hb:b∈(r i).bl):b∈rowsB r n:=List.mem_flatMap.2 ⟨i,List.mem_range.2 hi,hb⟩
theorem out_perm {pre T:Blocks} (r:Nat→Slc) (hi:i<n):(pre++(rowsB r n++T)).Perm (pre++((r i).bl++(rowsX r n i++T))):=by
 rw [← List.append_assoc (r i).bl]
 exact ((rows_perm r hi).append_right T).append_left pre
theorem in_perm {pre T:Blocks} (hi:i<n):(pre++(x.bl++(rowsX r n i++T))).Perm (pre++(rowsB (putR r i x) n++T)):=by
 rw [← List.append_assoc x.bl]
 exact ((rows_back hi).append_right T).append_left pre
def rowsC (r:Nat→Slc) (n:Nat):Array Value:=(flat (λj=>[(r j).v]) n).toArray
theorem rowsC_get (hi:i<n) {o:Nat} (ho:o=0+i*1):(rowsC r n)[o]? = some (r i).v:=by
 rw [ho,Nat.zero_add,Nat.mul_one]
 exact flat_get1 (f:=λj=>(r j).v) hi
theorem rowsC_size:(rowsC r n).size=n:=flat_size1 (f:=λj=>(r j).v)
theorem rowsC_lt (hi:i<n) {o:Nat} (ho:o=0+i*1):o<(rowsC r n).size:=by rw [rowsC_size]; omega
theorem rowsC_set (hi:i<n) {o:Nat} (ho:o=0+i*1) {u:Value} (hu:x.v=u):(rowsC r n).setIfInBounds o u=rowsC (putR r i x) n:=by
 rw [ho,Nat.zero_add,Nat.mul_one, ← hu]
 unfold rowsC
 rw [flat_set1 (f:=λj=>(r j).v) hi]
 refine congrArg List.toArray (flat_congr λj _=>?_)
 unfold putR
 split <;> rfl
def RowsAre (r:Nat→Slc) (e:TypeId) (sz:Nat) (f:Nat→Nat→List Value) (c:Nat→Nat):Prop:=∀ i,(r i).Is e sz ((List.range (c i)).map (f i))
theorem RowsAre.nil (e:TypeId) (sz:Nat) (f:Nat→Nat→List Value):RowsAre (λ_=>nilS) e sz f (λ_=>0):=λ_=>Slc.Is.nil e sz
theorem RowsAre.put {e:TypeId} {sz:Nat} {f:Nat→Nat→List Value} {c c':Nat→Nat} (h:RowsAre r e sz f c) (hx:x.Is e sz ((List.range (c i)).map (f i)++[f i (c i)])) (hc:c' i=c i+1) (hc':∀ j,j≠i→c' j=c j):RowsAre (putR r i x) e sz f c':=λj=>by
 by_cases hj:j=i
 ·subst hj
  rw [putR_self,hc,List.range_succ,List.map_append]
  exact hx
 ·rw [putR_ne hj,hc' j hj]
  exact h j
theorem RowsAre.cnt {e:TypeId} {sz:Nat} {f:Nat→Nat→List Value} {c c':Nat→Nat} (h:RowsAre r e sz f c) (hc:∀ j,c' j=c j):RowsAre r e sz f c':=λj=>by rw [hc]; exact h j
def cntR (n:Nat→Nat) (k j:Nat) (i:Nat):Nat:=if i<k then n i else if i=k then j else 0
theorem cntR_zero (n:Nat→Nat) (i:Nat):cntR n 0 0 i=0:=by unfold cntR; simp
theorem cntR_at (n:Nat→Nat) (k j:Nat):cntR n k j k=j:=by unfold cntR; simp
theorem cntR_ne {n:Nat→Nat} {k j i:Nat} (h:i≠k):cntR n k (j+1) i=cntR n k j i:=by unfold cntR; simp [h]
theorem cntR_next (n:Nat→Nat) (k i:Nat):cntR n (k+1) 0 i=cntR n k (n k) i:=by
 unfold cntR
 by_cases h1:i<k
 ·simp [h1,Nat.lt_succ_of_lt h1]
 ·by_cases h2:i=k
  ·subst h2; simp
  ·have:¬ i<k+1:=by omega
   simp [h1,h2,this]
theorem cntR_all {n:Nat→Nat} {k i:Nat} (h:i<k):cntR n k 0 i=n i:=by unfold cntR; simp [h]
theorem RowsAre.put' {e:TypeId} {sz:Nat} {f:Nat→Nat→List Value} {c:Nat→Nat} {k j:Nat} {y:List Value} (h:RowsAre r e sz f (cntR c k j)) (hx:x.Is e sz ((List.range (cntR c k j k)).map (f k)++[y])) (hy:y=f k j):RowsAre (putR r k x) e sz f (cntR c k (j+1)) :=
 h.put (by rw [hy] at hx; rwa [show f k (cntR c k j k)=f k j by rw [cntR_at]]) (by rw [cntR_at,cntR_at]) (λi hi=>cntR_ne hi)
theorem rowsB_nil:rowsB (λ_=>nilS) n=[]:=by simp [rowsB,nilS]
def GivesRows (eo e:TypeId) (sz:Nat) (f:Nat→Nat→List Value) (c:Nat→Nat) (N:Nat) (v:Value) (M:Blocks):Prop:=∃ g r,v=.slice (some ⟨g,0,none⟩) N N∧M=(g,eo,rowsC r N)::rowsB r N∧RowsAre r e sz f c
theorem RowsAre.lst {e:TypeId} {sz m N:Nat} {f:Nat→Nat→List Value} {c:Nat→Nat} (h:RowsAre r e sz f c) {i:Nat} (hm:c i=m) (hi:i<N):∃ A k,(r i).v=.slice A m k∧m≤k∧k≤maxLen∧∀ {w0:Base} {w:World} {L:Blocks},St w0 w L→(∀ b∈rowsB r N,b∈L)→Lst w sz A m (f i):=by
 subst hm
 obtain ⟨A,k,h1,h2,h3,h4⟩:=(h i).out
 rw [List.length_map,List.length_range] at h1 h2 h4
 refine ⟨A,k,h1,h2,h3,λ{w0 w L} hw hb=>?_⟩
 obtain ⟨g,o,q⟩:=h4 hw (λb hm=>hb b (rows_mem hi hm))
 refine ⟨g,o,λhn=>?_⟩
 obtain ⟨q1,q2,q3⟩:=q hn
 refine ⟨q1,q2,λj hj=>?_⟩
 have q4:w.rangeAt g (o+j*sz) ((List.map (f i) (List.range (c i))).getD j []):=q3 j hj
 rw [List.getD_eq_getElem?_getD,List.getElem?_map,List.getElem?_range hj] at q4
 exact q4
end
section
variable {w0:Base} {w:World} {pre a T M N:Blocks}
theorem St.pick2 (is:List Nat) (hn:is.Nodup) (hm:is.map (λi=>pre[i]?)=(M++N).map some) (hw:St w0 w (pre++(a++T))):St w0 w (M++(a++(T++N))):=by
 refine (St.pick is hn hm hw).perm ?_
 rw [List.append_assoc, ← List.append_assoc a]
 exact (List.perm_append_comm (l₁:=N) (l₂:=a++T)).append_left M
end
theorem fill_twoV {place:Nat→Option (Nat×Nat)} {cs:Array Value} {v:Value} {c:List Value} {n:Nat} (hv:v.cells=#[v]) (hp0:place 0=some (0,1)) (hp1:place 1=some (1,n)) (hc:c.length=n) (hs:cs.size=n+1):Instr.fill place cs [(0,v),(1,.agg c.toArray)]=some (v::c).toArray:=by
 unfold Instr.fill
 rw [hp0]
 simp only [hv,List.size_toArray,List.length_singleton,hs,Nat.zero_add,ne_eq,not_true_eq_false,decide_false,Bool.false_or]
 rw [if_neg (by simp)]
 unfold Instr.fill
 rw [hp1]
 have hz:(#[v].zipIdx).foldl (λcs (x:Value×Nat)=>cs.setIfInBounds x.2 x.1) cs=cs.setIfInBounds 0 v:=rfl
 simp only [Value.cells,List.size_toArray,hc,ne_eq,not_true_eq_false,decide_false,Bool.false_or]
 have hcs:(cs.setIfInBounds 0 v).size=n+1:=by rw [Array.size_setIfInBounds,hs]
 rw [hz,if_neg (by rw [hcs]; simp; omega)]
 unfold Instr.fill
 have h1:c.toArray.zipIdx.foldl (λcs (x:Value×Nat)=>cs.setIfInBounds (1+x.2) x.1) (cs.setIfInBounds 0 v)=setAll (cs.setIfInBounds 0 v) (1+0) c:=by
  rw [← fold_all c 1 0, ← Array.foldl_toList,Array.toList_zipIdx]
 have h2:=Cu.setAll_all c 1 (cs.setIfInBounds 0 v) (by rw [hcs]; omega)
 rw [h1,Nat.add_zero,h2,Array.toList_setIfInBounds]
 obtain ⟨a,r,e⟩:∃ a r,cs.toList=a::r:=by
  cases h:cs.toList with
  | nil=>rw [← Array.length_toList,h] at hs; simp at hs
  | cons a r=>exact ⟨a,r,rfl⟩
 rw [e]
 rfl
section
variable {P:Program} {w0:Base} {F:Slots} {L:Blocks} {o:Oper}
theorem Quiet.build2V (t:TypeId) (fs:Array Field) (it:TypeInfo) (zv:Value) (x y:Operand) (v:Value) (c:List Value) (n:Nat) (ho:o.op=.build t #[(0,x),(1,y)]) (hx:evF F x=v) (hv:v.cells=#[v]) (hy:evF F y=.agg c.toArray) (hu:P.underlying t=some (.struct fs)) (hit:P.info? t=some it) (hz:it.zero=some zv) (hzs:zv.cells.size=n+1)
  (hpl:fs.toList.mapM (λf=>(P.info? f.type).map λi=>(f.offset,i.size))=some [(0,1),(1,n)]) (hc:c.length=n):Quiet P w0 F L o (.agg (v::c).toArray):=Quiet.pure λw=>by
 have hb:P.built t #[(0,v),(1,.agg c.toArray)].toList=some (v::c).toArray:=by
  unfold Program.built
  rw [hit,hu]
  simp only [hz,hpl]
  exact fill_twoV hv rfl rfl hc hzs
 have hr:=run_build (P:=P) w t #[(0,v),(1,.agg c.toArray)] _ hb
 unfold execOp
 simp only [ho,Sem.run_bind,List.map_toArray,List.map_cons,List.map_nil,hx,hy,hr,Result.andThen_ok,Sem.run_pure]
end
end Sy
end
end Go.Proofs.YtmennpefjofhjaaGreatDoor
