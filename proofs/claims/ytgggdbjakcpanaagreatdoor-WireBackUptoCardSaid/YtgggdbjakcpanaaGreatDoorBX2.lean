/-
  Texts of ours, put together: FeMul2, FeNum, FePow, FeRuns, FeEq, FeSqrt, FeInv, Crv, NumEq, Pnt, ZzK, CrvA, CrvB, RefNum, RefMinus, RowZ, FoldZ, RefFold, RefAdd, MulZ, RefMul, PowZ, RefPow, NumB, FeOwn, RefBytes, CrvC, CurveAlive, FeB32, FeRead, RefSqrt, RootNum, CrvD, CrvF, CrvG, CrvH, CurveBackL.
-/
import Derived.Test.YtgggdbjakcpanaaGreatDoorBX1
set_option linter.unusedVariables false
set_option linter.unusedSimpArgs false
namespace Go.Proofs.YtgggdbjakcpanaaGreatDoor
section
section
open Go.RowKit Go.Lib
theorem minus_fv (w:World) (x y s k:Nat) (hx:x<(2^256)) (hy:y<(2^256)) (hs:s<(2^256)) (he:s+y=x+(2^256)*k) :
  Calls Tryz.prog 321 #[fv x,fv y] w λe w'=>e=.returned (.tuple #[fv s,.int .u64 (k:Int)])∧Below w.heap.size w w':=minus_at w x y s k rfl rfl hx hy hs he
theorem product_fv (w:World) (x y lo hi:Nat) (hx:x<(2^256)) (hy:y<(2^256)) (hlo:lo<(2^256)) (he:lo+(2^256)*hi=x*y) :
  Calls Tryz.prog 295 #[fv x,fv y] w λe w'=>e=.returned (.tuple #[fv lo,fv hi])∧Below w.heap.size w w':=product_at w x y lo hi rfl rfl hx hy hlo he
set_option maxHeartbeats 1000000 in
set_option maxRecDepth 100000 in
theorem subF_any (w:World) (x y:Nat) (hx:x<(2^256)) (hy:y<(2^256)):Calls Tryz.prog 313 #[fv x,fv y] w λe w'=>e=.returned (fv (subP x y))∧Below w.heap.size w w':=by
 obtain ⟨p,hp⟩:∃ p,p=x%pM:=⟨_,rfl⟩
 obtain ⟨q,hq⟩:∃ q,q=y%pM:=⟨_,rfl⟩
 have hpl:p<(2^256):=by rw [hp]; exact mod_lt x
 have hql:q<(2^256):=by rw [hq]; exact mod_lt y
 have hpp:p<115792089237316195423570985008687907853269984665640564039457584007908834671663:=by rw [hp]; exact mod_lt_p x
 have hqp:q<115792089237316195423570985008687907853269984665640564039457584007908834671663:=by rw [hq]; exact mod_lt_p y
 obtain ⟨z,hz⟩:∃ z,z=subP x y:=⟨_,rfl⟩
 have hzs:z=if q≤p then p - q else p+115792089237316195423570985008687907853269984665640564039457584007908834671663 - q:=by rw [hz,sub_words, ← hp, ← hq]
 obtain ⟨s,k,hk,hs,he,hzk⟩:∃ s k:Nat,k≤1∧s<(2^256)∧s+q=p+(2^256)*k∧z+k*4294968273=s+(2^256)*0:=by
  by_cases h:q≤p
  ·rw [if_pos h] at hzs; exact ⟨p - q,0,by omega,by omega,by omega,by omega⟩
  ·rw [if_neg h] at hzs; exact ⟨p+(2^256) - q,1,by omega,by omega,by omega,by omega⟩
 obtain ⟨j,hj⟩:∃ j,j=k*4294968273:=⟨_,rfl⟩
 have hJ:(k:Int)*4294968273=(j:Int):=by omega
 have hjl:j<18446744073709551616:=by omega
 have hzl:z<(2^256):=by omega
 have cm:=λw=>minus_at w s j z 0 (v1:=fv s) rfl (fv_small j hjl) hs (by omega) hzl (by rw [hj]; exact hzk)
 have HP:=Lib.hid (And.intro hp hq)
 have HS:=Lib.hid (And.intro hpl (And.intro hql (And.intro hs he)))
 obtain ⟨x0,x1,x2,x3,fx⟩:=words_fv x hx
 obtain ⟨y0,y1,y2,y3,fy⟩:=words_fv y hy
 have FX:=Lib.hid fx
 have FY:=Lib.hid fy
 have HX:=Lib.hid hx
 have HY:=Lib.hid hy
 rw [fx,fy, ← hz]
 clear fx fy hx hy hp hq hpl hql hpp hqp hz hzs hk hs he hzk hj hzl
 go_enter Tryz.func313,Tryz.ntmps313
 go_wp2
 refine wp_region_G (λj=>j == 11) (by kernel_rfl) ?_
 try simp only [Act.put]
 refine tkw 0 rfl (YieldsG.loadF (by rfl) _ _ rfl (w.heap.size) rfl (x) _ _ (((Blk.new w _ _).alloc _).alloc _) (FX.out) Tryz.underlying71 rfl (by kernel_rfl)) ?_
 try simp only [Act.put,aA,aZ,aS]
 refine tkw 1 rfl (YieldsG.call (v:=fv x) (by rfl) 294 _ (λw9=>by go_simp; try (first | with_reducible rfl | rfl)) (λw9 h9=>split_any w9 x)) ?_
 try simp only [Act.put,aA,aZ,aS]
 refine tkw 2 rfl (YieldsG.call (v:=fv p) (by rfl) 293 _ (λw9=>by go_simp; try (first | with_reducible rfl | rfl)) (λw9 h9=>HP.out.1 ▸ reduce_any w9 _ HX.out)) ?_
 try simp only [Act.put,aA,aZ,aS]
 refine tkw 3 rfl (YieldsG.loadF (by rfl) _ _ rfl (w.heap.size+1) rfl (y) _ _ ((blk_new2 w _ _ _).alloc _) (FY.out) Tryz.underlying71 rfl (by kernel_rfl)) ?_
 try simp only [Act.put,aA,aZ,aS]
 refine tkw 4 rfl (YieldsG.call (v:=fv y) (by rfl) 294 _ (λw9=>by go_simp; try (first | with_reducible rfl | rfl)) (λw9 h9=>split_any w9 y)) ?_
 try simp only [Act.put,aA,aZ,aS]
 refine tkw 5 rfl (YieldsG.call (v:=fv q) (by rfl) 293 _ (λw9=>by go_simp; try (first | with_reducible rfl | rfl)) (λw9 h9=>HP.out.2 ▸ reduce_any w9 _ HY.out)) ?_
 try simp only [Act.put,aA,aZ,aS]
 refine tkw 6 rfl (YieldsG.call (v:=.tuple #[fv s,.int .u64 (k:Int)]) (by rfl) 321 _ (λw9=>by go_simp; try (first | with_reducible rfl | rfl)) (λw9 h9=>minus_fv w9 p q s k HS.out.1 HS.out.2.1 HS.out.2.2.1 HS.out.2.2.2)) ?_
 try simp only [Act.put,aA,aZ,aS]
 refine tk 7 rfl ?_
 try simp only [Act.put,aA,aZ,aS]
 refine tk 8 rfl ?_
 try simp only [Act.put,aA,aZ,aS]
 refine wpAnyG_takeA 9 rfl (by kernel_rfl) (λ_ _ _ h=>h) (λ_=>YieldsG.pure (by rfl) (λw9 _=>by go_simp; try with_reducible rfl)) ?_
 try simp only [Act.put,aA,aZ,aS]
 refine wpAnyG_sole 10 rfl (by kernel_rfl) (by rfl) (λw3 h3 K hK=>?_)
 go_simp
 refine hK _ _ (λ_=>gr_alloc _ _) ?_
 clear hK K
 try simp only [Act.put,aA,aZ,aS]
 refine wpAnyG_store 11 rfl (by kernel_rfl) (by rfl) _ _ _ rfl (w3.heap.size) (fcs (s)) rfl rfl _ _ (Blk.new w3 _ _) (by kernel_rfl) (by rfl) (fcs_one _) rfl (λw6 h6 w7 hB7 hL7=>?_)
 try simp only [Act.put]
 refine wpAnyG_takeA 12 rfl (by kernel_rfl) (λ_ _ _ h=>h) (λ_=>YieldsG.pure (by rfl) (λw9 _=>by go_simp; try with_reducible rfl)) ?_
 try simp only [Act.put,aA,aZ,aS]
 refine wpAnyG_done (by kernel_rfl) (λw8 h8=>?_)
 have hL8:=Gr.blk h8 hL7
 have BR8:Blk w8 (w.heap.size+2) 71 _:=Gr.blk h8 (Blk.below (B:=w3.heap.size) (Gr.blk h6 (Blk.alloc (Gr.blk h3 (blk_new3 w _ _ _ _)) _)) (hB7 _ (Nat.le_refl _)) (by have:=h3.size; simp at this; omega))
 have hsz:w.heap.size+3≤w3.heap.size:=by have:=h3.size; simp at this; omega
 have hb9:Below w.heap.size w w8:=Below.gr ((Below.gr ((Below.gr (below_alloc3 w _ _ _) h3).alloc (by omega) _) h6).trans (hB7 _ (by omega))) h8
 clear h3 h6 hB7 hL7 h8
 go_wp2_with (first | ((with_reducible refine here_load (d:=some 18) ?_); refine wpList_load_fv rfl _ _ rfl (w3.heap.size) rfl (s) _ _ _ (hL8) (fv_fcs s) Tryz.underlying414 rfl (by kernel_rfl) ?_))
 refine (cm _).mono ?_
 rintro e w9 ⟨rfl,hb⟩
 have BR9:=Gr.blk hb BR8
 have BT9:=Gr.blk hb hL8
 have hBn:=Below.gr hb9 hb
 clear hb hb9 BR8 hL8 cm
 go_wp2_with (first | ((with_reducible refine here_store ?_); refine wpList_store_blk rfl _ _ _ rfl (w3.heap.size) (fcs (z)) rfl rfl _ _ (BT9) (by kernel_rfl) (by rfl) (fcs_one _) ?_; intro w10 hL10 hB10 hK10; have BR10:=hK10 _ (by omega) _ _ BR9) | ((with_reducible refine here_load (d:=some 25) ?_); refine wpList_load_fv rfl _ _ rfl (w3.heap.size) rfl (z) _ _ _ (hL10) (fv_fcs z) Tryz.underlying414 rfl (by kernel_rfl) ?_))
 refine (number_any _ _).mono ?_
 rintro e w11 ⟨rfl,hb⟩
 have BR11:=Gr.blk hb BR10
 have hBm:=Below.gr (hBn.trans (hB10 _ (by omega))) hb
 go_wp2_with (first | ((with_reducible refine here_store ?_); refine wpList_store_blk rfl _ _ _ rfl (w.heap.size+2) (fcs (z)) rfl rfl _ _ (BR11) (by kernel_rfl) (by rfl) (fcs_one _) ?_; intro w12 hL12 hB12 hK12))
 exact bodyPost_ret (results_cell_row rfl _ _ (w.heap.size+2) _ _ (0,0) _ rfl hL12 Tryz.underlying71 rfl (by kernel_rfl)) rfl ⟨rfl,hBm.trans (hB12 _ (by omega))⟩
theorem negF_any (w:World) (x:Nat) (hx:x<(2^256)):Calls Tryz.prog 291 #[fv x] w λe w'=>e=.returned (fv (negP x))∧Below w.heap.size w w':=by
 obtain ⟨z,hz⟩:∃ z,z=negP x:=⟨_,rfl⟩
 have cs:∀ w,Calls Tryz.prog 313 #[.agg #[.int .u64 0,.int .u64 0,.int .u64 0,.int .u64 0],fv x] w λe w'=>e=.returned (fv z)∧Below w.heap.size w w':=by
  intro w; rw [hz,neg_sub, ← fv_0]; exact subF_any w 0 x (by omega) hx
 obtain ⟨x0,x1,x2,x3,fx⟩:=words_fv x hx
 rw [fx] at cs
 rw [fx, ← hz]
 clear fx hx hz
 go_enter Tryz.func291,Tryz.ntmps291
 go_wp2_with fail
 refine (cs _).mono ?_
 rintro e w1 ⟨rfl,hb⟩
 have BR:Blk w1 (w.heap.size+1) 71 _:=Gr.blk hb (blk_new2 w _ _ _)
 have hB:=Below.gr (below_alloc2 w _ _) hb
 go_wp2_with (first | ((with_reducible refine here_store ?_); refine wpList_store_blk rfl _ _ _ rfl (w.heap.size+1) (fcs (z)) rfl rfl _ _ (BR) (by kernel_rfl) (by rfl) (fcs_one _) ?_; intro w2 hL2 hB2 hK2))
 exact bodyPost_ret (results_cell_row rfl _ _ (w.heap.size+1) _ _ (0,0) _ rfl hL2 Tryz.underlying71 rfl (by kernel_rfl)) rfl ⟨rfl,hB.trans (hB2 _ (by omega))⟩
theorem mul_split (x y:Nat) (hx:x<(2^256)) (hy:y<(2^256)):∃ lo hi f t b c g:Nat,lo<(2^256)∧hi<(2^256)∧lo+(2^256)*hi=x*y∧f<(2^256)∧f+(2^256)*t=hi*4294968273∧t<18446744073709551616∧b<18446744073709551616∧c<18446744073709551616∧b+18446744073709551616*c=t*4294968273∧g=b+18446744073709551616*c∧g<(2^256)∧(lo+f+g)%pM=mulP x y:=by
 have h:x*y≤115792089237316195423570985008687907853269984665640564039457584007913129639935*115792089237316195423570985008687907853269984665640564039457584007913129639935:=Nat.mul_le_mul (by omega) (by omega)
 refine ⟨x*y%(2^256),x*y / (2^256),x*y / (2^256)*4294968273%(2^256),x*y / (2^256)*4294968273 / (2^256),x*y / (2^256)*4294968273 / (2^256)*4294968273%18446744073709551616,x*y / (2^256)*4294968273 / (2^256)*4294968273 / 18446744073709551616,x*y / (2^256)*4294968273 / (2^256)*4294968273,by omega,by omega,by omega,by omega,by omega,by omega,by omega,by omega,by omega,by omega,by omega,?_⟩
 unfold mulP
 refine mod_of_mult (k:=x*y / (2^256)+x*y / (2^256)*4294968273 / (2^256)) ?_
 generalize x*y=m at *
 omega
set_option maxHeartbeats 1000000 in
set_option maxRecDepth 100000 in
theorem mulF_any (w:World) (x y:Nat) (hx:x<(2^256)) (hy:y<(2^256)):Calls Tryz.prog 267 #[fv x,fv y] w λe w'=>e=.returned (fv (mulP x y))∧Below w.heap.size w w':=by
 obtain ⟨lo,hi,f,t,b,c,g,hlo,hhi,he,hf,hft,ht,hb,hc,hbc,hg,hgl,hfin⟩:=mul_split x y hx hy
 obtain ⟨a,ha⟩:∃ a,a=addW lo f:=⟨_,rfl⟩
 obtain ⟨v,hv⟩:∃ v,v=addW a g:=⟨_,rfl⟩
 obtain ⟨z,hz⟩:∃ z,z=mulP x y:=⟨_,rfl⟩
 have hal:a<(2^256):=by rw [ha]; exact addW_lt _ _ hlo hf
 have hvl:v<(2^256):=by rw [hv]; exact addW_lt _ _ hal hgl
 have hvz:v%pM=z:=by
  rw [hz, ← hfin,hv,addW_mod, ← Nat.mod_add_mod,ha,addW_mod,Nat.mod_add_mod]
 have ct:∀ w,Calls Tryz.prog 296 #[fv hi,.int .u64 4294968273] w λe w'=>e=.returned (.tuple #[fv f,.int .u64 (t:Int)])∧Below w.heap.size w w':=λw=>times_at (v:=fv hi) w hi 4294968273 f t rfl hhi (by omega) hf hft
 have cm:∀ w,Calls Tryz.prog 297 #[.int .u64 (t:Int),.int .u64 4294968273] w λe w'=>e=.returned (.tuple #[.int .u64 (c:Int),.int .u64 (b:Int)])∧w'=w:=λw=>mul64_at w t 4294968273 c b ht (by omega) hb hbc
 have ca:=λw=>ha ▸ add_def w lo f hlo hf
 have hgf:fv g=.agg #[.int .u64 (b:Int),.int .u64 (c:Int),.int .u64 0,.int .u64 0]:=by
  have h:Value.agg #[.int .u64 (b:Int),.int .u64 (c:Int),.int .u64 0,.int .u64 0]=fv (b+18446744073709551616*c+340282366920938463463374607431768211456*0+6277101735386680763835789423207666416102355444464034512896*0):=fv_mk b c 0 0 hb hc (by omega) (by omega)
  exact (h.trans (congrArg fv (by omega))).symm
 have cb:∀ w,Calls Tryz.prog 298 #[fv a,.agg #[.int .u64 (b:Int),.int .u64 (c:Int),.int .u64 0,.int .u64 0]] w λe w'=>e=.returned (fv v)∧Below w.heap.size w w':=by
  intro w; rw [← hgf,hv]; exact add_def w a g hal hgl
 have cr:∀ w,Calls Tryz.prog 293 #[fv v] w λe w'=>e=.returned (fv z)∧Below w.heap.size w w':=by
  intro w; rw [← hvz]; exact reduce_any w v hvl
 have HP:=Lib.hid (And.intro hlo he)
 obtain ⟨x0,x1,x2,x3,fx⟩:=words_fv x hx
 obtain ⟨y0,y1,y2,y3,fy⟩:=words_fv y hy
 have FX:=Lib.hid fx
 have FY:=Lib.hid fy
 have HX:=Lib.hid (And.intro hx hy)
 rw [fx,fy, ← hz]
 clear fx fy hx hy hlo hhi he hf hft ht hb hc hbc hg hgl hfin ha hv hz hal hvl hvz hgf
 go_enter Tryz.func267,Tryz.ntmps267
 go_wp2
 refine wp_region_G (λj=>j == 10 || j == 11) (by kernel_rfl) ?_
 try simp only [Act.put]
 refine tkw 0 rfl (YieldsG.loadF (by rfl) _ _ rfl (w.heap.size) rfl (x) _ _ (((Blk.new w _ _).alloc _).alloc _) (FX.out) Tryz.underlying71 rfl (by kernel_rfl)) ?_
 try simp only [Act.put,aA,aZ,aS]
 refine tkw 1 rfl (YieldsG.call (v:=fv x) (by rfl) 294 _ (λw9=>by go_simp; try (first | with_reducible rfl | rfl)) (λw9 h9=>split_any w9 x)) ?_
 try simp only [Act.put,aA,aZ,aS]
 refine tkw 2 rfl (YieldsG.loadF (by rfl) _ _ rfl (w.heap.size+1) rfl (y) _ _ ((blk_new2 w _ _ _).alloc _) (FY.out) Tryz.underlying71 rfl (by kernel_rfl)) ?_
 try simp only [Act.put,aA,aZ,aS]
 refine tkw 3 rfl (YieldsG.call (v:=fv y) (by rfl) 294 _ (λw9=>by go_simp; try (first | with_reducible rfl | rfl)) (λw9 h9=>split_any w9 y)) ?_
 try simp only [Act.put,aA,aZ,aS]
 refine tkw 4 rfl (YieldsG.call (v:=.tuple #[fv lo,fv hi]) (by rfl) 295 _ (λw9=>by go_simp; try (first | with_reducible rfl | rfl)) (λw9 h9=>product_fv w9 x y lo hi HX.out.1 HX.out.2 HP.out.1 HP.out.2)) ?_
 try simp only [Act.put,aA,aZ,aS]
 refine tk 5 rfl ?_
 try simp only [Act.put,aA,aZ,aS]
 refine tk 6 rfl ?_
 try simp only [Act.put,aA,aZ,aS]
 refine wpAnyG_takeA 7 rfl (by kernel_rfl) (λ_ _ _ h=>h) (λ_=>YieldsG.pure (by rfl) (λw9 _=>by go_simp; try with_reducible rfl)) ?_
 try simp only [Act.put,aA,aZ,aS]
 refine wpAnyG_duo 8 9 rfl rfl (by kernel_rfl) (by rfl) (by rfl) (λw3 h3 K hK=>?_) (λw3 h3 K hK=>?_)
 ·go_simp
  refine hK _ _ (λ_=>gr_alloc _ _) ?_
  clear hK K
  try simp only [Act.put,aA,aZ,aS]
  refine wpAnyG_sole 9 rfl (by kernel_rfl) (by rfl) (λw4 h4 K hK=>?_)
  go_simp
  refine hK _ _ (λ_=>gr_alloc _ _) ?_
  clear hK K
  try simp only [Act.put,aA,aZ,aS]
  refine wpAnyG_storeK 10 rfl (by kernel_rfl) (by rfl) _ _ _ rfl (w3.heap.size) (fcs (lo)) rfl rfl _ _ (Gr.blk h4 (Blk.new w3 _ _) |>.alloc _) (by kernel_rfl) (by rfl) (fcs_one _) rfl (λw6 h6 w7 hB7 hK7 hL7=>?_)
  try simp only [Act.put]
  have hs4:w3.heap.size+1≤w4.heap.size:=by have:=h4.size; simp at this; omega
  have hs3:w.heap.size+3≤w3.heap.size:=by have:=h3.size; simp at this; omega
  have B6:Blk w7 w4.heap.size 414 _:=hK7 _ (by omega) _ _ (Gr.blk h6 (Blk.new w4 _ _))
  have BR7:Blk w7 (w.heap.size+2) 71 _:=hK7 _ (by omega) _ _ (Gr.blk h6 (Blk.alloc (Gr.blk h4 (Blk.alloc (Gr.blk h3 (blk_new3 w _ _ _ _)) _)) _))
  have hb7:Below w.heap.size w w7:=(Below.gr ((Below.gr ((Below.gr (below_alloc3 w _ _ _) h3).alloc (by omega) _) h4).alloc (by omega) _) h6).trans (hB7 _ (by omega))
  refine wpAnyG_storeK 11 rfl (by kernel_rfl) (by rfl) _ _ _ rfl (w4.heap.size) (fcs (hi)) rfl rfl _ _ (B6) (by kernel_rfl) (by rfl) (fcs_one _) rfl (λw6 h7 w8 hB8 hK8 hL8=>?_)
  try simp only [Act.put]
  refine wpAnyG_done (by kernel_rfl) (λw9 h9=>?_)
  have B5:Blk w9 w3.heap.size 414 _:=Gr.blk h9 (hK8 _ (by omega) _ _ (Gr.blk h7 hL7))
  have B6:=Gr.blk h9 hL8
  have BR9:Blk w9 (w.heap.size+2) 71 _:=Gr.blk h9 (hK8 _ (by omega) _ _ (Gr.blk h7 BR7))
  have hb9:Below w.heap.size w w9:=Below.gr ((Below.gr hb7 h7).trans (hB8 _ (by omega))) h9
  have hsz9:w4.heap.size+1≤w9.heap.size:=by have h1:=B5.lt; have h2:=B6.lt; omega
  clear h3 h4 h6 h7 h9 hB7 hB8 hK7 hK8 hL7 hL8 BR7 hb7
  go_wp2_with (first | ((with_reducible refine here_load (d:=some 20) ?_); refine wpList_load_fv rfl _ _ rfl (w4.heap.size) rfl (hi) _ _ _ (B6) (fv_fcs hi) Tryz.underlying414 rfl (by kernel_rfl) ?_))
  refine (ct _).mono ?_
  rintro e w10 ⟨rfl,hb⟩
  have B5:=Gr.blk hb B5
  have BR:=Gr.blk hb BR9
  have hBn:=Below.gr hb9 hb
  have hsz10:w4.heap.size+1≤w10.heap.size:=by have:=hb.size; omega
  clear hb hb9 BR9 B6 ct
  go_wp2_with (first | ((with_reducible refine here_store ?_); refine wpList_store_blk rfl _ _ _ rfl (w10.heap.size) (fcs (f)) rfl rfl _ _ (Blk.new w10 _ _) (by kernel_rfl) (by rfl) (fcs_one _) ?_; intro w11 hL11 hB11 hK11; have B5':=hK11 _ (by omega) _ _ (B5.alloc _); have BR':=hK11 _ (by omega) _ _ (BR.alloc _)))
  refine (cm _).mono ?_
  rintro e w12 ⟨rfl,rfl⟩
  go_wp2_with (first | ((with_reducible refine here_load (d:=some 29) ?_); refine wpList_load_fv rfl _ _ rfl (w3.heap.size) rfl (lo) _ _ _ (B5') (fv_fcs lo) Tryz.underlying414 rfl (by kernel_rfl) ?_) | ((with_reducible refine here_load (d:=some 30) ?_); refine wpList_load_fv rfl _ _ rfl (w10.heap.size) rfl (f) _ _ _ (hL11) (fv_fcs f) Tryz.underlying414 rfl (by kernel_rfl) ?_))
  refine (ca _).mono ?_
  rintro e w13 ⟨rfl,hb13⟩
  go_wp2_with fail
  refine (cb _).mono ?_
  rintro e w14 ⟨rfl,hb14⟩
  go_wp2_with fail
  refine (cr _).mono ?_
  rintro e w15 ⟨rfl,hb15⟩
  go_wp2_with fail
  refine (number_any _ _).mono ?_
  rintro e w16 ⟨rfl,hb16⟩
  have BR16:=Gr.blk hb16 (Gr.blk hb15 (Gr.blk hb14 (Gr.blk hb13 BR')))
  have hB16:=Below.gr (Below.gr (Below.gr (Below.gr ((hBn.alloc (by omega) _).trans (hB11 _ (by omega))) hb13) hb14) hb15) hb16
  clear hb13 hb14 hb15 hb16
  go_wp2_with (first | ((with_reducible refine here_store ?_); refine wpList_store_blk rfl _ _ _ rfl (w.heap.size+2) (fcs (z)) rfl rfl _ _ (BR16) (by kernel_rfl) (by rfl) (fcs_one _) ?_; intro w17 hL17 hB17 hK17))
  exact bodyPost_ret (results_cell_row rfl _ _ (w.heap.size+2) _ _ (0,0) _ rfl hL17 Tryz.underlying71 rfl (by kernel_rfl)) rfl ⟨rfl,hB16.trans (hB17 _ (by omega))⟩
 ·go_simp
  refine hK _ _ (λ_=>gr_alloc _ _) ?_
  clear hK K
  try simp only [Act.put,aA,aZ,aS]
  refine wpAnyG_sole 8 rfl (by kernel_rfl) (by rfl) (λw4 h4 K hK=>?_)
  go_simp
  refine hK _ _ (λ_=>gr_alloc _ _) ?_
  clear hK K
  try simp only [Act.put,aA,aZ,aS]
  refine wpAnyG_storeK 10 rfl (by kernel_rfl) (by rfl) _ _ _ rfl (w4.heap.size) (fcs (lo)) rfl rfl _ _ (Blk.new w4 _ _) (by kernel_rfl) (by rfl) (fcs_one _) rfl (λw6 h6 w7 hB7 hK7 hL7=>?_)
  try simp only [Act.put]
  have hs4:w3.heap.size+1≤w4.heap.size:=by have:=h4.size; simp at this; omega
  have hs3:w.heap.size+3≤w3.heap.size:=by have:=h3.size; simp at this; omega
  have B6:Blk w7 w3.heap.size 414 _:=hK7 _ (by omega) _ _ (Gr.blk h6 (Gr.blk h4 (Blk.new w3 _ _) |>.alloc _))
  have BR7:Blk w7 (w.heap.size+2) 71 _:=hK7 _ (by omega) _ _ (Gr.blk h6 (Blk.alloc (Gr.blk h4 (Blk.alloc (Gr.blk h3 (blk_new3 w _ _ _ _)) _)) _))
  have hb7:Below w.heap.size w w7:=(Below.gr ((Below.gr ((Below.gr (below_alloc3 w _ _ _) h3).alloc (by omega) _) h4).alloc (by omega) _) h6).trans (hB7 _ (by omega))
  refine wpAnyG_storeK 11 rfl (by kernel_rfl) (by rfl) _ _ _ rfl (w3.heap.size) (fcs (hi)) rfl rfl _ _ (B6) (by kernel_rfl) (by rfl) (fcs_one _) rfl (λw6 h7 w8 hB8 hK8 hL8=>?_)
  try simp only [Act.put]
  refine wpAnyG_done (by kernel_rfl) (λw9 h9=>?_)
  have B5:Blk w9 w4.heap.size 414 _:=Gr.blk h9 (hK8 _ (by omega) _ _ (Gr.blk h7 hL7))
  have B6:=Gr.blk h9 hL8
  have BR9:Blk w9 (w.heap.size+2) 71 _:=Gr.blk h9 (hK8 _ (by omega) _ _ (Gr.blk h7 BR7))
  have hb9:Below w.heap.size w w9:=Below.gr ((Below.gr hb7 h7).trans (hB8 _ (by omega))) h9
  have hsz9:w4.heap.size+1≤w9.heap.size:=by have h1:=B5.lt; have h2:=B6.lt; omega
  clear h3 h4 h6 h7 h9 hB7 hB8 hK7 hK8 hL7 hL8 BR7 hb7
  go_wp2_with (first | ((with_reducible refine here_load (d:=some 20) ?_); refine wpList_load_fv rfl _ _ rfl (w3.heap.size) rfl (hi) _ _ _ (B6) (fv_fcs hi) Tryz.underlying414 rfl (by kernel_rfl) ?_))
  refine (ct _).mono ?_
  rintro e w10 ⟨rfl,hb⟩
  have B5:=Gr.blk hb B5
  have BR:=Gr.blk hb BR9
  have hBn:=Below.gr hb9 hb
  have hsz10:w4.heap.size+1≤w10.heap.size:=by have:=hb.size; omega
  clear hb hb9 BR9 B6 ct
  go_wp2_with (first | ((with_reducible refine here_store ?_); refine wpList_store_blk rfl _ _ _ rfl (w10.heap.size) (fcs (f)) rfl rfl _ _ (Blk.new w10 _ _) (by kernel_rfl) (by rfl) (fcs_one _) ?_; intro w11 hL11 hB11 hK11; have B5':=hK11 _ (by omega) _ _ (B5.alloc _); have BR':=hK11 _ (by omega) _ _ (BR.alloc _)))
  refine (cm _).mono ?_
  rintro e w12 ⟨rfl,rfl⟩
  go_wp2_with (first | ((with_reducible refine here_load (d:=some 29) ?_); refine wpList_load_fv rfl _ _ rfl (w4.heap.size) rfl (lo) _ _ _ (B5') (fv_fcs lo) Tryz.underlying414 rfl (by kernel_rfl) ?_) | ((with_reducible refine here_load (d:=some 30) ?_); refine wpList_load_fv rfl _ _ rfl (w10.heap.size) rfl (f) _ _ _ (hL11) (fv_fcs f) Tryz.underlying414 rfl (by kernel_rfl) ?_))
  refine (ca _).mono ?_
  rintro e w13 ⟨rfl,hb13⟩
  go_wp2_with fail
  refine (cb _).mono ?_
  rintro e w14 ⟨rfl,hb14⟩
  go_wp2_with fail
  refine (cr _).mono ?_
  rintro e w15 ⟨rfl,hb15⟩
  go_wp2_with fail
  refine (number_any _ _).mono ?_
  rintro e w16 ⟨rfl,hb16⟩
  have BR16:=Gr.blk hb16 (Gr.blk hb15 (Gr.blk hb14 (Gr.blk hb13 BR')))
  have hB16:=Below.gr (Below.gr (Below.gr (Below.gr ((hBn.alloc (by omega) _).trans (hB11 _ (by omega))) hb13) hb14) hb15) hb16
  clear hb13 hb14 hb15 hb16
  go_wp2_with (first | ((with_reducible refine here_store ?_); refine wpList_store_blk rfl _ _ _ rfl (w.heap.size+2) (fcs (z)) rfl rfl _ _ (BR16) (by kernel_rfl) (by rfl) (fcs_one _) ?_; intro w17 hL17 hB17 hK17))
  exact bodyPost_ret (results_cell_row rfl _ _ (w.heap.size+2) _ _ (0,0) _ rfl hL17 Tryz.underlying71 rfl (by kernel_rfl)) rfl ⟨rfl,hB16.trans (hB17 _ (by omega))⟩
end
end
section
namespace Nt
def Pr (p:Nat):Prop:=2≤p∧∀ k,0<k→k<p→Nat.gcd k p=1
def bin:Nat→Nat→Nat
  | _,0=>1
  | 0,_+1=>0
  | n+1,k+1=>bin n k+bin n (k+1)
theorem bin_zero (n:Nat):bin n 0=1:=by cases n <;> rfl
theorem bin_over:∀ (n k:Nat),n<k→bin n k=0
  | 0,k+1,_=>rfl
  | n+1,k+1,h=>by rw [bin,bin_over n k (by omega),bin_over n (k+1) (by omega)]
theorem bin_self:∀ n,bin n n=1
  | 0=>rfl
  | n+1=>by rw [bin,bin_self n,bin_over n (n+1) (by omega)]
theorem bin_mul : ∀ (n k : Nat), (k + 1) * bin (n + 1) (k + 1) = (n + 1) * bin n k
  | 0,0=>rfl
  | 0,k+1=>by
    show (k+2)*(bin 0 (k+1)+bin 0 (k+2))=_
    rfl
  | n+1,0=>by
    have h:=bin_mul n 0
    have e:bin (n+1+1) (0+1)=bin (n+1) 0+bin (n+1) (0+1):=rfl
    rw [e,bin_zero]
    rw [bin_zero] at h
    omega
  | n+1,k+1=>by
    have h1:=bin_mul n k
    have h2:=bin_mul n (k+1)
    rw [bin,Nat.mul_add,h2]
    have e1:(k+1+1)*bin (n+1) (k+1)=(n+1)*bin n k+bin (n+1) (k+1):=by rw [Nat.add_mul (k+1) 1,h1,Nat.one_mul]
    rw [e1]
    have e2:bin (n+1) (k+1)=bin n k+bin n (k+1):=rfl
    rw [e2]
    simp only [Nat.add_mul,Nat.mul_add,Nat.one_mul]
    omega
def bsum (n a:Nat):Nat→Nat
  | 0=>0
  | k+1=>bsum n a k+bin n k*a ^ k
theorem bsum_step (n a : Nat) : ∀ k, bsum (n + 1) a (k + 1) = bsum n a (k + 1) + a * bsum n a k
  | 0=>by simp [bsum,bin_zero]
  | k+1=>by
    rw [bsum,bsum_step n a k]
    have e1:bsum n a (k+1+1)=bsum n a (k+1)+bin n (k+1)*a ^ (k+1):=rfl
    have e2:bsum n a (k+1)=bsum n a k+bin n k*a ^ k:=rfl
    have e3:bin (n+1) (k+1)=bin n k+bin n (k+1):=rfl
    have e4:a*(bin n k*a ^ k)=bin n k*a ^ (k+1):=by rw [Nat.pow_succ,Nat.mul_left_comm,Nat.mul_comm a]
    rw [e1,e2,e3,Nat.add_mul,Nat.mul_add,e4]
    omega
theorem pow_bin (a : Nat) : ∀ n, (a + 1) ^ n = bsum n a (n + 1)
  | 0=>by simp [bsum,bin]
  | n+1=>by
    rw [bsum_step,Nat.pow_succ,pow_bin a n]
    have e:bsum n a (n+1+1)=bsum n a (n+1)+bin n (n+1)*a ^ (n+1):=rfl
    rw [e,bin_over n (n+1) (by omega),Nat.zero_mul,Nat.mul_add,Nat.mul_one,Nat.add_zero,Nat.mul_comm]
    omega
theorem bin_dvd {p : Nat} (hp : Pr p) (k : Nat) (h0 : 0 < k) (h1 : k < p) : p ∣ bin p k := by
  obtain ⟨n,rfl⟩:∃ n,p=n+1:=⟨p - 1,by omega⟩
  obtain ⟨j,rfl⟩:∃ j,k=j+1:=⟨k - 1,by omega⟩
  have hm:=bin_mul n j
  have hd:n+1 ∣ (j+1)*bin (n+1) (j+1):=⟨_,hm⟩
  have hc:Nat.Coprime (n+1) (j+1):=by
    have:=hp.2 (j+1) h0 h1
    unfold Nat.Coprime
    rw [Nat.gcd_comm]
    exact this
  exact hc.dvd_of_dvd_mul_left hd
theorem bsum_mod {p : Nat} (hp : Pr p) (a : Nat) : ∀ k, 0 < k → k ≤ p → bsum p a k % p = 1
  | 0,h,_=>by omega
  | 1,_,_=>by
    have:bsum p a 1=1:=by simp [bsum,bin_zero]
    rw [this]
    exact Nat.mod_eq_of_lt hp.1
  | k+2,_,h=>by
    have ih:=bsum_mod hp a (k+1) (by omega) (by omega)
    obtain ⟨c,hc⟩:=bin_dvd hp (k+1) (by omega) (by omega)
    rw [bsum,hc,Nat.mul_assoc,Nat.add_mul_mod_self_left]
    exact ih
theorem flt_all {p : Nat} (hp : Pr p) : ∀ a, a ^ p % p = a % p
  | 0=>by
    obtain ⟨n,hn⟩:∃ n,p=n+1:=⟨p - 1,by have:=hp.1; omega⟩
    rw [hn,Nat.pow_succ,Nat.mul_zero]
  | a+1=>by
    have h0:=hp.1
    rw [pow_bin,bsum,bin_self,Nat.one_mul,Nat.add_mod,bsum_mod hp a p (by omega) (Nat.le_refl _),flt_all hp a,Nat.add_comm 1,Nat.mod_add_mod]
theorem cop {p:Nat} (hp:Pr p) (a:Nat) (ha:a%p≠0):Nat.Coprime p a:=by
  unfold Nat.Coprime
  rw [Nat.gcd_rec]
  exact hp.2 (a%p) (Nat.pos_of_ne_zero ha) (Nat.mod_lt _ (by have:=hp.1; omega))
theorem flt {p : Nat} (hp : Pr p) (a : Nat) (ha : a % p ≠ 0) : a ^ (p - 1) % p = 1 := by
  have h2:=hp.1
  have ha0:0<a:=by
    rcases Nat.eq_zero_or_pos a with h | h
    · subst h; simp at ha
    · exact h
  have hpos:0<a ^ (p - 1):=Nat.pow_pos ha0
  have e:a ^ p=a*a ^ (p - 1):=by
    conv=>lhs; rw [show p=(p - 1)+1 by omega]
    rw [Nat.pow_succ,Nat.mul_comm]
  have h:=flt_all hp a
  have hd:p ∣ a*(a ^ (p - 1) - 1):=by
    rw [Nat.mul_sub,Nat.mul_one, ← e]
    exact Nat.dvd_of_mod_eq_zero (Nat.sub_mod_eq_zero_of_mod_eq h)
  obtain ⟨c,hc⟩:=(cop hp a ha).dvd_of_dvd_mul_left hd
  have h3:a ^ (p - 1)=1+p*c:=by omega
  rw [h3,Nat.add_mul_mod_self_left]
  exact Nat.mod_eq_of_lt h2
theorem has_prime : ∀ (f g : Nat), g ≤ f → 2 ≤ g → ∃ r, Pr r ∧ r ∣ g
  | 0,g,h,h2=>by omega
  | f + 1, g, h, h2 => by
    by_cases hp:Pr g
    · exact ⟨g,hp,Nat.dvd_refl _⟩
    · have hn:¬ ∀ k,0<k→k<g→Nat.gcd k g=1:=λhk=>hp ⟨h2,hk⟩
      obtain ⟨k,hk⟩:=Classical.not_forall.1 hn
      obtain ⟨h0,hk⟩:=Classical.not_imp.1 hk
      obtain ⟨h1,hk⟩:=Classical.not_imp.1 hk
      have hle:Nat.gcd k g≤k:=Nat.gcd_le_left g h0
      have hpos:0<Nat.gcd k g:=Nat.gcd_pos_of_pos_left g h0
      obtain ⟨r,hr,hd⟩:=has_prime f (Nat.gcd k g) (by omega) (by omega)
      exact ⟨r,hr,Nat.dvd_trans hd (Nat.gcd_dvd_right k g)⟩
theorem pow_one_mod {b m r:Nat} (hr:2≤r) (h:b ^ m%r=1) (k:Nat):b ^ (m*k)%r=1:=by
  rw [Nat.pow_mul,Nat.pow_mod,h,Nat.one_pow]
  exact Nat.mod_eq_of_lt hr
theorem pow_gcd {b r : Nat} (hr : 2 ≤ r) (m n : Nat) : b ^ m % r = 1 → b ^ n % r = 1 → b ^ (Nat.gcd m n) % r = 1 := by
  induction m,n using Nat.gcd.induction with
  | H0 n=>intro _ h; rw [Nat.gcd_zero_left]; exact h
  | H1 m n hm ih =>
    intro h1 h2
    rw [Nat.gcd_rec]
    refine ih ?_ h1
    have e:b ^ n=b ^ (m*(n / m))*b ^ (n%m):=by rw [← Nat.pow_add,Nat.div_add_mod]
    rw [e,Nat.mul_mod,pow_one_mod hr h1,Nat.one_mul,Nat.mod_mod] at h2
    exact h2
theorem pock_one {N a q : Nat} (hq : Pr q) (hd : q ∣ N - 1) (h1 : a ^ (N - 1) % N = 1) (hg : Nat.gcd (a ^ ((N - 1) / q) % N + (N - 1)) N = 1) (hN : 2 ≤ N) (r : Nat) (hr : Pr r) (hrN : r ∣ N) : q ∣ r - 1 := by
  have hr2:=hr.1
  have hb:(a ^ ((N - 1) / q)) ^ q%r=1:=by
    rw [← Nat.pow_mul,Nat.div_mul_cancel hd]
    have:a ^ (N - 1)%N%r=1%r:=by rw [h1]
    rw [Nat.mod_mod_of_dvd _ hrN] at this
    rw [this]
    exact Nat.mod_eq_of_lt hr2
  generalize hbd:a ^ ((N - 1) / q)=b at hb hg
  have hb0:b%r≠0:=by
    intro h0
    have hq0:q≠0:=by have:=hq.1; omega
    rw [Nat.pow_mod,h0,Nat.zero_pow (by omega)] at hb
    simp at hb
  have hf:=flt hr b hb0
  have hgcd:=pow_gcd hr2 q (r - 1) hb hf
  by_cases hdv:q ∣ r - 1
  · exact hdv
  · exfalso
    have hne:(r - 1)%q≠0:=λh=>hdv (Nat.dvd_of_mod_eq_zero h)
    have hc:Nat.gcd q (r - 1)=1:=cop hq (r - 1) hne
    rw [hc,Nat.pow_one] at hgcd
    have hN1 : (N - 1) % r = r - 1 := by
      obtain ⟨c,hc⟩:=hrN
      obtain ⟨d, rfl⟩ : ∃ d, c = d + 1 := ⟨c - 1, by rcases c with _ | c; · simp at hc; omega
                                                     · rfl⟩
      have:N - 1=r*d+(r - 1):=by rw [hc,Nat.mul_add,Nat.mul_one]; omega
      rw [this,Nat.mul_add_mod,Nat.mod_eq_of_lt (by omega)]
    have hz:(b%N+(N - 1))%r=0:=by
      rw [Nat.add_mod,Nat.mod_mod_of_dvd _ hrN,hgcd,hN1]
      have:1+(r - 1)=r:=by omega
      rw [this,Nat.mod_self]
    have hdd:r ∣ 1:=by
      rw [← hg]
      exact Nat.dvd_gcd (Nat.dvd_of_mod_eq_zero hz) hrN
    have:=Nat.le_of_dvd (by omega) hdd
    omega
theorem pock {N F : Nat} (hN : 2 ≤ N) (h : ∀ r, Pr r → r ∣ N → F ∣ r - 1) (hF : N < (F + 1) * (F + 1)) : Pr N := by
  refine ⟨hN,λk h0 h1=>?_⟩
  by_cases hg:Nat.gcd k N=1
  · exact hg
  · exfalso
    have hle:Nat.gcd k N≤k:=Nat.gcd_le_left N h0
    have hpos:0<Nat.gcd k N:=Nat.gcd_pos_of_pos_left N h0
    obtain ⟨c,hc⟩:=Nat.gcd_dvd_right k N
    have hc2:2≤c:=by
      rcases c with _ | _ | c
      · omega
      · omega
      · omega
    obtain ⟨r,hr,hrd⟩:=has_prime _ (Nat.gcd k N) (Nat.le_refl _) (by omega)
    obtain ⟨s,hs,hsd⟩:=has_prime _ c (Nat.le_refl _) hc2
    have hrN:r ∣ N:=Nat.dvd_trans hrd (Nat.gcd_dvd_right k N)
    have hsN:s ∣ N:=by rw [hc]; exact Nat.dvd_trans hsd (Nat.dvd_mul_left c _)
    have hr2:=hr.1
    have hs2:=hs.1
    have l1:=Nat.le_of_dvd (by omega) (h r hr hrN)
    have l2:=Nat.le_of_dvd (by omega) (h s hs hsN)
    have m1:r≤Nat.gcd k N:=Nat.le_of_dvd hpos hrd
    have m2:s≤c:=Nat.le_of_dvd (by omega) hsd
    have:(F+1)*(F+1)≤Nat.gcd k N*c:=Nat.mul_le_mul (by omega) (by omega)
    omega
theorem small_prime {n b : Nat} (h2 : 2 ≤ n) (hb : n < b * b) (h : (List.range b).all (fun k => k < 2 || n % k != 0) = true) : Pr n := by
  refine ⟨h2,λk h0 h1=>?_⟩
  by_cases hg:Nat.gcd k n=1
  · exact hg
  · exfalso
    have hle:Nat.gcd k n≤k:=Nat.gcd_le_left n h0
    have hpos:0<Nat.gcd k n:=Nat.gcd_pos_of_pos_left n h0
    obtain ⟨c,hc⟩:=Nat.gcd_dvd_right k n
    have hc2:2≤c:=by
      rcases c with _ | _ | c
      · omega
      · omega
      · omega
    have key:∀ d,2≤d→d<b→d ∣ n→False:=by
      intro d hd hdb hdn
      have:=List.all_eq_true.1 h d (List.mem_range.2 hdb)
      have hz:=Nat.mod_eq_zero_of_dvd hdn
      simp [hz] at this
      omega
    rcases Nat.lt_or_ge (Nat.gcd k n) b with hl | hl
    · exact key _ (by omega) hl (Nat.gcd_dvd_right k n)
    · rcases Nat.lt_or_ge c b with hm | hm
      · exact key c hc2 hm ⟨Nat.gcd k n,by rw [Nat.mul_comm]; exact hc⟩
      · have:=Nat.mul_le_mul hl hm
        omega
def pm (n a:Nat):List Bool→Nat→Nat
  | [],r=>r
  | b::bs,r=>pm n a bs (if b then r*r%n*a%n else r*r%n)
def ev:List Bool→Nat→Nat
  | [],e=>e
  | b::bs,e=>ev bs (if b then 2*e+1 else 2*e)
theorem pm_eq (n a : Nat) : ∀ (bs : List Bool) (r e : Nat), r = a ^ e % n → pm n a bs r = a ^ (ev bs e) % n
  | [],_,_,h=>h
  | true::bs,r,e,h=>by
    rw [pm,ev]
    refine pm_eq n a bs _ _ ?_
    simp only [if_true]
    rw [h,Nat.pow_succ,Nat.two_mul,Nat.pow_add, ← Nat.mul_mod,Nat.mod_mul_mod]
  | false::bs,r,e,h=>by
    rw [pm,ev]
    refine pm_eq n a bs _ _ ?_
    simp only [Bool.false_eq_true,if_false]
    rw [h,Nat.two_mul,Nat.pow_add, ← Nat.mul_mod]
def bitsOf:Nat→Nat→List Bool→List Bool
  | 0,_,l=>l
  | f+1,e,l=>bitsOf f (e / 2) (decide (e%2=1)::l)
theorem ev_bitsOf : ∀ (f e : Nat) (l : List Bool), e < 2 ^ f → ev (bitsOf f e l) 0 = ev l e
  | 0,e,l,h=>by
    have:e=0:=by simp at h; exact h
    rw [this]; rfl
  | f+1,e,l,h=>by
    rw [bitsOf,ev_bitsOf f (e / 2) _ (by rw [Nat.pow_succ] at h; omega),ev]
    by_cases h1:e%2=1
    · rw [decide_eq_true h1,if_pos rfl]; congr 1; omega
    · rw [decide_eq_false h1]; simp only [Bool.false_eq_true,if_false]; congr 1; omega
theorem pow_is (f n a e:Nat) (h:e<2 ^ f) (hn:2≤n):pm n a (bitsOf f e []) 1=a ^ e%n:=by
  rw [pm_eq n a _ 1 0 (by rw [Nat.pow_zero,Nat.mod_eq_of_lt hn]),ev_bitsOf f e [] h]; rfl
theorem pock_pm (f:Nat) {N q:Nat} (a:Nat) (hf:N<2 ^ f) (hq:Pr q) (hd:q ∣ N - 1) (h1:pm N a (bitsOf f (N - 1) []) 1=1) (hg:Nat.gcd (pm N a (bitsOf f ((N - 1) / q) []) 1+(N - 1)) N=1) (hN:2≤N) (r:Nat) (hr:Pr r) (hrN:r ∣ N):q ∣ r - 1:=by
  rw [pow_is f N a _ (by omega) hN] at h1
  rw [pow_is f N a _ (Nat.lt_of_le_of_lt (Nat.div_le_self _ _) (by omega)) hN] at hg
  exact pock_one hq hd h1 hg hN r hr hrN
theorem pr_107590001:Pr 107590001:=small_prime (b:=10374) (by decide) (by decide) (by decide +kernel)
theorem pr_7240687:Pr 7240687:=small_prime (b:=2692) (by decide) (by decide) (by decide +kernel)
theorem pr_96557:Pr 96557:=small_prime (b:=312) (by decide) (by decide) (by decide +kernel)
theorem pr_r2:Pr 255515944373312847190720520512484175977:=by
  refine pock (F:=107590001*(7240687*96557)) (by decide) (λr hr hrN=>?_) (by decide)
  have h0:=pock_pm 128 2 (by decide) pr_107590001 (by decide) (by decide +kernel) (by decide +kernel) (by decide) r hr hrN
  have h1:=pock_pm 128 2 (by decide) pr_7240687 (by decide) (by decide +kernel) (by decide +kernel) (by decide) r hr hrN
  have h2:=pock_pm 128 2 (by decide) pr_96557 (by decide) (by decide +kernel) (by decide +kernel) (by decide) r hr hrN
  exact Nat.Coprime.mul_dvd_of_dvd_of_dvd (by decide) h0 (Nat.Coprime.mul_dvd_of_dvd_of_dvd (by decide) h1 h2)
theorem pr_q:Pr 205115282021455665897114700593932402728804164701536103180137503955397371 :=
  pock (F:=255515944373312847190720520512484175977) (by decide) (λr hr hrN=>pock_pm 237 2 (by decide) pr_r2 (by decide) (by decide +kernel) (by decide +kernel) (by decide) r hr hrN) (by decide)
theorem pr_p:Pr 115792089237316195423570985008687907853269984665640564039457584007908834671663 :=
  pock (F:=205115282021455665897114700593932402728804164701536103180137503955397371) (by decide) (λr hr hrN=>pock_pm 256 2 (by decide) pr_q (by decide) (by decide +kernel) (by decide +kernel) (by decide) r hr hrN) (by decide)
end Nt
end
section
section
open Go.RowKit Go.Lib
def sqI (x:Nat):Nat→Nat
 | 0=>x
 | n+1=>mulP (sqI x n) (sqI x n)
theorem sqI_lt (x n:Nat) (hx:x<(2^256)):sqI x n<(2^256):=by
 cases n with
 | zero=>exact hx
 | succ n=>exact mulP_lt _ _
theorem mulP_mod (x y:Nat):mulP x y%pM=x*y%pM:=by unfold mulP; rw [Nat.mod_mod]
theorem mul_pow {a x y i j:Nat} (hx:x%pM=a ^ i%pM) (hy:y%pM=a ^ j%pM):mulP x y%pM=a ^ (i+j)%pM:=by
 rw [mulP_mod,Nat.mul_mod,hx,hy, ← Nat.mul_mod, ← Nat.pow_add]
theorem sqI_pow {a x i:Nat} (hx:x%pM=a ^ i%pM):∀ n,sqI x n%pM=a ^ (i*2 ^ n)%pM
 | 0=>by rw [Nat.pow_zero,Nat.mul_one]; exact hx
 | n+1=>by
  rw [sqI,mul_pow (sqI_pow hx n) (sqI_pow hx n),Nat.pow_succ]
  congr 2
  rw [← Nat.mul_assoc,Nat.mul_two]
def jn (x d y:Nat):Nat:=mulP (sqI x d) y
theorem jn_lt (x d y:Nat):jn x d y<(2^256):=mulP_lt _ _
theorem jn_pow {a x y i j d:Nat} (hx:x%pM=a ^ i%pM) (hy:y%pM=a ^ j%pM):jn x d y%pM=a ^ (i*2 ^ d+j)%pM:=mul_pow (sqI_pow hx d) hy
set_option maxHeartbeats 1000000 in
set_option maxRecDepth 100000 in
theorem square_any (w:World) (x d:Nat) (hx:x<(2^256)) (hd:d≤1000):Calls Tryz.prog 312 #[fv x,.int .i64 (d:Int)] w λe w'=>e=.returned (fv (sqI x d))∧Below w.heap.size w w':=by
 obtain ⟨x0,x1,x2,x3,fx⟩:=words_fv x hx
 have FX:=Lib.hid fx
 have HX:=Lib.hid hx
 have HD:=Lib.hid hd
 have hd':(d:Int)≤1000:=by omega
 rw [fx]
 clear fx hx hd
 go_enter Tryz.func312,Tryz.ntmps312
 go_wp2_with fail
 go_loopw [6] (λi wr=>∃ k v:Nat,k≤d∧i=.int .i64 (k:Int)∧Hid (v=sqI x k)∧Below w.heap.size w wr∧Blk wr w.heap.size 71 (fcs v)∧Blk wr (w.heap.size+1) 71 #[.int .u64 0,.int .u64 0,.int .u64 0,.int .u64 0]) (λi _=>d - (RowKit.intOf i).toNat)
 case atStart=>exact ⟨0,x,Nat.zero_le _,rfl,Lib.hid rfl,below_alloc2 w _ _,Blk.eq_ ((Blk.new w _ _).alloc _) (fcs_words FX.out).symm,blk_new2 w _ _ _⟩
 case round =>
  obtain ⟨k,v,hk,rfl,HV,hb,hB,hR⟩:=hrel
  have HL:Hid (v<(2^256)):=Lib.hid (by rw [HV.out]; exact sqI_lt x k HX.out)
  by_cases hlt:k<d
  ·have p1:(k:Int)<(d:Int):=by omega
   go_wp2_with (first | ((with_reducible refine here_load (d:=some 8) ?_); refine wpList_load_fv rfl _ _ rfl (w.heap.size) rfl (v) _ _ _ (hB) (fv_fcs v) Tryz.underlying71 rfl (by kernel_rfl) ?_) | ((with_reducible refine here_load (d:=some 9) ?_); refine wpList_load_fv rfl _ _ rfl (w.heap.size) rfl (v) _ _ _ (hB) (fv_fcs v) Tryz.underlying71 rfl (by kernel_rfl) ?_))
   refine (mulF_any _ v v HL.out HL.out).mono ?_
   rintro e w1 ⟨rfl,hb1⟩
   obtain ⟨z,hz⟩:∃ z,z=mulP v v:=⟨_,rfl⟩
   have HZ:=Lib.hid hz
   rw [← hz]
   clear hz
   have hB1:=Gr.blk hb1 hB
   have hR1:=Gr.blk hb1 hR
   have hbb:=Below.gr hb hb1
   clear hb hb1 hB hR
   go_wp2_with (first | ((with_reducible refine here_store ?_); refine wpList_store_blk rfl _ _ _ rfl (w.heap.size) (fcs (z)) rfl rfl _ _ (hB1) (by kernel_rfl) (by rfl) (fcs_one _) ?_; intro w2 hL2 hB2 hK2; have hR2:=hK2 _ (by omega) _ _ hR1))
   go_roundw
   case rel=>exact ⟨k+1,z,by omega,by simp <;> rfl,Lib.hid (by rw [HZ.out,HV.out]; rfl),hbb.trans (hB2 _ (by omega)),hL2,hR2⟩
   case measure=>simp [RowKit.intOf]; omega
  ·have p1:¬ (k:Int)<(d:Int):=by omega
   obtain rfl:k=d:=by omega
   go_wp2_with (first | ((with_reducible refine here_load (d:=some 12) ?_); refine wpList_load_fv rfl _ _ rfl (w.heap.size) rfl (v) _ _ _ (hB) (fv_fcs v) Tryz.underlying71 rfl (by kernel_rfl) ?_) | ((with_reducible refine here_store ?_); refine wpList_store_blk rfl _ _ _ rfl (w.heap.size+1) (fcs (v)) rfl rfl _ _ (hR) (by kernel_rfl) (by rfl) (fcs_one _) ?_; intro w2 hL2 hB2 hK2))
   exact bodyPost_ret (results_cell_row rfl _ _ (w.heap.size+1) _ _ (0,0) _ rfl hL2 Tryz.underlying71 rfl (by kernel_rfl)) rfl ⟨by rw [HV.out]; rfl,hb.trans (hB2 _ (by omega))⟩
end
end
section
section
open Go.RowKit Go.Lib
theorem res_three_cells {P:Program} {fn:Func} {p q r:Tmp} {ty:TypeId} (h:fn.results=#[.cell p ty,.cell q ty,.cell r ty]) (tmps:Array Value) (w:World) (g g2 g3:Nat) (t t2 t3:TypeId) (cs cs2 cs3:Array Value) (d:TypeDesc)
  (hp:tmps.getD p undef=.pointer (some ⟨g,0,none⟩)) (hg:Blk w g t cs) (hq:tmps.getD q undef=.pointer (some ⟨g2,0,none⟩)) (hg2:Blk w g2 t2 cs2) (hr:tmps.getD r undef=.pointer (some ⟨g3,0,none⟩)) (hg3:Blk w g3 t3 cs3)
  (hu:P.underlying ty=some d) (hd:(match d with | .struct _ | .array _ _=>true | _=>false)=true) (hi:(P.info? ty).map (·.size)=some cs.size) (hi2:(P.info? ty).map (·.size)=some cs2.size) (hi3:(P.info? ty).map (·.size)=some cs3.size) :
  (results fn tmps).run P w=.ok (.tuple #[.agg cs,.agg cs2,.agg cs3]) w:=by
 have hp':tmps[p]?.getD undef=.pointer (some ⟨g,0,none⟩):=by simpa using hp
 have hq':tmps[q]?.getD undef=.pointer (some ⟨g2,0,none⟩):=by simpa using hq
 have hr':tmps[r]?.getD undef=.pointer (some ⟨g3,0,none⟩):=by simpa using hr
 simp [results,h,hp',hq',hr',asAddr,run_loadVar_row w g t ty cs (0,0) d hg hu hd hi,run_loadVar_row w g2 t2 ty cs2 (0,0) d hg2 hu hd hi2,run_loadVar_row w g3 t3 ty cs3 (0,0) d hg3 hu hd hi3,Result.andThen]
set_option maxHeartbeats 1000000 in
set_option maxRecDepth 100000 in
theorem join_any (w:World) (x d y:Nat) (hx:x<(2^256)) (hy:y<(2^256)) (hd:d≤1000):Calls Tryz.prog 311 #[fv x,.int .i64 (d:Int),fv y] w λe w'=>e=.returned (fv (jn x d y))∧Below w.heap.size w w':=by
 obtain ⟨s,hs⟩:∃ s,s=sqI x d:=⟨_,rfl⟩
 obtain ⟨z,hz⟩:∃ z,z=mulP s y:=⟨_,rfl⟩
 have hsl:s<(2^256):=by rw [hs]; exact sqI_lt x d hx
 have HZ:=Lib.hid (And.intro hs (And.intro hz (And.intro hsl (And.intro hx (And.intro hy hd)))))
 rw [show jn x d y=z by rw [hz,hs]; rfl]
 obtain ⟨x0,x1,x2,x3,fx⟩:=words_fv x hx
 obtain ⟨y0,y1,y2,y3,fy⟩:=words_fv y hy
 have FX:=Lib.hid fx
 have FY:=Lib.hid fy
 rw [fx,fy]
 clear fx fy hx hy hs hz hsl hd
 go_enter Tryz.func311,Tryz.ntmps311
 go_wp2
 refine wp_region_G (λj=>j == 5) (by kernel_rfl) ?_
 try simp only [Act.put]
 refine tkw 0 rfl (YieldsG.loadF (by rfl) _ _ rfl (w.heap.size) rfl (x) _ _ (((Blk.new w _ _).alloc _).alloc _) (FX.out) Tryz.underlying71 rfl (by kernel_rfl)) ?_
 try simp only [Act.put,aA,aZ,aS]
 refine tk 1 rfl ?_
 try simp only [Act.put,aA,aZ,aS]
 refine tkw 2 rfl (YieldsG.call (v:=fv s) (by rfl) 312 _ (λw9=>by go_simp; try (first | with_reducible rfl | rfl)) (λw9 h9=>HZ.out.1 ▸ square_any w9 x d HZ.out.2.2.2.1 HZ.out.2.2.2.2.2)) ?_
 try simp only [Act.put,aA,aZ,aS]
 refine tkw 3 rfl (YieldsG.loadF (by rfl) _ _ rfl (w.heap.size+1) rfl (y) _ _ ((blk_new2 w _ _ _).alloc _) (FY.out) Tryz.underlying71 rfl (by kernel_rfl)) ?_
 try simp only [Act.put,aA,aZ,aS]
 refine tkw 4 rfl (YieldsG.call (v:=fv z) (by rfl) 267 _ (λw9=>by go_simp; try (first | with_reducible rfl | rfl)) (λw9 h9=>HZ.out.2.1 ▸ mulF_any w9 s y HZ.out.2.2.1 HZ.out.2.2.2.2.1)) ?_
 try simp only [Act.put,aA,aZ,aS]
 refine wpAnyG_store 5 rfl (by kernel_rfl) (by rfl) _ _ _ rfl (w.heap.size+2) (fcs (z)) rfl rfl _ _ (blk_new3 w _ _ _ _) (by kernel_rfl) (by rfl) (fcs_one _) rfl (λw6 h6 w7 hB7 hL7=>?_)
 try simp only [Act.put]
 refine wpAnyG_done (by kernel_rfl) (λw8 h8=>?_)
 have hfin:=Gr.blk h8 hL7
 have hb9:=(Below.gr (below_alloc3 w _ _ _) h6).trans ((hB7 _ (by omega)).trans (Below.mono h8 (by have:=hL7.lt; omega)))
 go_wp2
 exact bodyPost_ret (results_cell_row rfl _ _ (w.heap.size+2) _ _ (0,0) _ rfl hfin Tryz.underlying71 rfl (by kernel_rfl)) rfl ⟨rfl,hb9⟩
theorem join_at (w:World) (x d y z:Nat) (di:Int) (hdi:di=(d:Int)) (hz:z=jn x d y) (hx:x<(2^256)) (hy:y<(2^256)) (hd:d≤1000):Calls Tryz.prog 311 #[fv x,.int .i64 di,fv y] w λe w'=>e=.returned (fv z)∧Below w.heap.size w w':=by
 subst hdi hz
 exact join_any w x d y hx hy hd
theorem pow_self (x:Nat):x%pM=x ^ 1%pM:=by rw [Nat.pow_one]
def rTwo (x:Nat):Nat:=jn x 1 x
theorem rTwo_lt (x:Nat):rTwo x<(2^256):=jn_lt _ _ _
def eTwo:Nat:=1*2 ^ 1+1
theorem rTwo_pow (x:Nat):rTwo x%pM=x ^ eTwo%pM:=by
 unfold rTwo eTwo
 exact jn_pow (pow_self x) (pow_self x)
def rThree (x:Nat):Nat:=jn (rTwo x) 1 x
theorem rThree_lt (x:Nat):rThree x<(2^256):=jn_lt _ _ _
def eThree:Nat:=eTwo*2 ^ 1+1
theorem rThree_pow (x:Nat):rThree x%pM=x ^ eThree%pM:=by
 unfold rThree eThree
 exact jn_pow (rTwo_pow x) (pow_self x)
def rSix (x:Nat):Nat:=jn (rThree x) 3 (rThree x)
theorem rSix_lt (x:Nat):rSix x<(2^256):=jn_lt _ _ _
def eSix:Nat:=eThree*2 ^ 3+eThree
theorem rSix_pow (x:Nat):rSix x%pM=x ^ eSix%pM:=by
 unfold rSix eSix
 exact jn_pow (rThree_pow x) (rThree_pow x)
def rNine (x:Nat):Nat:=jn (rSix x) 3 (rThree x)
theorem rNine_lt (x:Nat):rNine x<(2^256):=jn_lt _ _ _
def eNine:Nat:=eSix*2 ^ 3+eThree
theorem rNine_pow (x:Nat):rNine x%pM=x ^ eNine%pM:=by
 unfold rNine eNine
 exact jn_pow (rSix_pow x) (rThree_pow x)
def rEleven (x:Nat):Nat:=jn (rNine x) 2 (rTwo x)
theorem rEleven_lt (x:Nat):rEleven x<(2^256):=jn_lt _ _ _
def eEleven:Nat:=eNine*2 ^ 2+eTwo
theorem rEleven_pow (x:Nat):rEleven x%pM=x ^ eEleven%pM:=by
 unfold rEleven eEleven
 exact jn_pow (rNine_pow x) (rTwo_pow x)
def rSome (x:Nat):Nat:=jn (rEleven x) 11 (rEleven x)
theorem rSome_lt (x:Nat):rSome x<(2^256):=jn_lt _ _ _
def eSome:Nat:=eEleven*2 ^ 11+eEleven
theorem rSome_pow (x:Nat):rSome x%pM=x ^ eSome%pM:=by
 unfold rSome eSome
 exact jn_pow (rEleven_pow x) (rEleven_pow x)
def rDbl (x:Nat):Nat:=jn (rSome x) 22 (rSome x)
theorem rDbl_lt (x:Nat):rDbl x<(2^256):=jn_lt _ _ _
def eDbl:Nat:=eSome*2 ^ 22+eSome
theorem rDbl_pow (x:Nat):rDbl x%pM=x ^ eDbl%pM:=by
 unfold rDbl eDbl
 exact jn_pow (rSome_pow x) (rSome_pow x)
def rM1 (x:Nat):Nat:=jn (rDbl x) 44 (rDbl x)
theorem rM1_lt (x:Nat):rM1 x<(2^256):=jn_lt _ _ _
def eM1:Nat:=eDbl*2 ^ 44+eDbl
theorem rM1_pow (x:Nat):rM1 x%pM=x ^ eM1%pM:=by
 unfold rM1 eM1
 exact jn_pow (rDbl_pow x) (rDbl_pow x)
def rM2 (x:Nat):Nat:=jn (rM1 x) 88 (rM1 x)
theorem rM2_lt (x:Nat):rM2 x<(2^256):=jn_lt _ _ _
def eM2:Nat:=eM1*2 ^ 88+eM1
theorem rM2_pow (x:Nat):rM2 x%pM=x ^ eM2%pM:=by
 unfold rM2 eM2
 exact jn_pow (rM1_pow x) (rM1_pow x)
def rM3 (x:Nat):Nat:=jn (rM2 x) 44 (rDbl x)
theorem rM3_lt (x:Nat):rM3 x<(2^256):=jn_lt _ _ _
def eM3:Nat:=eM2*2 ^ 44+eDbl
theorem rM3_pow (x:Nat):rM3 x%pM=x ^ eM3%pM:=by
 unfold rM3 eM3
 exact jn_pow (rM2_pow x) (rDbl_pow x)
def rMost (x:Nat):Nat:=jn (rM3 x) 3 (rThree x)
theorem rMost_lt (x:Nat):rMost x<(2^256):=jn_lt _ _ _
def eMost:Nat:=eM3*2 ^ 3+eThree
theorem rMost_pow (x:Nat):rMost x%pM=x ^ eMost%pM:=by
 unfold rMost eMost
 exact jn_pow (rM3_pow x) (rThree_pow x)
set_option maxHeartbeats 4000000 in
set_option maxRecDepth 100000 in
theorem runs_any (w:World) (x:Nat) (hx:x<(2^256)):Calls Tryz.prog 310 #[fv x] w λe w'=>e=.returned (.tuple #[fv (rTwo x),fv (rSome x),fv (rMost x)])∧Below w.heap.size w w':=by
 obtain ⟨ztwo,hztwo⟩:∃ z,z=rTwo x:=⟨_,rfl⟩
 obtain ⟨zthree,hzthree⟩:∃ z,z=rThree x:=⟨_,rfl⟩
 obtain ⟨zsix,hzsix⟩:∃ z,z=rSix x:=⟨_,rfl⟩
 obtain ⟨znine,hznine⟩:∃ z,z=rNine x:=⟨_,rfl⟩
 obtain ⟨zeleven,hzeleven⟩:∃ z,z=rEleven x:=⟨_,rfl⟩
 obtain ⟨zsome,hzsome⟩:∃ z,z=rSome x:=⟨_,rfl⟩
 obtain ⟨zdbl,hzdbl⟩:∃ z,z=rDbl x:=⟨_,rfl⟩
 obtain ⟨zm1,hzm1⟩:∃ z,z=rM1 x:=⟨_,rfl⟩
 obtain ⟨zm2,hzm2⟩:∃ z,z=rM2 x:=⟨_,rfl⟩
 obtain ⟨zm3,hzm3⟩:∃ z,z=rM3 x:=⟨_,rfl⟩
 obtain ⟨zmost,hzmost⟩:∃ z,z=rMost x:=⟨_,rfl⟩
 rw [← hztwo, ← hzsome, ← hzmost]
 have HX:=Lib.hid hx
 have HZtwo:Hid (ztwo=jn x 1 x∧ztwo<(2^256)):=Lib.hid ⟨by rw [hztwo]; rfl,by rw [hztwo]; exact rTwo_lt x⟩
 have HZthree:Hid (zthree=jn ztwo 1 x∧zthree<(2^256)):=Lib.hid ⟨by rw [hzthree,hztwo]; rfl,by rw [hzthree]; exact rThree_lt x⟩
 have HZsix:Hid (zsix=jn zthree 3 zthree∧zsix<(2^256)):=Lib.hid ⟨by rw [hzsix,hzthree]; rfl,by rw [hzsix]; exact rSix_lt x⟩
 have HZnine:Hid (znine=jn zsix 3 zthree∧znine<(2^256)):=Lib.hid ⟨by rw [hznine,hzsix,hzthree]; rfl,by rw [hznine]; exact rNine_lt x⟩
 have HZeleven:Hid (zeleven=jn znine 2 ztwo∧zeleven<(2^256)):=Lib.hid ⟨by rw [hzeleven,hznine,hztwo]; rfl,by rw [hzeleven]; exact rEleven_lt x⟩
 have HZsome:Hid (zsome=jn zeleven 11 zeleven∧zsome<(2^256)):=Lib.hid ⟨by rw [hzsome,hzeleven]; rfl,by rw [hzsome]; exact rSome_lt x⟩
 have HZdbl:Hid (zdbl=jn zsome 22 zsome∧zdbl<(2^256)):=Lib.hid ⟨by rw [hzdbl,hzsome]; rfl,by rw [hzdbl]; exact rDbl_lt x⟩
 have HZm1:Hid (zm1=jn zdbl 44 zdbl∧zm1<(2^256)):=Lib.hid ⟨by rw [hzm1,hzdbl]; rfl,by rw [hzm1]; exact rM1_lt x⟩
 have HZm2:Hid (zm2=jn zm1 88 zm1∧zm2<(2^256)):=Lib.hid ⟨by rw [hzm2,hzm1]; rfl,by rw [hzm2]; exact rM2_lt x⟩
 have HZm3:Hid (zm3=jn zm2 44 zdbl∧zm3<(2^256)):=Lib.hid ⟨by rw [hzm3,hzm2,hzdbl]; rfl,by rw [hzm3]; exact rM3_lt x⟩
 have HZmost:Hid (zmost=jn zm3 3 zthree∧zmost<(2^256)):=Lib.hid ⟨by rw [hzmost,hzm3,hzthree]; rfl,by rw [hzmost]; exact rMost_lt x⟩
 clear hztwo hzthree hzsix hznine hzeleven hzsome hzdbl hzm1 hzm2 hzm3 hzmost
 obtain ⟨x0,x1,x2,x3,fx⟩:=words_fv x hx
 have FX:=Lib.hid fx
 rw [fx]
 clear fx hx
 go_enter Tryz.func310,Tryz.ntmps310
 go_wp2_with (first | ((with_reducible refine here_load (d:=some 10) ?_); refine wpList_load_fv rfl _ _ rfl (w.heap.size) rfl (x) _ _ _ (Blk.eq_ ((((Blk.new w _ _).alloc _).alloc _).alloc _) (fcs_words FX.out).symm) (fv_fcs (x)) Tryz.underlying71 rfl (by kernel_rfl) ?_) | ((with_reducible refine here_load (d:=some 11) ?_); refine wpList_load_fv rfl _ _ rfl (w.heap.size) rfl (x) _ _ _ (Blk.eq_ ((((Blk.new w _ _).alloc _).alloc _).alloc _) (fcs_words FX.out).symm) (fv_fcs (x)) Tryz.underlying71 rfl (by kernel_rfl) ?_))
 refine (join_at _ x 1 x ztwo 1 rfl HZtwo.out.1 HX.out HX.out (by omega)).mono ?_
 rintro e w10 ⟨rfl,hb⟩
 have B0_a:Blk w10 (w.heap.size) 71 _:=Gr.blk hb (Blk.eq_ ((((Blk.new w _ _).alloc _).alloc _).alloc _) (fcs_words FX.out).symm)
 have l0_a:=B0_a.lt
 have B0_t2:Blk w10 (w.heap.size+1) 71 _:=Gr.blk hb (((blk_new2 w _ _ _).alloc _).alloc _)
 have l0_t2:=B0_t2.lt
 have B0_t3:Blk w10 (w.heap.size+2) 71 _:=Gr.blk hb ((blk_new3 w _ _ _ _).alloc _)
 have l0_t3:=B0_t3.lt
 have B0_t4:Blk w10 (w.heap.size+3) 71 _:=Gr.blk hb (blk_new4 w _ _ _ _ _)
 have l0_t4:=B0_t4.lt
 have hB0:=Below.gr ((below_alloc3 w _ _ _).alloc (by simp <;> omega) _) hb
 have sz0:=hB0.size
 clear hb
 go_wp2_with (first | ((with_reducible refine here_store ?_); refine wpList_store_blk rfl _ _ _ rfl (w.heap.size+1) (fcs (ztwo)) rfl rfl _ _ (B0_t2) (by kernel_rfl) (by rfl) (fcs_one _) ?_; intro v11 hL1 hq1 hK1; have C1_a:=hK1 _ (by omega) _ _ (B0_a); have C1_t3:=hK1 _ (by omega) _ _ (B0_t3); have C1_t4:=hK1 _ (by omega) _ _ (B0_t4); have hC1:=(hB0).trans (hq1 _ (by omega))) | ((with_reducible refine here_load (d:=some 13) ?_); refine wpList_load_fv rfl _ _ rfl (w.heap.size+1) rfl (ztwo) _ _ _ (hL1) (fv_fcs (ztwo)) Tryz.underlying71 rfl (by kernel_rfl) ?_) | ((with_reducible refine here_load (d:=some 14) ?_); refine wpList_load_fv rfl _ _ rfl (w.heap.size) rfl (x) _ _ _ (C1_a) (fv_fcs (x)) Tryz.underlying71 rfl (by kernel_rfl) ?_))
 refine (join_at _ ztwo 1 x zthree 1 rfl HZthree.out.1 HZtwo.out.2 HX.out (by omega)).mono ?_
 rintro e w11 ⟨rfl,hb⟩
 have B1_a:Blk w11 (w.heap.size) 71 _:=Gr.blk hb (C1_a)
 have l1_a:=B1_a.lt
 have B1_t3:Blk w11 (w.heap.size+2) 71 _:=Gr.blk hb (C1_t3)
 have l1_t3:=B1_t3.lt
 have B1_t4:Blk w11 (w.heap.size+3) 71 _:=Gr.blk hb (C1_t4)
 have l1_t4:=B1_t4.lt
 have B1_t2:Blk w11 (w.heap.size+1) 71 _:=Gr.blk hb (hL1)
 have l1_t2:=B1_t2.lt
 have hB1:=Below.gr (hC1) hb
 have sz1:=hB1.size
 clear hb
 go_wp2_with (first | ((with_reducible refine here_store ?_); refine wpList_store_blk rfl _ _ _ rfl (w11.heap.size) (fcs (zthree)) rfl rfl _ _ (Blk.new w11 _ _) (by kernel_rfl) (by rfl) (fcs_one _) ?_; intro v12 hL2 hq2 hK2; have C2_a:=hK2 _ (by omega) _ _ ((B1_a).alloc _); have C2_t3:=hK2 _ (by omega) _ _ ((B1_t3).alloc _); have C2_t4:=hK2 _ (by omega) _ _ ((B1_t4).alloc _); have C2_t2:=hK2 _ (by omega) _ _ ((B1_t2).alloc _); have hC2:=(((hB1).alloc (by omega) _)).trans (hq2 _ (by omega))) | ((with_reducible refine here_load (d:=some 16) ?_); refine wpList_load_fv rfl _ _ rfl (w11.heap.size) rfl (zthree) _ _ _ (hL2) (fv_fcs (zthree)) Tryz.underlying71 rfl (by kernel_rfl) ?_) | ((with_reducible refine here_load (d:=some 17) ?_); refine wpList_load_fv rfl _ _ rfl (w11.heap.size) rfl (zthree) _ _ _ (hL2) (fv_fcs (zthree)) Tryz.underlying71 rfl (by kernel_rfl) ?_))
 refine (join_at _ zthree 3 zthree zsix 3 rfl HZsix.out.1 HZthree.out.2 HZthree.out.2 (by omega)).mono ?_
 rintro e w12 ⟨rfl,hb⟩
 have B2_a:Blk w12 (w.heap.size) 71 _:=Gr.blk hb (C2_a)
 have l2_a:=B2_a.lt
 have B2_t3:Blk w12 (w.heap.size+2) 71 _:=Gr.blk hb (C2_t3)
 have l2_t3:=B2_t3.lt
 have B2_t4:Blk w12 (w.heap.size+3) 71 _:=Gr.blk hb (C2_t4)
 have l2_t4:=B2_t4.lt
 have B2_t2:Blk w12 (w.heap.size+1) 71 _:=Gr.blk hb (C2_t2)
 have l2_t2:=B2_t2.lt
 have B2_three:Blk w12 (w11.heap.size) 71 _:=Gr.blk hb (hL2)
 have l2_three:=B2_three.lt
 have hB2:=Below.gr (hC2) hb
 have sz2:=hB2.size
 clear hb
 go_wp2_with (first | ((with_reducible refine here_store ?_); refine wpList_store_blk rfl _ _ _ rfl (w12.heap.size) (fcs (zsix)) rfl rfl _ _ (Blk.new w12 _ _) (by kernel_rfl) (by rfl) (fcs_one _) ?_; intro v13 hL3 hq3 hK3; have C3_a:=hK3 _ (by omega) _ _ ((B2_a).alloc _); have C3_t3:=hK3 _ (by omega) _ _ ((B2_t3).alloc _); have C3_t4:=hK3 _ (by omega) _ _ ((B2_t4).alloc _); have C3_t2:=hK3 _ (by omega) _ _ ((B2_t2).alloc _); have C3_three:=hK3 _ (by omega) _ _ ((B2_three).alloc _); have hC3:=(((hB2).alloc (by omega) _)).trans (hq3 _ (by omega))) | ((with_reducible refine here_load (d:=some 19) ?_); refine wpList_load_fv rfl _ _ rfl (w12.heap.size) rfl (zsix) _ _ _ (hL3) (fv_fcs (zsix)) Tryz.underlying71 rfl (by kernel_rfl) ?_) | ((with_reducible refine here_load (d:=some 20) ?_); refine wpList_load_fv rfl _ _ rfl (w11.heap.size) rfl (zthree) _ _ _ (C3_three) (fv_fcs (zthree)) Tryz.underlying71 rfl (by kernel_rfl) ?_))
 refine (join_at _ zsix 3 zthree znine 3 rfl HZnine.out.1 HZsix.out.2 HZthree.out.2 (by omega)).mono ?_
 rintro e w13 ⟨rfl,hb⟩
 have B3_a:Blk w13 (w.heap.size) 71 _:=Gr.blk hb (C3_a)
 have l3_a:=B3_a.lt
 have B3_t3:Blk w13 (w.heap.size+2) 71 _:=Gr.blk hb (C3_t3)
 have l3_t3:=B3_t3.lt
 have B3_t4:Blk w13 (w.heap.size+3) 71 _:=Gr.blk hb (C3_t4)
 have l3_t4:=B3_t4.lt
 have B3_t2:Blk w13 (w.heap.size+1) 71 _:=Gr.blk hb (C3_t2)
 have l3_t2:=B3_t2.lt
 have B3_three:Blk w13 (w11.heap.size) 71 _:=Gr.blk hb (C3_three)
 have l3_three:=B3_three.lt
 have B3_six:Blk w13 (w12.heap.size) 71 _:=Gr.blk hb (hL3)
 have l3_six:=B3_six.lt
 have hB3:=Below.gr (hC3) hb
 have sz3:=hB3.size
 clear hb
 go_wp2_with (first | ((with_reducible refine here_store ?_); refine wpList_store_blk rfl _ _ _ rfl (w13.heap.size) (fcs (znine)) rfl rfl _ _ (Blk.new w13 _ _) (by kernel_rfl) (by rfl) (fcs_one _) ?_; intro v14 hL4 hq4 hK4; have C4_a:=hK4 _ (by omega) _ _ ((B3_a).alloc _); have C4_t3:=hK4 _ (by omega) _ _ ((B3_t3).alloc _); have C4_t4:=hK4 _ (by omega) _ _ ((B3_t4).alloc _); have C4_t2:=hK4 _ (by omega) _ _ ((B3_t2).alloc _); have C4_three:=hK4 _ (by omega) _ _ ((B3_three).alloc _); have C4_six:=hK4 _ (by omega) _ _ ((B3_six).alloc _); have hC4:=(((hB3).alloc (by omega) _)).trans (hq4 _ (by omega))) | ((with_reducible refine here_load (d:=some 22) ?_); refine wpList_load_fv rfl _ _ rfl (w13.heap.size) rfl (znine) _ _ _ (hL4) (fv_fcs (znine)) Tryz.underlying71 rfl (by kernel_rfl) ?_) | ((with_reducible refine here_load (d:=some 23) ?_); refine wpList_load_fv rfl _ _ rfl (w.heap.size+1) rfl (ztwo) _ _ _ (C4_t2) (fv_fcs (ztwo)) Tryz.underlying71 rfl (by kernel_rfl) ?_))
 refine (join_at _ znine 2 ztwo zeleven 2 rfl HZeleven.out.1 HZnine.out.2 HZtwo.out.2 (by omega)).mono ?_
 rintro e w14 ⟨rfl,hb⟩
 have B4_a:Blk w14 (w.heap.size) 71 _:=Gr.blk hb (C4_a)
 have l4_a:=B4_a.lt
 have B4_t3:Blk w14 (w.heap.size+2) 71 _:=Gr.blk hb (C4_t3)
 have l4_t3:=B4_t3.lt
 have B4_t4:Blk w14 (w.heap.size+3) 71 _:=Gr.blk hb (C4_t4)
 have l4_t4:=B4_t4.lt
 have B4_t2:Blk w14 (w.heap.size+1) 71 _:=Gr.blk hb (C4_t2)
 have l4_t2:=B4_t2.lt
 have B4_three:Blk w14 (w11.heap.size) 71 _:=Gr.blk hb (C4_three)
 have l4_three:=B4_three.lt
 have B4_six:Blk w14 (w12.heap.size) 71 _:=Gr.blk hb (C4_six)
 have l4_six:=B4_six.lt
 have B4_nine:Blk w14 (w13.heap.size) 71 _:=Gr.blk hb (hL4)
 have l4_nine:=B4_nine.lt
 have hB4:=Below.gr (hC4) hb
 have sz4:=hB4.size
 clear hb
 go_wp2_with (first | ((with_reducible refine here_store ?_); refine wpList_store_blk rfl _ _ _ rfl (w14.heap.size) (fcs (zeleven)) rfl rfl _ _ (Blk.new w14 _ _) (by kernel_rfl) (by rfl) (fcs_one _) ?_; intro v15 hL5 hq5 hK5; have C5_a:=hK5 _ (by omega) _ _ ((B4_a).alloc _); have C5_t3:=hK5 _ (by omega) _ _ ((B4_t3).alloc _); have C5_t4:=hK5 _ (by omega) _ _ ((B4_t4).alloc _); have C5_t2:=hK5 _ (by omega) _ _ ((B4_t2).alloc _); have C5_three:=hK5 _ (by omega) _ _ ((B4_three).alloc _); have C5_six:=hK5 _ (by omega) _ _ ((B4_six).alloc _); have C5_nine:=hK5 _ (by omega) _ _ ((B4_nine).alloc _); have hC5:=(((hB4).alloc (by omega) _)).trans (hq5 _ (by omega))) | ((with_reducible refine here_load (d:=some 25) ?_); refine wpList_load_fv rfl _ _ rfl (w14.heap.size) rfl (zeleven) _ _ _ (hL5) (fv_fcs (zeleven)) Tryz.underlying71 rfl (by kernel_rfl) ?_) | ((with_reducible refine here_load (d:=some 26) ?_); refine wpList_load_fv rfl _ _ rfl (w14.heap.size) rfl (zeleven) _ _ _ (hL5) (fv_fcs (zeleven)) Tryz.underlying71 rfl (by kernel_rfl) ?_))
 refine (join_at _ zeleven 11 zeleven zsome 11 rfl HZsome.out.1 HZeleven.out.2 HZeleven.out.2 (by omega)).mono ?_
 rintro e w15 ⟨rfl,hb⟩
 have B5_a:Blk w15 (w.heap.size) 71 _:=Gr.blk hb (C5_a)
 have l5_a:=B5_a.lt
 have B5_t3:Blk w15 (w.heap.size+2) 71 _:=Gr.blk hb (C5_t3)
 have l5_t3:=B5_t3.lt
 have B5_t4:Blk w15 (w.heap.size+3) 71 _:=Gr.blk hb (C5_t4)
 have l5_t4:=B5_t4.lt
 have B5_t2:Blk w15 (w.heap.size+1) 71 _:=Gr.blk hb (C5_t2)
 have l5_t2:=B5_t2.lt
 have B5_three:Blk w15 (w11.heap.size) 71 _:=Gr.blk hb (C5_three)
 have l5_three:=B5_three.lt
 have B5_six:Blk w15 (w12.heap.size) 71 _:=Gr.blk hb (C5_six)
 have l5_six:=B5_six.lt
 have B5_nine:Blk w15 (w13.heap.size) 71 _:=Gr.blk hb (C5_nine)
 have l5_nine:=B5_nine.lt
 have B5_eleven:Blk w15 (w14.heap.size) 71 _:=Gr.blk hb (hL5)
 have l5_eleven:=B5_eleven.lt
 have hB5:=Below.gr (hC5) hb
 have sz5:=hB5.size
 clear hb
 go_wp2_with (first | ((with_reducible refine here_store ?_); refine wpList_store_blk rfl _ _ _ rfl (w.heap.size+2) (fcs (zsome)) rfl rfl _ _ (B5_t3) (by kernel_rfl) (by rfl) (fcs_one _) ?_; intro v16 hL6 hq6 hK6; have C6_a:=hK6 _ (by omega) _ _ (B5_a); have C6_t4:=hK6 _ (by omega) _ _ (B5_t4); have C6_t2:=hK6 _ (by omega) _ _ (B5_t2); have C6_three:=hK6 _ (by omega) _ _ (B5_three); have C6_six:=hK6 _ (by omega) _ _ (B5_six); have C6_nine:=hK6 _ (by omega) _ _ (B5_nine); have C6_eleven:=hK6 _ (by omega) _ _ (B5_eleven); have hC6:=(hB5).trans (hq6 _ (by omega))) | ((with_reducible refine here_load (d:=some 28) ?_); refine wpList_load_fv rfl _ _ rfl (w.heap.size+2) rfl (zsome) _ _ _ (hL6) (fv_fcs (zsome)) Tryz.underlying71 rfl (by kernel_rfl) ?_) | ((with_reducible refine here_load (d:=some 29) ?_); refine wpList_load_fv rfl _ _ rfl (w.heap.size+2) rfl (zsome) _ _ _ (hL6) (fv_fcs (zsome)) Tryz.underlying71 rfl (by kernel_rfl) ?_))
 refine (join_at _ zsome 22 zsome zdbl 22 rfl HZdbl.out.1 HZsome.out.2 HZsome.out.2 (by omega)).mono ?_
 rintro e w16 ⟨rfl,hb⟩
 have B6_a:Blk w16 (w.heap.size) 71 _:=Gr.blk hb (C6_a)
 have l6_a:=B6_a.lt
 have B6_t4:Blk w16 (w.heap.size+3) 71 _:=Gr.blk hb (C6_t4)
 have l6_t4:=B6_t4.lt
 have B6_t2:Blk w16 (w.heap.size+1) 71 _:=Gr.blk hb (C6_t2)
 have l6_t2:=B6_t2.lt
 have B6_three:Blk w16 (w11.heap.size) 71 _:=Gr.blk hb (C6_three)
 have l6_three:=B6_three.lt
 have B6_six:Blk w16 (w12.heap.size) 71 _:=Gr.blk hb (C6_six)
 have l6_six:=B6_six.lt
 have B6_nine:Blk w16 (w13.heap.size) 71 _:=Gr.blk hb (C6_nine)
 have l6_nine:=B6_nine.lt
 have B6_eleven:Blk w16 (w14.heap.size) 71 _:=Gr.blk hb (C6_eleven)
 have l6_eleven:=B6_eleven.lt
 have B6_t3:Blk w16 (w.heap.size+2) 71 _:=Gr.blk hb (hL6)
 have l6_t3:=B6_t3.lt
 have hB6:=Below.gr (hC6) hb
 have sz6:=hB6.size
 clear hb
 go_wp2_with (first | ((with_reducible refine here_store ?_); refine wpList_store_blk rfl _ _ _ rfl (w16.heap.size) (fcs (zdbl)) rfl rfl _ _ (Blk.new w16 _ _) (by kernel_rfl) (by rfl) (fcs_one _) ?_; intro v17 hL7 hq7 hK7; have C7_a:=hK7 _ (by omega) _ _ ((B6_a).alloc _); have C7_t4:=hK7 _ (by omega) _ _ ((B6_t4).alloc _); have C7_t2:=hK7 _ (by omega) _ _ ((B6_t2).alloc _); have C7_three:=hK7 _ (by omega) _ _ ((B6_three).alloc _); have C7_six:=hK7 _ (by omega) _ _ ((B6_six).alloc _); have C7_nine:=hK7 _ (by omega) _ _ ((B6_nine).alloc _); have C7_eleven:=hK7 _ (by omega) _ _ ((B6_eleven).alloc _); have C7_t3:=hK7 _ (by omega) _ _ ((B6_t3).alloc _); have hC7:=(((hB6).alloc (by omega) _)).trans (hq7 _ (by omega))) | ((with_reducible refine here_load (d:=some 31) ?_); refine wpList_load_fv rfl _ _ rfl (w16.heap.size) rfl (zdbl) _ _ _ (hL7) (fv_fcs (zdbl)) Tryz.underlying71 rfl (by kernel_rfl) ?_) | ((with_reducible refine here_load (d:=some 32) ?_); refine wpList_load_fv rfl _ _ rfl (w16.heap.size) rfl (zdbl) _ _ _ (hL7) (fv_fcs (zdbl)) Tryz.underlying71 rfl (by kernel_rfl) ?_))
 refine (join_at _ zdbl 44 zdbl zm1 44 rfl HZm1.out.1 HZdbl.out.2 HZdbl.out.2 (by omega)).mono ?_
 rintro e w17 ⟨rfl,hb⟩
 have B7_a:Blk w17 (w.heap.size) 71 _:=Gr.blk hb (C7_a)
 have l7_a:=B7_a.lt
 have B7_t4:Blk w17 (w.heap.size+3) 71 _:=Gr.blk hb (C7_t4)
 have l7_t4:=B7_t4.lt
 have B7_t2:Blk w17 (w.heap.size+1) 71 _:=Gr.blk hb (C7_t2)
 have l7_t2:=B7_t2.lt
 have B7_three:Blk w17 (w11.heap.size) 71 _:=Gr.blk hb (C7_three)
 have l7_three:=B7_three.lt
 have B7_six:Blk w17 (w12.heap.size) 71 _:=Gr.blk hb (C7_six)
 have l7_six:=B7_six.lt
 have B7_nine:Blk w17 (w13.heap.size) 71 _:=Gr.blk hb (C7_nine)
 have l7_nine:=B7_nine.lt
 have B7_eleven:Blk w17 (w14.heap.size) 71 _:=Gr.blk hb (C7_eleven)
 have l7_eleven:=B7_eleven.lt
 have B7_t3:Blk w17 (w.heap.size+2) 71 _:=Gr.blk hb (C7_t3)
 have l7_t3:=B7_t3.lt
 have B7_dbl:Blk w17 (w16.heap.size) 71 _:=Gr.blk hb (hL7)
 have l7_dbl:=B7_dbl.lt
 have hB7:=Below.gr (hC7) hb
 have sz7:=hB7.size
 clear hb
 go_wp2_with (first | ((with_reducible refine here_store ?_); refine wpList_store_blk rfl _ _ _ rfl (w.heap.size+3) (fcs (zm1)) rfl rfl _ _ (B7_t4) (by kernel_rfl) (by rfl) (fcs_one _) ?_; intro v18 hL8 hq8 hK8; have C8_a:=hK8 _ (by omega) _ _ (B7_a); have C8_t2:=hK8 _ (by omega) _ _ (B7_t2); have C8_three:=hK8 _ (by omega) _ _ (B7_three); have C8_six:=hK8 _ (by omega) _ _ (B7_six); have C8_nine:=hK8 _ (by omega) _ _ (B7_nine); have C8_eleven:=hK8 _ (by omega) _ _ (B7_eleven); have C8_t3:=hK8 _ (by omega) _ _ (B7_t3); have C8_dbl:=hK8 _ (by omega) _ _ (B7_dbl); have hC8:=(hB7).trans (hq8 _ (by omega))) | ((with_reducible refine here_load (d:=some 34) ?_); refine wpList_load_fv rfl _ _ rfl (w.heap.size+3) rfl (zm1) _ _ _ (hL8) (fv_fcs (zm1)) Tryz.underlying71 rfl (by kernel_rfl) ?_) | ((with_reducible refine here_load (d:=some 35) ?_); refine wpList_load_fv rfl _ _ rfl (w.heap.size+3) rfl (zm1) _ _ _ (hL8) (fv_fcs (zm1)) Tryz.underlying71 rfl (by kernel_rfl) ?_))
 refine (join_at _ zm1 88 zm1 zm2 88 rfl HZm2.out.1 HZm1.out.2 HZm1.out.2 (by omega)).mono ?_
 rintro e w18 ⟨rfl,hb⟩
 have B8_a:Blk w18 (w.heap.size) 71 _:=Gr.blk hb (C8_a)
 have l8_a:=B8_a.lt
 have B8_t2:Blk w18 (w.heap.size+1) 71 _:=Gr.blk hb (C8_t2)
 have l8_t2:=B8_t2.lt
 have B8_three:Blk w18 (w11.heap.size) 71 _:=Gr.blk hb (C8_three)
 have l8_three:=B8_three.lt
 have B8_six:Blk w18 (w12.heap.size) 71 _:=Gr.blk hb (C8_six)
 have l8_six:=B8_six.lt
 have B8_nine:Blk w18 (w13.heap.size) 71 _:=Gr.blk hb (C8_nine)
 have l8_nine:=B8_nine.lt
 have B8_eleven:Blk w18 (w14.heap.size) 71 _:=Gr.blk hb (C8_eleven)
 have l8_eleven:=B8_eleven.lt
 have B8_t3:Blk w18 (w.heap.size+2) 71 _:=Gr.blk hb (C8_t3)
 have l8_t3:=B8_t3.lt
 have B8_dbl:Blk w18 (w16.heap.size) 71 _:=Gr.blk hb (C8_dbl)
 have l8_dbl:=B8_dbl.lt
 have B8_t4:Blk w18 (w.heap.size+3) 71 _:=Gr.blk hb (hL8)
 have l8_t4:=B8_t4.lt
 have hB8:=Below.gr (hC8) hb
 have sz8:=hB8.size
 clear hb
 go_wp2_with (first | ((with_reducible refine here_store ?_); refine wpList_store_blk rfl _ _ _ rfl (w.heap.size+3) (fcs (zm2)) rfl rfl _ _ (B8_t4) (by kernel_rfl) (by rfl) (fcs_one _) ?_; intro v19 hL9 hq9 hK9; have C9_a:=hK9 _ (by omega) _ _ (B8_a); have C9_t2:=hK9 _ (by omega) _ _ (B8_t2); have C9_three:=hK9 _ (by omega) _ _ (B8_three); have C9_six:=hK9 _ (by omega) _ _ (B8_six); have C9_nine:=hK9 _ (by omega) _ _ (B8_nine); have C9_eleven:=hK9 _ (by omega) _ _ (B8_eleven); have C9_t3:=hK9 _ (by omega) _ _ (B8_t3); have C9_dbl:=hK9 _ (by omega) _ _ (B8_dbl); have hC9:=(hB8).trans (hq9 _ (by omega))) | ((with_reducible refine here_load (d:=some 37) ?_); refine wpList_load_fv rfl _ _ rfl (w.heap.size+3) rfl (zm2) _ _ _ (hL9) (fv_fcs (zm2)) Tryz.underlying71 rfl (by kernel_rfl) ?_) | ((with_reducible refine here_load (d:=some 38) ?_); refine wpList_load_fv rfl _ _ rfl (w16.heap.size) rfl (zdbl) _ _ _ (C9_dbl) (fv_fcs (zdbl)) Tryz.underlying71 rfl (by kernel_rfl) ?_))
 refine (join_at _ zm2 44 zdbl zm3 44 rfl HZm3.out.1 HZm2.out.2 HZdbl.out.2 (by omega)).mono ?_
 rintro e w19 ⟨rfl,hb⟩
 have B9_a:Blk w19 (w.heap.size) 71 _:=Gr.blk hb (C9_a)
 have l9_a:=B9_a.lt
 have B9_t2:Blk w19 (w.heap.size+1) 71 _:=Gr.blk hb (C9_t2)
 have l9_t2:=B9_t2.lt
 have B9_three:Blk w19 (w11.heap.size) 71 _:=Gr.blk hb (C9_three)
 have l9_three:=B9_three.lt
 have B9_six:Blk w19 (w12.heap.size) 71 _:=Gr.blk hb (C9_six)
 have l9_six:=B9_six.lt
 have B9_nine:Blk w19 (w13.heap.size) 71 _:=Gr.blk hb (C9_nine)
 have l9_nine:=B9_nine.lt
 have B9_eleven:Blk w19 (w14.heap.size) 71 _:=Gr.blk hb (C9_eleven)
 have l9_eleven:=B9_eleven.lt
 have B9_t3:Blk w19 (w.heap.size+2) 71 _:=Gr.blk hb (C9_t3)
 have l9_t3:=B9_t3.lt
 have B9_dbl:Blk w19 (w16.heap.size) 71 _:=Gr.blk hb (C9_dbl)
 have l9_dbl:=B9_dbl.lt
 have B9_t4:Blk w19 (w.heap.size+3) 71 _:=Gr.blk hb (hL9)
 have l9_t4:=B9_t4.lt
 have hB9:=Below.gr (hC9) hb
 have sz9:=hB9.size
 clear hb
 go_wp2_with (first | ((with_reducible refine here_store ?_); refine wpList_store_blk rfl _ _ _ rfl (w.heap.size+3) (fcs (zm3)) rfl rfl _ _ (B9_t4) (by kernel_rfl) (by rfl) (fcs_one _) ?_; intro v20 hL10 hq10 hK10; have C10_a:=hK10 _ (by omega) _ _ (B9_a); have C10_t2:=hK10 _ (by omega) _ _ (B9_t2); have C10_three:=hK10 _ (by omega) _ _ (B9_three); have C10_six:=hK10 _ (by omega) _ _ (B9_six); have C10_nine:=hK10 _ (by omega) _ _ (B9_nine); have C10_eleven:=hK10 _ (by omega) _ _ (B9_eleven); have C10_t3:=hK10 _ (by omega) _ _ (B9_t3); have C10_dbl:=hK10 _ (by omega) _ _ (B9_dbl); have hC10:=(hB9).trans (hq10 _ (by omega))) | ((with_reducible refine here_load (d:=some 40) ?_); refine wpList_load_fv rfl _ _ rfl (w.heap.size+3) rfl (zm3) _ _ _ (hL10) (fv_fcs (zm3)) Tryz.underlying71 rfl (by kernel_rfl) ?_) | ((with_reducible refine here_load (d:=some 41) ?_); refine wpList_load_fv rfl _ _ rfl (w11.heap.size) rfl (zthree) _ _ _ (C10_three) (fv_fcs (zthree)) Tryz.underlying71 rfl (by kernel_rfl) ?_))
 refine (join_at _ zm3 3 zthree zmost 3 rfl HZmost.out.1 HZm3.out.2 HZthree.out.2 (by omega)).mono ?_
 rintro e w20 ⟨rfl,hb⟩
 have B10_a:Blk w20 (w.heap.size) 71 _:=Gr.blk hb (C10_a)
 have l10_a:=B10_a.lt
 have B10_t2:Blk w20 (w.heap.size+1) 71 _:=Gr.blk hb (C10_t2)
 have l10_t2:=B10_t2.lt
 have B10_three:Blk w20 (w11.heap.size) 71 _:=Gr.blk hb (C10_three)
 have l10_three:=B10_three.lt
 have B10_six:Blk w20 (w12.heap.size) 71 _:=Gr.blk hb (C10_six)
 have l10_six:=B10_six.lt
 have B10_nine:Blk w20 (w13.heap.size) 71 _:=Gr.blk hb (C10_nine)
 have l10_nine:=B10_nine.lt
 have B10_eleven:Blk w20 (w14.heap.size) 71 _:=Gr.blk hb (C10_eleven)
 have l10_eleven:=B10_eleven.lt
 have B10_t3:Blk w20 (w.heap.size+2) 71 _:=Gr.blk hb (C10_t3)
 have l10_t3:=B10_t3.lt
 have B10_dbl:Blk w20 (w16.heap.size) 71 _:=Gr.blk hb (C10_dbl)
 have l10_dbl:=B10_dbl.lt
 have B10_t4:Blk w20 (w.heap.size+3) 71 _:=Gr.blk hb (hL10)
 have l10_t4:=B10_t4.lt
 have hB10:=Below.gr (hC10) hb
 have sz10:=hB10.size
 clear hb
 go_wp2_with (first | ((with_reducible refine here_store ?_); refine wpList_store_blk rfl _ _ _ rfl (w.heap.size+3) (fcs (zmost)) rfl rfl _ _ (B10_t4) (by kernel_rfl) (by rfl) (fcs_one _) ?_; intro v21 hL11 hq11 hK11; have C11_a:=hK11 _ (by omega) _ _ (B10_a); have C11_t2:=hK11 _ (by omega) _ _ (B10_t2); have C11_three:=hK11 _ (by omega) _ _ (B10_three); have C11_six:=hK11 _ (by omega) _ _ (B10_six); have C11_nine:=hK11 _ (by omega) _ _ (B10_nine); have C11_eleven:=hK11 _ (by omega) _ _ (B10_eleven); have C11_t3:=hK11 _ (by omega) _ _ (B10_t3); have C11_dbl:=hK11 _ (by omega) _ _ (B10_dbl); have hC11:=(hB10).trans (hq11 _ (by omega))))
 refine wp_region_G (λ_=>false) (by kernel_rfl) ?_
 try simp only [Act.put]
 refine tkw 0 rfl (YieldsG.loadF (by rfl) _ _ rfl (w.heap.size+1) rfl (ztwo) _ _ (C11_t2) (fv_fcs _) Tryz.underlying71 rfl (by kernel_rfl)) ?_
 try simp only [Act.put,aA,aZ,aS]
 refine tkw 1 rfl (YieldsG.loadF (by rfl) _ _ rfl (w.heap.size+2) rfl (zsome) _ _ (C11_t3) (fv_fcs _) Tryz.underlying71 rfl (by kernel_rfl)) ?_
 try simp only [Act.put,aA,aZ,aS]
 refine tkw 2 rfl (YieldsG.loadF (by rfl) _ _ rfl (w.heap.size+3) rfl (zmost) _ _ (hL11) (fv_fcs _) Tryz.underlying71 rfl (by kernel_rfl)) ?_
 try simp only [Act.put,aA,aZ,aS]
 refine tkw 3 rfl (YieldsG.again (by rfl) _ _ _ rfl (w.heap.size+1) (fcs (ztwo)) rfl rfl _ (C11_t2) (by kernel_rfl) (fcs_one _)) ?_
 try simp only [Act.put]
 refine tkw 4 rfl (YieldsG.again (by rfl) _ _ _ rfl (w.heap.size+2) (fcs (zsome)) rfl rfl _ (C11_t3) (by kernel_rfl) (fcs_one _)) ?_
 try simp only [Act.put]
 refine tkw 5 rfl (YieldsG.again (by rfl) _ _ _ rfl (w.heap.size+3) (fcs (zmost)) rfl rfl _ (hL11) (by kernel_rfl) (fcs_one _)) ?_
 try simp only [Act.put]
 refine wpAnyG_done (by kernel_rfl) (λu hu=>?_)
 have hbz:=Below.gr (hC11) hu
 have Et2:=Gr.blk hu C11_t2
 have Et3:=Gr.blk hu C11_t3
 have Et4:=Gr.blk hu hL11
 go_wp2
 exact bodyPost_ret (res_three_cells rfl _ _ (w.heap.size+1) (w.heap.size+2) (w.heap.size+3) _ _ _ _ _ _ _ rfl Et2 rfl Et3 rfl Et4 Tryz.underlying71 rfl (by kernel_rfl) (by kernel_rfl) (by kernel_rfl)) rfl ⟨rfl,hbz⟩
end
end
section
section
open Go.RowKit Go.Lib
theorem all_range_eqN:∀ (xs ys:List Nat),xs.length=ys.length→((List.range xs.length).all λi=>xs.getD i 0 == ys.getD i 0)=(xs == ys)
 | [],[],_=>rfl
 | x::xs,y::ys,h=>by
  have ih:=all_range_eqN xs ys (by simpa using h)
  rw [List.length_cons,List.range_succ_eq_map,List.all_cons,List.all_map]
  simp only [List.getD_cons_zero,Function.comp_def,List.getD_cons_succ,ih]
  simp [List.cons_beq_cons]
 | [],_::_,h=>by simp at h
 | _::_,[],h=>by simp at h
theorem run_equalIn_words {P:Program} (w:World) (d:Nat) (t e:TypeId) (n:Nat) (ht:P.underlying t=some (.array n e)) (he:P.underlying e=some (.int .u64)) (hsz:∀ w,(sizeOf e).run P w=.ok 1 w)
  (xs ys:List Nat) (hx:xs.length=n) (hy:ys.length=n) :
  (Op.equalIn (d+2) t (.agg (xs.map qv).toArray) (.agg (ys.map qv).toArray)).run P w=.ok (xs == ys) w:=by
 rw [← all_range_eqN xs ys (hx.trans hy.symm),hx,List.range_eq_range',Op.equalIn]
 simp only [Sem.run_bind,run_underlying ht,Result.andThen_ok,hsz,Std.Legacy.Range.forIn_eq_forIn_range',Std.Legacy.Range.size,Nat.sub_zero,Nat.add_sub_cancel,Nat.div_one]
 have hl:∀ i∈List.range' 0 n 1,i<n:=λi hi=>by simpa using (List.mem_range'_1.1 hi).2
 generalize List.range' 0 n 1=l at hl ⊢
 induction l with
 | nil=>simp
 | cons i l ih =>
  have hi:i<n:=hl i (by simp)
  have px:(part e (xs.map qv).toArray (i*1)).run P w=.ok (qv (xs.getD i 0)) w:=by
   simp [part,isAgg,run_underlying he,List.getD,List.getElem?_eq_getElem (show i<xs.length by omega)]
  have py:(part e (ys.map qv).toArray (i*1)).run P w=.ok (qv (ys.getD i 0)) w:=by
   simp [part,isAgg,run_underlying he,List.getD,List.getElem?_eq_getElem (show i<ys.length by omega)]
  have pe:(Op.equalIn (d+1) e (qv (xs.getD i 0)) (qv (ys.getD i 0))).run P w=.ok (xs.getD i 0 == ys.getD i 0) w:=by
   rw [qv,qv,run_equalIn_int w d e .u64 .u64 _ _ he]
   congr 1
   rw [Bool.eq_iff_iff]
   simp
   omega
  simp only [List.forIn_cons,Sem.run_bind,px,py,pe,Result.andThen_ok,List.all_cons]
  cases hb:(xs.getD i 0 == ys.getD i 0)
  ·simp
  ·simp only [Bool.not_true,Bool.false_eq_true,if_false,Sem.run_pure,Result.andThen_ok,Bool.true_and]
   exact ih λj hj=>hl j (by simp [hj])
def wl (n:Nat):List Nat:=[n%18446744073709551616,n / 18446744073709551616%18446744073709551616,n / 340282366920938463463374607431768211456%18446744073709551616,n / 6277101735386680763835789423207666416102355444464034512896%18446744073709551616]
theorem fv_wl (n:Nat):fv n=.agg ((wl n).map qv).toArray:=rfl
theorem wl_inj {n m:Nat} (hn:n<(2^256)) (hm:m<(2^256)) (h:wl n=wl m):n=m:=by
 unfold wl at h
 simp only [List.cons.injEq,and_true] at h
 obtain ⟨h0,h1,h2,h3⟩:=h
 omega
theorem wl_beq {n m:Nat} (hn:n<(2^256)) (hm:m<(2^256)):(wl n == wl m)=decide (n=m):=by
 by_cases h:n=m
 ·subst h; simp
 ·have:wl n≠wl m:=λe=>h (wl_inj hn hm e)
  simp [h,this]
theorem run_equalIn_fv (W:World) (n m:Nat) (hn:n<(2^256)) (hm:m<(2^256)):(Op.equalIn 10000 71 (fv n) (fv m)).run Tryz.prog W=.ok (decide (n=m)) W:=by
 rw [fv_wl,fv_wl]
 have h:=run_equalIn_words W 9998 71 22 4 Tryz.underlying71 Tryz.underlying22 (λW=>by kernel_rfl) (wl n) (wl m) rfl rfl
 rw [wl_beq hn hm] at h
 exact h
theorem run_eql_fv (W:World) (n m:Nat) (hn:n<(2^256)) (hm:m<(2^256)):(binOp .eql 71 (fv n) (fv m)).run Tryz.prog W=.ok (.bool (decide (n=m))) W:=by
 have h:=run_equalIn_fv W n m hn hm
 rw [fv_wl,fv_wl] at h ⊢
 rw [run_eql_struct,h]
 rfl
theorem run_neq_fv (W:World) (n m:Nat) (hn:n<(2^256)) (hm:m<(2^256)):(binOp .neq 71 (fv n) (fv m)).run Tryz.prog W=.ok (.bool (decide (n≠m))) W:=by
 have h:=run_equalIn_fv W n m hn hm
 rw [fv_wl,fv_wl] at h ⊢
 rw [run_neq_struct,h]
 by_cases e:n=m <;> simp [e]
theorem run_eqGuard_fv (op:BinOp) (x y:Operand) (n m:Nat) (W:World):(eqGuard op 71 x y (fv n) (fv m)).run Tryz.prog W=.ok () W:=by
 rw [fv_fcs,fv_fcs]
 go_simp
theorem and_one (n:Nat) (hn:n<18446744073709551616):bits .and .u64 (n:Int) 1=((n%2:Nat):Int):=by
 have h:=bits_and_u64_nat n 1 hn (by omega)
 have e:n &&& 1=n%2:=Nat.and_two_pow_sub_one_eq_mod n 1
 rw [e] at h
 exact h
set_option maxHeartbeats 1000000 in
theorem odd_any (w:World) (x:Nat) (hx:x<(2^256)):Calls Tryz.prog 262 #[fv x] w λe w'=>e=.returned (.bool (decide (x%pM%2=1)))∧Below w.heap.size w w':=by
 obtain ⟨z,hz⟩:∃ z,z=x%pM:=⟨_,rfl⟩
 have hzl:z<(2^256):=by rw [hz]; exact mod_lt x
 obtain ⟨z0,z1,z2,z3,a0,a1,a2,a3,ez,fz⟩:=words_of z hzl
 obtain ⟨o,ho⟩:∃ o,o=z%2:=⟨_,rfl⟩
 have h1:bits .and .u64 (z0:Int) 1=(o:Int):=by rw [and_one z0 a0,ho]; congr 1; omega
 have hN:∀ w,Calls Tryz.prog 266 #[fv x] w λe w'=>e=.returned (.agg #[.int .u64 z0,.int .u64 z1,.int .u64 z2,.int .u64 z3])∧Below w.heap.size w w':=by
  intro w; rw [← fz,hz]; exact norm_any w x hx
 obtain ⟨x0,x1,x2,x3,fx⟩:=words_fv x hx
 rw [fx] at hN ⊢
 rw [← hz, ← ho]
 have hol:o<2:=by omega
 obtain ⟨b,hb⟩:∃ b,b=decide (o=1):=⟨_,rfl⟩
 have hob:((o:Int) == 1)=b:=by
  rw [hb]
  rcases (show o=0∨o=1 by omega) with rfl | rfl <;> rfl
 rw [← hb]
 clear fx hx hz hzl ez fz ho a0 a1 a2 a3 hb hol
 have hI:∀ W,(Instr.index 71 (.agg #[.int .u64 z0,.int .u64 z1,.int .u64 z2,.int .u64 z3]) (.int .i64 0)).run Tryz.prog W=.ok (.int .u64 (z0:Int)) W:=λW=>by kernel_rfl
 go_enter Tryz.func262,Tryz.ntmps262
 go_wp2_with fail
 refine (hN _).mono ?_
 rintro e w1 ⟨rfl,hb1⟩
 go_wp2
 go_ret
 exact ⟨rfl,Below.gr ((Below.refl _ _).alloc (Nat.le_refl _) _) hb1⟩
end
end
section
section
open Go.RowKit Go.Lib
def rZ1 (x:Nat):Nat:=jn (rMost x) 23 (rSome x)
def rZ2 (x:Nat):Nat:=jn (rZ1 x) 6 (rTwo x)
def rootR (x:Nat):Nat:=sqI (rZ2 x) 2
theorem rootR_lt (x:Nat):rootR x<(2^256):=mulP_lt _ _
theorem rootR_red (x:Nat):rootR x%pM=rootR x:=by
 have h:rootR x=sqI (rZ2 x) 1*sqI (rZ2 x) 1%pM:=rfl
 rw [h,Nat.mod_mod]
def eRoot:Nat:=((eMost*2 ^ 23+eSome)*2 ^ 6+eTwo)*2 ^ 2
theorem rootR_pow (x:Nat):rootR x%pM=x ^ eRoot%pM:=by
 unfold rootR eRoot
 exact sqI_pow (jn_pow (jn_pow (rMost_pow x) (rSome_pow x)) (rTwo_pow x)) 2
def sqrtS (x:Nat):Nat×Bool:=if mulP (rootR x) (rootR x)≠x%pM then (0,false) else if rootR x%pM%2=1 then (negP (rootR x),true) else (rootR x,true)
set_option maxHeartbeats 4000000 in
set_option maxRecDepth 100000 in
theorem sqrt_any (w:World) (x:Nat) (hx:x<(2^256)):Calls Tryz.prog 290 #[fv x] w λe w'=>e=.returned (.tuple #[fv (sqrtS x).1,.bool (sqrtS x).2])∧Below w.heap.size w w':=by
 obtain ⟨z2,hz2⟩:∃ z,z=rTwo x:=⟨_,rfl⟩
 obtain ⟨zs,hzs⟩:∃ z,z=rSome x:=⟨_,rfl⟩
 obtain ⟨zm,hzm⟩:∃ z,z=rMost x:=⟨_,rfl⟩
 obtain ⟨y1,hy1⟩:∃ z,z=rZ1 x:=⟨_,rfl⟩
 obtain ⟨y2,hy2⟩:∃ z,z=rZ2 x:=⟨_,rfl⟩
 obtain ⟨r,hr⟩:∃ z,z=rootR x:=⟨_,rfl⟩
 obtain ⟨m,hm⟩:∃ z,z=mulP r r:=⟨_,rfl⟩
 obtain ⟨n,hn⟩:∃ z,z=x%pM:=⟨_,rfl⟩
 obtain ⟨g,hg⟩:∃ z,z=negP r:=⟨_,rfl⟩
 have hrl:r<(2^256):=by rw [hr]; exact rootR_lt x
 have hml:m<(2^256):=by rw [hm]; exact mulP_lt _ _
 have hnl:n<(2^256):=by rw [hn]; exact mod_lt x
 have cR:∀ w,Calls Tryz.prog 310 #[fv x] w λe w'=>e=.returned (.tuple #[fv z2,fv zs,fv zm])∧Below w.heap.size w w':=by
  intro w; rw [hz2,hzs,hzm]; exact runs_any w x hx
 have c1:=λw=>join_at w zm 23 zs y1 23 rfl (by rw [hzm,hzs,hy1]; rfl) (by rw [hzm]; exact rMost_lt x) (by rw [hzs]; exact rSome_lt x) (by omega)
 have c2:=λw=>join_at w y1 6 z2 y2 6 rfl (by rw [hy1,hz2,hy2]; rfl) (by rw [hy1]; exact jn_lt _ _ _) (by rw [hz2]; exact rTwo_lt x) (by omega)
 have c3:∀ w,Calls Tryz.prog 312 #[fv y2,.int .i64 2] w λe w'=>e=.returned (fv r)∧Below w.heap.size w w':=by
  intro w; rw [hr,rootR, ← hy2]; exact square_any w y2 2 (by rw [hy2]; exact jn_lt _ _ _) (by omega)
 have cm:∀ w,Calls Tryz.prog 267 #[fv r,fv r] w λe w'=>e=.returned (fv m)∧Below w.heap.size w w':=by
  intro w; rw [hm]; exact mulF_any w r r hrl hrl
 have cn:∀ w,Calls Tryz.prog 266 #[fv x] w λe w'=>e=.returned (fv n)∧Below w.heap.size w w':=by
  intro w; rw [hn]; exact norm_any w x hx
 obtain ⟨o,ho⟩:∃ o,o=decide (r%pM%2=1):=⟨_,rfl⟩
 have co:∀ w,Calls Tryz.prog 262 #[fv r] w λe w'=>e=.returned (.bool o)∧Below w.heap.size w w':=by
  intro w; rw [ho]; exact odd_any w r hrl
 have cg:∀ w,Calls Tryz.prog 291 #[fv r] w λe w'=>e=.returned (fv g)∧Below w.heap.size w w':=by
  intro w; rw [hg]; exact negF_any w r hrl
 obtain ⟨b,hb⟩:∃ b,b=decide (m≠n):=⟨_,rfl⟩
 have eb:∀ W,(binOp .neq 71 (fv m) (fv n)).run Tryz.prog W=.ok (.bool b) W:=λW=>by rw [hb]; exact run_neq_fv W m n hml hnl
 have hS:sqrtS x=if b=true then (0,false) else if o=true then (g,true) else (r,true):=by
  unfold sqrtS
  rw [← hr, ← hm, ← hn, ← hg,hb,ho]
  by_cases h1:m=n <;> by_cases h2:r%pM%2=1 <;> simp [h1,h2]
 obtain ⟨x0,x1,x2,x3,fx⟩:=words_fv x hx
 have FX:=Lib.hid fx
 rw [fx] at cR ⊢
 rw [hS]
 clear fx hx hz2 hzs hzm hy1 hy2 hr hm hn hg hrl hml hnl ho hb hS
 go_enter Tryz.func290,Tryz.ntmps290
 go_wp2_with fail
 refine (cR _).mono ?_
 rintro e w10 ⟨rfl,hb⟩
 have B0_a:Blk w10 (w.heap.size) 71 _:=Gr.blk hb (Blk.eq_ ((Blk.new w _ _).alloc _) (fcs_words FX.out).symm)
 have l0_a:=B0_a.lt
 have B0_t2:Blk w10 (w.heap.size+1) 71 _:=Gr.blk hb (blk_new2 w _ _ _)
 have l0_t2:=B0_t2.lt
 have hB0:=Below.gr (below_alloc2 w _ _) hb
 have sz0:=hB0.size
 clear hb
 go_wp2_with (first | ((with_reducible refine here_store ?_); refine wpList_store_blk rfl _ _ _ rfl (w10.heap.size) (fcs (z2)) rfl rfl _ _ (((Blk.new w10 _ _).alloc _).alloc _) (by kernel_rfl) (by rfl) (fcs_one _) ?_; intro v11t4 hLt4 hqt4 hKt4; have Ct4_a:=hKt4 _ (by omega) _ _ ((((B0_a).alloc _).alloc _).alloc _); have Ct4_t2:=hKt4 _ (by omega) _ _ ((((B0_t2).alloc _).alloc _).alloc _); have Ct4_t5:=hKt4 _ (by omega) _ _ ((blk_new2 w10 _ _ _).alloc _); have Ct4_t6:=hKt4 _ (by omega) _ _ (blk_new3 w10 _ _ _ _); have hCt4:=((((hB0).alloc (by omega) _).alloc (by simp <;> omega) _).alloc (by simp <;> omega) _).trans (hqt4 _ (by omega))) | ((with_reducible refine here_store ?_); refine wpList_store_blk rfl _ _ _ rfl (w10.heap.size+1) (fcs (zs)) rfl rfl _ _ (Ct4_t5) (by kernel_rfl) (by rfl) (fcs_one _) ?_; intro v11t5 hLt5 hqt5 hKt5; have Ct5_a:=hKt5 _ (by omega) _ _ (Ct4_a); have Ct5_t2:=hKt5 _ (by omega) _ _ (Ct4_t2); have Ct5_t6:=hKt5 _ (by omega) _ _ (Ct4_t6); have Ct5_t4:=hKt5 _ (by omega) _ _ (hLt4); have hCt5:=(hCt4).trans (hqt5 _ (by omega))) | ((with_reducible refine here_store ?_); refine wpList_store_blk rfl _ _ _ rfl (w10.heap.size+2) (fcs (zm)) rfl rfl _ _ (Ct5_t6) (by kernel_rfl) (by rfl) (fcs_one _) ?_; intro v11t6 hLt6 hqt6 hKt6; have Ct6_a:=hKt6 _ (by omega) _ _ (Ct5_a); have Ct6_t2:=hKt6 _ (by omega) _ _ (Ct5_t2); have Ct6_t4:=hKt6 _ (by omega) _ _ (Ct5_t4); have Ct6_t5:=hKt6 _ (by omega) _ _ (hLt5); have hCt6:=(hCt5).trans (hqt6 _ (by omega))) | ((with_reducible refine here_load (d:=some 14) ?_); refine wpList_load_fv rfl _ _ rfl (w10.heap.size+2) rfl (zm) _ _ _ (hLt6) (fv_fcs (zm)) Tryz.underlying71 rfl (by kernel_rfl) ?_) | ((with_reducible refine here_load (d:=some 15) ?_); refine wpList_load_fv rfl _ _ rfl (w10.heap.size+1) rfl (zs) _ _ _ (Ct6_t5) (fv_fcs (zs)) Tryz.underlying71 rfl (by kernel_rfl) ?_))
 refine (c1 _).mono ?_
 rintro e w11 ⟨rfl,hb⟩
 have B1_a:Blk w11 (w.heap.size) 71 _:=Gr.blk hb (Ct6_a)
 have l1_a:=B1_a.lt
 have B1_t2:Blk w11 (w.heap.size+1) 71 _:=Gr.blk hb (Ct6_t2)
 have l1_t2:=B1_t2.lt
 have B1_t4:Blk w11 (w10.heap.size) 71 _:=Gr.blk hb (Ct6_t4)
 have l1_t4:=B1_t4.lt
 have B1_t5:Blk w11 (w10.heap.size+1) 71 _:=Gr.blk hb (Ct6_t5)
 have l1_t5:=B1_t5.lt
 have B1_t6:Blk w11 (w10.heap.size+2) 71 _:=Gr.blk hb (hLt6)
 have l1_t6:=B1_t6.lt
 have hB1:=Below.gr (hCt6) hb
 have sz1:=hB1.size
 clear hb
 go_wp2_with (first | ((with_reducible refine here_store ?_); refine wpList_store_blk rfl _ _ _ rfl (w11.heap.size) (fcs (y1)) rfl rfl _ _ (Blk.new w11 _ _) (by kernel_rfl) (by rfl) (fcs_one _) ?_; intro v12 hL2 hq2 hK2; have C2_a:=hK2 _ (by omega) _ _ ((B1_a).alloc _); have C2_t2:=hK2 _ (by omega) _ _ ((B1_t2).alloc _); have C2_t4:=hK2 _ (by omega) _ _ ((B1_t4).alloc _); have C2_t5:=hK2 _ (by omega) _ _ ((B1_t5).alloc _); have C2_t6:=hK2 _ (by omega) _ _ ((B1_t6).alloc _); have hC2:=(((hB1).alloc (by omega) _)).trans (hq2 _ (by omega))) | ((with_reducible refine here_load (d:=some 17) ?_); refine wpList_load_fv rfl _ _ rfl (w11.heap.size) rfl (y1) _ _ _ (hL2) (fv_fcs (y1)) Tryz.underlying71 rfl (by kernel_rfl) ?_) | ((with_reducible refine here_load (d:=some 18) ?_); refine wpList_load_fv rfl _ _ rfl (w10.heap.size) rfl (z2) _ _ _ (C2_t4) (fv_fcs (z2)) Tryz.underlying71 rfl (by kernel_rfl) ?_))
 refine (c2 _).mono ?_
 rintro e w12 ⟨rfl,hb⟩
 have B2_a:Blk w12 (w.heap.size) 71 _:=Gr.blk hb (C2_a)
 have l2_a:=B2_a.lt
 have B2_t2:Blk w12 (w.heap.size+1) 71 _:=Gr.blk hb (C2_t2)
 have l2_t2:=B2_t2.lt
 have B2_t4:Blk w12 (w10.heap.size) 71 _:=Gr.blk hb (C2_t4)
 have l2_t4:=B2_t4.lt
 have B2_t5:Blk w12 (w10.heap.size+1) 71 _:=Gr.blk hb (C2_t5)
 have l2_t5:=B2_t5.lt
 have B2_t6:Blk w12 (w10.heap.size+2) 71 _:=Gr.blk hb (C2_t6)
 have l2_t6:=B2_t6.lt
 have B2_t7:Blk w12 (w11.heap.size) 71 _:=Gr.blk hb (hL2)
 have l2_t7:=B2_t7.lt
 have hB2:=Below.gr (hC2) hb
 have sz2:=hB2.size
 clear hb
 go_wp2_with (first | ((with_reducible refine here_store ?_); refine wpList_store_blk rfl _ _ _ rfl (w11.heap.size) (fcs (y2)) rfl rfl _ _ (B2_t7) (by kernel_rfl) (by rfl) (fcs_one _) ?_; intro v13 hL3 hq3 hK3; have C3_a:=hK3 _ (by omega) _ _ (B2_a); have C3_t2:=hK3 _ (by omega) _ _ (B2_t2); have C3_t4:=hK3 _ (by omega) _ _ (B2_t4); have C3_t5:=hK3 _ (by omega) _ _ (B2_t5); have C3_t6:=hK3 _ (by omega) _ _ (B2_t6); have hC3:=(hB2).trans (hq3 _ (by omega))) | ((with_reducible refine here_load (d:=some 20) ?_); refine wpList_load_fv rfl _ _ rfl (w11.heap.size) rfl (y2) _ _ _ (hL3) (fv_fcs (y2)) Tryz.underlying71 rfl (by kernel_rfl) ?_))
 refine (c3 _).mono ?_
 rintro e w13 ⟨rfl,hb⟩
 have B3_a:Blk w13 (w.heap.size) 71 _:=Gr.blk hb (C3_a)
 have l3_a:=B3_a.lt
 have B3_t2:Blk w13 (w.heap.size+1) 71 _:=Gr.blk hb (C3_t2)
 have l3_t2:=B3_t2.lt
 have B3_t4:Blk w13 (w10.heap.size) 71 _:=Gr.blk hb (C3_t4)
 have l3_t4:=B3_t4.lt
 have B3_t5:Blk w13 (w10.heap.size+1) 71 _:=Gr.blk hb (C3_t5)
 have l3_t5:=B3_t5.lt
 have B3_t6:Blk w13 (w10.heap.size+2) 71 _:=Gr.blk hb (C3_t6)
 have l3_t6:=B3_t6.lt
 have B3_t7:Blk w13 (w11.heap.size) 71 _:=Gr.blk hb (hL3)
 have l3_t7:=B3_t7.lt
 have hB3:=Below.gr (hC3) hb
 have sz3:=hB3.size
 clear hb
 go_wp2_with (first | ((with_reducible refine here_store ?_); refine wpList_store_blk rfl _ _ _ rfl (w11.heap.size) (fcs (r)) rfl rfl _ _ (B3_t7) (by kernel_rfl) (by rfl) (fcs_one _) ?_; intro v14 hL4 hq4 hK4; have C4_a:=hK4 _ (by omega) _ _ (B3_a); have C4_t2:=hK4 _ (by omega) _ _ (B3_t2); have C4_t4:=hK4 _ (by omega) _ _ (B3_t4); have C4_t5:=hK4 _ (by omega) _ _ (B3_t5); have C4_t6:=hK4 _ (by omega) _ _ (B3_t6); have hC4:=(hB3).trans (hq4 _ (by omega))))
 refine wp_region_G (λ_=>false) (by kernel_rfl) ?_
 try simp only [Act.put]
 refine tkw 0 rfl (YieldsG.loadF (by rfl) _ _ rfl (w11.heap.size) rfl (r) _ _ (hL4) (fv_fcs _) Tryz.underlying71 rfl (by kernel_rfl)) ?_
 try simp only [Act.put,aA,aZ,aS]
 refine tkw 1 rfl (YieldsG.loadF (by rfl) _ _ rfl (w11.heap.size) rfl (r) _ _ (hL4) (fv_fcs _) Tryz.underlying71 rfl (by kernel_rfl)) ?_
 try simp only [Act.put,aA,aZ,aS]
 refine tkw 2 rfl (YieldsG.call (v:=fv m) (by rfl) 267 _ (λw9=>by go_simp; try (first | with_reducible rfl | rfl)) (λw9 h9=>cm w9)) ?_
 try simp only [Act.put,aA,aZ,aS]
 refine tkw 3 rfl (YieldsG.loadF (by rfl) _ _ rfl (w.heap.size) rfl (x) _ _ (C4_a) (fv_fcs _) Tryz.underlying71 rfl (by kernel_rfl)) ?_
 try simp only [Act.put,aA,aZ,aS]
 refine tkw 4 rfl (YieldsG.call (v:=fv n) (by rfl) 266 _ (λw9=>by go_simp; try (first | with_reducible rfl | rfl)) (λw9 h9=>cn w9)) ?_
 try simp only [Act.put,aA,aZ,aS]
 refine tkw 5 rfl (YieldsG.pure (v:=.bool b) (by rfl) (λw9 h9=>by go_simp; rw [run_eqGuard_fv]; simp only [Result.andThen_ok])) ?_
 try simp only [Act.put,aA,aZ,aS]
 refine wpAnyG_done (by kernel_rfl) (λu hu=>?_)
 have hbu:=Below.gr (hC4) hu
 have Et2:=Gr.blk hu C4_t2
 have lt2:=Et2.lt
 have Et7:=Gr.blk hu hL4
 have lt7:=Et7.lt
 clear eb cm cn c1 c2 c3 cR
 cases b
 ·skip
  go_wp2_with (first | ((with_reducible refine here_load (d:=some 29) ?_); refine wpList_load_fv rfl _ _ rfl (w11.heap.size) rfl (r) _ _ _ (Et7) (fv_fcs (r)) Tryz.underlying71 rfl (by kernel_rfl) ?_))
  refine (co _).mono ?_
  rintro e w30 ⟨rfl,hb⟩
  have B20_t2:Blk w30 (w.heap.size+1) 71 _:=Gr.blk hb (Et2)
  have l20_t2:=B20_t2.lt
  have B20_t7:Blk w30 (w11.heap.size) 71 _:=Gr.blk hb (Et7)
  have l20_t7:=B20_t7.lt
  have hB20:=Below.gr (hbu) hb
  have sz20:=hB20.size
  clear hb
  cases o
  ·skip
   go_wp2_with (first | ((with_reducible refine here_load (d:=some 33) ?_); refine wpList_load_fv rfl _ _ rfl (w11.heap.size) rfl (r) _ _ _ (B20_t7) (fv_fcs (r)) Tryz.underlying71 rfl (by kernel_rfl) ?_) | ((with_reducible refine here_store ?_); refine wpList_store_blk rfl _ _ _ rfl (w.heap.size+1) (fcs (r)) rfl rfl _ _ (B20_t2) (by kernel_rfl) (by rfl) (fcs_one _) ?_; intro v31 hL21 hq21 hK21; have C21_t7:=hK21 _ (by omega) _ _ (B20_t7); have hC21:=(hB20).trans (hq21 _ (by omega))))
   exact bodyPost_ret (res_cell_tmp rfl _ _ (w.heap.size+1) _ _ _ _ rfl hL21 rfl Tryz.underlying71 rfl (by kernel_rfl)) rfl ⟨rfl,hC21⟩
  ·skip
   go_wp2_with (first | ((with_reducible refine here_load (d:=some 31) ?_); refine wpList_load_fv rfl _ _ rfl (w11.heap.size) rfl (r) _ _ _ (B20_t7) (fv_fcs (r)) Tryz.underlying71 rfl (by kernel_rfl) ?_))
   refine (cg _).mono ?_
   rintro e w31 ⟨rfl,hb⟩
   have B21_t2:Blk w31 (w.heap.size+1) 71 _:=Gr.blk hb (B20_t2)
   have l21_t2:=B21_t2.lt
   have B21_t7:Blk w31 (w11.heap.size) 71 _:=Gr.blk hb (B20_t7)
   have l21_t7:=B21_t7.lt
   have hB21:=Below.gr (hB20) hb
   have sz21:=hB21.size
   clear hb
   go_wp2_with (first | ((with_reducible refine here_store ?_); refine wpList_store_blk rfl _ _ _ rfl (w11.heap.size) (fcs (g)) rfl rfl _ _ (B21_t7) (by kernel_rfl) (by rfl) (fcs_one _) ?_; intro v32 hL22 hq22 hK22; have C22_t2:=hK22 _ (by omega) _ _ (B21_t2); have hC22:=(hB21).trans (hq22 _ (by omega))) | ((with_reducible refine here_load (d:=some 33) ?_); refine wpList_load_fv rfl _ _ rfl (w11.heap.size) rfl (g) _ _ _ (hL22) (fv_fcs (g)) Tryz.underlying71 rfl (by kernel_rfl) ?_) | ((with_reducible refine here_store ?_); refine wpList_store_blk rfl _ _ _ rfl (w.heap.size+1) (fcs (g)) rfl rfl _ _ (C22_t2) (by kernel_rfl) (by rfl) (fcs_one _) ?_; intro vz hLz hqz hKz))
   exact bodyPost_ret (res_cell_tmp rfl _ _ (w.heap.size+1) _ _ _ _ rfl hLz rfl Tryz.underlying71 rfl (by kernel_rfl)) rfl ⟨rfl,(hC22).trans (hqz _ (by omega))⟩
 ·skip
  go_wp2_with (first | ((with_reducible refine here_store ?_); refine wpList_store_blk rfl _ _ _ rfl (w.heap.size+1) _ rfl rfl _ _ (Et2) (by kernel_rfl) (by rfl) (by simp [Value.oneCell']) ?_; intro vz hLz hqz hKz))
  exact bodyPost_ret (res_cell_tmp rfl _ _ (w.heap.size+1) _ _ _ _ rfl hLz rfl Tryz.underlying71 rfl (by kernel_rfl)) rfl ⟨rfl,hbu.trans (hqz _ (by omega))⟩
end
end
section
section
open Go.RowKit Go.Lib
end
end
section
namespace Cu
open Go.RowKit Sy
instance npM:NeZero pM:=⟨by unfold pM; decide⟩
abbrev Fp:=Fin pM
theorem pM_K4:pM<(2^256):=by rw [pM_eq]; decide
theorem lt4 (a:Fp):a.val<(2^256):=Nat.lt_trans a.isLt pM_K4
def nat (k:Nat) (h:k<pM):Fp:=⟨k,h⟩
theorem val_neg (a:Fp):negP a.val=(-a).val:=by
 have hb:=a.isLt
 show (pM - a.val%pM)%pM=(pM - a.val)%pM
 rw [Nat.mod_eq_of_lt hb]
theorem mul_c (a b:Fp) (w:World):Calls Tryz.prog 267 #[fv a.val,fv b.val] w (Gets w (fv (a*b).val)):=mulF_any w a.val b.val (lt4 a) (lt4 b)
theorem add_c (a b:Fp) (w:World):Calls Tryz.prog 299 #[fv a.val,fv b.val] w (Gets w (fv (a+b).val)):=addF_any w a.val b.val (lt4 a) (lt4 b)
theorem neg_c (a:Fp) (w:World):Calls Tryz.prog 291 #[fv a.val] w (Gets w (fv (-a).val)):=by rw [← val_neg]; exact negF_any w a.val (lt4 a)
theorem of_c (k:Nat) (h:k<pM) (hk:k<18446744073709551616) (w:World):Calls Tryz.prog 300 #[.int .u64 (k:Int)] w (Gets w (fv (nat k h).val)):=of_any w k hk
theorem cube_one (p q r x:Nat) (hp:Nt.Pr p) (hq:p - 1=3*q) (h3:x ^ 3%p=r) (hx:x%p≠0):r ^ q%p=1:=by
 have:=Nt.flt hp x hx
 rw [hq,Nat.pow_mul,Nat.pow_mod,h3] at this
 exact this
def thirdP:Nat:=38597363079105398474523661669562635951089994888546854679819194669302944890554
theorem thirdP_is:pM - 1=3*thirdP:=by decide +kernel
theorem no_cube:(pM - 7) ^ thirdP%pM≠1:=by
 rw [← Nt.pow_is 256 pM (pM - 7) thirdP (by decide +kernel) (by decide +kernel)]
 decide +kernel
theorem no_two (x y:Fp) (h:y*y=x*x*x+7):y≠0:=by
 rintro rfl
 have hx:x≠0:=by
  rintro rfl
  have:=congrArg Fin.val h
  exact absurd this (by decide +kernel)
 have ha:x.val%pM≠0:=by
  rw [Nat.mod_eq_of_lt x.isLt]
  exact λe=>hx (Fin.ext e)
 have h3:x.val ^ 3%pM=pM - 7:=by
  have h4:x*x*x=⟨pM - 7,by decide +kernel⟩:=by
   have e7:(⟨pM - 7,by decide +kernel⟩:Fp) = -7:=by decide +kernel
   rw [e7]
   clear ha hx
   grobner
  have h5:=congrArg Fin.val h4
  have h6:(x*x*x).val=x.val ^ 3%pM:=by
   show x.val*x.val%pM*x.val%pM=x.val ^ 3%pM
   rw [Nat.mod_mul_mod,show x.val ^ 3=x.val*x.val*x.val by rw [Nat.pow_succ,Nat.pow_succ,Nat.pow_one]]
  rw [← h6,h5]
 exact no_cube (cube_one pM thirdP _ x.val Nt.pr_p thirdP_is h3 ha)
end Cu
end
section
namespace Nm
open Go.RowKit Go.Lib
end Nm
end
section
namespace Cu
open Go.RowKit Sy
abbrev Pt:=Ec.Pt pM
abbrev K4:Nat:=(2^256)
def fws (n:Nat):List Value:=[qv (n%18446744073709551616),qv (n / 18446744073709551616%18446744073709551616),qv (n / 340282366920938463463374607431768211456%18446744073709551616),qv (n / 6277101735386680763835789423207666416102355444464034512896%18446744073709551616)]
theorem fv_fws (n:Nat):fv n=.agg (fws n).toArray:=rfl
def pcs (x y:Nat) (i:Bool):Array Value:=(fws x++(fws y++[Value.bool i])).toArray
def pv (x y:Nat) (i:Bool):Value:=.agg (pcs x y i)
def rightB (x y:Nat) (i:Bool):Bool:=if i then (decide (x=0) && decide (y=0)) else decide (x<pM) && decide (y<pM) && decide (y*y%pM=(x*x%pM*x%pM+7)%pM)
def dec (x y:Nat) (i:Bool):Pt:=if h:i=false∧x<pM∧y<pM∧y*y%pM=(x*x%pM*x%pM+7)%pM then some (⟨x,h.2.1⟩,⟨y,h.2.2.1⟩) else none
def ptv:Pt→Value
 | none=>pv 0 0 true
 | some (x,y)=>pv x.val y.val false
theorem dec_fin (x y:Fp) (h:y*y=x*x*x+7):dec x.val y.val false=some (x,y):=by
 unfold dec
 rw [dif_pos ⟨rfl,x.isLt,y.isLt,congrArg Fin.val h⟩]
theorem dec_inf (x y:Nat):dec x y true=none:=by
 unfold dec
 rw [dif_neg (by simp)]
theorem dec_zero:dec 0 0 true=none:=dec_inf 0 0
theorem dec_right (x y:Nat) (h:rightB x y false=true):∃ (hx:x<pM) (hy:y<pM),dec x y false=some (⟨x,hx⟩,⟨y,hy⟩):=by
 unfold rightB at h
 simp only [Bool.false_eq_true,if_false,Bool.and_eq_true,decide_eq_true_eq] at h
 refine ⟨h.1.1,h.1.2,?_⟩
 unfold dec
 rw [dif_pos ⟨rfl,h.1.1,h.1.2,h.2⟩]
theorem dec_wrong (x y:Nat) (i:Bool) (h:rightB x y i=false):dec x y i=none:=by
 unfold rightB at h
 unfold dec
 rw [dif_neg]
 rintro ⟨rfl,h1,h2,h3⟩
 simp [h1,h2,h3] at h
theorem ptv_right (x y:Nat) (i:Bool) (h:rightB x y i=true):ptv (dec x y i)=pv x y i:=by
 cases i
 ·obtain ⟨hx,hy,e⟩:=dec_right x y h
  rw [e]; rfl
 ·unfold rightB at h
  simp only [if_true,Bool.and_eq_true,decide_eq_true_eq] at h
  rw [dec_inf,h.1,h.2]; rfl
theorem ptv_wrong (x y:Nat) (i:Bool) (h:rightB x y i=false):ptv (dec x y i)=pv 0 0 true:=by rw [dec_wrong x y i h]; rfl
theorem ptv_raw (P:Pt) (h:Ec.On P):∃ x y i,x<K4∧y<K4∧ptv P=pv x y i∧dec x y i=P∧rightB x y i=true:=by
 rcases P with _ | ⟨x,y⟩
 ·exact ⟨0,0,true,by decide,by decide,rfl,dec_zero,rfl⟩
 ·refine ⟨x.val,y.val,false,lt4 x,lt4 y,rfl,dec_fin x y h,?_⟩
  unfold rightB
  rw [if_neg (by simp)]
  simp only [Bool.and_eq_true,decide_eq_true_eq]
  exact ⟨⟨x.isLt,y.isLt⟩,congrArg Fin.val h⟩
theorem part_fe (cs:Array Value) (o:Nat) (W:World):(part 71 cs o).run Tryz.prog W=.ok (.agg (cs.extract o (o+4))) W:=by
 have h1:=Tryz.isAgg71
 have h2:=Tryz.sizeOf71
 simp [part,h1,h2,go_sem]
theorem part_bool (cs:Array Value) (o:Nat) (b:Bool) (hb:cs[o]? = some (.bool b)) (W:World):(part 4 cs o).run Tryz.prog W=.ok (.bool b) W:=by
 have h1:=Tryz.isAgg4
 simp [part,h1,hb,go_sem]
theorem pcs_x (x y:Nat) (i:Bool):(pcs x y i).extract 0 (0+4)=fcs x:=rfl
theorem pcs_y (x y:Nat) (i:Bool):(pcs x y i).extract 4 (4+4)=fcs y:=rfl
theorem pcs_i (x y:Nat) (i:Bool):(pcs x y i)[8]? = some (.bool i):=rfl
theorem eql_fe_at (W:World) (n m:Nat) (hn:n<K4) (hm:m<K4):(Op.equalIn 9999 71 (.agg (fcs n)) (.agg (fcs m))).run Tryz.prog W=.ok (decide (n=m)) W:=by
 have h:=run_equalIn_words W 9997 71 22 4 Tryz.underlying71 Tryz.underlying22 (λW=>by kernel_rfl) (wl n) (wl m) rfl rfl
 rw [wl_beq hn hm] at h
 exact h
theorem eql_bool_at (W:World) (a b:Bool):(Op.equalIn 9999 4 (.bool a) (.bool b)).run Tryz.prog W=.ok (a == b) W:=by
 cases a <;> cases b <;> kernel_rfl
def sameB (x y:Nat) (i:Bool) (u v:Nat) (j:Bool):Bool:=decide (x=u) && (decide (y=v) && (i == j))
theorem run_eql_pv (W:World) (x y:Nat) (i:Bool) (u v:Nat) (j:Bool) (hx:x<K4) (hy:y<K4) (hu:u<K4) (hv:v<K4) :
  (binOp .eql 73 (pv x y i) (pv u v j)).run Tryz.prog W=.ok (.bool (sameB x y i u v j)) W:=by
 have hS:Tryz.prog.underlying 73=some (.struct (Tryz.prog.fieldsOf 73)):=by kernel_rfl
 have hpp:Tryz.prog.stoodInHeld 73=false:=by kernel_rfl
 unfold pv
 rw [run_eql_struct,show (10000:Nat)=9999+1 from rfl,run_equalIn_struct W 9999 73 _ _ hS hpp]
 simp only [Program.fieldsOf,Tryz.underlying73]
 have a1:∀ W,(part 71 (pcs x y i) 0).run Tryz.prog W=.ok (.agg (fcs x)) W:=λW=>by rw [part_fe,pcs_x]
 have a2:∀ W,(part 71 (pcs u v j) 0).run Tryz.prog W=.ok (.agg (fcs u)) W:=λW=>by rw [part_fe,pcs_x]
 have a3:∀ W,(part 71 (pcs x y i) 4).run Tryz.prog W=.ok (.agg (fcs y)) W:=λW=>by rw [part_fe,pcs_y]
 have a4:∀ W,(part 71 (pcs u v j) 4).run Tryz.prog W=.ok (.agg (fcs v)) W:=λW=>by rw [part_fe,pcs_y]
 have a5:∀ W,(part 4 (pcs x y i) 8).run Tryz.prog W=.ok (.bool i) W:=λW=>part_bool _ 8 i (pcs_i x y i) W
 have a6:∀ W,(part 4 (pcs u v j) 8).run Tryz.prog W=.ok (.bool j) W:=λW=>part_bool _ 8 j (pcs_i u v j) W
 have e1:∀ W,_:=λW=>eql_fe_at W x u hx hu
 have e2:∀ W,_:=λW=>eql_fe_at W y v hy hv
 have e3:∀ W,_:=λW=>eql_bool_at W i j
 unfold sameB
 generalize decide (x=u)=b1 at *
 generalize decide (y=v)=b2 at *
 generalize (i == j)=b3 at *
 cases b1 <;> cases b2 <;> cases b3 <;> simp [Op.eqFields,a1,a2,a3,a4,a5,a6,e1,e2,e3,Sem.run_bind,Sem.run_ite]
theorem run_eqGuard_pv (op:BinOp) (x y:Operand) (a b:Nat) (i:Bool) (u v:Nat) (j:Bool) (W:World):(eqGuard op 73 x y (pv a b i) (pv u v j)).run Tryz.prog W=.ok () W:=by
 unfold pv
 go_simp
end Cu
end
section
namespace Cu
open Go.RowKit
theorem lK {n:Nat} (h:n<K4:=by first | assumption | exact lt4 _ | decide +kernel):n<K4:=h
end Cu
end
section
namespace Cu
open Go.RowKit Sy
set_option maxRecDepth 100000
set_option maxHeartbeats 4000000
theorem eql_fe (w:World) (F:Slots) (o:Oper) (x y:Operand) (n m:Nat) {yt:TypeId} (ho:o.op=.binOp .eql 71 x y yt) (hx:evF F x=fv n) (hy:evF F y=fv m) (hn:n<K4) (hm:m<K4):(execOp (evF F) o).run Tryz.prog w=.ok (.value (.bool (decide (n=m)))) w:=by
 have h1:=run_eqGuard_fv .eql x y n m w
 have h2:=run_eql_fv w n m hn hm
 unfold execOp
 simp only [ho,hx,hy,Sem.run_bind,h1,h2,Result.andThen_ok,Sem.run_pure]
theorem eql_pt (w:World) (F:Slots) (o:Oper) (x y:Operand) (a b:Nat) (i:Bool) (c d:Nat) (j:Bool) {yt:TypeId} (ho:o.op=.binOp .eql 73 x y yt) (hx:evF F x=pv a b i) (hy:evF F y=pv c d j) (ha:a<K4) (hb:b<K4) (hc:c<K4) (hd:d<K4):(execOp (evF F) o).run Tryz.prog w=.ok (.value (.bool (sameB a b i c d j))) w:=by
 have h1:=run_eqGuard_pv .eql x y a b i c d j w
 have h2:=run_eql_pv w a b i c d j ha hb hc hd
 unfold execOp
 simp only [ho,hx,hy,Sem.run_bind,h1,h2,Result.andThen_ok,Sem.run_pure]
theorem zero_c (w:World)  : Calls Tryz.prog 225 #[] w (Gets w (pv 0 0 true)):=by
 refine Sy.enter (args:=[]) Tryz.func225 rfl kL ?_
 refine sC ?_
 refine sM 73 (pcs 0 0 false) (λg0=>?_)
 refine sA ?_
 refine sP (pv 0 0 true)<|sW 0 g0 73 (pcs 0 0 false) (pcs 0 0 true) (wS 0 73 (pcs 0 0 true) rfl) ?_
 refine sG<|Sy.ret ?_
 exact rC (v:=pv 0 0 true) 73 g0 0 (pcs 0 0 true) rfl Tryz.underlying73
theorem square_c (w:World) (x:Fp):Calls Tryz.prog 268 #[fv x.val] w (Gets w (fv (x*x*x+7).val)):=by
 refine Sy.enter (args:=[fv x.val]) Tryz.func268 rfl kL ?_
 refine sC ?_
 refine sM 71 (fcs x.val) (λg0=>?_)
 refine sM 71 (fcs 0) (λg1=>?_)
 refine sH (λj=>j == 7) ?_
 refine sD 0 rfl (fv x.val) (qL 0 g0 0 4 71 71 (fcs x.val) rfl Tryz.underlying71)<|sD 1 rfl (fv x.val) (qL 0 g0 0 4 71 71 (fcs x.val) rfl Tryz.underlying71) ?_
 obtain ⟨z1,hz1⟩:∃ z:Fp,z=x*x:=⟨_,rfl⟩
 refine sD 2 rfl (fv z1.val) (qF 267 #[fv x.val,fv x.val] (by rw [hz1]; exact mul_c x x))<|sD 3 rfl (fv x.val) (qL 0 g0 0 4 71 71 (fcs x.val) rfl Tryz.underlying71) ?_
 obtain ⟨z2,hz2⟩:∃ z:Fp,z=z1*x:=⟨_,rfl⟩
 refine sD 4 rfl (fv z2.val) (qF 267 #[fv z1.val,fv x.val] (by rw [hz2]; exact mul_c z1 x)) ?_
 obtain ⟨z3,hz3⟩:∃ z:Fp,z=(nat 7 (by decide +kernel):Fp):=⟨_,rfl⟩
 refine sD 5 rfl (fv z3.val) (qF 300 #[.int .u64 7] (by rw [hz3]; exact of_c 7 (by decide +kernel) (by decide))) ?_
 obtain ⟨z4,hz4⟩:∃ z:Fp,z=z2+z3:=⟨_,rfl⟩
 refine sD 6 rfl (fv z4.val) (qF 299 #[fv z2.val,fv z3.val] (by rw [hz4]; exact add_c z2 z3))<|sX 7 rfl 1 g1 71 (fcs 0) (fcs z4.val) (wS 0 71 (fcs z4.val) rfl) ?_
 refine sI ?_
 refine Sy.ret ?_
 rw [show (fv (x*x*x+7).val:Value)=fv z4.val from by rw [hz4,hz3,hz2,hz1]; rfl]
 exact rC (v:=fv z4.val) 71 g1 1 (fcs z4.val) rfl Tryz.underlying71
theorem rightB_inf (x y:Nat):sameB x y true 0 0 true=rightB x y true:=by
 unfold sameB rightB
 simp
theorem fp_of {x z:Nat} (h1:z=x%pM) (h2:true=decide (z=x)):∃ u:Fp,x=u.val:=by
 have h3:z=x:=of_decide_eq_true h2.symm
 exact ⟨⟨x,by rw [← h3,h1]; exact mod_lt_p x⟩,rfl⟩
theorem not_fp {x z:Nat} (h1:z=x%pM) (h2:false=decide (z=x)):¬ x<pM:=λh=>by
 rw [h1,Nat.mod_eq_of_lt h] at h2
 simp at h2
theorem rb_x {x:Nat} (h:¬ x<pM) (y:Nat):rightB x y false=false:=by unfold rightB; simp [h]
theorem rb_y {y:Nat} (h:¬ y<pM) (x:Nat):rightB x y false=false:=by unfold rightB; simp [h]
theorem rb_xy (x y:Fp):rightB x.val y.val false=decide ((y*y).val=(x*x*x+7).val):=by
 unfold rightB
 simp only [Bool.false_eq_true,if_false,x.isLt,y.isLt,decide_true,Bool.true_and]
 rfl
theorem right_b (w:World) (x y:Nat) (i:Bool) (hx:x<K4) (hy:y<K4):Calls Tryz.prog 224 #[pv x y i] w (Gets w (.bool (rightB x y i))):=by
 refine Sy.enter (args:=[pv x y i]) Tryz.func224 rfl kL ?_
 refine sC ?_
 refine sM 73 (pcs x y i) (λg0=>?_)
 refine sP (.bool false) ?_
 refine sG<|Sy.seq<|sC ?_
 refine sP (.pointer (some ⟨g0,8,none⟩))<|sS (.bool i) (qC 0 g0 8 73 4 (pcs x y i) rfl Tryz.underlying4) ?_
 refine sG ?_
 cases i
 ·refine sU<|Sy.skip ?_
  refine sR (λj=>false) ?_
  refine sZ 0 rfl (.pointer (some ⟨g0,0,none⟩))<|sD 1 rfl (fv x) (qL 0 g0 0 4 73 71 (pcs x y false) rfl Tryz.underlying71) ?_
  obtain ⟨z1,hz1⟩:∃ z:Nat,z=x%pM:=⟨_,rfl⟩
  have lz1:z1<K4:=by rw [hz1]; exact mod_lt x
  refine sD 2 rfl (fv z1) (qF 266 #[fv x] (λw=>by rw [hz1]; exact norm_any w x (by first | assumption | exact lt4 _)))<|sZ 3 rfl (.pointer (some ⟨g0,0,none⟩))<|sD 4 rfl (fv x) (qL 0 g0 0 4 73 71 (pcs x y false) rfl Tryz.underlying71) ?_
  obtain ⟨b1,hb1⟩:∃ z:Bool,z=decide (z1=x):=⟨_,rfl⟩
  refine sD 5 rfl (.bool b1) (Quiet.pure (λw=>by rw [hb1]; exact eql_fe w _ _ _ _ _ _ rfl rfl rfl lK lK))<|sZ 6 rfl (.bool b1) ?_
  cases b1
  ·refine sQ 7 rfl<|sQ 8 rfl<|sQ 9 rfl<|sQ 10 rfl<|sQ 11 rfl<|sQ 12 rfl<|sZ 13 rfl (.bool false)<|sZ 14 rfl (.bool false) ?_
   refine sE ?_
   refine sR (λj=>false) ?_
   refine sZ 0 rfl (.bool false)<|sZ 1 rfl (.bool false)<|sQ 2 rfl<|sQ 3 rfl<|sQ 4 rfl<|sQ 5 rfl<|sQ 6 rfl<|sQ 7 rfl ?_
   refine sQ 8 rfl<|sQ 9 rfl<|sQ 10 rfl<|sZ 11 rfl (.bool false)<|sZ 12 rfl (.bool false) ?_
   refine sI ?_
   refine Sy.ret ?_
   rw [show (.bool (rightB x y false):Value)=.bool false from by rw [rb_x (not_fp hz1 hb1)]]
   exact rV (.bool false) rfl
  ·obtain ⟨ux,rfl⟩:=fp_of hz1 hb1
   refine sZ 7 rfl (.pointer (some ⟨g0,4,none⟩))<|sD 8 rfl (fv y) (qL 0 g0 4 4 73 71 (pcs ux.val y false) rfl Tryz.underlying71) ?_
   obtain ⟨z2,hz2⟩:∃ z:Nat,z=y%pM:=⟨_,rfl⟩
   have lz2:z2<K4:=by rw [hz2]; exact mod_lt y
   refine sD 9 rfl (fv z2) (qF 266 #[fv y] (λw=>by rw [hz2]; exact norm_any w y (by first | assumption | exact lt4 _)))<|sZ 10 rfl (.pointer (some ⟨g0,4,none⟩))<|sD 11 rfl (fv y) (qL 0 g0 4 4 73 71 (pcs ux.val y false) rfl Tryz.underlying71) ?_
   obtain ⟨b2,hb2⟩:∃ z:Bool,z=decide (z2=y):=⟨_,rfl⟩
   refine sD 12 rfl (.bool b2) (Quiet.pure (λw=>by rw [hb2]; exact eql_fe w _ _ _ _ _ _ rfl rfl rfl lK lK))<|sZ 13 rfl (.bool b2)<|sZ 14 rfl (.bool b2) ?_
   refine sE ?_
   refine sR (λj=>false) ?_
   refine sZ 0 rfl (.bool b2)<|sZ 1 rfl (.bool b2) ?_
   cases b2
   ·refine sQ 2 rfl<|sQ 3 rfl<|sQ 4 rfl<|sQ 5 rfl<|sQ 6 rfl<|sQ 7 rfl<|sQ 8 rfl<|sQ 9 rfl ?_
    refine sQ 10 rfl<|sZ 11 rfl (.bool false)<|sZ 12 rfl (.bool false) ?_
    refine sI ?_
    refine Sy.ret ?_
    rw [show (.bool (rightB ux.val y false):Value)=.bool false from by rw [rb_y (not_fp hz2 hb2)]]
    exact rV (.bool false) rfl
   ·obtain ⟨uy,rfl⟩:=fp_of hz2 hb2
    refine sZ 2 rfl (.pointer (some ⟨g0,4,none⟩))<|sD 3 rfl (fv uy.val) (qL 0 g0 4 4 73 71 (pcs ux.val uy.val false) rfl Tryz.underlying71)<|sZ 4 rfl (.pointer (some ⟨g0,4,none⟩))<|sD 5 rfl (fv uy.val) (qL 0 g0 4 4 73 71 (pcs ux.val uy.val false) rfl Tryz.underlying71) ?_
    obtain ⟨z3,hz3⟩:∃ z:Fp,z=uy*uy:=⟨_,rfl⟩
    refine sD 6 rfl (fv z3.val) (qF 267 #[fv uy.val,fv uy.val] (by rw [hz3]; exact mul_c uy uy))<|sZ 7 rfl (.pointer (some ⟨g0,0,none⟩))<|sD 8 rfl (fv ux.val) (qL 0 g0 0 4 73 71 (pcs ux.val uy.val false) rfl Tryz.underlying71) ?_
    obtain ⟨z4,hz4⟩:∃ z:Fp,z=ux*ux*ux+7:=⟨_,rfl⟩
    refine sD 9 rfl (fv z4.val) (qF 268 #[fv ux.val] (by rw [hz4]; exact λw=>square_c w ux)) ?_
    obtain ⟨b3,hb3⟩:∃ z:Bool,z=decide (z3.val=z4.val):=⟨_,rfl⟩
    refine sD 10 rfl (.bool b3) (Quiet.pure (λw=>by rw [hb3]; exact eql_fe w _ _ _ _ _ _ rfl rfl rfl lK lK))<|sZ 11 rfl (.bool b3)<|sZ 12 rfl (.bool b3) ?_
    refine sI ?_
    refine Sy.ret ?_
    rw [show (.bool (rightB ux.val uy.val false):Value)=.bool b3 from by rw [hb3,rb_xy]; simp only [hz3,hz4]]
    exact rV (.bool b3) rfl
 ·refine sT<|Sy.seq ?_
  refine Sy.regionD (λj=>false) kR ?_
  refine sD 0 rfl (pv x y true) (qL 0 g0 0 9 73 73 (pcs x y true) rfl Tryz.underlying73)<|sD 1 rfl (pv 0 0 true) (qF 225 #[] (zero_c)) ?_
  obtain ⟨b4,hb4⟩:∃ z:Bool,z=sameB x y true 0 0 true:=⟨_,rfl⟩
  refine sD 2 rfl (.bool b4) (Quiet.pure (λw=>by rw [hb4]; exact eql_pt w _ _ _ _ _ _ _ _ _ _ rfl rfl rfl lK lK lK lK))<|sZ 3 rfl (.bool b4) ?_
  refine sI ?_
  refine Sy.ret<|Sy.then_ret ?_
  rw [show (.bool (rightB x y true):Value)=.bool b4 from by rw [hb4,rightB_inf]]
  exact rV (.bool b4) rfl
theorem right_c (w:World) (x y:Nat) (i:Bool) (hx:x<K4) (hy:y<K4):Calls Tryz.prog 261 #[pv x y i] w (Gets w (ptv (dec x y i))):=by
 refine Sy.enter (args:=[pv x y i]) Tryz.func261 rfl kL ?_
 refine sC ?_
 refine sM 73 (pcs x y i) (λg0=>?_)
 refine sM 73 (pcs 0 0 false) (λg1=>?_)
 refine sG<|Sy.seq<|sC ?_
 refine sS (pv x y i) (qL 0 g0 0 9 73 73 (pcs x y i) rfl Tryz.underlying73) ?_
 obtain ⟨b1,hb1⟩:∃ z:Bool,z=rightB x y i:=⟨_,rfl⟩
 refine sS (.bool b1) (qF 224 #[pv x y i] (by rw [hb1]; exact λw=>right_b w x y i lK lK)) ?_
 cases b1
 ·refine sP (.bool true) ?_
  refine sG<|sT<|sC ?_
  refine sS (pv 0 0 true) (qF 225 #[] (zero_c))<|sW 1 g1 73 (pcs 0 0 false) (pcs 0 0 true) (wS 0 73 (pcs 0 0 true) rfl) ?_
  refine sG<|Sy.ret<|Sy.then_ret ?_
  rw [show (ptv (dec x y i):Value)=pv 0 0 true from ptv_wrong x y i hb1.symm]
  exact rC (v:=pv 0 0 true) 73 g1 1 (pcs 0 0 true) rfl Tryz.underlying73
 ·refine sP (.bool false) ?_
  refine sG<|sU<|Sy.skip<|sB ?_
  refine sS (pv x y i) (qL 0 g0 0 9 73 73 (pcs x y i) rfl Tryz.underlying73)<|sW 1 g1 73 (pcs 0 0 false) (pcs x y i) (wS 0 73 (pcs x y i) rfl) ?_
  refine sG<|Sy.ret ?_
  rw [show (ptv (dec x y i):Value)=pv x y i from ptv_right x y i hb1.symm]
  exact rC (v:=pv x y i) 73 g1 1 (pcs x y i) rfl Tryz.underlying73
end Cu
end
section
namespace Cu
open Go.RowKit Sy
set_option maxRecDepth 100000
set_option maxHeartbeats 4000000
theorem eql_pt_ne (w:World) (F:Slots) (o:Oper) (x y:Operand) (a b:Nat) (i:Bool) (c d:Nat) (j:Bool) {yt:TypeId} (ho:o.op=.binOp .eql 73 x y yt) (hx:evF F x=pv a b i) (hy:evF F y=pv c d j) (ha:a<K4) (hb:b<K4) (hc:c<K4) (hd:d<K4) (hij:i≠j):(execOp (evF F) o).run Tryz.prog w=.ok (.value (.bool false)) w:=by
 have h:=eql_pt w F o x y a b i c d j ho hx hy ha hb hc hd
 have e:sameB a b i c d j=false:=by
  unfold sameB
  simp [hij]
 rwa [e] at h
theorem neg_none (w:World) (x y:Nat) (i:Bool) (hx:x<K4) (hy:y<K4) (h:dec x y i=none):Calls Tryz.prog 265 #[pv x y i] w (Gets w (ptv (Ec.neg none))):=by
 refine Sy.enter (args:=[pv x y i]) Tryz.func265 rfl kL ?_
 refine sC ?_
 refine sM 73 (pcs x y i) (λg0=>?_)
 refine sM 73 (pcs 0 0 false) (λg1=>?_)
 refine sA ?_
 refine sS (pv x y i) (qL 0 g0 0 9 73 73 (pcs x y i) rfl Tryz.underlying73)<|sS (pv 0 0 true) (qF 261 #[pv x y i] (λw=>by have hrr:=right_c w x y i lK lK; rw [h] at hrr; exact hrr))<|sW 0 g0 73 (pcs x y i) (pcs 0 0 true) (wS 0 73 (pcs 0 0 true) rfl) ?_
 refine sA ?_
 refine sP (.pointer (some ⟨g0,4,none⟩))<|sS (fv 0) (qL 0 g0 4 4 73 71 (pcs 0 0 true) rfl Tryz.underlying71) ?_
 obtain ⟨z1,hz1⟩:∃ z:Fp,z = -(0:Fp):=⟨_,rfl⟩
 refine sS (fv z1.val) (qF 291 #[fv 0] (by rw [hz1]; exact neg_c (0:Fp)))<|sP (.pointer (some ⟨g0,4,none⟩))<|sW 0 g0 73 (pcs 0 0 true) (pcs 0 z1.val true) (wS 4 71 (fcs z1.val) rfl) ?_
 refine sA ?_
 refine sS (pv 0 z1.val true) (qL 0 g0 0 9 73 73 (pcs 0 z1.val true) rfl Tryz.underlying73)<|sW 1 g1 73 (pcs 0 0 false) (pcs 0 z1.val true) (wS 0 73 (pcs 0 z1.val true) rfl) ?_
 refine sG<|Sy.ret ?_
 rw [show (ptv (Ec.neg none):Value)=pv 0 z1.val true from by rw [hz1]; kernel_rfl]
 exact rC (v:=pv 0 z1.val true) 73 g1 1 (pcs 0 z1.val true) rfl Tryz.underlying73
theorem neg_some (w:World) (x y:Nat) (i:Bool) (hx:x<K4) (hy:y<K4) (u v:Fp) (h:dec x y i=some (u,v)):Calls Tryz.prog 265 #[pv x y i] w (Gets w (ptv (Ec.neg (some (u,v))))):=by
 refine Sy.enter (args:=[pv x y i]) Tryz.func265 rfl kL ?_
 refine sC ?_
 refine sM 73 (pcs x y i) (λg0=>?_)
 refine sM 73 (pcs 0 0 false) (λg1=>?_)
 refine sA ?_
 refine sS (pv x y i) (qL 0 g0 0 9 73 73 (pcs x y i) rfl Tryz.underlying73)<|sS (pv u.val v.val false) (qF 261 #[pv x y i] (λw=>by have hrr:=right_c w x y i lK lK; rw [h] at hrr; exact hrr))<|sW 0 g0 73 (pcs x y i) (pcs u.val v.val false) (wS 0 73 (pcs u.val v.val false) rfl) ?_
 refine sA ?_
 refine sP (.pointer (some ⟨g0,4,none⟩))<|sS (fv v.val) (qL 0 g0 4 4 73 71 (pcs u.val v.val false) rfl Tryz.underlying71) ?_
 obtain ⟨z1,hz1⟩:∃ z:Fp,z = -v:=⟨_,rfl⟩
 refine sS (fv z1.val) (qF 291 #[fv v.val] (by rw [hz1]; exact neg_c v))<|sP (.pointer (some ⟨g0,4,none⟩))<|sW 0 g0 73 (pcs u.val v.val false) (pcs u.val z1.val false) (wS 4 71 (fcs z1.val) rfl) ?_
 refine sA ?_
 refine sS (pv u.val z1.val false) (qL 0 g0 0 9 73 73 (pcs u.val z1.val false) rfl Tryz.underlying73)<|sW 1 g1 73 (pcs 0 0 false) (pcs u.val z1.val false) (wS 0 73 (pcs u.val z1.val false) rfl) ?_
 refine sG<|Sy.ret ?_
 rw [show (ptv (Ec.neg (some (u,v))):Value)=pv u.val z1.val false from by rw [hz1]; rfl]
 exact rC (v:=pv u.val z1.val false) 73 g1 1 (pcs u.val z1.val false) rfl Tryz.underlying73
theorem neg_any (w:World) (x y:Nat) (i:Bool) (hx:x<K4) (hy:y<K4):Calls Tryz.prog 265 #[pv x y i] w (Gets w (ptv (Ec.neg (dec x y i)))):=by
 rcases h:dec x y i with _ | ⟨u,v⟩
 ·exact neg_none w x y i hx hy h
 ·exact neg_some w x y i hx hy u v h
end Cu
end
section
section
open Go.RowKit Go.Lib
end
end
section
section
open Go.RowKit Go.Lib
end
end
section
namespace Fz
open Go.RowKit Go.Lib Sy
end Fz
end
section
namespace Fz
open Go.RowKit Go.Lib Sy
end Fz
end
section
section
open Go.RowKit Go.Lib
end
end
section
section
open Go.RowKit Go.Lib
section
variable {P:Program} {ops:Array Oper}
end
end
end
section
namespace Fz
open Go.RowKit Go.Lib Sy
end Fz
end
section
section
open Go.RowKit Go.Lib
end
end
section
namespace Fz
open Go.RowKit Go.Lib Sy
end Fz
end
section
section
open Go.RowKit Go.Lib
end
end
section
section
open Go.RowKit Go.Lib
def byteN (z j:Nat):UInt8:=UInt8.ofNat (z / 2 ^ (8*j)%256)
def lowB (z:Nat):Nat→List UInt8
 | 0=>[]
 | k+1=>byteN z k::lowB z k
theorem lowB_length (z:Nat):∀ k,(lowB z k).length=k
 | 0=>rfl
 | k+1=>by rw [lowB,List.length_cons,lowB_length z k]
def bytesS (z:Nat):List UInt8:=lowB z 32
def partB (z k:Nat):List UInt8:=List.replicate (32 - k) 0++lowB z k
theorem partB_length (z k:Nat) (h:k≤32):(partB z k).length=32:=by simp [partB,lowB_length]; omega
theorem partB_full (z:Nat):partB z 32=bytesS z:=by simp [partB,bytesS]
theorem partB_set (z k:Nat) (h:k<32):((partB z k).map bv).toArray.setIfInBounds (31 - k) (bv (byteN z k))=((partB z (k+1)).map bv).toArray:=by
 rw [List.setIfInBounds_toArray]
 congr 1
 rw [← List.map_set]
 congr 1
 unfold partB
 rw [List.set_append_left _ _ (by simp; omega)]
 obtain ⟨m,hm⟩:∃ m,32 - k=m+1:=⟨31 - k,by omega⟩
 have h2:32 - (k+1)=m:=by omega
 have h3:31 - k=m:=by omega
 rw [hm,h2,h3,List.replicate_succ',List.set_append_right _ _ (by simp)]
 simp [lowB]
theorem bytesS_length (z:Nat):(bytesS z).length=32:=lowB_length z 32
theorem bv_byteN (z j:Nat):bv (byteN z j)=.int .u8 ((z / 2 ^ (8*j)%256:Nat):Int):=by
 unfold bv byteN
 congr 2
 rw [UInt8.toNat_ofNat']
 omega
theorem Blk.val {w:World} {a:Addr} {v v':Value} {g:Nat} {t:TypeId} {cs:Array Value} (h:Blk (w.setCell a v) g t cs) (e:v=v'):Blk (w.setCell a v') g t cs:=e ▸ h
theorem b32_info {l:List UInt8} (h:l.length=32):(Tryz.prog.info? 27).map (·.size)=some (l.map bv).toArray.size:=by
 simp only [List.size_toArray,List.length_map,h]
 kernel_rfl
theorem b32_one (l:List UInt8):(l.map bv).toArray.all (·.oneCell')=true:=by simp [bv,Value.oneCell']
def valB (l:List UInt8):Nat:=l.foldl (λa b=>a*256+b.toNat) 0
theorem valB_snoc (l:List UInt8) (c:UInt8):valB (l++[c])=valB l*256+c.toNat:=by simp [valB,List.foldl_append]
theorem valB_lt:∀ (n:Nat) (l:List UInt8),l.length=n→valB l<256 ^ n
 | 0,l,h=>by
  obtain rfl:l=[]:=List.length_eq_zero_iff.1 h
  simp [valB]
 | n+1,l,h=>by
  have hne:l≠[]:=by intro e; rw [e] at h; cases h
  have e:=List.dropLast_concat_getLast hne
  have ih:=valB_lt n l.dropLast (by rw [List.length_dropLast]; omega)
  rw [← e,valB_snoc,Nat.pow_succ]
  have:=(l.getLast hne).toNat_lt
  omega
theorem valB_append (l:List UInt8):∀ (n:Nat) (m:List UInt8),m.length=n→valB (l++m)=valB l*256 ^ n+valB m
 | 0,m,h=>by
  obtain rfl:m=[]:=List.length_eq_zero_iff.1 h
  simp [valB]
 | n+1,m,h=>by
  have hne:m≠[]:=by intro e; rw [e] at h; cases h
  have e:=List.dropLast_concat_getLast hne
  have ih:=valB_append l n m.dropLast (by rw [List.length_dropLast]; omega)
  rw [← e, ← List.append_assoc,valB_snoc,valB_snoc,ih,Nat.pow_succ,Nat.add_mul,Nat.mul_assoc]
  omega
def wdB (l:List UInt8) (k p:Nat):Nat:=valB ((l.drop (8*p)).take (min 8 (k - 8*p)))
theorem wdB_zero (l:List UInt8) (p:Nat):wdB l 0 p=0:=by simp [wdB,valB]
theorem wdB_step (l:List UInt8) (k p:Nat) (c:UInt8) (h:l[k]? = some c) (hp:k / 8=p):wdB l (k+1) p=wdB l k p*256+c.toNat:=by
 unfold wdB
 rw [show min 8 (k+1 - 8*p)=(k - 8*p)+1 by omega,show min 8 (k - 8*p)=k - 8*p by omega,List.take_add_one,List.getElem?_drop,show 8*p+(k - 8*p)=k by omega,h]
 exact valB_snoc _ _
theorem wdB_same (l:List UInt8) (k p:Nat) (hp:k / 8≠p):wdB l (k+1) p=wdB l k p:=by
 unfold wdB
 rw [show min 8 (k+1 - 8*p)=min 8 (k - 8*p) by omega]
theorem wdB_lt (l:List UInt8) (k p:Nat) (hp:k / 8=p):wdB l k p<72057594037927936:=by
 unfold wdB
 have h:=valB_lt _ ((l.drop (8*p)).take (min 8 (k - 8*p))) rfl
 refine Nat.lt_of_lt_of_le h ?_
 have:((l.drop (8*p)).take (min 8 (k - 8*p))).length≤7:=by rw [List.length_take]; omega
 exact Nat.pow_le_pow_right (by omega) this
theorem wdB_all (l:List UInt8) (h:l.length=32):valB l=wdB l 32 3+18446744073709551616*wdB l 32 2+340282366920938463463374607431768211456*wdB l 32 1+6277101735386680763835789423207666416102355444464034512896*wdB l 32 0:=by
 have e:l=(l.take 8++(l.drop 8).take 8)++((l.drop 16).take 8++(l.drop 24).take 8):=by
  conv=>lhs; rw [← List.take_append_drop 16 l, ← List.take_append_drop 8 (l.take 16), ← List.take_append_drop 8 (l.drop 16)]
  congr 2
  ·rw [List.take_take]; rfl
  ·rw [List.drop_take]
  ·rw [List.drop_drop,List.take_of_length_le (by simp; omega)]
 have w0:wdB l 32 0=valB (l.take 8):=rfl
 have w1:wdB l 32 1=valB ((l.drop 8).take 8):=rfl
 have w2:wdB l 32 2=valB ((l.drop 16).take 8):=rfl
 have w3:wdB l 32 3=valB ((l.drop 24).take 8):=rfl
 conv=>lhs; rw [e]
 rw [valB_append _ 16 _ (by simp; omega),valB_append _ 8 _ (by simp; omega),valB_append _ 8 _ (by simp; omega),w0,w1,w2,w3]
 have p8:(256:Nat) ^ 8=18446744073709551616:=by decide
 have p16:(256:Nat) ^ 16=340282366920938463463374607431768211456:=by decide
 rw [p8,p16,Nat.add_mul,Nat.mul_assoc]
 omega
theorem wdB_lt8 (l:List UInt8) (k p:Nat):wdB l k p<18446744073709551616:=by
 unfold wdB
 have h:=valB_lt _ ((l.drop (8*p)).take (min 8 (k - 8*p))) rfl
 refine Nat.lt_of_lt_of_le h ?_
 have:((l.drop (8*p)).take (min 8 (k - 8*p))).length≤8:=by rw [List.length_take]; omega
 exact Nat.pow_le_pow_right (by omega) this
theorem or_add (w c:Nat) (hw:w<72057594037927936) (hc:c<256):bits .or .u64 ((w:Int)*256) (c:Int)=((w*256+c:Nat):Int):=by
 have e:((w:Int)*256)=((w*256:Nat):Int):=by omega
 rw [e]
 have h:w*256 ||| c=w*256+c:=by
  have:=Nat.two_pow_add_eq_or_of_lt (i:=8) (b:=c) (by omega) w
  rw [Nat.mul_comm w 256]
  exact this.symm
 have hw2:(BitVec.ofInt 64 ((w*256:Nat):Int) ||| BitVec.ofInt 64 (c:Int)).toNat=w*256+c:=by
  rw [BitVec.toNat_or]
  simp only [BitVec.ofInt_natCast,BitVec.toNat_ofNat]
  rw [Nat.mod_eq_of_lt (by omega),Nat.mod_eq_of_lt (by omega),h]
 show IntKind.u64.wrap ((BitVec.ofInt 64 ((w*256:Nat):Int) ||| BitVec.ofInt 64 (c:Int)).toNat:Int)=_
 rw [hw2,IntKind.wrap_u64]
 omega
theorem run_index_b32 (W:World) (l:List UInt8) (k:Nat) (c:UInt8) (h:l[k]? = some c) (hk:k<32) :
  (Instr.index 27 (.agg (l.map bv).toArray) (.int .i64 (k:Int))).run Tryz.prog W=.ok (bv c) W:=by
 unfold Instr.index
 have hs:∀ W,(sizeOf 5).run Tryz.prog W=.ok 1 W:=λW=>by kernel_rfl
 have pc:(part 5 (l.map bv).toArray ((k:Int).toNat*1)).run Tryz.prog W=.ok (bv c) W:=by
  simp [part,isAgg,run_underlying Tryz.underlying5,h]
 simp only [asIntOf,Sem.run_bind,Sem.run_pure,Result.andThen_ok,run_underlying Tryz.underlying27]
 rw [if_pos ⟨by omega,by omega⟩]
 simp only [Sem.run_bind,hs,Result.andThen_ok,pc]
theorem p256 (k:Nat):(2:Nat) ^ (8*k)=256 ^ k:=by rw [Nat.pow_mul]
theorem valB_lowB (z:Nat):∀ k,valB (lowB z k)=z%256 ^ k
 | 0=>by simp [lowB,valB,Nat.mod_one]
 | k+1=>by
  have h:=valB_append [byteN z k] k (lowB z k) (lowB_length z k)
  rw [lowB]
  rw [List.singleton_append] at h
  rw [h,valB_lowB z k,Nat.mod_pow_succ]
  have e:valB [byteN z k]=z / 256 ^ k%256:=by
   have:valB [byteN z k]=(byteN z k).toNat:=by simp [valB]
   rw [this,byteN,UInt8.toNat_ofNat',p256]
   omega
  rw [e,Nat.mul_comm]
  omega
theorem valB_bytesS (z:Nat) (hz:z<(2^256)):valB (bytesS z)=z:=by
 rw [bytesS,valB_lowB]
 have:(256:Nat) ^ 32=(2^256):=by decide
 rw [this,Nat.mod_eq_of_lt hz]
theorem valB_inj:∀ (n:Nat) (l m:List UInt8),l.length=n→m.length=n→valB l=valB m→l=m
 | 0,l,m,hl,hm,_=>by rw [List.length_eq_zero_iff.1 hl,List.length_eq_zero_iff.1 hm]
 | n+1,l,m,hl,hm,h=>by
  have nl:l≠[]:=by intro e; rw [e] at hl; cases hl
  have nm:m≠[]:=by intro e; rw [e] at hm; cases hm
  have el:=List.dropLast_concat_getLast nl
  have em:=List.dropLast_concat_getLast nm
  rw [← el, ← em,valB_snoc,valB_snoc] at h
  have c1:=(l.getLast nl).toNat_lt
  have c2:=(m.getLast nm).toNat_lt
  have hi:=valB_inj n l.dropLast m.dropLast (by rw [List.length_dropLast]; omega) (by rw [List.length_dropLast]; omega) (by omega)
  have hc:l.getLast nl=m.getLast nm:=UInt8.toNat_inj.1 (by omega)
  rw [← el, ← em,hi,hc]
theorem bytesS_valB (l:List UInt8) (h:l.length=32):bytesS (valB l)=l :=
 valB_inj 32 _ _ (bytesS_length _) h (valB_bytesS _ (by have:=valB_lt 32 l h; rw [show (256:Nat) ^ 32=(2^256) from by decide] at this; exact this))
theorem valB_lt32 (l:List UInt8) (h:l.length=32):valB l<(2^256):=by
 have:=valB_lt 32 l h
 have e:(256:Nat) ^ 32=(2^256):=by decide
 omega
end
end
section
section
open Go.RowKit Sp
def Src (w:World) (A:Option Addr) (m:List UInt8):Prop :=
 m≠[]→∃ b o,A=some ⟨b,o,none⟩∧b<w.heap.size∧∀ j u,m[j]? = some u→w.cell? ⟨b,o+j,none⟩=some (bv u)
end
end
section
section
open Go.RowKit Go.Lib
end
end
section
namespace Cu
open Go.RowKit Sy
set_option maxRecDepth 100000
set_option maxHeartbeats 4000000
end Cu
end
section
namespace Cu
open Go.RowKit Sy
end Cu
end
section
section
open Go.RowKit Go.Lib
set_option maxHeartbeats 8000000 in
set_option maxRecDepth 100000 in
theorem bytes_any (w:World) (x:Nat) (hx:x<(2^256)):Calls Tryz.prog 263 #[fv x] w λe w'=>e=.returned (.agg ((bytesS (x%pM)).map bv).toArray)∧Below w.heap.size w w':=by
 obtain ⟨z,hz⟩:∃ z,z=x%pM:=⟨_,rfl⟩
 have hzl:z<(2^256):=by rw [hz]; exact mod_lt x
 have cn:∀ w,Calls Tryz.prog 266 #[fv x] w λe w'=>e=.returned (fv z)∧Below w.heap.size w w':=by
  intro w; rw [hz]; exact norm_any w x hx
 rw [← hz]
 obtain ⟨z0,z1,z2,z3,a0,a1,a2,a3,ez,fz⟩:=words_of z hzl
 have HZ:=Lib.hid (And.intro a0 (And.intro a1 (And.intro a2 (And.intro a3 ez))))
 have FZ:=Lib.hid fz
 obtain ⟨x0,x1,x2,x3,fx⟩:=words_fv x hx
 rw [fx] at cn ⊢
 clear fx fz hz hzl a0 a1 a2 a3 ez hx
 have hZB:Hid ((List.replicate 32 (Value.int .u8 0)).toArray=((partB z 0).map bv).toArray):=Lib.hid (by simp [partB,lowB,bv])
 go_enter Tryz.func263,Tryz.ntmps263
 go_wp2_with fail
 refine (cn _).mono ?_
 rintro e w1 ⟨rfl,hb⟩
 have BR:Blk w1 (w.heap.size+1) 27 _:=Gr.blk hb (Blk.alloc (blk_new2 w _ _ _) _)
 have BB:Blk w1 (w.heap.size+2) 27 ((partB z 0).map bv).toArray:=Blk.eq_ (Gr.blk hb (blk_new3 w _ _ _ _)) hZB.out
 have hB:=Below.gr (below_alloc3 w _ _ _) hb
 have sz:=BB.lt
 clear hb cn
 go_wp2_with (first | ((with_reducible refine here_store ?_); refine wpList_store_blk rfl _ _ _ rfl (w1.heap.size) (fcs (z)) rfl rfl _ _ (Blk.new w1 _ _) (by kernel_rfl) (by rfl) (fcs_one _) ?_; intro w2 hL2 hB2 hK2; have CR:=hK2 _ (by omega) _ _ (BR.alloc _); have CB:=hK2 _ (by omega) _ _ (BB.alloc _); have hC:=(hB.alloc (by omega) _).trans (hB2 _ (by omega))))
 go_loopw [8] (λi wr=>∃ k:Nat,k≤32∧i=.int .i64 (k:Int)∧Below w.heap.size w wr∧Blk wr (w.heap.size+2) 27 ((partB z k).map bv).toArray∧Blk wr w1.heap.size 71 #[.int .u64 (z0:Int),.int .u64 (z1:Int),.int .u64 (z2:Int),.int .u64 (z3:Int)]∧Blk wr (w.heap.size+1) 27 (List.replicate 32 (Value.int .u8 0)).toArray) (λi _=>32 - (RowKit.intOf i).toNat)
 case atStart=>exact ⟨0,by omega,rfl,hC,CB,hL2.eq_ (fcs_words FZ.out),CR⟩
 case round =>
  obtain ⟨k,hk,rfl,hb,hP,hN,hR⟩:=hrel
  by_cases hlt:k<32
  ·have ce:∀ j,j<32→∃ v,wr.cell? ⟨w.heap.size+1+1,j,none⟩=some v:=λj hj=>⟨_,(hP.cell j).trans (Array.getElem?_eq_getElem (by simp [partB_length z k hk]; exact hj))⟩
   obtain ⟨v,hv⟩:=ce (31 - k) (by omega)
   have ff:=hP.frozen (31 - k)
   have q0:wr.cell? ⟨w1.heap.size,0,none⟩=some (.int .u64 (z0:Int)):=hN.cell 0
   have q1:wr.cell? ⟨w1.heap.size,1,none⟩=some (.int .u64 (z1:Int)):=hN.cell 1
   have q2:wr.cell? ⟨w1.heap.size,2,none⟩=some (.int .u64 (z2:Int)):=hN.cell 2
   have q3:wr.cell? ⟨w1.heap.size,3,none⟩=some (.int .u64 (z3:Int)):=hN.cell 3
   have hPn:=hP.set_ (31 - k) (bv (byteN z k))
   rw [partB_set z k hlt] at hPn
   have HP:=Lib.hid hPn
   clear hPn ce
   have HR:=Lib.hid (And.intro hb (And.intro hN hR))
   clear hb hP hN hR hk
   have hsz:w.heap.size+2<w1.heap.size:=sz
   rcases (show k=0∨k=1∨k=2∨k=3∨k=4∨k=5∨k=6∨k=7∨k=8∨k=9∨k=10∨k=11∨k=12∨k=13∨k=14∨k=15∨k=16∨k=17∨k=18∨k=19∨k=20∨k=21∨k=22∨k=23∨k=24∨k=25∨k=26∨k=27∨k=28∨k=29∨k=30∨k=31 by omega) with rfl | rfl | rfl | rfl | rfl | rfl | rfl | rfl | rfl | rfl | rfl | rfl | rfl | rfl | rfl | rfl | rfl | rfl | rfl | rfl | rfl | rfl | rfl | rfl | rfl | rfl | rfl | rfl | rfl | rfl | rfl | rfl
   all_goals
    go_wp2
    obtain ⟨a0,a1,a2,a3,ez⟩:=HZ.out
    refine ⟨⟨_,by decide,rfl,HR.out.1.setCell (by show w.heap.size≤w.heap.size+1+1; omega) _,HP.out.val (by rw [bv_byteN]; congr 1; omega),HR.out.2.1.far (by show w1.heap.size≠w.heap.size+1+1; omega) _,HR.out.2.2.far (by show w.heap.size+1≠w.heap.size+1+1; omega) _⟩,by simp [RowKit.intOf]⟩
  ·have p1:¬ (k:Int)<32:=by omega
   obtain rfl:k=32:=by omega
   rw [partB_full] at hP
   have HI:=Lib.hid (bytesS_length z)
   have HL:=Lib.hid hP
   have HR:=Lib.hid hR
   clear hN hP hR
   go_wp2_with (first | ((with_reducible refine here_load (d:=some 24) ?_); refine wpList_load_blk rfl _ _ rfl (w.heap.size+2) rfl _ _ _ HL.out Tryz.underlying27 rfl (b32_info HI.out) ?_) | ((with_reducible refine here_store ?_); refine wpList_store_blk rfl _ _ _ rfl (w.heap.size+1) ((bytesS z).map bv).toArray rfl rfl _ _ HR.out (b32_info HI.out) (by simp [HI.out]) (b32_one _) ?_; intro w9 hL9 hB9 hK9))
   exact bodyPost_ret (results_cell_row rfl _ _ (w.heap.size+1) _ _ (0,0) _ rfl hL9 Tryz.underlying27 rfl (b32_info HI.out)) rfl ⟨rfl,hb.trans (hB9 _ (by omega))⟩
end
end
section
section
open Go.RowKit Go.Lib
def readS (l:List UInt8):Nat×Bool:=if valB l<pM then (valB l,true) else (0,false)
set_option maxHeartbeats 8000000 in
set_option maxRecDepth 100000 in
theorem read_any (w:World) (l:List UInt8) (hl:l.length=32):Calls Tryz.prog 289 #[.agg (l.map bv).toArray] w λe w'=>e=.returned (.tuple #[fv (readS l).1,.bool (readS l).2])∧Below w.heap.size w w':=by
 have HL:=Lib.hid hl
 clear hl
 go_enter Tryz.func289,Tryz.ntmps289
 go_wp2_with (first | ((with_reducible refine here_load (d:=some 7) ?_); refine wpList_load_blk rfl _ _ rfl w.heap.size rfl _ _ _ (((Blk.new w _ _).alloc _).alloc _) Tryz.underlying27 rfl (b32_info HL.out) ?_))
 go_loopw [8] (λi wr=>∃ k y0 y1 y2 y3:Nat,k≤32∧i=.int .i64 (k:Int)∧Hid (y0=wdB l k 0∧y1=wdB l k 1∧y2=wdB l k 2∧y3=wdB l k 3)∧Below w.heap.size w wr∧Blk wr (w.heap.size+2) 71 #[.int .u64 (y3:Int),.int .u64 (y2:Int),.int .u64 (y1:Int),.int .u64 (y0:Int)]∧Blk wr (w.heap.size+1) 71 #[.int .u64 0,.int .u64 0,.int .u64 0,.int .u64 0]) (λi _=>32 - (RowKit.intOf i).toNat)
 case atStart=>exact ⟨0,0,0,0,0,by omega,rfl,Lib.hid ⟨(wdB_zero l 0).symm,(wdB_zero l 1).symm,(wdB_zero l 2).symm,(wdB_zero l 3).symm⟩,below_alloc3 w _ _ _,blk_new3 w _ _ _ _,(blk_new2 w _ _ _).alloc _⟩
 case round =>
  obtain ⟨k,y0,y1,y2,y3,hk,rfl,HY,hb,hP,hR⟩:=hrel
  have q3:wr.cell? ⟨w.heap.size+1+1,0,none⟩=some (.int .u64 (y3:Int)):=hP.cell 0
  have q2:wr.cell? ⟨w.heap.size+1+1,1,none⟩=some (.int .u64 (y2:Int)):=hP.cell 1
  have q1:wr.cell? ⟨w.heap.size+1+1,2,none⟩=some (.int .u64 (y1:Int)):=hP.cell 2
  have q0:wr.cell? ⟨w.heap.size+1+1,3,none⟩=some (.int .u64 (y0:Int)):=hP.cell 3
  have ff:∀ j,wr.frozen? ⟨w.heap.size+1+1,j,none⟩=false:=λj=>hP.frozen j
  by_cases hlt:k<32
  ·obtain ⟨c,hc⟩:∃ c,l[k]? = some c:=⟨l[k]'(by rw [HL.out]; exact hlt),List.getElem?_eq_getElem _⟩
   have HC:=Lib.hid hc
   obtain ⟨m,hm⟩:∃ m,m=c.toNat:=⟨_,rfl⟩
   have hm8:m<256:=by rw [hm]; exact c.toNat_lt
   have hI:∀ W,(Instr.index 27 (.agg (l.map bv).toArray) (.int .i64 (k:Int))).run Tryz.prog W=.ok (.int .u8 (m:Int)) W:=λW=>by
    rw [run_index_b32 W l k c hc hlt,hm]; rfl
   have HM:=Lib.hid hm
   have HR:=Lib.hid (And.intro hb (And.intro hP hR))
   clear hb hP hR hc hk hm
   rcases (show k=0∨k=1∨k=2∨k=3∨k=4∨k=5∨k=6∨k=7∨k=8∨k=9∨k=10∨k=11∨k=12∨k=13∨k=14∨k=15∨k=16∨k=17∨k=18∨k=19∨k=20∨k=21∨k=22∨k=23∨k=24∨k=25∨k=26∨k=27∨k=28∨k=29∨k=30∨k=31 by omega) with rfl | rfl | rfl | rfl | rfl | rfl | rfl | rfl | rfl | rfl | rfl | rfl | rfl | rfl | rfl | rfl | rfl | rfl | rfl | rfl | rfl | rfl | rfl | rfl | rfl | rfl | rfl | rfl | rfl | rfl | rfl | rfl
   all_goals
    simp only [Int.cast_ofNat_Int] at hI
   all_goals
    first
    | ((have hy:y0<72057594037927936:=by rw [HY.out.1]; exact wdB_lt l _ 0 (by decide)); (have ho:=or_add y0 m hy hm8); go_wp2; (refine ⟨⟨_,y0*256+m,y1,y2,y3,by decide,rfl,Lib.hid ⟨by rw [HY.out.1,HM.out]; exact (wdB_step l _ 0 c HC.out (by decide)).symm,by rw [HY.out.2.1]; exact (wdB_same l _ 1 (by decide)).symm,by rw [HY.out.2.2.1]; exact (wdB_same l _ 2 (by decide)).symm,by rw [HY.out.2.2.2]; exact (wdB_same l _ 3 (by decide)).symm⟩,HR.out.1.setCell (by show w.heap.size≤w.heap.size+1+1; omega) _,Blk.eq_ (HR.out.2.1.set_ 3 _) (by rw [show ((y0*256+m:Nat):Int)=(y0:Int)*256+(m:Int) by omega]; rfl),HR.out.2.2.far (by show w.heap.size+1≠w.heap.size+1+1; omega) _⟩,by simp [RowKit.intOf]⟩))
    | ((have hy:y1<72057594037927936:=by rw [HY.out.2.1]; exact wdB_lt l _ 1 (by decide)); (have ho:=or_add y1 m hy hm8); go_wp2; (refine ⟨⟨_,y0,y1*256+m,y2,y3,by decide,rfl,Lib.hid ⟨by rw [HY.out.1]; exact (wdB_same l _ 0 (by decide)).symm,by rw [HY.out.2.1,HM.out]; exact (wdB_step l _ 1 c HC.out (by decide)).symm,by rw [HY.out.2.2.1]; exact (wdB_same l _ 2 (by decide)).symm,by rw [HY.out.2.2.2]; exact (wdB_same l _ 3 (by decide)).symm⟩,HR.out.1.setCell (by show w.heap.size≤w.heap.size+1+1; omega) _,Blk.eq_ (HR.out.2.1.set_ 2 _) (by rw [show ((y1*256+m:Nat):Int)=(y1:Int)*256+(m:Int) by omega]; rfl),HR.out.2.2.far (by show w.heap.size+1≠w.heap.size+1+1; omega) _⟩,by simp [RowKit.intOf]⟩))
    | ((have hy:y2<72057594037927936:=by rw [HY.out.2.2.1]; exact wdB_lt l _ 2 (by decide)); (have ho:=or_add y2 m hy hm8); go_wp2; (refine ⟨⟨_,y0,y1,y2*256+m,y3,by decide,rfl,Lib.hid ⟨by rw [HY.out.1]; exact (wdB_same l _ 0 (by decide)).symm,by rw [HY.out.2.1]; exact (wdB_same l _ 1 (by decide)).symm,by rw [HY.out.2.2.1,HM.out]; exact (wdB_step l _ 2 c HC.out (by decide)).symm,by rw [HY.out.2.2.2]; exact (wdB_same l _ 3 (by decide)).symm⟩,HR.out.1.setCell (by show w.heap.size≤w.heap.size+1+1; omega) _,Blk.eq_ (HR.out.2.1.set_ 1 _) (by rw [show ((y2*256+m:Nat):Int)=(y2:Int)*256+(m:Int) by omega]; rfl),HR.out.2.2.far (by show w.heap.size+1≠w.heap.size+1+1; omega) _⟩,by simp [RowKit.intOf]⟩))
    | ((have hy:y3<72057594037927936:=by rw [HY.out.2.2.2]; exact wdB_lt l _ 3 (by decide)); (have ho:=or_add y3 m hy hm8); go_wp2; (refine ⟨⟨_,y0,y1,y2,y3*256+m,by decide,rfl,Lib.hid ⟨by rw [HY.out.1]; exact (wdB_same l _ 0 (by decide)).symm,by rw [HY.out.2.1]; exact (wdB_same l _ 1 (by decide)).symm,by rw [HY.out.2.2.1]; exact (wdB_same l _ 2 (by decide)).symm,by rw [HY.out.2.2.2,HM.out]; exact (wdB_step l _ 3 c HC.out (by decide)).symm⟩,HR.out.1.setCell (by show w.heap.size≤w.heap.size+1+1; omega) _,Blk.eq_ (HR.out.2.1.set_ 0 _) (by rw [show ((y3*256+m:Nat):Int)=(y3:Int)*256+(m:Int) by omega]; rfl),HR.out.2.2.far (by show w.heap.size+1≠w.heap.size+1+1; omega) _⟩,by simp [RowKit.intOf]⟩))
  ·have p1:¬ (k:Int)<32:=by omega
   obtain rfl:k=32:=by omega
   have b0:y0<18446744073709551616:=by rw [HY.out.1]; exact wdB_lt8 l _ _
   have b1:y1<18446744073709551616:=by rw [HY.out.2.1]; exact wdB_lt8 l _ _
   have b2:y2<18446744073709551616:=by rw [HY.out.2.2.1]; exact wdB_lt8 l _ _
   have b3:y3<18446744073709551616:=by rw [HY.out.2.2.2]; exact wdB_lt8 l _ _
   obtain ⟨z,hz⟩:∃ z,z=y3+18446744073709551616*y2+340282366920938463463374607431768211456*y1+6277101735386680763835789423207666416102355444464034512896*y0:=⟨_,rfl⟩
   have fz:=fv_mk y3 y2 y1 y0 b3 b2 b1 b0
   rw [← hz] at fz
   have hzl:z<(2^256):=by rw [hz]; exact fv_lt y3 y2 y1 y0 b3 b2 b1 b0
   have hzv:z=valB l:=by rw [wdB_all l HL.out,hz,HY.out.1,HY.out.2.1,HY.out.2.2.1,HY.out.2.2.2]
   obtain ⟨n,hn⟩:∃ n,n=z%pM:=⟨_,rfl⟩
   have hnl:n<(2^256):=by rw [hn]; exact mod_lt z
   obtain ⟨b,hbd⟩:∃ b,b=decide (n≠z):=⟨_,rfl⟩
   have eb:∀ W,(binOp .neq 71 (fv n) (fv z)).run Tryz.prog W=.ok (.bool b) W:=λW=>by rw [hbd]; exact run_neq_fv W n z hnl hzl
   have cn:∀ w,Calls Tryz.prog 266 #[fv z] w λe w'=>e=.returned (fv n)∧Below w.heap.size w w':=by
    intro w; rw [hn]; exact norm_any w z hzl
   have hS:readS l=if b=true then (0,false) else (z,true):=by
    unfold readS
    rw [← hzv,hbd,hn]
    by_cases h:z<pM
    ·rw [if_pos h,Nat.mod_eq_of_lt h]; simp
    ·have h2:z%pM≠z:=λe=>h (by rw [← e]; exact mod_lt_p z)
     rw [if_neg h]; simp [h2]
   have HS:=Lib.hid hS
   have FZ:=Lib.hid fz.symm
   have HP:=Lib.hid hP
   clear HY b0 b1 b2 b3 hz fz hzl hzv hn hnl hbd hS q0 q1 q2 q3 ff hP
   go_wp2
   refine wp_region_G (λ_=>false) (by kernel_rfl) ?_
   try simp only [Act.put]
   refine tkw 0 rfl (YieldsG.loadF (by rfl) _ _ rfl (w.heap.size+2) rfl (z) _ _ (HP.out) (FZ.out) Tryz.underlying71 rfl (by kernel_rfl)) ?_
   try simp only [Act.put,aA,aZ,aS]
   refine tkw 1 rfl (YieldsG.call (v:=fv n) (by rfl) 266 _ (λw9=>by go_simp; try (first | with_reducible rfl | rfl)) (λw9 h9=>cn w9)) ?_
   try simp only [Act.put,aA,aZ,aS]
   refine tkw 2 rfl (YieldsG.loadF (by rfl) _ _ rfl (w.heap.size+2) rfl (z) _ _ (HP.out) (FZ.out) Tryz.underlying71 rfl (by kernel_rfl)) ?_
   try simp only [Act.put,aA,aZ,aS]
   refine tkw 3 rfl (YieldsG.pure (v:=.bool b) (by rfl) (λw9 h9=>by go_simp; rw [run_eqGuard_fv]; simp only [Result.andThen_ok,eb])) ?_
   try simp only [Act.put,aA,aZ,aS]
   refine wpAnyG_done (by kernel_rfl) (λu hu=>?_)
   have hbu:=Below.gr hb hu
   have BR:=Gr.blk hu hR
   have BP:=Gr.blk hu HP.out
   clear hu hb hR HP eb cn
   cases b
   ·have HT:Hid (readS l=(z,true)):=Lib.hid (by rw [HS.out]; rfl)
    clear HS
    go_wp2_with (first | ((with_reducible refine here_load (d:=some 31) ?_); refine wpList_load_fv rfl _ _ rfl (w.heap.size+2) rfl (z) _ _ _ (BP) (FZ.out) Tryz.underlying71 rfl (by kernel_rfl) ?_) | ((with_reducible refine here_store ?_); refine wpList_store_blk rfl _ _ _ rfl (w.heap.size+1) (fcs (z)) rfl rfl _ _ (BR) (by kernel_rfl) (by rfl) (fcs_one _) ?_; intro vz hLz hqz hKz))
    exact bodyPost_ret (res_cell_tmp rfl _ _ (w.heap.size+1) _ _ _ _ rfl hLz rfl Tryz.underlying71 rfl (by kernel_rfl)) rfl ⟨by rw [HT.out]; rfl,hbu.trans (hqz _ (by omega))⟩
   ·have HT:Hid (readS l=(0,false)):=Lib.hid (by rw [HS.out]; rfl)
    clear HS
    go_wp2_with (first | ((with_reducible refine here_store ?_); refine wpList_store_blk rfl _ _ _ rfl (w.heap.size+1) _ rfl rfl _ _ (BR) (by kernel_rfl) (by rfl) (by simp [Value.oneCell']) ?_; intro vz hLz hqz hKz))
    exact bodyPost_ret (res_cell_tmp rfl _ _ (w.heap.size+1) _ _ _ _ rfl hLz rfl Tryz.underlying71 rfl (by kernel_rfl)) rfl ⟨by rw [HT.out]; rfl,hbu.trans (hqz _ (by omega))⟩
end
end
section
section
open Go.RowKit Go.Lib
def eQ:Nat:=28948022309329048855892746252171976963317496166410141009864396001977208667916
end
end
section
section
open Go.RowKit Go.Lib
theorem prime_p:Nt.Pr pM:=Nt.pr_p
theorem eRoot_is:eRoot=eQ:=by decide +kernel
theorem four_eQ:2*(eQ+eQ)=pM+1:=by decide +kernel
theorem root_lt_p (x:Nat):rootR x<pM:=by rw [← rootR_red]; exact mod_lt_p _
theorem sq_le {p r a:Nat} (hp:Nt.Pr p) (hle:a≤r) (hr:r<p) (h:r*r%p=a*a%p):r=a∨r+a=p:=by
 have e:(r - a)*(r+a)=r*r - a*a:=by
  obtain ⟨d,rfl⟩:∃ d,r=a+d:=⟨r - a,by omega⟩
  rw [Nat.add_sub_cancel_left]
  have h1:(a+d)*(a+d)=a*a+d*(a+d+a):=by
   simp only [Nat.mul_add,Nat.add_mul]
   have:=Nat.mul_comm a d
   omega
  rw [h1,Nat.add_sub_cancel_left]
 have hd:p ∣ (r - a)*(r+a):=by
  rw [e]
  exact Nat.dvd_of_mod_eq_zero (Nat.sub_mod_eq_zero_of_mod_eq h)
 by_cases hz:(r+a)%p=0
 ·obtain ⟨k,hk⟩:=Nat.dvd_of_mod_eq_zero hz
  rcases k with _ | _ | k
  ·left; omega
  ·right; omega
  ·have hk':r+a=p*(k+2):=hk
   have:p*2≤p*(k+2):=Nat.mul_le_mul (Nat.le_refl _) (by omega)
   omega
 ·left
  have hd2:p ∣ r - a:=(Nt.cop hp (r+a) hz).dvd_of_dvd_mul_right hd
  have:=Nat.eq_zero_of_dvd_of_lt hd2 (by omega)
  omega
theorem sq_roots {p r a:Nat} (hp:Nt.Pr p) (hr:r<p) (ha:a<p) (h:r*r%p=a*a%p):r=a∨r+a=p:=by
 rcases Nat.le_total a r with hl | hl
 ·exact sq_le hp hl hr h
 ·rcases sq_le hp hl ha h.symm with h1 | h1
  ·exact .inl h1.symm
  ·exact .inr (by omega)
theorem pow_gen {p a e:Nat} (hp:Nt.Pr p) (he:2*(e+e)=p+1):((a*a) ^ e%p)*((a*a) ^ e%p)%p=a*a%p:=by
 have h2:=hp.1
 rw [← Nat.mul_mod, ← Nat.pow_add, ← Nat.pow_two, ← Nat.pow_mul,he]
 have e1:a ^ (p+1)=a ^ (p - 1)*a ^ 2:=by rw [← Nat.pow_add]; congr 1; omega
 rw [e1,Nat.mul_mod]
 by_cases hz:a%p=0
 ·have:a ^ 2%p=0:=by rw [Nat.pow_two,Nat.mul_mod,hz]; simp
  rw [this]; simp
 ·rw [Nt.flt hp a hz,Nat.one_mul,Nat.mod_mod]
theorem root_sq (a:Nat):mulP (rootR (mulP a a)) (rootR (mulP a a))=mulP a a:=by
 have h:=rootR_pow (mulP a a)
 rw [rootR_red,eRoot_is] at h
 rw [h]
 unfold mulP
 rw [← Nat.pow_mod]
 exact pow_gen prime_p four_eQ
theorem neg_of (r:Nat) (h:r<pM) (h0:r≠0):negP r=pM - r:=by
 unfold negP
 rw [Nat.mod_eq_of_lt h]
 exact Nat.mod_eq_of_lt (by omega)
theorem neg_sq (r:Nat) (h:r<pM) (h0:r≠0):mulP (negP r) (negP r)=mulP r r:=by
 rw [neg_of r h h0]
 obtain ⟨q,hq⟩:∃ q,pM=q+r:=⟨pM - r,by omega⟩
 rw [show pM - r=q by omega]
 unfold mulP
 have e:q*q+pM*r=r*r+pM*q:=by
  rw [hq,Nat.add_mul,Nat.add_mul,Nat.mul_comm r q]
  omega
 have h1:(q*q+pM*r)%pM=q*q%pM:=Nat.add_mul_mod_self_left _ _ _
 have h2:(r*r+pM*q)%pM=r*r%pM:=Nat.add_mul_mod_self_left _ _ _
 rw [← h1, ← h2,e]
theorem pM_odd:pM%2=1:=by decide +kernel
theorem sqrt_even (x:Nat):(sqrtS x).1%pM%2=0:=by
 unfold sqrtS
 have hr:=root_lt_p x
 by_cases h1:mulP (rootR x) (rootR x)≠x%pM
 ·rw [if_pos h1]; rw [Nat.zero_mod]
 ·rw [if_neg h1]
  by_cases h2:rootR x%pM%2=1
  ·rw [if_pos h2]
   rw [rootR_red] at h2
   have h0:rootR x≠0:=by omega
   have e:=neg_of _ hr h0
   have hp:=pM_odd
   show negP (rootR x)%pM%2=0
   rw [e,Nat.mod_eq_of_lt (show pM - rootR x<pM by omega)]
   omega
  ·rw [if_neg h2]
   show rootR x%pM%2=0
   omega
theorem sqrt_lt (x:Nat):(sqrtS x).1<(2^256):=by
 unfold sqrtS
 by_cases h1:mulP (rootR x) (rootR x)≠x%pM
 ·rw [if_pos h1]; show 0<_; omega
 ·rw [if_neg h1]
  by_cases h2:rootR x%pM%2=1
  ·rw [if_pos h2]; exact negP_lt _
  ·rw [if_neg h2]; exact rootR_lt _
theorem sqrt_mul (x:Nat) (h:(sqrtS x).2=true):mulP (sqrtS x).1 (sqrtS x).1=x%pM:=by
 unfold sqrtS at h ⊢
 by_cases h1:mulP (rootR x) (rootR x)≠x%pM
 ·rw [if_pos h1] at h; cases h
 ·rw [if_neg h1]
  have h1':mulP (rootR x) (rootR x)=x%pM:=Classical.not_not.1 h1
  by_cases h2:rootR x%pM%2=1
  ·rw [if_pos h2]
   rw [rootR_red] at h2
   show mulP (negP (rootR x)) (negP (rootR x))=_
   rw [neg_sq _ (root_lt_p x) (by omega)]
   exact h1'
  ·rw [if_neg h2]; exact h1'
theorem sqrt_sq (a:Nat):∃ s,sqrtS (mulP a a)=(s,true)∧(s=a%pM∨s=negP a):=by
 obtain ⟨r,hr⟩:∃ r,r=rootR (mulP a a):=⟨_,rfl⟩
 have hs:=root_sq a
 rw [← hr] at hs
 have hl:r<pM:=by rw [hr]; exact root_lt_p _
 have hx:mulP a a%pM=mulP a a:=by unfold mulP; rw [Nat.mod_mod]
 obtain ⟨b,hb⟩:∃ b,b=a%pM:=⟨_,rfl⟩
 have hbl:b<pM:=by rw [hb]; exact mod_lt_p a
 have hng:negP a=negP b:=by unfold negP; rw [hb,Nat.mod_mod]
 have hrr:r=b∨r+b=pM:=by
  refine sq_roots prime_p hl hbl ?_
  have:mulP a a=b*b%pM:=by rw [hb, ← Nat.mul_mod]; rfl
  rw [← this]; exact hs
 have p0:0<pM:=by omega
 have hor:(r=b∧negP r=negP b)∨(r=negP b∧negP r=b):=by
  rcases hrr with h | h
  ·left; exact ⟨h,by rw [h]⟩
  ·by_cases h0:b=0
   ·omega
   ·right
    have e1:=neg_of b hbl h0
    have e2:=neg_of r hl (by omega)
    exact ⟨by omega,by omega⟩
 unfold sqrtS
 rw [← hr,hx,if_neg (by rw [hs]; exact λh=>h rfl),hng, ← hb]
 by_cases h2:r%pM%2=1
 ·rw [if_pos h2]
  refine ⟨_,rfl,?_⟩
  rcases hor with h | h
  ·exact .inr h.2
  ·exact .inl h.2
 ·rw [if_neg h2]
  refine ⟨_,rfl,?_⟩
  rcases hor with h | h
  ·exact .inl h.1
  ·exact .inr h.1
end
end
section
namespace Cu
open Go.RowKit Sy
set_option maxRecDepth 100000
set_option maxHeartbeats 4000000
theorem key_whole (l:List UInt8) {n:Nat} (hl:l.length=n):Value.agg (((l.map bv).toArray.toList.drop 0).take n).toArray=.agg (l.map bv).toArray:=by
 rw [List.drop_zero,List.take_of_length_le (by simp; omega)]
theorem key_size (l:List UInt8) {n:Nat} (hl:l.length=n):0+n≤(l.map bv).toArray.size:=by simp; omega
noncomputable def infU8:TypeInfo:=(Tryz.prog.info? 5).getD default
theorem info_u8:Tryz.prog.info? 5=some infU8:=by kernel_rfl
def cubeN (x:Nat):Nat:=addP (mulP x (mulP x x)) 7
theorem cubeN_val (u:Fp):cubeN u.val=(u*u*u+7).val:=by
 have e:u*(u*u)+7=u*u*u+7:=by grobner
 rw [← e]
 rfl
def liftB (l:List UInt8):Bool:=decide (valB l<pM) && (sqrtS (cubeN (valB l))).2
theorem sqrt_fin (x:Nat):(sqrtS x).1<pM:=by
 unfold sqrtS
 split
 ·exact Nat.pos_of_ne_zero (by decide +kernel)
 ·split
  ·exact mod_lt_p _
  ·show rootR x<pM
   rw [← rootR_red]; exact mod_lt_p _
def liftP (l:List UInt8):Pt:=if h:liftB l=true then some (⟨valB l,by unfold liftB at h; simp at h; exact h.1⟩,⟨(sqrtS (cubeN (valB l))).1,sqrt_fin _⟩) else none
theorem lift_no {l:List UInt8} (h:liftB l=false):liftP l=none:=by unfold liftP; rw [dif_neg (by simp [h])]
theorem lift_yes {l:List UInt8} (h:liftB l=true):∃ u y:Fp,u.val=valB l∧y.val=(sqrtS (cubeN (valB l))).1∧liftP l=some (u,y)∧y*y=u*u*u+7∧y.val%2=0:=by
 refine ⟨_,_,rfl,rfl,by unfold liftP; rw [dif_pos h],?_,?_⟩
 ·have h2:(sqrtS (cubeN (valB l))).2=true:=by unfold liftB at h; simp at h; exact h.2
  have hm:=sqrt_mul _ h2
  refine Fin.ext ?_
  have hv:valB l<pM:=by unfold liftB at h; simp at h; exact h.1
  have e:=cubeN_val ⟨valB l,hv⟩
  show mulP (sqrtS (cubeN (valB l))).1 (sqrtS (cubeN (valB l))).1=_
  rw [hm, ← e]
  exact Nat.mod_eq_of_lt (mod_lt_p _)
 ·have:=sqrt_even (cubeN (valB l))
  rw [Nat.mod_eq_of_lt (sqrt_fin _)] at this
  exact this
theorem read_yes {l:List UInt8} {u:Fp} (h:u.val=valB l):readS l=(u.val,true):=by
 unfold readS
 rw [if_pos (by rw [← h]; exact u.isLt),h]
theorem read_no {l:List UInt8} (h:¬ valB l<pM):readS l=(0,false):=by unfold readS; rw [if_neg h]
theorem lift_in (w:World) (l:List UInt8) (hl:l.length=32) (u:Fp) (hu:u.val=valB l):Calls Tryz.prog 264 #[.agg (l.map bv).toArray] w (Gets w (.tuple #[ptv (liftP l),.bool (liftB l)])):=by
 have cR:∀ w,Calls Tryz.prog 289 #[.agg (l.map bv).toArray] w (Gets w (.tuple #[fv u.val,.bool true])):=λw=>by
  have h:=read_any w l hl
  rw [read_yes hu] at h
  exact h
 refine Sy.enter (args:=[.agg (l.map bv).toArray]) Tryz.func264 rfl kL ?_
 refine sC ?_
 refine sM 309 (l.map bv).toArray (λg0=>?_)
 refine sM 73 (pcs 0 0 false) (λg1=>?_)
 refine sP (.bool false) ?_
 refine sA ?_
 refine sS (.agg (l.map bv).toArray) (Quiet.load 0 g0 0 32 309 309 (l.map bv).toArray _ _ rfl kR kR Tryz.underlying309 rfl kR _ (key_whole l hl) (key_size l hl))<|sS (.tuple #[fv u.val,.bool true]) (qF 289 #[.agg (l.map bv).toArray] (cR))<|sP (.tuple #[fv u.val,.bool true])<|sP (fv u.val)<|sP (.bool true) ?_
 refine sM 71 (fcs 0) (λg2=>?_)
 refine sW 2 g2 71 (fcs 0) (fcs u.val) (wS 0 71 (fcs u.val) rfl)<|sP (.bool true) ?_
 refine sA ?_
 refine sS (fv u.val) (qL 2 g2 0 4 71 71 (fcs u.val) rfl Tryz.underlying71) ?_
 obtain ⟨z1,hz1⟩:∃ z:Fp,z=u*u*u+7:=⟨_,rfl⟩
 refine sS (fv z1.val) (qF 268 #[fv u.val] (by rw [hz1]; exact λw=>square_c w u)) ?_
 obtain ⟨r1,hr1⟩:∃ z:Nat,z=(sqrtS z1.val).1:=⟨_,rfl⟩
 obtain ⟨k1,hk1⟩:∃ z:Bool,z=(sqrtS z1.val).2:=⟨_,rfl⟩
 have lr1:r1<K4:=by rw [hr1]; exact sqrt_lt _
 refine sS (.tuple #[fv r1,.bool k1]) (qF 290 #[fv z1.val] (λw=>by rw [hr1,hk1]; exact sqrt_any w z1.val lK))<|sP (.tuple #[fv r1,.bool k1])<|sP (fv r1)<|sP (.bool k1) ?_
 refine sM 71 (fcs 0) (λg3=>?_)
 refine sW 3 g3 71 (fcs 0) (fcs r1) (wS 0 71 (fcs r1) rfl)<|sP (.bool k1) ?_
 refine sG<|Sy.seq<|sC ?_
 refine sP (.bool true)<|sP (.bool false)<|sP (.bool false)<|sP (.bool k1) ?_
 cases k1
 ·refine sP (.bool true)<|sP (.bool true) ?_
  refine sG<|sT<|sC ?_
  refine sS (pv 0 0 true) (qF 225 #[] (zero_c))<|sW 1 g1 73 (pcs 0 0 false) (pcs 0 0 true) (wS 0 73 (pcs 0 0 true) rfl)<|sP (.bool false) ?_
  refine sG<|Sy.ret<|Sy.then_ret ?_
  rw [show (.tuple #[ptv (liftP l),.bool (liftB l)]:Value)=.tuple #[pv 0 0 true,.bool false] from by
   have hb:liftB l=false:=by unfold liftB; rw [← hu,cubeN_val, ← hz1, ← hk1]; simp
   rw [hb,lift_no hb]; rfl]
  exact Sy.ret2 (v:=pv 0 0 true) (u:=.bool false) rfl (.inl (Res.cell (ty':=73) g1 1 (pcs 0 0 true) _ kR kR Tryz.underlying73 rfl kR kR)) (.inl (show _=_ by kernel_rfl))
 ·refine sP (.bool false)<|sP (.bool false) ?_
  refine sG<|sU<|Sy.skip<|sB ?_
  refine sS (fv u.val) (qL 2 g2 0 4 71 71 (fcs u.val) rfl Tryz.underlying71)<|sS (fv r1) (qL 3 g3 0 4 71 71 (fcs r1) rfl Tryz.underlying71)<|sP (pv u.val r1 false)<|sW 1 g1 73 (pcs 0 0 false) (pcs u.val r1 false) (wS 0 73 (pcs u.val r1 false) rfl)<|sP (.bool true) ?_
  refine sG<|Sy.ret ?_
  rw [show (.tuple #[ptv (liftP l),.bool (liftB l)]:Value)=.tuple #[pv u.val r1 false,.bool true] from by
   have hb:liftB l=true:=by unfold liftB; rw [← hu,cubeN_val, ← hz1, ← hk1]; simp [u.isLt]
   obtain ⟨u2,y2,e1,e2,e3,_,_⟩:=lift_yes hb
   rw [hb,e3]
   unfold ptv
   simp only
   rw [e1,e2, ← hu,cubeN_val, ← hz1, ← hr1]]
  exact Sy.ret2 (v:=pv u.val r1 false) (u:=.bool true) rfl (.inl (Res.cell (ty':=73) g1 1 (pcs u.val r1 false) _ kR kR Tryz.underlying73 rfl kR kR)) (.inl (show _=_ by kernel_rfl))
theorem lift_out (w:World) (l:List UInt8) (hl:l.length=32) (hu:¬ valB l<pM):Calls Tryz.prog 264 #[.agg (l.map bv).toArray] w (Gets w (.tuple #[ptv (liftP l),.bool (liftB l)])):=by
 have cR:∀ w,Calls Tryz.prog 289 #[.agg (l.map bv).toArray] w (Gets w (.tuple #[fv (0:Fp).val,.bool false])):=λw=>by
  have h:=read_any w l hl
  rw [read_no hu] at h
  exact h
 refine Sy.enter (args:=[.agg (l.map bv).toArray]) Tryz.func264 rfl kL ?_
 refine sC ?_
 refine sM 309 (l.map bv).toArray (λg0=>?_)
 refine sM 73 (pcs 0 0 false) (λg1=>?_)
 refine sP (.bool false) ?_
 refine sA ?_
 refine sS (.agg (l.map bv).toArray) (Quiet.load 0 g0 0 32 309 309 (l.map bv).toArray _ _ rfl kR kR Tryz.underlying309 rfl kR _ (key_whole l hl) (key_size l hl))<|sS (.tuple #[fv ((0:Fp).val),.bool false]) (qF 289 #[.agg (l.map bv).toArray] (cR))<|sP (.tuple #[fv ((0:Fp).val),.bool false])<|sP (fv ((0:Fp).val))<|sP (.bool false) ?_
 refine sM 71 (fcs 0) (λg2=>?_)
 refine sW 2 g2 71 (fcs 0) (fcs ((0:Fp).val)) (wS 0 71 (fcs ((0:Fp).val)) rfl)<|sP (.bool false) ?_
 refine sA ?_
 refine sS (fv ((0:Fp).val)) (qL 2 g2 0 4 71 71 (fcs ((0:Fp).val)) rfl Tryz.underlying71) ?_
 obtain ⟨z1,hz1⟩:∃ z:Fp,z=(0:Fp)*(0:Fp)*(0:Fp)+7:=⟨_,rfl⟩
 refine sS (fv z1.val) (qF 268 #[fv ((0:Fp).val)] (by rw [hz1]; exact λw=>square_c w (0:Fp))) ?_
 obtain ⟨r1,hr1⟩:∃ z:Nat,z=(sqrtS z1.val).1:=⟨_,rfl⟩
 obtain ⟨k1,hk1⟩:∃ z:Bool,z=(sqrtS z1.val).2:=⟨_,rfl⟩
 have lr1:r1<K4:=by rw [hr1]; exact sqrt_lt _
 refine sS (.tuple #[fv r1,.bool k1]) (qF 290 #[fv z1.val] (λw=>by rw [hr1,hk1]; exact sqrt_any w z1.val lK))<|sP (.tuple #[fv r1,.bool k1])<|sP (fv r1)<|sP (.bool k1) ?_
 refine sM 71 (fcs 0) (λg3=>?_)
 refine sW 3 g3 71 (fcs 0) (fcs r1) (wS 0 71 (fcs r1) rfl)<|sP (.bool k1) ?_
 refine sG<|Sy.seq<|sC ?_
 refine sP (.bool false)<|sP (.bool true)<|sP (.bool true) ?_
 refine sN<|sN ?_
 refine sP (.bool true) ?_
 refine sG<|sT<|sC ?_
 refine sS (pv 0 0 true) (qF 225 #[] (zero_c))<|sW 1 g1 73 (pcs 0 0 false) (pcs 0 0 true) (wS 0 73 (pcs 0 0 true) rfl)<|sP (.bool false) ?_
 refine sG<|Sy.ret<|Sy.then_ret ?_
 rw [show (.tuple #[ptv (liftP l),.bool (liftB l)]:Value)=.tuple #[pv 0 0 true,.bool false] from by
   have hb:liftB l=false:=by unfold liftB; simp [hu]
   rw [hb,lift_no hb]; rfl]
 exact Sy.ret2 (v:=pv 0 0 true) (u:=.bool false) rfl (.inl (Res.cell (ty':=73) g1 1 (pcs 0 0 true) _ kR kR Tryz.underlying73 rfl kR kR)) (.inl (show _=_ by kernel_rfl))
theorem lift_any (w:World) (l:List UInt8) (hl:l.length=32):Calls Tryz.prog 264 #[.agg (l.map bv).toArray] w (Gets w (.tuple #[ptv (liftP l),.bool (liftB l)])):=by
 by_cases h:valB l<pM
 ·exact lift_in w l hl ⟨valB l,h⟩ rfl
 ·exact lift_out w l hl h
end Cu
end
section
namespace Cu
open Go.RowKit Sy
def encS:Pt→List UInt8
 | none=>List.replicate 33 0
 | some (x,y)=>(if y.val%2=1 then 3 else 2)::bytesS x.val
theorem encS_length:∀ P,(encS P).length=33
 | none=>rfl
 | some (x,y)=>by simp [encS,bytesS_length]
def candS (b:List UInt8):Pt:=if b.head? = some 3 then Ec.neg (liftP b.tail) else liftP b.tail
def decOk (b:List UInt8):Bool:=decide (b.length=33∧encS (candS b)=b)
def decP (b:List UInt8):Pt:=if decOk b then candS b else none
theorem liftP_on (l:List UInt8):Ec.On (liftP l):=by
 cases h:liftB l
 ·rw [lift_no h]; trivial
 ·obtain ⟨u,y,_,_,e,ho,_⟩:=lift_yes h
  rw [e]; exact ho
theorem candS_on (b:List UInt8):Ec.On (candS b):=by
 unfold candS
 split
 ·exact Ec.On.neg (liftP_on _)
 ·exact liftP_on _
theorem decP_on (b:List UInt8):Ec.On (decP b):=by
 unfold decP
 split
 ·exact candS_on b
 ·trivial
theorem decP_ok {b:List UInt8} (h:decOk b=true):decP b=candS b∧encS (decP b)=b∧b.length=33:=by
 have e:decP b=candS b:=by unfold decP; rw [if_pos h]
 unfold decOk at h
 have h:=of_decide_eq_true h
 exact ⟨e,by rw [e]; exact h.2,h.1⟩
theorem decP_no {b:List UInt8} (h:decOk b=false):decP b=none:=by unfold decP; rw [if_neg (by simp [h])]
theorem no_zero:liftP (List.replicate 32 0)=none:=lift_no (by decide +kernel)
theorem val_neg' (y:Fp) (h:y≠0):(-y).val%2≠y.val%2:=by
 have hs:y + -y=0:=by grobner
 have h1:=Ec.val_of_sum hs h
 have h2:pM%2=1:=by decide +kernel
 omega
theorem lift_x (x y:Fp) (h:y*y=x*x*x+7):liftP (bytesS x.val)=if y.val%2=1 then some (x, -y) else some (x,y):=by
 have hv:valB (bytesS x.val)=x.val:=valB_bytesS _ (lt4 x)
 have hc:cubeN x.val=mulP y.val y.val:=by
  rw [cubeN_val, ← h]
  rfl
 obtain ⟨s,hs,hsn⟩:=sqrt_sq y.val
 have hb:liftB (bytesS x.val)=true:=by
  unfold liftB
  rw [hv,hc,hs]
  simp [x.isLt]
 obtain ⟨u,r,e1,e2,e3,e4,e5⟩:=lift_yes hb
 rw [hv] at e1
 have eu:u=x:=Fin.ext e1
 subst eu
 rw [hv,hc,hs] at e2
 have e2:r.val=s:=e2
 rw [e3]
 have hy:=no_two u y h
 rcases hsn with q | q
 ·have er:r=y:=Fin.ext (by rw [e2,q,Nat.mod_eq_of_lt y.isLt])
  subst er
  rw [if_neg (by omega)]
 ·have er:r = -y:=Fin.ext (by rw [e2,q,val_neg])
  subst er
  have:=val_neg' y hy
  rw [if_pos (by omega)]
theorem cand_enc {P:Pt} (h:Ec.On P):candS (encS P)=P:=by
 rcases P with _ | ⟨x,y⟩
 ·have e:encS none=0::List.replicate 32 0:=rfl
  have hne:¬ ((0:UInt8)::List.replicate 32 0).head? = some 3:=by decide
  unfold candS
  rw [e,if_neg hne]
  exact no_zero
 ·have hl:=lift_x x y h
  have e:encS (some (x,y))=(if y.val%2=1 then 3 else 2)::bytesS x.val:=rfl
  unfold candS
  rw [e]
  by_cases ho:y.val%2=1
  ·rw [if_pos ho] at hl ⊢
   simp only [List.head?_cons,if_true,List.tail_cons,hl]
   show some (x, - -y)=_
   rw [Ec.neg_neg']
  ·rw [if_neg ho] at hl ⊢
   simp only [List.head?_cons,List.tail_cons,hl]
   rw [if_neg (by decide)]
theorem dec_enc {P:Pt} (h:Ec.On P):decOk (encS P)=true∧decP (encS P)=P:=by
 have hc:=cand_enc h
 have ho:decOk (encS P)=true:=by
  unfold decOk
  rw [hc]
  exact decide_eq_true ⟨encS_length P,rfl⟩
 exact ⟨ho,by unfold decP; rw [if_pos ho,hc]⟩
theorem list32 (m:List UInt8) (h:m.length=32):∃ a0 a1 a2 a3 a4 a5 a6 a7 a8 a9 a10 a11 a12 a13 a14 a15 a16 a17 a18 a19 a20 a21 a22 a23 a24 a25 a26 a27 a28 a29 a30 a31:UInt8,m=[a0,a1,a2,a3,a4,a5,a6,a7,a8,a9,a10,a11,a12,a13,a14,a15,a16,a17,a18,a19,a20,a21,a22,a23,a24,a25,a26,a27,a28,a29,a30,a31]:=by
 match m,h with
 | [a0,a1,a2,a3,a4,a5,a6,a7,a8,a9,a10,a11,a12,a13,a14,a15,a16,a17,a18,a19,a20,a21,a22,a23,a24,a25,a26,a27,a28,a29,a30,a31],_=>exact ⟨a0,a1,a2,a3,a4,a5,a6,a7,a8,a9,a10,a11,a12,a13,a14,a15,a16,a17,a18,a19,a20,a21,a22,a23,a24,a25,a26,a27,a28,a29,a30,a31,  rfl⟩
theorem list33 (m:List UInt8) (h:m.length=33):∃ o0 o1 o2 o3 o4 o5 o6 o7 o8 o9 o10 o11 o12 o13 o14 o15 o16 o17 o18 o19 o20 o21 o22 o23 o24 o25 o26 o27 o28 o29 o30 o31 o32:UInt8,m=(o0::o1::o2::[o3,o4,o5,o6,o7,o8,o9,o10,o11,o12,o13,o14,o15,o16,o17,o18,o19,o20,o21,o22,o23,o24,o25,o26,o27,o28,o29,o30,o31,o32]):=by
 obtain ⟨b,t,rfl⟩:∃ b t,m=b::t:=by cases m with
  | nil=>cases h
  | cons b t=>exact ⟨b,t,rfl⟩
 obtain ⟨a0,a1,a2,a3,a4,a5,a6,a7,a8,a9,a10,a11,a12,a13,a14,a15,a16,a17,a18,a19,a20,a21,a22,a23,a24,a25,a26,a27,a28,a29,a30,a31,e⟩:=list32 t (by simpa using h)
 exact ⟨b,a0,a1,a2,a3,a4,a5,a6,a7,a8,a9,a10,a11,a12,a13,a14,a15,a16,a17,a18,a19,a20,a21,a22,a23,a24,a25,a26,a27,a28,a29,a30,a31,by rw [e]⟩
theorem eql_u8 (w:World) (F:Slots) (o:Oper) (x y:Operand) (a:UInt8) (k:Nat) (hk:k<256) {yt:TypeId} (ho:o.op=.binOp .eql 5 x y yt) (hx:evF F x=bv a) (hy:evF F y=.int .u8 k):(execOp (evF F) o).run Tryz.prog w=.ok (.value (.bool (decide (a=UInt8.ofNat k)))) w:=by
 have h1:=Tryz.underlying5
 have e:((a.toNat:Int) == (k:Int))=decide (a=UInt8.ofNat k):=by
  rw [Bool.eq_iff_iff]
  simp
  constructor
  ·intro h
   have:a.toNat=k:=by omega
   exact UInt8.toNat_inj.1 (by rw [this,UInt8.toNat_ofNat']; omega)
  ·rintro rfl
   rw [UInt8.toNat_ofNat']
   omega
 unfold execOp
 simp only [ho,hx,hy,bv]
 simp [eqGuard,binOp,Op.intCmp,e]
end Cu
end
section
namespace Cu
open Go.RowKit Sy
set_option maxRecDepth 100000
set_option maxHeartbeats 4000000
theorem cand_3 (t:List UInt8):candS (3::t)=Ec.neg (liftP t):=rfl
theorem cand_ne (b:UInt8) (t:List UInt8) (h:b≠3):candS (b::t)=liftP t:=by
 have:¬ (b::t).head? = some 3:=by simpa using h
 unfold candS
 rw [if_neg this]
 rfl
theorem neq_33 (w:World) (F:Slots) (o:Oper) (x y:Operand) (a b:List UInt8) (ha:a.length=33) (hb:b.length=33) {yt:TypeId} (ho:o.op=.binOp .neq 353 x y yt) (hx:evF F x=.agg (a.map bv).toArray) (hy:evF F y=.agg (b.map bv).toArray):(execOp (evF F) o).run Tryz.prog w=.ok (.value (.bool (decide (a≠b)))) w:=by
 have h1:(eqGuard .neq 353 x y (.agg (a.map bv).toArray) (.agg (b.map bv).toArray)).run Tryz.prog w=.ok () w:=by go_simp
 have h2:(binOp .neq 353 (.agg (a.map bv).toArray) (.agg (b.map bv).toArray)).run Tryz.prog w=.ok (.bool (decide (a≠b))) w:=by
  have h:=run_equalIn_bytes (P:=Tryz.prog) w 9998 353 5 33 Tryz.underlying353 Tryz.underlying5 (λW=>by kernel_rfl) a b ha hb
  rw [run_neq_struct,show (10000:Nat)=9998+2 from rfl,show (Op.equalIn (9998+2) 353 (.agg (a.map bv).toArray) (.agg (b.map bv).toArray)).run Tryz.prog w=_ from h]
  by_cases e:a=b <;> simp [e]
 unfold execOp
 simp only [ho,hx,hy,Sem.run_bind,h1,h2,Result.andThen_ok,Sem.run_pure]
theorem neq_len (w:World) (F:Slots) (o:Oper) (x y:Operand) (n:Nat) (hn:n≠33) {yt:TypeId} (ho:o.op=.binOp .neq 3 x y yt) (hx:evF F x=.int .i64 n) (hy:evF F y=.int .i64 33):(execOp (evF F) o).run Tryz.prog w=.ok (.value (.bool true)) w:=by
 unfold execOp
 simp only [ho,hx,hy]
 simp [eqGuard,binOp,Op.intCmp]
 omega
theorem enc_none (w:World) (x y:Nat) (i:Bool) (hx:x<K4) (hy:y<K4) (h:dec x y i=none):Calls Tryz.prog 222 #[pv x y i] w (Gets w (.agg ((encS none).map bv).toArray)):=by
 refine Sy.enter (args:=[pv x y i]) Tryz.func222 rfl kL ?_
 refine sC ?_
 refine sM 73 (pcs x y i) (λg0=>?_)
 refine Sy.make kR 353 (Zl 33).toArray ptr kF (λg1=>?_)
 refine sA ?_
 refine Sy.make kR 353 (Zl 33).toArray ptr kF (λg2=>?_)
 refine sA ?_
 refine sS (pv x y i) (qL 0 g0 0 9 73 73 (pcs x y i) rfl Tryz.underlying73)<|sS (pv 0 0 true) (qF 261 #[pv x y i] (λw=>by have hrr:=right_c w x y i lK lK; rw [h] at hrr; exact hrr))<|sW 0 g0 73 (pcs x y i) (pcs 0 0 true) (wS 0 73 (pcs 0 0 true) rfl) ?_
 refine sG<|Sy.seq<|Sy.seq ?_
 refine Sy.regionD (λj=>false) kR ?_
 refine sD 0 rfl (pv 0 0 true) (qL 0 g0 0 9 73 73 (pcs 0 0 true) rfl Tryz.underlying73)<|sD 1 rfl (pv 0 0 true) (qF 225 #[] (zero_c))<|sD 2 rfl (.bool true) (Quiet.pure (λw=>eql_pt w _ _ _ _ 0 0 true 0 0 true rfl rfl rfl (by decide) (by decide) (by decide) (by decide))) ?_
 refine sI ?_
 refine sT<|sC ?_
 refine sS (.agg ((Zl 33):List Value).toArray) (Quiet.load 2 g2 0 33 353 353 (Zl 33).toArray _ _ rfl kR kR Tryz.underlying353 rfl kR _ kR kL) ?_
 refine Sy.write kR 1 g1 353 (Zl 33).toArray (Zl 33).toArray kR (Writes.store 0 353 (Zl 33).toArray _ _ rfl kR kR kR kL kR kR) ?_
 refine sG<|Sy.ret<|Sy.then_ret ?_
 rw [show (.agg ((encS none).map bv).toArray:Value)=.agg ((Zl 33):List Value).toArray from by kernel_rfl]
 exact Sy.ret1 (v:=.agg ((Zl 33):List Value).toArray) rfl (.inl (Res.cell (ty':=353) g1 1 (Zl 33).toArray _ kR kR Tryz.underlying353 rfl kR kR))
theorem enc_some (w:World) (x y:Nat) (i:Bool) (hx:x<K4) (hy:y<K4) (u v:Fp) (h:dec x y i=some (u,v)):Calls Tryz.prog 222 #[pv x y i] w (Gets w (.agg ((encS (some (u,v))).map bv).toArray)):=by
 obtain ⟨a0,a1,a2,a3,a4,a5,a6,a7,a8,a9,a10,a11,a12,a13,a14,a15,a16,a17,a18,a19,a20,a21,a22,a23,a24,a25,a26,a27,a28,a29,a30,a31,hm⟩:=list32 (bytesS u.val) (bytesS_length _)
 have cB:∀ w,Calls Tryz.prog 263 #[fv u.val] w (Gets w (.agg ((bv a0::bv a1::[bv a2,bv a3,bv a4,bv a5,bv a6,bv a7,bv a8,bv a9,bv a10,bv a11,bv a12,bv a13,bv a14,bv a15,bv a16,bv a17,bv a18,bv a19,bv a20,bv a21,bv a22,bv a23,bv a24,bv a25,bv a26,bv a27,bv a28,bv a29,bv a30,bv a31]):List Value).toArray)):=λw=>by
  have hh:=bytes_any w u.val (lt4 u)
  rw [Nat.mod_eq_of_lt u.isLt,hm] at hh
  exact hh
 refine Sy.enter (args:=[pv x y i]) Tryz.func222 rfl kL ?_
 refine sC ?_
 refine sM 73 (pcs x y i) (λg0=>?_)
 refine Sy.make kR 353 (Zl 33).toArray ptr kF (λg1=>?_)
 refine sA ?_
 refine Sy.make kR 353 (Zl 33).toArray ptr kF (λg2=>?_)
 refine sA ?_
 refine sS (pv x y i) (qL 0 g0 0 9 73 73 (pcs x y i) rfl Tryz.underlying73)<|sS (pv u.val v.val false) (qF 261 #[pv x y i] (λw=>by have hrr:=right_c w x y i lK lK; rw [h] at hrr; exact hrr))<|sW 0 g0 73 (pcs x y i) (pcs u.val v.val false) (wS 0 73 (pcs u.val v.val false) rfl) ?_
 refine sG<|Sy.seq<|Sy.seq ?_
 refine Sy.regionD (λj=>false) kR ?_
 refine sD 0 rfl (pv u.val v.val false) (qL 0 g0 0 9 73 73 (pcs u.val v.val false) rfl Tryz.underlying73)<|sD 1 rfl (pv 0 0 true) (qF 225 #[] (zero_c))<|sD 2 rfl (.bool false) (Quiet.pure (λw=>eql_pt_ne w _ _ _ _ _ _ _ _ _ _ rfl rfl rfl lK lK lK lK (by decide))) ?_
 refine sI ?_
 refine sU<|Sy.skip<|sB ?_
 refine sP (.pointer (some ⟨g2,0,none⟩)) ?_
 refine Sy.write kR 2 g2 353 (Zl 33).toArray (.int .u8 2::Zl 32).toArray kR (wO 0 5 (.int .u8 2) rfl) ?_
 refine sG<|Sy.seq<|sC ?_
 refine sP (.pointer (some ⟨g0,4,none⟩))<|sS (fv v.val) (qL 0 g0 4 4 73 71 (pcs u.val v.val false) rfl Tryz.underlying71) ?_
 obtain ⟨b1,hb1⟩:∃ z:Bool,z=decide (v.val%pM%2=1):=⟨_,rfl⟩
 refine sS (.bool b1) (qF 262 #[fv v.val] (λw=>by rw [hb1]; exact odd_any w v.val lK)) ?_
 refine sG ?_
 cases b1
 ·refine sU<|Sy.skip<|sB ?_
  refine sP (.pointer (some ⟨g0,0,none⟩))<|sS (fv u.val) (qL 0 g0 0 4 73 71 (pcs u.val v.val false) rfl Tryz.underlying71)<|sS (.agg ((bv a0::bv a1::[bv a2,bv a3,bv a4,bv a5,bv a6,bv a7,bv a8,bv a9,bv a10,bv a11,bv a12,bv a13,bv a14,bv a15,bv a16,bv a17,bv a18,bv a19,bv a20,bv a21,bv a22,bv a23,bv a24,bv a25,bv a26,bv a27,bv a28,bv a29,bv a30,bv a31]):List Value).toArray) (qF 263 #[fv u.val] (cB)) ?_
  refine Sy.make kR 27 (Zl 32).toArray ptr kF (λg3=>?_)
  refine Sy.write kR 3 g3 27 (Zl 32).toArray (bv a0::bv a1::[bv a2,bv a3,bv a4,bv a5,bv a6,bv a7,bv a8,bv a9,bv a10,bv a11,bv a12,bv a13,bv a14,bv a15,bv a16,bv a17,bv a18,bv a19,bv a20,bv a21,bv a22,bv a23,bv a24,bv a25,bv a26,bv a27,bv a28,bv a29,bv a30,bv a31]).toArray kR (Writes.store 0 27 (bv a0::bv a1::[bv a2,bv a3,bv a4,bv a5,bv a6,bv a7,bv a8,bv a9,bv a10,bv a11,bv a12,bv a13,bv a14,bv a15,bv a16,bv a17,bv a18,bv a19,bv a20,bv a21,bv a22,bv a23,bv a24,bv a25,bv a26,bv a27,bv a28,bv a29,bv a30,bv a31]).toArray _ _ rfl kR kR kR kL kR kR) ?_
  refine sH (λj=>j == 2) ?_
  refine sZ 0 rfl (.slice (some ⟨g2,1,none⟩) 32 32)<|sZ 1 rfl (.slice (some ⟨g3,0,none⟩) 32 32) ?_
  refine Sy.writeVD 2 rfl kR (by rfl) kR 2 g2 353 (.int .u8 2::Zl 32).toArray (.int .u8 2::bv a0::bv a1::[bv a2,bv a3,bv a4,bv a5,bv a6,bv a7,bv a8,bv a9,bv a10,bv a11,bv a12,bv a13,bv a14,bv a15,bv a16,bv a17,bv a18,bv a19,bv a20,bv a21,bv a22,bv a23,bv a24,bv a25,bv a26,bv a27,bv a28,bv a29,bv a30,bv a31]).toArray (.int .i64 32) kR (WritesV.copy _ _ 29 29 _ rfl Tryz.underlying29 kR 2 g2 1 32 32 353 (.int .u8 2::Zl 32).toArray (.int .u8 2::bv a0::bv a1::[bv a2,bv a3,bv a4,bv a5,bv a6,bv a7,bv a8,bv a9,bv a10,bv a11,bv a12,bv a13,bv a14,bv a15,bv a16,bv a17,bv a18,bv a19,bv a20,bv a21,bv a22,bv a23,bv a24,bv a25,bv a26,bv a27,bv a28,bv a29,bv a30,bv a31]).toArray kR kR 3 g3 0 32 32 27 (bv a0::bv a1::[bv a2,bv a3,bv a4,bv a5,bv a6,bv a7,bv a8,bv a9,bv a10,bv a11,bv a12,bv a13,bv a14,bv a15,bv a16,bv a17,bv a18,bv a19,bv a20,bv a21,bv a22,bv a23,bv a24,bv a25,bv a26,bv a27,bv a28,bv a29,bv a30,bv a31]).toArray kR kR (bv a0::bv a1::[bv a2,bv a3,bv a4,bv a5,bv a6,bv a7,bv a8,bv a9,bv a10,bv a11,bv a12,bv a13,bv a14,bv a15,bv a16,bv a17,bv a18,bv a19,bv a20,bv a21,bv a22,bv a23,bv a24,bv a25,bv a26,bv a27,bv a28,bv a29,bv a30,bv a31]) kR kR (all_one _ kR) kL kR) ?_
  refine sE ?_
  refine sB ?_
  refine sS (.agg ((.int .u8 2::bv a0::bv a1::[bv a2,bv a3,bv a4,bv a5,bv a6,bv a7,bv a8,bv a9,bv a10,bv a11,bv a12,bv a13,bv a14,bv a15,bv a16,bv a17,bv a18,bv a19,bv a20,bv a21,bv a22,bv a23,bv a24,bv a25,bv a26,bv a27,bv a28,bv a29,bv a30,bv a31]):List Value).toArray) (Quiet.load 2 g2 0 33 353 353 (.int .u8 2::bv a0::bv a1::[bv a2,bv a3,bv a4,bv a5,bv a6,bv a7,bv a8,bv a9,bv a10,bv a11,bv a12,bv a13,bv a14,bv a15,bv a16,bv a17,bv a18,bv a19,bv a20,bv a21,bv a22,bv a23,bv a24,bv a25,bv a26,bv a27,bv a28,bv a29,bv a30,bv a31]).toArray _ _ rfl kR kR Tryz.underlying353 rfl kR _ kR kL) ?_
  refine Sy.write kR 1 g1 353 (Zl 33).toArray (.int .u8 2::bv a0::bv a1::[bv a2,bv a3,bv a4,bv a5,bv a6,bv a7,bv a8,bv a9,bv a10,bv a11,bv a12,bv a13,bv a14,bv a15,bv a16,bv a17,bv a18,bv a19,bv a20,bv a21,bv a22,bv a23,bv a24,bv a25,bv a26,bv a27,bv a28,bv a29,bv a30,bv a31]).toArray kR (Writes.store 0 353 (.int .u8 2::bv a0::bv a1::[bv a2,bv a3,bv a4,bv a5,bv a6,bv a7,bv a8,bv a9,bv a10,bv a11,bv a12,bv a13,bv a14,bv a15,bv a16,bv a17,bv a18,bv a19,bv a20,bv a21,bv a22,bv a23,bv a24,bv a25,bv a26,bv a27,bv a28,bv a29,bv a30,bv a31]).toArray _ _ rfl kR kR kR kL kR kR) ?_
  refine sG<|Sy.ret ?_
  rw [show (.agg ((encS (some (u,v))).map bv).toArray:Value)=.agg ((.int .u8 2::bv a0::bv a1::[bv a2,bv a3,bv a4,bv a5,bv a6,bv a7,bv a8,bv a9,bv a10,bv a11,bv a12,bv a13,bv a14,bv a15,bv a16,bv a17,bv a18,bv a19,bv a20,bv a21,bv a22,bv a23,bv a24,bv a25,bv a26,bv a27,bv a28,bv a29,bv a30,bv a31]):List Value).toArray from by
   have e:encS (some (u,v))=(if v.val%2=1 then 3 else 2)::bytesS u.val:=rfl
   rw [e,hm,if_neg (by have q:=hb1.symm; rw [Nat.mod_eq_of_lt v.isLt] at q; exact of_decide_eq_false q)]
   rfl]
  exact Sy.ret1 (v:=.agg ((.int .u8 2::bv a0::bv a1::[bv a2,bv a3,bv a4,bv a5,bv a6,bv a7,bv a8,bv a9,bv a10,bv a11,bv a12,bv a13,bv a14,bv a15,bv a16,bv a17,bv a18,bv a19,bv a20,bv a21,bv a22,bv a23,bv a24,bv a25,bv a26,bv a27,bv a28,bv a29,bv a30,bv a31]):List Value).toArray) rfl (.inl (Res.cell (ty':=353) g1 1 (.int .u8 2::bv a0::bv a1::[bv a2,bv a3,bv a4,bv a5,bv a6,bv a7,bv a8,bv a9,bv a10,bv a11,bv a12,bv a13,bv a14,bv a15,bv a16,bv a17,bv a18,bv a19,bv a20,bv a21,bv a22,bv a23,bv a24,bv a25,bv a26,bv a27,bv a28,bv a29,bv a30,bv a31]).toArray _ kR kR Tryz.underlying353 rfl kR kR))
 ·refine sT<|Sy.region ?_
  refine sP (.pointer (some ⟨g2,0,none⟩)) ?_
  refine Sy.write kR 2 g2 353 (.int .u8 2::Zl 32).toArray (.int .u8 3::Zl 32).toArray kR (wO 0 5 (.int .u8 3) rfl) ?_
  refine sA ?_
  refine sP (.pointer (some ⟨g0,0,none⟩))<|sS (fv u.val) (qL 0 g0 0 4 73 71 (pcs u.val v.val false) rfl Tryz.underlying71)<|sS (.agg ((bv a0::bv a1::[bv a2,bv a3,bv a4,bv a5,bv a6,bv a7,bv a8,bv a9,bv a10,bv a11,bv a12,bv a13,bv a14,bv a15,bv a16,bv a17,bv a18,bv a19,bv a20,bv a21,bv a22,bv a23,bv a24,bv a25,bv a26,bv a27,bv a28,bv a29,bv a30,bv a31]):List Value).toArray) (qF 263 #[fv u.val] (cB)) ?_
  refine Sy.make kR 27 (Zl 32).toArray ptr kF (λg4=>?_)
  refine Sy.write kR 3 g4 27 (Zl 32).toArray (bv a0::bv a1::[bv a2,bv a3,bv a4,bv a5,bv a6,bv a7,bv a8,bv a9,bv a10,bv a11,bv a12,bv a13,bv a14,bv a15,bv a16,bv a17,bv a18,bv a19,bv a20,bv a21,bv a22,bv a23,bv a24,bv a25,bv a26,bv a27,bv a28,bv a29,bv a30,bv a31]).toArray kR (Writes.store 0 27 (bv a0::bv a1::[bv a2,bv a3,bv a4,bv a5,bv a6,bv a7,bv a8,bv a9,bv a10,bv a11,bv a12,bv a13,bv a14,bv a15,bv a16,bv a17,bv a18,bv a19,bv a20,bv a21,bv a22,bv a23,bv a24,bv a25,bv a26,bv a27,bv a28,bv a29,bv a30,bv a31]).toArray _ _ rfl kR kR kR kL kR kR) ?_
  refine sH (λj=>j == 2) ?_
  refine sZ 0 rfl (.slice (some ⟨g2,1,none⟩) 32 32)<|sZ 1 rfl (.slice (some ⟨g4,0,none⟩) 32 32) ?_
  refine Sy.writeVD 2 rfl kR (by rfl) kR 2 g2 353 (.int .u8 3::Zl 32).toArray (.int .u8 3::bv a0::bv a1::[bv a2,bv a3,bv a4,bv a5,bv a6,bv a7,bv a8,bv a9,bv a10,bv a11,bv a12,bv a13,bv a14,bv a15,bv a16,bv a17,bv a18,bv a19,bv a20,bv a21,bv a22,bv a23,bv a24,bv a25,bv a26,bv a27,bv a28,bv a29,bv a30,bv a31]).toArray (.int .i64 32) kR (WritesV.copy _ _ 29 29 _ rfl Tryz.underlying29 kR 2 g2 1 32 32 353 (.int .u8 3::Zl 32).toArray (.int .u8 3::bv a0::bv a1::[bv a2,bv a3,bv a4,bv a5,bv a6,bv a7,bv a8,bv a9,bv a10,bv a11,bv a12,bv a13,bv a14,bv a15,bv a16,bv a17,bv a18,bv a19,bv a20,bv a21,bv a22,bv a23,bv a24,bv a25,bv a26,bv a27,bv a28,bv a29,bv a30,bv a31]).toArray kR kR 3 g4 0 32 32 27 (bv a0::bv a1::[bv a2,bv a3,bv a4,bv a5,bv a6,bv a7,bv a8,bv a9,bv a10,bv a11,bv a12,bv a13,bv a14,bv a15,bv a16,bv a17,bv a18,bv a19,bv a20,bv a21,bv a22,bv a23,bv a24,bv a25,bv a26,bv a27,bv a28,bv a29,bv a30,bv a31]).toArray kR kR (bv a0::bv a1::[bv a2,bv a3,bv a4,bv a5,bv a6,bv a7,bv a8,bv a9,bv a10,bv a11,bv a12,bv a13,bv a14,bv a15,bv a16,bv a17,bv a18,bv a19,bv a20,bv a21,bv a22,bv a23,bv a24,bv a25,bv a26,bv a27,bv a28,bv a29,bv a30,bv a31]) kR kR (all_one _ kR) kL kR) ?_
  refine sE ?_
  refine sB ?_
  refine sS (.agg ((.int .u8 3::bv a0::bv a1::[bv a2,bv a3,bv a4,bv a5,bv a6,bv a7,bv a8,bv a9,bv a10,bv a11,bv a12,bv a13,bv a14,bv a15,bv a16,bv a17,bv a18,bv a19,bv a20,bv a21,bv a22,bv a23,bv a24,bv a25,bv a26,bv a27,bv a28,bv a29,bv a30,bv a31]):List Value).toArray) (Quiet.load 2 g2 0 33 353 353 (.int .u8 3::bv a0::bv a1::[bv a2,bv a3,bv a4,bv a5,bv a6,bv a7,bv a8,bv a9,bv a10,bv a11,bv a12,bv a13,bv a14,bv a15,bv a16,bv a17,bv a18,bv a19,bv a20,bv a21,bv a22,bv a23,bv a24,bv a25,bv a26,bv a27,bv a28,bv a29,bv a30,bv a31]).toArray _ _ rfl kR kR Tryz.underlying353 rfl kR _ kR kL) ?_
  refine Sy.write kR 1 g1 353 (Zl 33).toArray (.int .u8 3::bv a0::bv a1::[bv a2,bv a3,bv a4,bv a5,bv a6,bv a7,bv a8,bv a9,bv a10,bv a11,bv a12,bv a13,bv a14,bv a15,bv a16,bv a17,bv a18,bv a19,bv a20,bv a21,bv a22,bv a23,bv a24,bv a25,bv a26,bv a27,bv a28,bv a29,bv a30,bv a31]).toArray kR (Writes.store 0 353 (.int .u8 3::bv a0::bv a1::[bv a2,bv a3,bv a4,bv a5,bv a6,bv a7,bv a8,bv a9,bv a10,bv a11,bv a12,bv a13,bv a14,bv a15,bv a16,bv a17,bv a18,bv a19,bv a20,bv a21,bv a22,bv a23,bv a24,bv a25,bv a26,bv a27,bv a28,bv a29,bv a30,bv a31]).toArray _ _ rfl kR kR kR kL kR kR) ?_
  refine sG<|Sy.ret ?_
  rw [show (.agg ((encS (some (u,v))).map bv).toArray:Value)=.agg ((.int .u8 3::bv a0::bv a1::[bv a2,bv a3,bv a4,bv a5,bv a6,bv a7,bv a8,bv a9,bv a10,bv a11,bv a12,bv a13,bv a14,bv a15,bv a16,bv a17,bv a18,bv a19,bv a20,bv a21,bv a22,bv a23,bv a24,bv a25,bv a26,bv a27,bv a28,bv a29,bv a30,bv a31]):List Value).toArray from by
   have e:encS (some (u,v))=(if v.val%2=1 then 3 else 2)::bytesS u.val:=rfl
   rw [e,hm,if_pos (by have q:=hb1.symm; rw [Nat.mod_eq_of_lt v.isLt] at q; exact of_decide_eq_true q)]
   rfl]
  exact Sy.ret1 (v:=.agg ((.int .u8 3::bv a0::bv a1::[bv a2,bv a3,bv a4,bv a5,bv a6,bv a7,bv a8,bv a9,bv a10,bv a11,bv a12,bv a13,bv a14,bv a15,bv a16,bv a17,bv a18,bv a19,bv a20,bv a21,bv a22,bv a23,bv a24,bv a25,bv a26,bv a27,bv a28,bv a29,bv a30,bv a31]):List Value).toArray) rfl (.inl (Res.cell (ty':=353) g1 1 (.int .u8 3::bv a0::bv a1::[bv a2,bv a3,bv a4,bv a5,bv a6,bv a7,bv a8,bv a9,bv a10,bv a11,bv a12,bv a13,bv a14,bv a15,bv a16,bv a17,bv a18,bv a19,bv a20,bv a21,bv a22,bv a23,bv a24,bv a25,bv a26,bv a27,bv a28,bv a29,bv a30,bv a31]).toArray _ kR kR Tryz.underlying353 rfl kR kR))
theorem enc_any (w:World) (x y:Nat) (i:Bool) (hx:x<K4) (hy:y<K4):Calls Tryz.prog 222 #[pv x y i] w (Gets w (.agg ((encS (dec x y i)).map bv).toArray)):=by
 rcases h:dec x y i with _ | ⟨u,v⟩
 ·exact enc_none w x y i hx hy h
 ·exact enc_some w x y i hx hy u v h
end Cu
end
section
namespace Cu
open Go.RowKit Sy
set_option maxRecDepth 100000
set_option maxHeartbeats 4000000
theorem dec_len (w:World) (A:Option Addr) (n c:Nat) (hn:n≠33):Calls Tryz.prog 223 #[.slice A n c] w (Gets w (.tuple #[pv 0 0 true,.bool false])):=by
 refine Sy.enter (args:=[.slice A n c]) Tryz.func223 rfl kL ?_
 refine sC ?_
 refine sM 73 (pcs 0 0 false) (λg0=>?_)
 refine sP (.bool false) ?_
 refine sG<|Sy.seq<|sC ?_
 refine sP (.slice A n c)<|sP (.int .i64 (n:Int))<|sS (.bool true) (Quiet.pure (λw=>neq_len w _ _ _ _ n hn rfl rfl rfl)) ?_
 refine sG<|sT<|sC ?_
 refine sS (pv 0 0 true) (qF 225 #[] (zero_c))<|sW 0 g0 73 (pcs 0 0 false) (pcs 0 0 true) (wS 0 73 (pcs 0 0 true) rfl)<|sP (.bool false) ?_
 refine sG<|Sy.ret<|Sy.then_ret ?_
 exact Sy.ret2 (v:=pv 0 0 true) (u:=.bool false) rfl (.inl (Res.cell (ty':=73) g0 0 (pcs 0 0 true) _ kR kR Tryz.underlying73 rfl kR kR)) (.inl (show _=_ by kernel_rfl))
theorem dec_33 (w:World) (ga oa cb:Nat) (o0 o1 o2 o3 o4 o5 o6 o7 o8 o9 o10 o11 o12 o13 o14 o15 o16 o17 o18 o19 o20 o21 o22 o23 o24 o25 o26 o27 o28 o29 o30 o31 o32:UInt8) (hs:SrcL w ga oa (o0::o1::o2::[o3,o4,o5,o6,o7,o8,o9,o10,o11,o12,o13,o14,o15,o16,o17,o18,o19,o20,o21,o22,o23,o24,o25,o26,o27,o28,o29,o30,o31,o32])) (hcap:33≤cb):Calls Tryz.prog 223 #[.slice (some ⟨ga,oa,none⟩) 33 cb] w (Gets w (.tuple #[ptv (decP (o0::o1::o2::[o3,o4,o5,o6,o7,o8,o9,o10,o11,o12,o13,o14,o15,o16,o17,o18,o19,o20,o21,o22,o23,o24,o25,o26,o27,o28,o29,o30,o31,o32])),.bool (decOk (o0::o1::o2::[o3,o4,o5,o6,o7,o8,o9,o10,o11,o12,o13,o14,o15,o16,o17,o18,o19,o20,o21,o22,o23,o24,o25,o26,o27,o28,o29,o30,o31,o32]))])):=by
 have hl:List.length ((o1::o2::[o3,o4,o5,o6,o7,o8,o9,o10,o11,o12,o13,o14,o15,o16,o17,o18,o19,o20,o21,o22,o23,o24,o25,o26,o27,o28,o29,o30,o31,o32]):List UInt8)=32:=rfl
 obtain ⟨tl,htl⟩:∃ t:List UInt8,t=(o1::o2::[o3,o4,o5,o6,o7,o8,o9,o10,o11,o12,o13,o14,o15,o16,o17,o18,o19,o20,o21,o22,o23,o24,o25,o26,o27,o28,o29,o30,o31,o32]):=⟨_,rfl⟩
 obtain ⟨px,py,pi,lpx,lpy,ep,dp,rp⟩:=ptv_raw (liftP tl) (liftP_on tl)
 obtain ⟨nx,ny,ni,lnx,lny,en,dn,rn⟩:=ptv_raw (Ec.neg (liftP tl)) (Ec.On.neg (liftP_on tl))
 obtain ⟨kb,hkb⟩:∃ k,k=liftB tl:=⟨_,rfl⟩
 have cL:∀ w,Calls Tryz.prog 264 #[.agg ((o1::o2::[o3,o4,o5,o6,o7,o8,o9,o10,o11,o12,o13,o14,o15,o16,o17,o18,o19,o20,o21,o22,o23,o24,o25,o26,o27,o28,o29,o30,o31,o32]).map bv).toArray] w (Gets w (.tuple #[pv px py pi,.bool kb])):=λw=>by
  have h:=lift_any w _ hl
  rw [← htl,ep, ← hkb] at h
  rw [← htl]
  exact h
 have cN:∀ w,Calls Tryz.prog 265 #[pv px py pi] w (Gets w (pv nx ny ni)):=λw=>by
  have h:=neg_any w px py pi lpx lpy
  rw [dp,en] at h
  exact h
 have cE:∀ w,Calls Tryz.prog 222 #[pv px py pi] w (Gets w (.agg ((encS (liftP tl)).map bv).toArray)):=λw=>by
  have h:=enc_any w px py pi lpx lpy
  rw [dp] at h
  exact h
 have cF:∀ w,Calls Tryz.prog 222 #[pv nx ny ni] w (Gets w (.agg ((encS (Ec.neg (liftP tl))).map bv).toArray)):=λw=>by
  have h:=enc_any w nx ny ni lnx lny
  rw [dn] at h
  exact h
 refine Sy.enter (args:=[.slice (some ⟨ga,oa,none⟩) 33 cb]) Tryz.func223 rfl kL ?_
 refine sC ?_
 refine sM 73 (pcs 0 0 false) (λg0=>?_)
 refine sP (.bool false) ?_
 refine sG<|Sy.seq<|sC ?_
 refine sP (.slice (some ⟨ga,oa,none⟩) 33 cb)<|sP (.int .i64 33)<|sP (.bool false) ?_
 refine sG<|sU<|Sy.skip<|sB ?_
 refine sP (.slice (some ⟨ga,oa,none⟩) 33 cb)<|sS (.slice (some ⟨ga,oa+1,none⟩) 32 (cb - 1)) (Quiet.pure (λw=>exec_from 29 _ _ ga (oa) 33 cb 1 rfl kR kR kR kF (by decide) hcap w))<|sS (.pointer (some ⟨ga,oa+1,none⟩)) (Quiet.pure (λw=>exec_array 309 _ _ (some ⟨ga,oa+1,none⟩) 32 32 (cb - 1) rfl kR Tryz.underlying309 (by decide) w))<|sS (.agg ((o1::o2::[o3,o4,o5,o6,o7,o8,o9,o10,o11,o12,o13,o14,o15,o16,o17,o18,o19,o20,o21,o22,o23,o24,o25,o26,o27,o28,o29,o30,o31,o32]).map bv).toArray) (Quiet.there ga (oa+1) 32 309 (bv o1::bv o2::[bv o3,bv o4,bv o5,bv o6,bv o7,bv o8,bv o9,bv o10,bv o11,bv o12,bv o13,bv o14,bv o15,bv o16,bv o17,bv o18,bv o19,bv o20,bv o21,bv o22,bv o23,bv o24,bv o25,bv o26,bv o27,bv o28,bv o29,bv o30,bv o31,bv o32]) _ _ rfl kR hs.1 (hs.2 1 _ kR) Tryz.underlying309 rfl kR rfl _ kR)<|sS (.tuple #[pv px py pi,.bool kb]) (qF 264 #[.agg ((o1::o2::[o3,o4,o5,o6,o7,o8,o9,o10,o11,o12,o13,o14,o15,o16,o17,o18,o19,o20,o21,o22,o23,o24,o25,o26,o27,o28,o29,o30,o31,o32]).map bv).toArray] (cL))<|sP (.tuple #[pv px py pi,.bool kb])<|sP (pv px py pi)<|sP (.bool kb) ?_
 refine sM 73 (pcs 0 0 false) (λg1=>?_)
 refine sW 1 g1 73 (pcs 0 0 false) (pcs px py pi) (wS 0 73 (pcs px py pi) rfl)<|sP (.bool kb) ?_
 refine sG<|Sy.seq<|sC ?_
 refine sP (.slice (some ⟨ga,oa,none⟩) 33 cb)<|sS (.pointer (some ⟨ga,oa,none⟩)) (Quiet.pure (λw=>exec_index 29 _ _ ga (oa) 33 (cb) 0 rfl kR kR kR kF (by decide) w))<|sS (bv o0) (Quiet.thereOne ga (oa+0) 5 _ _ rfl kR hs.1 _ (src_one hs 0 _ kR) Tryz.underlying5 rfl) ?_
 obtain ⟨b1,hb1⟩:∃ z:Bool,z=decide (o0=UInt8.ofNat 3):=⟨_,rfl⟩
 refine sS (.bool b1) (Quiet.pure (λw=>by rw [hb1]; exact eql_u8 w _ _ _ _ _ 3 (by decide) rfl rfl rfl)) ?_
 refine sG ?_
 cases b1
 ·refine sU<|Sy.skip<|Sy.then_<|Sy.seq<|Sy.seq ?_
  refine Sy.regionD (λj=>false) kR ?_
  refine sD 0 rfl (pv px py pi) (qL 1 g1 0 9 73 73 (pcs px py pi) rfl Tryz.underlying73)<|sD 1 rfl (.agg ((encS (liftP tl)).map bv).toArray) (qF 222 #[pv px py pi] (cE))<|sZ 2 rfl (.slice (some ⟨ga,oa,none⟩) 33 cb)<|sD 3 rfl (.pointer (some ⟨ga,oa,none⟩)) (Quiet.pure (λw=>exec_array 353 _ _ (some ⟨ga,oa,none⟩) 33 33 (cb) rfl kR Tryz.underlying353 (by decide) w))<|sD 4 rfl (.agg ((o0::o1::o2::[o3,o4,o5,o6,o7,o8,o9,o10,o11,o12,o13,o14,o15,o16,o17,o18,o19,o20,o21,o22,o23,o24,o25,o26,o27,o28,o29,o30,o31,o32]).map bv).toArray) (Quiet.there ga (oa) 33 353 (bv o0::bv o1::bv o2::[bv o3,bv o4,bv o5,bv o6,bv o7,bv o8,bv o9,bv o10,bv o11,bv o12,bv o13,bv o14,bv o15,bv o16,bv o17,bv o18,bv o19,bv o20,bv o21,bv o22,bv o23,bv o24,bv o25,bv o26,bv o27,bv o28,bv o29,bv o30,bv o31,bv o32]) _ _ rfl kR hs.1 (hs.2 0 _ kR) Tryz.underlying353 rfl kR rfl _ kR) ?_
  obtain ⟨b2,hb2⟩:∃ z:Bool,z=decide ((encS (liftP tl))≠(o0::o1::o2::[o3,o4,o5,o6,o7,o8,o9,o10,o11,o12,o13,o14,o15,o16,o17,o18,o19,o20,o21,o22,o23,o24,o25,o26,o27,o28,o29,o30,o31,o32])):=⟨_,rfl⟩
  refine sD 5 rfl (.bool b2) (Quiet.pure (λw=>by rw [hb2]; exact neq_33 w _ _ _ _ (encS (liftP tl)) (o0::o1::o2::[o3,o4,o5,o6,o7,o8,o9,o10,o11,o12,o13,o14,o15,o16,o17,o18,o19,o20,o21,o22,o23,o24,o25,o26,o27,o28,o29,o30,o31,o32]) (encS_length _) rfl rfl rfl rfl)) ?_
  refine sI ?_
  cases b2
  ·refine sU<|Sy.skip<|sB ?_
   refine sS (pv px py pi) (qL 1 g1 0 9 73 73 (pcs px py pi) rfl Tryz.underlying73)<|sW 0 g0 73 (pcs 0 0 false) (pcs px py pi) (wS 0 73 (pcs px py pi) rfl)<|sP (.bool true) ?_
   refine sG<|Sy.ret ?_
   rw [show (.tuple #[ptv (decP (o0::o1::o2::[o3,o4,o5,o6,o7,o8,o9,o10,o11,o12,o13,o14,o15,o16,o17,o18,o19,o20,o21,o22,o23,o24,o25,o26,o27,o28,o29,o30,o31,o32])),.bool (decOk (o0::o1::o2::[o3,o4,o5,o6,o7,o8,o9,o10,o11,o12,o13,o14,o15,o16,o17,o18,o19,o20,o21,o22,o23,o24,o25,o26,o27,o28,o29,o30,o31,o32]))]:Value)=.tuple #[pv px py pi,.bool true] from by
    have hc:candS (o0::o1::o2::[o3,o4,o5,o6,o7,o8,o9,o10,o11,o12,o13,o14,o15,o16,o17,o18,o19,o20,o21,o22,o23,o24,o25,o26,o27,o28,o29,o30,o31,o32])=liftP tl:=by
     rw [htl]; exact cand_ne _ _ (of_decide_eq_false hb1.symm)
    have hd:decOk (o0::o1::o2::[o3,o4,o5,o6,o7,o8,o9,o10,o11,o12,o13,o14,o15,o16,o17,o18,o19,o20,o21,o22,o23,o24,o25,o26,o27,o28,o29,o30,o31,o32])=true:=by unfold decOk; rw [hc]; exact decide_eq_true ⟨rfl,Decidable.of_not_not (of_decide_eq_false hb2.symm)⟩
    rw [hd,(decP_ok hd).1,hc,ep]]
   exact Sy.ret2 (v:=pv px py pi) (u:=.bool true) rfl (.inl (Res.cell (ty':=73) g0 0 (pcs px py pi) _ kR kR Tryz.underlying73 rfl kR kR)) (.inl (show _=_ by kernel_rfl))
  ·refine sT<|sC ?_
   refine sS (pv 0 0 true) (qF 225 #[] (zero_c))<|sW 0 g0 73 (pcs 0 0 false) (pcs 0 0 true) (wS 0 73 (pcs 0 0 true) rfl)<|sP (.bool false) ?_
   refine sG<|Sy.ret<|Sy.then_ret ?_
   rw [show (.tuple #[ptv (decP (o0::o1::o2::[o3,o4,o5,o6,o7,o8,o9,o10,o11,o12,o13,o14,o15,o16,o17,o18,o19,o20,o21,o22,o23,o24,o25,o26,o27,o28,o29,o30,o31,o32])),.bool (decOk (o0::o1::o2::[o3,o4,o5,o6,o7,o8,o9,o10,o11,o12,o13,o14,o15,o16,o17,o18,o19,o20,o21,o22,o23,o24,o25,o26,o27,o28,o29,o30,o31,o32]))]:Value)=.tuple #[pv 0 0 true,.bool false] from by
    have hc:candS (o0::o1::o2::[o3,o4,o5,o6,o7,o8,o9,o10,o11,o12,o13,o14,o15,o16,o17,o18,o19,o20,o21,o22,o23,o24,o25,o26,o27,o28,o29,o30,o31,o32])=liftP tl:=by
     rw [htl]; exact cand_ne _ _ (of_decide_eq_false hb1.symm)
    have hd:decOk (o0::o1::o2::[o3,o4,o5,o6,o7,o8,o9,o10,o11,o12,o13,o14,o15,o16,o17,o18,o19,o20,o21,o22,o23,o24,o25,o26,o27,o28,o29,o30,o31,o32])=false:=by unfold decOk; rw [hc]; exact decide_eq_false (λk=>of_decide_eq_true hb2.symm k.2)
    rw [hd,decP_no hd]; rfl]
   exact Sy.ret2 (v:=pv 0 0 true) (u:=.bool false) rfl (.inl (Res.cell (ty':=73) g0 0 (pcs 0 0 true) _ kR kR Tryz.underlying73 rfl kR kR)) (.inl (show _=_ by kernel_rfl))
 ·refine sT<|Sy.region ?_
  refine sS (pv px py pi) (qL 1 g1 0 9 73 73 (pcs px py pi) rfl Tryz.underlying73)<|sS (pv nx ny ni) (qF 265 #[pv px py pi] (cN))<|sW 1 g1 73 (pcs px py pi) (pcs nx ny ni) (wS 0 73 (pcs nx ny ni) rfl) ?_
  refine sG<|Sy.seq<|Sy.seq ?_
  refine Sy.regionD (λj=>false) kR ?_
  refine sD 0 rfl (pv nx ny ni) (qL 1 g1 0 9 73 73 (pcs nx ny ni) rfl Tryz.underlying73)<|sD 1 rfl (.agg ((encS (Ec.neg (liftP tl))).map bv).toArray) (qF 222 #[pv nx ny ni] (cF))<|sZ 2 rfl (.slice (some ⟨ga,oa,none⟩) 33 cb)<|sD 3 rfl (.pointer (some ⟨ga,oa,none⟩)) (Quiet.pure (λw=>exec_array 353 _ _ (some ⟨ga,oa,none⟩) 33 33 (cb) rfl kR Tryz.underlying353 (by decide) w))<|sD 4 rfl (.agg ((o0::o1::o2::[o3,o4,o5,o6,o7,o8,o9,o10,o11,o12,o13,o14,o15,o16,o17,o18,o19,o20,o21,o22,o23,o24,o25,o26,o27,o28,o29,o30,o31,o32]).map bv).toArray) (Quiet.there ga (oa) 33 353 (bv o0::bv o1::bv o2::[bv o3,bv o4,bv o5,bv o6,bv o7,bv o8,bv o9,bv o10,bv o11,bv o12,bv o13,bv o14,bv o15,bv o16,bv o17,bv o18,bv o19,bv o20,bv o21,bv o22,bv o23,bv o24,bv o25,bv o26,bv o27,bv o28,bv o29,bv o30,bv o31,bv o32]) _ _ rfl kR hs.1 (hs.2 0 _ kR) Tryz.underlying353 rfl kR rfl _ kR) ?_
  obtain ⟨b3,hb3⟩:∃ z:Bool,z=decide ((encS (Ec.neg (liftP tl)))≠(o0::o1::o2::[o3,o4,o5,o6,o7,o8,o9,o10,o11,o12,o13,o14,o15,o16,o17,o18,o19,o20,o21,o22,o23,o24,o25,o26,o27,o28,o29,o30,o31,o32])):=⟨_,rfl⟩
  refine sD 5 rfl (.bool b3) (Quiet.pure (λw=>by rw [hb3]; exact neq_33 w _ _ _ _ (encS (Ec.neg (liftP tl))) (o0::o1::o2::[o3,o4,o5,o6,o7,o8,o9,o10,o11,o12,o13,o14,o15,o16,o17,o18,o19,o20,o21,o22,o23,o24,o25,o26,o27,o28,o29,o30,o31,o32]) (encS_length _) rfl rfl rfl rfl)) ?_
  refine sI ?_
  cases b3
  ·refine sU<|Sy.skip<|sB ?_
   refine sS (pv nx ny ni) (qL 1 g1 0 9 73 73 (pcs nx ny ni) rfl Tryz.underlying73)<|sW 0 g0 73 (pcs 0 0 false) (pcs nx ny ni) (wS 0 73 (pcs nx ny ni) rfl)<|sP (.bool true) ?_
   refine sG<|Sy.ret ?_
   rw [show (.tuple #[ptv (decP (o0::o1::o2::[o3,o4,o5,o6,o7,o8,o9,o10,o11,o12,o13,o14,o15,o16,o17,o18,o19,o20,o21,o22,o23,o24,o25,o26,o27,o28,o29,o30,o31,o32])),.bool (decOk (o0::o1::o2::[o3,o4,o5,o6,o7,o8,o9,o10,o11,o12,o13,o14,o15,o16,o17,o18,o19,o20,o21,o22,o23,o24,o25,o26,o27,o28,o29,o30,o31,o32]))]:Value)=.tuple #[pv nx ny ni,.bool true] from by
    have hc:candS (o0::o1::o2::[o3,o4,o5,o6,o7,o8,o9,o10,o11,o12,o13,o14,o15,o16,o17,o18,o19,o20,o21,o22,o23,o24,o25,o26,o27,o28,o29,o30,o31,o32])=Ec.neg (liftP tl):=by
     rw [htl,show o0=3 from of_decide_eq_true hb1.symm]; exact cand_3 _
    have hd:decOk (o0::o1::o2::[o3,o4,o5,o6,o7,o8,o9,o10,o11,o12,o13,o14,o15,o16,o17,o18,o19,o20,o21,o22,o23,o24,o25,o26,o27,o28,o29,o30,o31,o32])=true:=by unfold decOk; rw [hc]; exact decide_eq_true ⟨rfl,Decidable.of_not_not (of_decide_eq_false hb3.symm)⟩
    rw [hd,(decP_ok hd).1,hc,en]]
   exact Sy.ret2 (v:=pv nx ny ni) (u:=.bool true) rfl (.inl (Res.cell (ty':=73) g0 0 (pcs nx ny ni) _ kR kR Tryz.underlying73 rfl kR kR)) (.inl (show _=_ by kernel_rfl))
  ·refine sT<|sC ?_
   refine sS (pv 0 0 true) (qF 225 #[] (zero_c))<|sW 0 g0 73 (pcs 0 0 false) (pcs 0 0 true) (wS 0 73 (pcs 0 0 true) rfl)<|sP (.bool false) ?_
   refine sG<|Sy.ret<|Sy.then_ret ?_
   rw [show (.tuple #[ptv (decP (o0::o1::o2::[o3,o4,o5,o6,o7,o8,o9,o10,o11,o12,o13,o14,o15,o16,o17,o18,o19,o20,o21,o22,o23,o24,o25,o26,o27,o28,o29,o30,o31,o32])),.bool (decOk (o0::o1::o2::[o3,o4,o5,o6,o7,o8,o9,o10,o11,o12,o13,o14,o15,o16,o17,o18,o19,o20,o21,o22,o23,o24,o25,o26,o27,o28,o29,o30,o31,o32]))]:Value)=.tuple #[pv 0 0 true,.bool false] from by
    have hc:candS (o0::o1::o2::[o3,o4,o5,o6,o7,o8,o9,o10,o11,o12,o13,o14,o15,o16,o17,o18,o19,o20,o21,o22,o23,o24,o25,o26,o27,o28,o29,o30,o31,o32])=Ec.neg (liftP tl):=by
     rw [htl,show o0=3 from of_decide_eq_true hb1.symm]; exact cand_3 _
    have hd:decOk (o0::o1::o2::[o3,o4,o5,o6,o7,o8,o9,o10,o11,o12,o13,o14,o15,o16,o17,o18,o19,o20,o21,o22,o23,o24,o25,o26,o27,o28,o29,o30,o31,o32])=false:=by unfold decOk; rw [hc]; exact decide_eq_false (λk=>of_decide_eq_true hb3.symm k.2)
    rw [hd,decP_no hd]; rfl]
   exact Sy.ret2 (v:=pv 0 0 true) (u:=.bool false) rfl (.inl (Res.cell (ty':=73) g0 0 (pcs 0 0 true) _ kR kR Tryz.underlying73 rfl kR kR)) (.inl (show _=_ by kernel_rfl))
theorem decode_any (w:World) (A:Option Addr) (b:List UInt8) (n c:Nat) (hn:b.length=n) (hs:Src w A b) (hc:n≤c):Calls Tryz.prog 223 #[.slice A n c] w (Gets w (.tuple #[ptv (decP b),.bool (decOk b)])):=by
 by_cases h:n=33
 ·subst h
  obtain ⟨ga,oa,rfl,hl,hcell⟩:=hs (by intro e; rw [e] at hn; cases hn)
  obtain ⟨o0,o1,o2,o3,o4,o5,o6,o7,o8,o9,o10,o11,o12,o13,o14,o15,o16,o17,o18,o19,o20,o21,o22,o23,o24,o25,o26,o27,o28,o29,o30,o31,o32,rfl⟩:=list33 b hn
  exact dec_33 w ga oa c o0 o1 o2 o3 o4 o5 o6 o7 o8 o9 o10 o11 o12 o13 o14 o15 o16 o17 o18 o19 o20 o21 o22 o23 o24 o25 o26 o27 o28 o29 o30 o31 o32 (SrcL.of hl hcell) hc
 ·have hd:decOk b=false:=by unfold decOk; exact decide_eq_false (λk=>h (hn ▸ k.1))
  rw [hd,decP_no hd]
  exact dec_len w A n c h
end Cu
end
section
namespace Cu
open Go.RowKit Sy
theorem setAll_all:∀ (vs:List Value) (o:Nat) (cs:Array Value),o+vs.length=cs.size→setAll cs o vs=(cs.toList.take o++vs).toArray
 | [],o,cs,h=>by
  rw [List.append_nil,List.take_of_length_le (by simp at h ⊢; omega)]
  simp [setAll]
 | v::r,o,cs,h=>by
  have hlt:o<cs.size:=by simp at h; omega
  rw [setAll,setAll_all r (o+1) _ (by simp at h ⊢; omega)]
  congr 1
  rw [Array.toList_setIfInBounds,List.take_set,List.take_succ_eq_append_getElem (by simpa using hlt),List.set_append_right _ _ (by rw [List.length_take]; exact Nat.min_le_left _ _)]
  have:(cs.toList.take o).length=o:=by simp; omega
  simp [this]
end Cu
end
end Go.Proofs.YtgggdbjakcpanaaGreatDoor
