/-
  Texts of ours, put together: FeMul2, FeNum, FePow, FeRuns, FeEq, FeSqrt, FeInv, Crv, NumEq, Pnt, ZzK, CrvA, CrvB, RefNum, RefMinus, RowZ, FoldZ, RefFold, RefAdd, MulZ, RefMul, PowZ, RefPow, NumB, FeOwn, RefBytes, CrvC, CurveAlive, FeB32, FeRead, RefSqrt, RootNum, CrvD, CrvF.
-/
import Derived.Test.YtgggdbjakcpanaaGreatDoorNX1
set_option linter.unusedVariables false
set_option linter.unusedSimpArgs false
namespace Go.Proofs.YtgggdbjakcpanaaGreatDoor
section
section
open Go.RowKit Go.Lib
theorem product_fv (w:World) (x y lo hi:Nat) (hx:x<(2^256)) (hy:y<(2^256)) (hlo:lo<(2^256)) (he:lo+(2^256)*hi=x*y) :
  Calls Tryz.prog 295 #[fv x,fv y] w λe w'=>e=.returned (.tuple #[fv lo,fv hi])∧Below w.heap.size w w':=product_at w x y lo hi rfl rfl hx hy hlo he
theorem mul_split (x y:Nat) (hx:x<(2^256)) (hy:y<(2^256)):∃ lo hi f t b c g:Nat,lo<(2^256)∧hi<(2^256)∧lo+(2^256)*hi=x*y∧f<(2^256)∧f+(2^256)*t=hi*4294968273∧t<18446744073709551616∧b<18446744073709551616∧c<18446744073709551616∧b+18446744073709551616*c=t*4294968273∧g=b+18446744073709551616*c∧g<(2^256)∧(lo+f+g)%pM=mulP x y:=by
 have h:x*y≤115792089237316195423570985008687907853269984665640564039457584007913129639935*115792089237316195423570985008687907853269984665640564039457584007913129639935:=Nat.mul_le_mul (by omega) (by omega)
 refine ⟨x*y%(2^256),x*y / (2^256),x*y / (2^256)*4294968273%(2^256),x*y / (2^256)*4294968273 / (2^256),x*y / (2^256)*4294968273 / (2^256)*4294968273%18446744073709551616,x*y / (2^256)*4294968273 / (2^256)*4294968273 / 18446744073709551616,x*y / (2^256)*4294968273 / (2^256)*4294968273,by omega,by omega,by omega,by omega,by omega,by omega,by omega,by omega,by omega,by omega,by omega,?_⟩
 unfold mulP
 refine mod_of_mult (k:=x*y / (2^256)+x*y / (2^256)*4294968273 / (2^256)) ?_
 generalize x*y=m at *
 omega
set_option maxHeartbeats 1000000 in
set_option maxRecDepth 100000 in
theorem mulF_any (w:World) (x y:Nat) (hx:x<(2^256)) (hy:y<(2^256)):Calls Tryz.prog 267 #[fv x,fv y] w λe w'=>e=.returned (fv (mulP x y))∧Below w.heap.size w w':=by
 obtain ⟨lo,hi,f,t,b,c,g,hlo,hhi,he,hf,hft,ht,hb,hc,hbc,hg,hgl,hfin⟩:=mul_split x y hx hy
 obtain ⟨a,ha⟩:∃ a,a=addW lo f:=⟨_,rfl⟩
 obtain ⟨v,hv⟩:∃ v,v=addW a g:=⟨_,rfl⟩
 obtain ⟨z,hz⟩:∃ z,z=mulP x y:=⟨_,rfl⟩
 have hal:a<(2^256):=by rw [ha]; exact addW_lt _ _ hlo hf
 have hvl:v<(2^256):=by rw [hv]; exact addW_lt _ _ hal hgl
 have hvz:v%pM=z:=by
  rw [hz, ← hfin,hv,addW_mod, ← Nat.mod_add_mod,ha,addW_mod,Nat.mod_add_mod]
 have ct:∀ w,Calls Tryz.prog 296 #[fv hi,.int .u64 4294968273] w λe w'=>e=.returned (.tuple #[fv f,.int .u64 (t:Int)])∧Below w.heap.size w w':=λw=>times_at (v:=fv hi) w hi 4294968273 f t rfl hhi (by omega) hf hft
 have cm:∀ w,Calls Tryz.prog 297 #[.int .u64 (t:Int),.int .u64 4294968273] w λe w'=>e=.returned (.tuple #[.int .u64 (c:Int),.int .u64 (b:Int)])∧w'=w:=λw=>mul64_at w t 4294968273 c b ht (by omega) hb hbc
 have ca:=λw=>ha ▸ add_def w lo f hlo hf
 have hgf:fv g=.agg #[.int .u64 (b:Int),.int .u64 (c:Int),.int .u64 0,.int .u64 0]:=by
  have h:Value.agg #[.int .u64 (b:Int),.int .u64 (c:Int),.int .u64 0,.int .u64 0]=fv (b+18446744073709551616*c+340282366920938463463374607431768211456*0+6277101735386680763835789423207666416102355444464034512896*0):=fv_mk b c 0 0 hb hc (by omega) (by omega)
  exact (h.trans (congrArg fv (by omega))).symm
 have cb:∀ w,Calls Tryz.prog 298 #[fv a,.agg #[.int .u64 (b:Int),.int .u64 (c:Int),.int .u64 0,.int .u64 0]] w λe w'=>e=.returned (fv v)∧Below w.heap.size w w':=by
  intro w; rw [← hgf,hv]; exact add_def w a g hal hgl
 have cr:∀ w,Calls Tryz.prog 293 #[fv v] w λe w'=>e=.returned (fv z)∧Below w.heap.size w w':=by
  intro w; rw [← hvz]; exact reduce_any w v hvl
 have HP:=Lib.hid (And.intro hlo he)
 obtain ⟨x0,x1,x2,x3,fx⟩:=words_fv x hx
 obtain ⟨y0,y1,y2,y3,fy⟩:=words_fv y hy
 have FX:=Lib.hid fx
 have FY:=Lib.hid fy
 have HX:=Lib.hid (And.intro hx hy)
 rw [fx,fy, ← hz]
 clear fx fy hx hy hlo hhi he hf hft ht hb hc hbc hg hgl hfin ha hv hz hal hvl hvz hgf
 go_enter Tryz.func267,Tryz.ntmps267
 go_wp2
 refine wp_region_G (λj=>j == 10 || j == 11) (by kernel_rfl) ?_
 try simp only [Act.put]
 refine tkw 0 rfl (YieldsG.loadF (by rfl) _ _ rfl (w.heap.size) rfl (x) _ _ (((Blk.new w _ _).alloc _).alloc _) (FX.out) Tryz.underlying71 rfl (by kernel_rfl)) ?_
 try simp only [Act.put,aA,aZ,aS]
 refine tkw 1 rfl (YieldsG.call (v:=fv x) (by rfl) 294 _ (λw9=>by go_simp; try (first | with_reducible rfl | rfl)) (λw9 h9=>split_any w9 x)) ?_
 try simp only [Act.put,aA,aZ,aS]
 refine tkw 2 rfl (YieldsG.loadF (by rfl) _ _ rfl (w.heap.size+1) rfl (y) _ _ ((blk_new2 w _ _ _).alloc _) (FY.out) Tryz.underlying71 rfl (by kernel_rfl)) ?_
 try simp only [Act.put,aA,aZ,aS]
 refine tkw 3 rfl (YieldsG.call (v:=fv y) (by rfl) 294 _ (λw9=>by go_simp; try (first | with_reducible rfl | rfl)) (λw9 h9=>split_any w9 y)) ?_
 try simp only [Act.put,aA,aZ,aS]
 refine tkw 4 rfl (YieldsG.call (v:=.tuple #[fv lo,fv hi]) (by rfl) 295 _ (λw9=>by go_simp; try (first | with_reducible rfl | rfl)) (λw9 h9=>product_fv w9 x y lo hi HX.out.1 HX.out.2 HP.out.1 HP.out.2)) ?_
 try simp only [Act.put,aA,aZ,aS]
 refine tk 5 rfl ?_
 try simp only [Act.put,aA,aZ,aS]
 refine tk 6 rfl ?_
 try simp only [Act.put,aA,aZ,aS]
 refine wpAnyG_takeA 7 rfl (by kernel_rfl) (λ_ _ _ h=>h) (λ_=>YieldsG.pure (by rfl) (λw9 _=>by go_simp; try with_reducible rfl)) ?_
 try simp only [Act.put,aA,aZ,aS]
 refine wpAnyG_duo 8 9 rfl rfl (by kernel_rfl) (by rfl) (by rfl) (λw3 h3 K hK=>?_) (λw3 h3 K hK=>?_)
 ·go_simp
  refine hK _ _ (λ_=>gr_alloc _ _) ?_
  clear hK K
  try simp only [Act.put,aA,aZ,aS]
  refine wpAnyG_sole 9 rfl (by kernel_rfl) (by rfl) (λw4 h4 K hK=>?_)
  go_simp
  refine hK _ _ (λ_=>gr_alloc _ _) ?_
  clear hK K
  try simp only [Act.put,aA,aZ,aS]
  refine wpAnyG_storeK 10 rfl (by kernel_rfl) (by rfl) _ _ _ rfl (w3.heap.size) (fcs (lo)) rfl rfl _ _ (Gr.blk h4 (Blk.new w3 _ _) |>.alloc _) (by kernel_rfl) (by rfl) (fcs_one _) rfl (λw6 h6 w7 hB7 hK7 hL7=>?_)
  try simp only [Act.put]
  have hs4:w3.heap.size+1≤w4.heap.size:=by have:=h4.size; simp at this; omega
  have hs3:w.heap.size+3≤w3.heap.size:=by have:=h3.size; simp at this; omega
  have B6:Blk w7 w4.heap.size 414 _:=hK7 _ (by omega) _ _ (Gr.blk h6 (Blk.new w4 _ _))
  have BR7:Blk w7 (w.heap.size+2) 71 _:=hK7 _ (by omega) _ _ (Gr.blk h6 (Blk.alloc (Gr.blk h4 (Blk.alloc (Gr.blk h3 (blk_new3 w _ _ _ _)) _)) _))
  have hb7:Below w.heap.size w w7:=(Below.gr ((Below.gr ((Below.gr (below_alloc3 w _ _ _) h3).alloc (by omega) _) h4).alloc (by omega) _) h6).trans (hB7 _ (by omega))
  refine wpAnyG_storeK 11 rfl (by kernel_rfl) (by rfl) _ _ _ rfl (w4.heap.size) (fcs (hi)) rfl rfl _ _ (B6) (by kernel_rfl) (by rfl) (fcs_one _) rfl (λw6 h7 w8 hB8 hK8 hL8=>?_)
  try simp only [Act.put]
  refine wpAnyG_done (by kernel_rfl) (λw9 h9=>?_)
  have B5:Blk w9 w3.heap.size 414 _:=Gr.blk h9 (hK8 _ (by omega) _ _ (Gr.blk h7 hL7))
  have B6:=Gr.blk h9 hL8
  have BR9:Blk w9 (w.heap.size+2) 71 _:=Gr.blk h9 (hK8 _ (by omega) _ _ (Gr.blk h7 BR7))
  have hb9:Below w.heap.size w w9:=Below.gr ((Below.gr hb7 h7).trans (hB8 _ (by omega))) h9
  have hsz9:w4.heap.size+1≤w9.heap.size:=by have h1:=B5.lt; have h2:=B6.lt; omega
  clear h3 h4 h6 h7 h9 hB7 hB8 hK7 hK8 hL7 hL8 BR7 hb7
  go_wp2_with (first | ((with_reducible refine here_load (d:=some 20) ?_); refine wpList_load_fv rfl _ _ rfl (w4.heap.size) rfl (hi) _ _ _ (B6) (fv_fcs hi) Tryz.underlying414 rfl (by kernel_rfl) ?_))
  refine (ct _).mono ?_
  rintro e w10 ⟨rfl,hb⟩
  have B5:=Gr.blk hb B5
  have BR:=Gr.blk hb BR9
  have hBn:=Below.gr hb9 hb
  have hsz10:w4.heap.size+1≤w10.heap.size:=by have:=hb.size; omega
  clear hb hb9 BR9 B6 ct
  go_wp2_with (first | ((with_reducible refine here_store ?_); refine wpList_store_blk rfl _ _ _ rfl (w10.heap.size) (fcs (f)) rfl rfl _ _ (Blk.new w10 _ _) (by kernel_rfl) (by rfl) (fcs_one _) ?_; intro w11 hL11 hB11 hK11; have B5':=hK11 _ (by omega) _ _ (B5.alloc _); have BR':=hK11 _ (by omega) _ _ (BR.alloc _)))
  refine (cm _).mono ?_
  rintro e w12 ⟨rfl,rfl⟩
  go_wp2_with (first | ((with_reducible refine here_load (d:=some 29) ?_); refine wpList_load_fv rfl _ _ rfl (w3.heap.size) rfl (lo) _ _ _ (B5') (fv_fcs lo) Tryz.underlying414 rfl (by kernel_rfl) ?_) | ((with_reducible refine here_load (d:=some 30) ?_); refine wpList_load_fv rfl _ _ rfl (w10.heap.size) rfl (f) _ _ _ (hL11) (fv_fcs f) Tryz.underlying414 rfl (by kernel_rfl) ?_))
  refine (ca _).mono ?_
  rintro e w13 ⟨rfl,hb13⟩
  go_wp2_with fail
  refine (cb _).mono ?_
  rintro e w14 ⟨rfl,hb14⟩
  go_wp2_with fail
  refine (cr _).mono ?_
  rintro e w15 ⟨rfl,hb15⟩
  go_wp2_with fail
  refine (number_any _ _).mono ?_
  rintro e w16 ⟨rfl,hb16⟩
  have BR16:=Gr.blk hb16 (Gr.blk hb15 (Gr.blk hb14 (Gr.blk hb13 BR')))
  have hB16:=Below.gr (Below.gr (Below.gr (Below.gr ((hBn.alloc (by omega) _).trans (hB11 _ (by omega))) hb13) hb14) hb15) hb16
  clear hb13 hb14 hb15 hb16
  go_wp2_with (first | ((with_reducible refine here_store ?_); refine wpList_store_blk rfl _ _ _ rfl (w.heap.size+2) (fcs (z)) rfl rfl _ _ (BR16) (by kernel_rfl) (by rfl) (fcs_one _) ?_; intro w17 hL17 hB17 hK17))
  exact bodyPost_ret (results_cell_row rfl _ _ (w.heap.size+2) _ _ (0,0) _ rfl hL17 Tryz.underlying71 rfl (by kernel_rfl)) rfl ⟨rfl,hB16.trans (hB17 _ (by omega))⟩
 ·go_simp
  refine hK _ _ (λ_=>gr_alloc _ _) ?_
  clear hK K
  try simp only [Act.put,aA,aZ,aS]
  refine wpAnyG_sole 8 rfl (by kernel_rfl) (by rfl) (λw4 h4 K hK=>?_)
  go_simp
  refine hK _ _ (λ_=>gr_alloc _ _) ?_
  clear hK K
  try simp only [Act.put,aA,aZ,aS]
  refine wpAnyG_storeK 10 rfl (by kernel_rfl) (by rfl) _ _ _ rfl (w4.heap.size) (fcs (lo)) rfl rfl _ _ (Blk.new w4 _ _) (by kernel_rfl) (by rfl) (fcs_one _) rfl (λw6 h6 w7 hB7 hK7 hL7=>?_)
  try simp only [Act.put]
  have hs4:w3.heap.size+1≤w4.heap.size:=by have:=h4.size; simp at this; omega
  have hs3:w.heap.size+3≤w3.heap.size:=by have:=h3.size; simp at this; omega
  have B6:Blk w7 w3.heap.size 414 _:=hK7 _ (by omega) _ _ (Gr.blk h6 (Gr.blk h4 (Blk.new w3 _ _) |>.alloc _))
  have BR7:Blk w7 (w.heap.size+2) 71 _:=hK7 _ (by omega) _ _ (Gr.blk h6 (Blk.alloc (Gr.blk h4 (Blk.alloc (Gr.blk h3 (blk_new3 w _ _ _ _)) _)) _))
  have hb7:Below w.heap.size w w7:=(Below.gr ((Below.gr ((Below.gr (below_alloc3 w _ _ _) h3).alloc (by omega) _) h4).alloc (by omega) _) h6).trans (hB7 _ (by omega))
  refine wpAnyG_storeK 11 rfl (by kernel_rfl) (by rfl) _ _ _ rfl (w3.heap.size) (fcs (hi)) rfl rfl _ _ (B6) (by kernel_rfl) (by rfl) (fcs_one _) rfl (λw6 h7 w8 hB8 hK8 hL8=>?_)
  try simp only [Act.put]
  refine wpAnyG_done (by kernel_rfl) (λw9 h9=>?_)
  have B5:Blk w9 w4.heap.size 414 _:=Gr.blk h9 (hK8 _ (by omega) _ _ (Gr.blk h7 hL7))
  have B6:=Gr.blk h9 hL8
  have BR9:Blk w9 (w.heap.size+2) 71 _:=Gr.blk h9 (hK8 _ (by omega) _ _ (Gr.blk h7 BR7))
  have hb9:Below w.heap.size w w9:=Below.gr ((Below.gr hb7 h7).trans (hB8 _ (by omega))) h9
  have hsz9:w4.heap.size+1≤w9.heap.size:=by have h1:=B5.lt; have h2:=B6.lt; omega
  clear h3 h4 h6 h7 h9 hB7 hB8 hK7 hK8 hL7 hL8 BR7 hb7
  go_wp2_with (first | ((with_reducible refine here_load (d:=some 20) ?_); refine wpList_load_fv rfl _ _ rfl (w3.heap.size) rfl (hi) _ _ _ (B6) (fv_fcs hi) Tryz.underlying414 rfl (by kernel_rfl) ?_))
  refine (ct _).mono ?_
  rintro e w10 ⟨rfl,hb⟩
  have B5:=Gr.blk hb B5
  have BR:=Gr.blk hb BR9
  have hBn:=Below.gr hb9 hb
  have hsz10:w4.heap.size+1≤w10.heap.size:=by have:=hb.size; omega
  clear hb hb9 BR9 B6 ct
  go_wp2_with (first | ((with_reducible refine here_store ?_); refine wpList_store_blk rfl _ _ _ rfl (w10.heap.size) (fcs (f)) rfl rfl _ _ (Blk.new w10 _ _) (by kernel_rfl) (by rfl) (fcs_one _) ?_; intro w11 hL11 hB11 hK11; have B5':=hK11 _ (by omega) _ _ (B5.alloc _); have BR':=hK11 _ (by omega) _ _ (BR.alloc _)))
  refine (cm _).mono ?_
  rintro e w12 ⟨rfl,rfl⟩
  go_wp2_with (first | ((with_reducible refine here_load (d:=some 29) ?_); refine wpList_load_fv rfl _ _ rfl (w4.heap.size) rfl (lo) _ _ _ (B5') (fv_fcs lo) Tryz.underlying414 rfl (by kernel_rfl) ?_) | ((with_reducible refine here_load (d:=some 30) ?_); refine wpList_load_fv rfl _ _ rfl (w10.heap.size) rfl (f) _ _ _ (hL11) (fv_fcs f) Tryz.underlying414 rfl (by kernel_rfl) ?_))
  refine (ca _).mono ?_
  rintro e w13 ⟨rfl,hb13⟩
  go_wp2_with fail
  refine (cb _).mono ?_
  rintro e w14 ⟨rfl,hb14⟩
  go_wp2_with fail
  refine (cr _).mono ?_
  rintro e w15 ⟨rfl,hb15⟩
  go_wp2_with fail
  refine (number_any _ _).mono ?_
  rintro e w16 ⟨rfl,hb16⟩
  have BR16:=Gr.blk hb16 (Gr.blk hb15 (Gr.blk hb14 (Gr.blk hb13 BR')))
  have hB16:=Below.gr (Below.gr (Below.gr (Below.gr ((hBn.alloc (by omega) _).trans (hB11 _ (by omega))) hb13) hb14) hb15) hb16
  clear hb13 hb14 hb15 hb16
  go_wp2_with (first | ((with_reducible refine here_store ?_); refine wpList_store_blk rfl _ _ _ rfl (w.heap.size+2) (fcs (z)) rfl rfl _ _ (BR16) (by kernel_rfl) (by rfl) (fcs_one _) ?_; intro w17 hL17 hB17 hK17))
  exact bodyPost_ret (results_cell_row rfl _ _ (w.heap.size+2) _ _ (0,0) _ rfl hL17 Tryz.underlying71 rfl (by kernel_rfl)) rfl ⟨rfl,hB16.trans (hB17 _ (by omega))⟩
end
end
section
namespace Nt
end Nt
end
section
section
open Go.RowKit Go.Lib
end
end
section
section
open Go.RowKit Go.Lib
end
end
section
section
open Go.RowKit Go.Lib
theorem all_range_eqN:∀ (xs ys:List Nat),xs.length=ys.length→((List.range xs.length).all λi=>xs.getD i 0 == ys.getD i 0)=(xs == ys)
 | [],[],_=>rfl
 | x::xs,y::ys,h=>by
  have ih:=all_range_eqN xs ys (by simpa using h)
  rw [List.length_cons,List.range_succ_eq_map,List.all_cons,List.all_map]
  simp only [List.getD_cons_zero,Function.comp_def,List.getD_cons_succ,ih]
  simp [List.cons_beq_cons]
 | [],_::_,h=>by simp at h
 | _::_,[],h=>by simp at h
theorem run_equalIn_words {P:Program} (w:World) (d:Nat) (t e:TypeId) (n:Nat) (ht:P.underlying t=some (.array n e)) (he:P.underlying e=some (.int .u64)) (hsz:∀ w,(sizeOf e).run P w=.ok 1 w)
  (xs ys:List Nat) (hx:xs.length=n) (hy:ys.length=n) :
  (Op.equalIn (d+2) t (.agg (xs.map qv).toArray) (.agg (ys.map qv).toArray)).run P w=.ok (xs == ys) w:=by
 rw [← all_range_eqN xs ys (hx.trans hy.symm),hx,List.range_eq_range',Op.equalIn]
 simp only [Sem.run_bind,run_underlying ht,Result.andThen_ok,hsz,Std.Legacy.Range.forIn_eq_forIn_range',Std.Legacy.Range.size,Nat.sub_zero,Nat.add_sub_cancel,Nat.div_one]
 have hl:∀ i∈List.range' 0 n 1,i<n:=λi hi=>by simpa using (List.mem_range'_1.1 hi).2
 generalize List.range' 0 n 1=l at hl ⊢
 induction l with
 | nil=>simp
 | cons i l ih =>
  have hi:i<n:=hl i (by simp)
  have px:(part e (xs.map qv).toArray (i*1)).run P w=.ok (qv (xs.getD i 0)) w:=by
   simp [part,isAgg,run_underlying he,List.getD,List.getElem?_eq_getElem (show i<xs.length by omega)]
  have py:(part e (ys.map qv).toArray (i*1)).run P w=.ok (qv (ys.getD i 0)) w:=by
   simp [part,isAgg,run_underlying he,List.getD,List.getElem?_eq_getElem (show i<ys.length by omega)]
  have pe:(Op.equalIn (d+1) e (qv (xs.getD i 0)) (qv (ys.getD i 0))).run P w=.ok (xs.getD i 0 == ys.getD i 0) w:=by
   rw [qv,qv,run_equalIn_int w d e .u64 .u64 _ _ he]
   congr 1
   rw [Bool.eq_iff_iff]
   simp
   omega
  simp only [List.forIn_cons,Sem.run_bind,px,py,pe,Result.andThen_ok,List.all_cons]
  cases hb:(xs.getD i 0 == ys.getD i 0)
  ·simp
  ·simp only [Bool.not_true,Bool.false_eq_true,if_false,Sem.run_pure,Result.andThen_ok,Bool.true_and]
   exact ih λj hj=>hl j (by simp [hj])
def wl (n:Nat):List Nat:=[n%18446744073709551616,n / 18446744073709551616%18446744073709551616,n / 340282366920938463463374607431768211456%18446744073709551616,n / 6277101735386680763835789423207666416102355444464034512896%18446744073709551616]
theorem fv_wl (n:Nat):fv n=.agg ((wl n).map qv).toArray:=rfl
theorem wl_inj {n m:Nat} (hn:n<(2^256)) (hm:m<(2^256)) (h:wl n=wl m):n=m:=by
 unfold wl at h
 simp only [List.cons.injEq,and_true] at h
 obtain ⟨h0,h1,h2,h3⟩:=h
 omega
theorem wl_beq {n m:Nat} (hn:n<(2^256)) (hm:m<(2^256)):(wl n == wl m)=decide (n=m):=by
 by_cases h:n=m
 ·subst h; simp
 ·have:wl n≠wl m:=λe=>h (wl_inj hn hm e)
  simp [h,this]
theorem run_equalIn_fv (W:World) (n m:Nat) (hn:n<(2^256)) (hm:m<(2^256)):(Op.equalIn 10000 71 (fv n) (fv m)).run Tryz.prog W=.ok (decide (n=m)) W:=by
 rw [fv_wl,fv_wl]
 have h:=run_equalIn_words W 9998 71 22 4 Tryz.underlying71 Tryz.underlying22 (λW=>by kernel_rfl) (wl n) (wl m) rfl rfl
 rw [wl_beq hn hm] at h
 exact h
theorem run_eql_fv (W:World) (n m:Nat) (hn:n<(2^256)) (hm:m<(2^256)):(binOp .eql 71 (fv n) (fv m)).run Tryz.prog W=.ok (.bool (decide (n=m))) W:=by
 have h:=run_equalIn_fv W n m hn hm
 rw [fv_wl,fv_wl] at h ⊢
 rw [run_eql_struct,h]
 rfl
theorem run_eqGuard_fv (op:BinOp) (x y:Operand) (n m:Nat) (W:World):(eqGuard op 71 x y (fv n) (fv m)).run Tryz.prog W=.ok () W:=by
 rw [fv_fcs,fv_fcs]
 go_simp
theorem and_one (n:Nat) (hn:n<18446744073709551616):bits .and .u64 (n:Int) 1=((n%2:Nat):Int):=by
 have h:=bits_and_u64_nat n 1 hn (by omega)
 have e:n &&& 1=n%2:=Nat.and_two_pow_sub_one_eq_mod n 1
 rw [e] at h
 exact h
set_option maxHeartbeats 1000000 in
theorem odd_any (w:World) (x:Nat) (hx:x<(2^256)):Calls Tryz.prog 262 #[fv x] w λe w'=>e=.returned (.bool (decide (x%pM%2=1)))∧Below w.heap.size w w':=by
 obtain ⟨z,hz⟩:∃ z,z=x%pM:=⟨_,rfl⟩
 have hzl:z<(2^256):=by rw [hz]; exact mod_lt x
 obtain ⟨z0,z1,z2,z3,a0,a1,a2,a3,ez,fz⟩:=words_of z hzl
 obtain ⟨o,ho⟩:∃ o,o=z%2:=⟨_,rfl⟩
 have h1:bits .and .u64 (z0:Int) 1=(o:Int):=by rw [and_one z0 a0,ho]; congr 1; omega
 have hN:∀ w,Calls Tryz.prog 266 #[fv x] w λe w'=>e=.returned (.agg #[.int .u64 z0,.int .u64 z1,.int .u64 z2,.int .u64 z3])∧Below w.heap.size w w':=by
  intro w; rw [← fz,hz]; exact norm_any w x hx
 obtain ⟨x0,x1,x2,x3,fx⟩:=words_fv x hx
 rw [fx] at hN ⊢
 rw [← hz, ← ho]
 have hol:o<2:=by omega
 obtain ⟨b,hb⟩:∃ b,b=decide (o=1):=⟨_,rfl⟩
 have hob:((o:Int) == 1)=b:=by
  rw [hb]
  rcases (show o=0∨o=1 by omega) with rfl | rfl <;> rfl
 rw [← hb]
 clear fx hx hz hzl ez fz ho a0 a1 a2 a3 hb hol
 have hI:∀ W,(Instr.index 71 (.agg #[.int .u64 z0,.int .u64 z1,.int .u64 z2,.int .u64 z3]) (.int .i64 0)).run Tryz.prog W=.ok (.int .u64 (z0:Int)) W:=λW=>by kernel_rfl
 go_enter Tryz.func262,Tryz.ntmps262
 go_wp2_with fail
 refine (hN _).mono ?_
 rintro e w1 ⟨rfl,hb1⟩
 go_wp2
 go_ret
 exact ⟨rfl,Below.gr ((Below.refl _ _).alloc (Nat.le_refl _) _) hb1⟩
end
end
section
section
open Go.RowKit Go.Lib
end
end
section
section
open Go.RowKit Go.Lib
end
end
section
namespace Cu
open Go.RowKit Sy
instance npM:NeZero pM:=⟨by unfold pM; decide⟩
abbrev Fp:=Fin pM
theorem pM_K4:pM<(2^256):=by rw [pM_eq]; decide
theorem lt4 (a:Fp):a.val<(2^256):=Nat.lt_trans a.isLt pM_K4
def nat (k:Nat) (h:k<pM):Fp:=⟨k,h⟩
theorem mul_c (a b:Fp) (w:World):Calls Tryz.prog 267 #[fv a.val,fv b.val] w (Gets w (fv (a*b).val)):=mulF_any w a.val b.val (lt4 a) (lt4 b)
theorem add_c (a b:Fp) (w:World):Calls Tryz.prog 299 #[fv a.val,fv b.val] w (Gets w (fv (a+b).val)):=addF_any w a.val b.val (lt4 a) (lt4 b)
theorem of_c (k:Nat) (h:k<pM) (hk:k<18446744073709551616) (w:World):Calls Tryz.prog 300 #[.int .u64 (k:Int)] w (Gets w (fv (nat k h).val)):=of_any w k hk
end Cu
end
section
namespace Nm
open Go.RowKit Go.Lib
theorem run_equalIn_fv (W:World) (n m:Nat) (hn:n<(2^256)) (hm:m<(2^256)):(Op.equalIn 10000 373 (fv n) (fv m)).run Tryz.prog W=.ok (decide (n=m)) W:=by
 rw [fv_wl,fv_wl]
 have h:=run_equalIn_words W 9998 373 22 4 Tryz.underlying373 Tryz.underlying22 (λW=>by kernel_rfl) (wl n) (wl m) rfl rfl
 rw [wl_beq hn hm] at h
 exact h
theorem run_eql_fv (W:World) (n m:Nat) (hn:n<(2^256)) (hm:m<(2^256)):(binOp .eql 373 (fv n) (fv m)).run Tryz.prog W=.ok (.bool (decide (n=m))) W:=by
 have h:=run_equalIn_fv W n m hn hm
 rw [fv_wl,fv_wl] at h ⊢
 rw [run_eql_struct,h]
 rfl
theorem run_eqGuard_fv (op:BinOp) (x y:Operand) (n m:Nat) (W:World):(eqGuard op 373 x y (fv n) (fv m)).run Tryz.prog W=.ok () W:=by
 rw [fv_fcs,fv_fcs]
 go_simp
end Nm
end
section
namespace Cu
open Go.RowKit Sy
abbrev Pt:=Ec.Pt pM
abbrev K4:Nat:=(2^256)
def fws (n:Nat):List Value:=[qv (n%18446744073709551616),qv (n / 18446744073709551616%18446744073709551616),qv (n / 340282366920938463463374607431768211456%18446744073709551616),qv (n / 6277101735386680763835789423207666416102355444464034512896%18446744073709551616)]
theorem fv_fws (n:Nat):fv n=.agg (fws n).toArray:=rfl
def pcs (x y:Nat) (i:Bool):Array Value:=(fws x++(fws y++[Value.bool i])).toArray
def pv (x y:Nat) (i:Bool):Value:=.agg (pcs x y i)
def rightB (x y:Nat) (i:Bool):Bool:=if i then (decide (x=0) && decide (y=0)) else decide (x<pM) && decide (y<pM) && decide (y*y%pM=(x*x%pM*x%pM+7)%pM)
def dec (x y:Nat) (i:Bool):Pt:=if h:i=false∧x<pM∧y<pM∧y*y%pM=(x*x%pM*x%pM+7)%pM then some (⟨x,h.2.1⟩,⟨y,h.2.2.1⟩) else none
def ptv:Pt→Value
 | none=>pv 0 0 true
 | some (x,y)=>pv x.val y.val false
theorem dec_inf (x y:Nat):dec x y true=none:=by
 unfold dec
 rw [dif_neg (by simp)]
theorem dec_right (x y:Nat) (h:rightB x y false=true):∃ (hx:x<pM) (hy:y<pM),dec x y false=some (⟨x,hx⟩,⟨y,hy⟩):=by
 unfold rightB at h
 simp only [Bool.false_eq_true,if_false,Bool.and_eq_true,decide_eq_true_eq] at h
 refine ⟨h.1.1,h.1.2,?_⟩
 unfold dec
 rw [dif_pos ⟨rfl,h.1.1,h.1.2,h.2⟩]
theorem dec_wrong (x y:Nat) (i:Bool) (h:rightB x y i=false):dec x y i=none:=by
 unfold rightB at h
 unfold dec
 rw [dif_neg]
 rintro ⟨rfl,h1,h2,h3⟩
 simp [h1,h2,h3] at h
theorem ptv_right (x y:Nat) (i:Bool) (h:rightB x y i=true):ptv (dec x y i)=pv x y i:=by
 cases i
 ·obtain ⟨hx,hy,e⟩:=dec_right x y h
  rw [e]; rfl
 ·unfold rightB at h
  simp only [if_true,Bool.and_eq_true,decide_eq_true_eq] at h
  rw [dec_inf,h.1,h.2]; rfl
theorem ptv_wrong (x y:Nat) (i:Bool) (h:rightB x y i=false):ptv (dec x y i)=pv 0 0 true:=by rw [dec_wrong x y i h]; rfl
theorem part_fe (cs:Array Value) (o:Nat) (W:World):(part 71 cs o).run Tryz.prog W=.ok (.agg (cs.extract o (o+4))) W:=by
 have h1:=Tryz.isAgg71
 have h2:=Tryz.sizeOf71
 simp [part,h1,h2,go_sem]
theorem part_bool (cs:Array Value) (o:Nat) (b:Bool) (hb:cs[o]? = some (.bool b)) (W:World):(part 4 cs o).run Tryz.prog W=.ok (.bool b) W:=by
 have h1:=Tryz.isAgg4
 simp [part,h1,hb,go_sem]
theorem pcs_x (x y:Nat) (i:Bool):(pcs x y i).extract 0 (0+4)=fcs x:=rfl
theorem pcs_y (x y:Nat) (i:Bool):(pcs x y i).extract 4 (4+4)=fcs y:=rfl
theorem pcs_i (x y:Nat) (i:Bool):(pcs x y i)[8]? = some (.bool i):=rfl
theorem eql_fe_at (W:World) (n m:Nat) (hn:n<K4) (hm:m<K4):(Op.equalIn 9999 71 (.agg (fcs n)) (.agg (fcs m))).run Tryz.prog W=.ok (decide (n=m)) W:=by
 have h:=run_equalIn_words W 9997 71 22 4 Tryz.underlying71 Tryz.underlying22 (λW=>by kernel_rfl) (wl n) (wl m) rfl rfl
 rw [wl_beq hn hm] at h
 exact h
theorem eql_bool_at (W:World) (a b:Bool):(Op.equalIn 9999 4 (.bool a) (.bool b)).run Tryz.prog W=.ok (a == b) W:=by
 cases a <;> cases b <;> kernel_rfl
def sameB (x y:Nat) (i:Bool) (u v:Nat) (j:Bool):Bool:=decide (x=u) && (decide (y=v) && (i == j))
theorem run_eql_pv (W:World) (x y:Nat) (i:Bool) (u v:Nat) (j:Bool) (hx:x<K4) (hy:y<K4) (hu:u<K4) (hv:v<K4) :
  (binOp .eql 73 (pv x y i) (pv u v j)).run Tryz.prog W=.ok (.bool (sameB x y i u v j)) W:=by
 have hS:Tryz.prog.underlying 73=some (.struct (Tryz.prog.fieldsOf 73)):=by kernel_rfl
 have hpp:Tryz.prog.stoodInHeld 73=false:=by kernel_rfl
 unfold pv
 rw [run_eql_struct,show (10000:Nat)=9999+1 from rfl,run_equalIn_struct W 9999 73 _ _ hS hpp]
 simp only [Program.fieldsOf,Tryz.underlying73]
 have a1:∀ W,(part 71 (pcs x y i) 0).run Tryz.prog W=.ok (.agg (fcs x)) W:=λW=>by rw [part_fe,pcs_x]
 have a2:∀ W,(part 71 (pcs u v j) 0).run Tryz.prog W=.ok (.agg (fcs u)) W:=λW=>by rw [part_fe,pcs_x]
 have a3:∀ W,(part 71 (pcs x y i) 4).run Tryz.prog W=.ok (.agg (fcs y)) W:=λW=>by rw [part_fe,pcs_y]
 have a4:∀ W,(part 71 (pcs u v j) 4).run Tryz.prog W=.ok (.agg (fcs v)) W:=λW=>by rw [part_fe,pcs_y]
 have a5:∀ W,(part 4 (pcs x y i) 8).run Tryz.prog W=.ok (.bool i) W:=λW=>part_bool _ 8 i (pcs_i x y i) W
 have a6:∀ W,(part 4 (pcs u v j) 8).run Tryz.prog W=.ok (.bool j) W:=λW=>part_bool _ 8 j (pcs_i u v j) W
 have e1:∀ W,_:=λW=>eql_fe_at W x u hx hu
 have e2:∀ W,_:=λW=>eql_fe_at W y v hy hv
 have e3:∀ W,_:=λW=>eql_bool_at W i j
 unfold sameB
 generalize decide (x=u)=b1 at *
 generalize decide (y=v)=b2 at *
 generalize (i == j)=b3 at *
 cases b1 <;> cases b2 <;> cases b3 <;> simp [Op.eqFields,a1,a2,a3,a4,a5,a6,e1,e2,e3,Sem.run_bind,Sem.run_ite]
theorem run_eqGuard_pv (op:BinOp) (x y:Operand) (a b:Nat) (i:Bool) (u v:Nat) (j:Bool) (W:World):(eqGuard op 73 x y (pv a b i) (pv u v j)).run Tryz.prog W=.ok () W:=by
 unfold pv
 go_simp
end Cu
end
section
namespace Cu
open Go.RowKit
theorem lK {n:Nat} (h:n<K4:=by first | assumption | exact lt4 _ | decide +kernel):n<K4:=h
end Cu
end
section
namespace Cu
open Go.RowKit Sy
set_option maxRecDepth 100000
set_option maxHeartbeats 4000000
theorem eql_fe (w:World) (F:Slots) (o:Oper) (x y:Operand) (n m:Nat) {yt:TypeId} (ho:o.op=.binOp .eql 71 x y yt) (hx:evF F x=fv n) (hy:evF F y=fv m) (hn:n<K4) (hm:m<K4):(execOp (evF F) o).run Tryz.prog w=.ok (.value (.bool (decide (n=m)))) w:=by
 have h1:=run_eqGuard_fv .eql x y n m w
 have h2:=run_eql_fv w n m hn hm
 unfold execOp
 simp only [ho,hx,hy,Sem.run_bind,h1,h2,Result.andThen_ok,Sem.run_pure]
theorem eql_pt (w:World) (F:Slots) (o:Oper) (x y:Operand) (a b:Nat) (i:Bool) (c d:Nat) (j:Bool) {yt:TypeId} (ho:o.op=.binOp .eql 73 x y yt) (hx:evF F x=pv a b i) (hy:evF F y=pv c d j) (ha:a<K4) (hb:b<K4) (hc:c<K4) (hd:d<K4):(execOp (evF F) o).run Tryz.prog w=.ok (.value (.bool (sameB a b i c d j))) w:=by
 have h1:=run_eqGuard_pv .eql x y a b i c d j w
 have h2:=run_eql_pv w a b i c d j ha hb hc hd
 unfold execOp
 simp only [ho,hx,hy,Sem.run_bind,h1,h2,Result.andThen_ok,Sem.run_pure]
theorem zero_c (w:World)  : Calls Tryz.prog 225 #[] w (Gets w (pv 0 0 true)):=by
 refine Sy.enter (args:=[]) Tryz.func225 rfl kL ?_
 refine sC ?_
 refine sM 73 (pcs 0 0 false) (λg0=>?_)
 refine sA ?_
 refine sP (pv 0 0 true)<|sW 0 g0 73 (pcs 0 0 false) (pcs 0 0 true) (wS 0 73 (pcs 0 0 true) rfl) ?_
 refine sG<|Sy.ret ?_
 exact rC (v:=pv 0 0 true) 73 g0 0 (pcs 0 0 true) rfl Tryz.underlying73
theorem square_c (w:World) (x:Fp):Calls Tryz.prog 268 #[fv x.val] w (Gets w (fv (x*x*x+7).val)):=by
 refine Sy.enter (args:=[fv x.val]) Tryz.func268 rfl kL ?_
 refine sC ?_
 refine sM 71 (fcs x.val) (λg0=>?_)
 refine sM 71 (fcs 0) (λg1=>?_)
 refine sH (λj=>j == 7) ?_
 refine sD 0 rfl (fv x.val) (qL 0 g0 0 4 71 71 (fcs x.val) rfl Tryz.underlying71)<|sD 1 rfl (fv x.val) (qL 0 g0 0 4 71 71 (fcs x.val) rfl Tryz.underlying71) ?_
 obtain ⟨z1,hz1⟩:∃ z:Fp,z=x*x:=⟨_,rfl⟩
 refine sD 2 rfl (fv z1.val) (qF 267 #[fv x.val,fv x.val] (by rw [hz1]; exact mul_c x x))<|sD 3 rfl (fv x.val) (qL 0 g0 0 4 71 71 (fcs x.val) rfl Tryz.underlying71) ?_
 obtain ⟨z2,hz2⟩:∃ z:Fp,z=z1*x:=⟨_,rfl⟩
 refine sD 4 rfl (fv z2.val) (qF 267 #[fv z1.val,fv x.val] (by rw [hz2]; exact mul_c z1 x)) ?_
 obtain ⟨z3,hz3⟩:∃ z:Fp,z=(nat 7 (by decide +kernel):Fp):=⟨_,rfl⟩
 refine sD 5 rfl (fv z3.val) (qF 300 #[.int .u64 7] (by rw [hz3]; exact of_c 7 (by decide +kernel) (by decide))) ?_
 obtain ⟨z4,hz4⟩:∃ z:Fp,z=z2+z3:=⟨_,rfl⟩
 refine sD 6 rfl (fv z4.val) (qF 299 #[fv z2.val,fv z3.val] (by rw [hz4]; exact add_c z2 z3))<|sX 7 rfl 1 g1 71 (fcs 0) (fcs z4.val) (wS 0 71 (fcs z4.val) rfl) ?_
 refine sI ?_
 refine Sy.ret ?_
 rw [show (fv (x*x*x+7).val:Value)=fv z4.val from by rw [hz4,hz3,hz2,hz1]; rfl]
 exact rC (v:=fv z4.val) 71 g1 1 (fcs z4.val) rfl Tryz.underlying71
theorem rightB_inf (x y:Nat):sameB x y true 0 0 true=rightB x y true:=by
 unfold sameB rightB
 simp
theorem fp_of {x z:Nat} (h1:z=x%pM) (h2:true=decide (z=x)):∃ u:Fp,x=u.val:=by
 have h3:z=x:=of_decide_eq_true h2.symm
 exact ⟨⟨x,by rw [← h3,h1]; exact mod_lt_p x⟩,rfl⟩
theorem not_fp {x z:Nat} (h1:z=x%pM) (h2:false=decide (z=x)):¬ x<pM:=λh=>by
 rw [h1,Nat.mod_eq_of_lt h] at h2
 simp at h2
theorem rb_x {x:Nat} (h:¬ x<pM) (y:Nat):rightB x y false=false:=by unfold rightB; simp [h]
theorem rb_y {y:Nat} (h:¬ y<pM) (x:Nat):rightB x y false=false:=by unfold rightB; simp [h]
theorem rb_xy (x y:Fp):rightB x.val y.val false=decide ((y*y).val=(x*x*x+7).val):=by
 unfold rightB
 simp only [Bool.false_eq_true,if_false,x.isLt,y.isLt,decide_true,Bool.true_and]
 rfl
theorem right_b (w:World) (x y:Nat) (i:Bool) (hx:x<K4) (hy:y<K4):Calls Tryz.prog 224 #[pv x y i] w (Gets w (.bool (rightB x y i))):=by
 refine Sy.enter (args:=[pv x y i]) Tryz.func224 rfl kL ?_
 refine sC ?_
 refine sM 73 (pcs x y i) (λg0=>?_)
 refine sP (.bool false) ?_
 refine sG<|Sy.seq<|sC ?_
 refine sP (.pointer (some ⟨g0,8,none⟩))<|sS (.bool i) (qC 0 g0 8 73 4 (pcs x y i) rfl Tryz.underlying4) ?_
 refine sG ?_
 cases i
 ·refine sU<|Sy.skip ?_
  refine sR (λj=>false) ?_
  refine sZ 0 rfl (.pointer (some ⟨g0,0,none⟩))<|sD 1 rfl (fv x) (qL 0 g0 0 4 73 71 (pcs x y false) rfl Tryz.underlying71) ?_
  obtain ⟨z1,hz1⟩:∃ z:Nat,z=x%pM:=⟨_,rfl⟩
  have lz1:z1<K4:=by rw [hz1]; exact mod_lt x
  refine sD 2 rfl (fv z1) (qF 266 #[fv x] (λw=>by rw [hz1]; exact norm_any w x (by first | assumption | exact lt4 _)))<|sZ 3 rfl (.pointer (some ⟨g0,0,none⟩))<|sD 4 rfl (fv x) (qL 0 g0 0 4 73 71 (pcs x y false) rfl Tryz.underlying71) ?_
  obtain ⟨b1,hb1⟩:∃ z:Bool,z=decide (z1=x):=⟨_,rfl⟩
  refine sD 5 rfl (.bool b1) (Quiet.pure (λw=>by rw [hb1]; exact eql_fe w _ _ _ _ _ _ rfl rfl rfl lK lK))<|sZ 6 rfl (.bool b1) ?_
  cases b1
  ·refine sQ 7 rfl<|sQ 8 rfl<|sQ 9 rfl<|sQ 10 rfl<|sQ 11 rfl<|sQ 12 rfl<|sZ 13 rfl (.bool false)<|sZ 14 rfl (.bool false) ?_
   refine sE ?_
   refine sR (λj=>false) ?_
   refine sZ 0 rfl (.bool false)<|sZ 1 rfl (.bool false)<|sQ 2 rfl<|sQ 3 rfl<|sQ 4 rfl<|sQ 5 rfl<|sQ 6 rfl<|sQ 7 rfl ?_
   refine sQ 8 rfl<|sQ 9 rfl<|sQ 10 rfl<|sZ 11 rfl (.bool false)<|sZ 12 rfl (.bool false) ?_
   refine sI ?_
   refine Sy.ret ?_
   rw [show (.bool (rightB x y false):Value)=.bool false from by rw [rb_x (not_fp hz1 hb1)]]
   exact rV (.bool false) rfl
  ·obtain ⟨ux,rfl⟩:=fp_of hz1 hb1
   refine sZ 7 rfl (.pointer (some ⟨g0,4,none⟩))<|sD 8 rfl (fv y) (qL 0 g0 4 4 73 71 (pcs ux.val y false) rfl Tryz.underlying71) ?_
   obtain ⟨z2,hz2⟩:∃ z:Nat,z=y%pM:=⟨_,rfl⟩
   have lz2:z2<K4:=by rw [hz2]; exact mod_lt y
   refine sD 9 rfl (fv z2) (qF 266 #[fv y] (λw=>by rw [hz2]; exact norm_any w y (by first | assumption | exact lt4 _)))<|sZ 10 rfl (.pointer (some ⟨g0,4,none⟩))<|sD 11 rfl (fv y) (qL 0 g0 4 4 73 71 (pcs ux.val y false) rfl Tryz.underlying71) ?_
   obtain ⟨b2,hb2⟩:∃ z:Bool,z=decide (z2=y):=⟨_,rfl⟩
   refine sD 12 rfl (.bool b2) (Quiet.pure (λw=>by rw [hb2]; exact eql_fe w _ _ _ _ _ _ rfl rfl rfl lK lK))<|sZ 13 rfl (.bool b2)<|sZ 14 rfl (.bool b2) ?_
   refine sE ?_
   refine sR (λj=>false) ?_
   refine sZ 0 rfl (.bool b2)<|sZ 1 rfl (.bool b2) ?_
   cases b2
   ·refine sQ 2 rfl<|sQ 3 rfl<|sQ 4 rfl<|sQ 5 rfl<|sQ 6 rfl<|sQ 7 rfl<|sQ 8 rfl<|sQ 9 rfl ?_
    refine sQ 10 rfl<|sZ 11 rfl (.bool false)<|sZ 12 rfl (.bool false) ?_
    refine sI ?_
    refine Sy.ret ?_
    rw [show (.bool (rightB ux.val y false):Value)=.bool false from by rw [rb_y (not_fp hz2 hb2)]]
    exact rV (.bool false) rfl
   ·obtain ⟨uy,rfl⟩:=fp_of hz2 hb2
    refine sZ 2 rfl (.pointer (some ⟨g0,4,none⟩))<|sD 3 rfl (fv uy.val) (qL 0 g0 4 4 73 71 (pcs ux.val uy.val false) rfl Tryz.underlying71)<|sZ 4 rfl (.pointer (some ⟨g0,4,none⟩))<|sD 5 rfl (fv uy.val) (qL 0 g0 4 4 73 71 (pcs ux.val uy.val false) rfl Tryz.underlying71) ?_
    obtain ⟨z3,hz3⟩:∃ z:Fp,z=uy*uy:=⟨_,rfl⟩
    refine sD 6 rfl (fv z3.val) (qF 267 #[fv uy.val,fv uy.val] (by rw [hz3]; exact mul_c uy uy))<|sZ 7 rfl (.pointer (some ⟨g0,0,none⟩))<|sD 8 rfl (fv ux.val) (qL 0 g0 0 4 73 71 (pcs ux.val uy.val false) rfl Tryz.underlying71) ?_
    obtain ⟨z4,hz4⟩:∃ z:Fp,z=ux*ux*ux+7:=⟨_,rfl⟩
    refine sD 9 rfl (fv z4.val) (qF 268 #[fv ux.val] (by rw [hz4]; exact λw=>square_c w ux)) ?_
    obtain ⟨b3,hb3⟩:∃ z:Bool,z=decide (z3.val=z4.val):=⟨_,rfl⟩
    refine sD 10 rfl (.bool b3) (Quiet.pure (λw=>by rw [hb3]; exact eql_fe w _ _ _ _ _ _ rfl rfl rfl lK lK))<|sZ 11 rfl (.bool b3)<|sZ 12 rfl (.bool b3) ?_
    refine sI ?_
    refine Sy.ret ?_
    rw [show (.bool (rightB ux.val uy.val false):Value)=.bool b3 from by rw [hb3,rb_xy]; simp only [hz3,hz4]]
    exact rV (.bool b3) rfl
 ·refine sT<|Sy.seq ?_
  refine Sy.regionD (λj=>false) kR ?_
  refine sD 0 rfl (pv x y true) (qL 0 g0 0 9 73 73 (pcs x y true) rfl Tryz.underlying73)<|sD 1 rfl (pv 0 0 true) (qF 225 #[] (zero_c)) ?_
  obtain ⟨b4,hb4⟩:∃ z:Bool,z=sameB x y true 0 0 true:=⟨_,rfl⟩
  refine sD 2 rfl (.bool b4) (Quiet.pure (λw=>by rw [hb4]; exact eql_pt w _ _ _ _ _ _ _ _ _ _ rfl rfl rfl lK lK lK lK))<|sZ 3 rfl (.bool b4) ?_
  refine sI ?_
  refine Sy.ret<|Sy.then_ret ?_
  rw [show (.bool (rightB x y true):Value)=.bool b4 from by rw [hb4,rightB_inf]]
  exact rV (.bool b4) rfl
theorem right_c (w:World) (x y:Nat) (i:Bool) (hx:x<K4) (hy:y<K4):Calls Tryz.prog 261 #[pv x y i] w (Gets w (ptv (dec x y i))):=by
 refine Sy.enter (args:=[pv x y i]) Tryz.func261 rfl kL ?_
 refine sC ?_
 refine sM 73 (pcs x y i) (λg0=>?_)
 refine sM 73 (pcs 0 0 false) (λg1=>?_)
 refine sG<|Sy.seq<|sC ?_
 refine sS (pv x y i) (qL 0 g0 0 9 73 73 (pcs x y i) rfl Tryz.underlying73) ?_
 obtain ⟨b1,hb1⟩:∃ z:Bool,z=rightB x y i:=⟨_,rfl⟩
 refine sS (.bool b1) (qF 224 #[pv x y i] (by rw [hb1]; exact λw=>right_b w x y i lK lK)) ?_
 cases b1
 ·refine sP (.bool true) ?_
  refine sG<|sT<|sC ?_
  refine sS (pv 0 0 true) (qF 225 #[] (zero_c))<|sW 1 g1 73 (pcs 0 0 false) (pcs 0 0 true) (wS 0 73 (pcs 0 0 true) rfl) ?_
  refine sG<|Sy.ret<|Sy.then_ret ?_
  rw [show (ptv (dec x y i):Value)=pv 0 0 true from ptv_wrong x y i hb1.symm]
  exact rC (v:=pv 0 0 true) 73 g1 1 (pcs 0 0 true) rfl Tryz.underlying73
 ·refine sP (.bool false) ?_
  refine sG<|sU<|Sy.skip<|sB ?_
  refine sS (pv x y i) (qL 0 g0 0 9 73 73 (pcs x y i) rfl Tryz.underlying73)<|sW 1 g1 73 (pcs 0 0 false) (pcs x y i) (wS 0 73 (pcs x y i) rfl) ?_
  refine sG<|Sy.ret ?_
  rw [show (ptv (dec x y i):Value)=pv x y i from ptv_right x y i hb1.symm]
  exact rC (v:=pv x y i) 73 g1 1 (pcs x y i) rfl Tryz.underlying73
end Cu
end
section
namespace Cu
open Go.RowKit Sy
set_option maxRecDepth 100000
set_option maxHeartbeats 4000000
theorem eql_pt_ne (w:World) (F:Slots) (o:Oper) (x y:Operand) (a b:Nat) (i:Bool) (c d:Nat) (j:Bool) {yt:TypeId} (ho:o.op=.binOp .eql 73 x y yt) (hx:evF F x=pv a b i) (hy:evF F y=pv c d j) (ha:a<K4) (hb:b<K4) (hc:c<K4) (hd:d<K4) (hij:i≠j):(execOp (evF F) o).run Tryz.prog w=.ok (.value (.bool false)) w:=by
 have h:=eql_pt w F o x y a b i c d j ho hx hy ha hb hc hd
 have e:sameB a b i c d j=false:=by
  unfold sameB
  simp [hij]
 rwa [e] at h
end Cu
end
section
section
open Go.RowKit Go.Lib
def modV:Value:=.agg #[.int .u64 18446744069414583343,.int .u64 18446744073709551615,.int .u64 18446744073709551615,.int .u64 18446744073709551615,.int .u64 4294968273,.int .u64 0,.int .u64 0]
theorem fv_P:fv 115792089237316195423570985008687907853269984665640564039457584007908834671663=.agg #[.int .u64 18446744069414583343,.int .u64 18446744073709551615,.int .u64 18446744073709551615,.int .u64 18446744073709551615]:=rfl
theorem refP_any (w:World):Calls Tryz.prog 277 #[] w λe w'=>e=.returned modV∧Below w.heap.size w w':=by
 go_enter Tryz.func277,Tryz.ntmps277
 go_wp2
 exact bodyPost_ret (results_cell_row rfl _ _ w.heap.size _ _ (0,0) _ rfl (heap_alloc_new w _) Tryz.underlying397 rfl (by kernel_rfl)) rfl ⟨rfl,(Below.refl _ _).alloc (Nat.le_refl _) _⟩
theorem refOf_any (w:World) (n:Nat) (hn:n<(2^256)):Calls Tryz.prog 240 #[fv n] w λe w'=>e=.returned (fv n)∧Below w.heap.size w w':=by
 obtain ⟨a,b,c,d,fn⟩:=words_fv n hn
 rw [fn]
 clear fn
 go_enter Tryz.func240,Tryz.ntmps240
 go_wp2
 exact bodyPost_ret (results_cell_row rfl _ _ (w.heap.size+1) _ _ (0,0) _ rfl (heap_alloc2_new w _ _) Tryz.underlying373 rfl (by kernel_rfl)) rfl ⟨rfl,below_alloc2 w _ _⟩
set_option maxHeartbeats 8000000 in
set_option maxRecDepth 100000 in
theorem below_at {v1 v2:Value} (w:World) (x y:Nat) (h1:fv x=v1) (h2:fv y=v2) (hx:x<(2^256)) (hy:y<(2^256)):Calls Tryz.prog 303 #[v1,v2] w λe w'=>e=.returned (.bool (decide (x<y)))∧Below w.heap.size w w':=by
 subst h1 h2
 obtain ⟨x0,x1,x2,x3,a0,a1,a2,a3,ex,fx⟩:=words_of x hx
 obtain ⟨y0,y1,y2,y3,b0,b1,b2,b3,ey,fy⟩:=words_of y hy
 obtain ⟨r,hr⟩:∃ r,r=decide (x<y):=⟨_,rfl⟩
 have t3:x3≠y3→r=decide ((x3:Int)<(y3:Int)):=λh=>by rw [hr]; congr 1; simp only [eq_iff_iff]; omega
 have t2:x3=y3→x2≠y2→r=decide ((x2:Int)<(y2:Int)):=λ_ h=>by rw [hr]; congr 1; simp only [eq_iff_iff]; omega
 have t1:x3=y3→x2=y2→x1≠y1→r=decide ((x1:Int)<(y1:Int)):=λ_ _ h=>by rw [hr]; congr 1; simp only [eq_iff_iff]; omega
 have t0:x3=y3→x2=y2→x1=y1→x0≠y0→r=decide ((x0:Int)<(y0:Int)):=λ_ _ _ h=>by rw [hr]; congr 1; simp only [eq_iff_iff]; omega
 have te:x3=y3→x2=y2→x1=y1→x0=y0→r=false:=λ_ _ _ _=>by rw [hr]; simp only [decide_eq_false_iff_not]; omega
 have HT:=Lib.hid (And.intro t3 (And.intro t2 (And.intro t1 (And.intro t0 te))))
 rw [fx,fy, ← hr]
 clear fx fy ex ey hx hy a0 a1 a2 a3 b0 b1 b2 b3 hr t3 t2 t1 t0 te
 go_enter Tryz.func303,Tryz.ntmps303
 go_wp2_with fail
 go_loopw [5] (λi wr=>Below w.heap.size w wr∧Blk wr w.heap.size 373 #[.int .u64 (x0:Int),.int .u64 (x1:Int),.int .u64 (x2:Int),.int .u64 (x3:Int)]∧Blk wr (w.heap.size+1) 373 #[.int .u64 (y0:Int),.int .u64 (y1:Int),.int .u64 (y2:Int),.int .u64 (y3:Int)]∧Hid ((i=.int .i64 3)∨(i=.int .i64 2∧x3=y3)∨(i=.int .i64 1∧x3=y3∧x2=y2)∨(i=.int .i64 0∧x3=y3∧x2=y2∧x1=y1)∨(i=.int .i64 (-1)∧x3=y3∧x2=y2∧x1=y1∧x0=y0))) (λi _=>(RowKit.intOf i+1).toNat)
 case atStart=>exact ⟨below_alloc2 w _ _,(Blk.new w _ _).alloc _,blk_new2 w _ _ _,Lib.hid (.inl rfl)⟩
 case round =>
  obtain ⟨hb,BX,BY,HI⟩:=hrel
  have lX:=BX.lt
  have lY:=BY.lt
  have qx0:wr.cell? ⟨w.heap.size,0,none⟩=some (.int .u64 (x0:Int)):=BX.cell 0
  have qy0:wr.cell? ⟨w.heap.size+1,0,none⟩=some (.int .u64 (y0:Int)):=BY.cell 0
  have qx1:wr.cell? ⟨w.heap.size,1,none⟩=some (.int .u64 (x1:Int)):=BX.cell 1
  have qy1:wr.cell? ⟨w.heap.size+1,1,none⟩=some (.int .u64 (y1:Int)):=BY.cell 1
  have qx2:wr.cell? ⟨w.heap.size,2,none⟩=some (.int .u64 (x2:Int)):=BX.cell 2
  have qy2:wr.cell? ⟨w.heap.size+1,2,none⟩=some (.int .u64 (y2:Int)):=BY.cell 2
  have qx3:wr.cell? ⟨w.heap.size,3,none⟩=some (.int .u64 (x3:Int)):=BX.cell 3
  have qy3:wr.cell? ⟨w.heap.size+1,3,none⟩=some (.int .u64 (y3:Int)):=BY.cell 3
  rcases HI.out with rfl | ⟨rfl,E⟩ | ⟨rfl,E⟩ | ⟨rfl,E⟩ | ⟨rfl,E⟩
  ·have hk:Hid (True):=Lib.hid trivial
   clear HI
   obtain ⟨b,hbd⟩:∃ b,b=decide (x3≠y3):=⟨_,rfl⟩
   have hbb:(!((x3:Int) == (y3:Int)))=b:=by
    rw [hbd]
    by_cases h:x3=y3 <;> simp [h] <;> omega
   have HB:=Lib.hid hbd
   clear hbd
   go_wp2
   refine wp_region_G (λ_=>false) (by kernel_rfl) ?_
   try simp only [Act.put]
   refine tk 0 rfl ?_
   try simp only [Act.put,aA,aZ,aS]
   refine tk 1 rfl ?_
   try simp only [Act.put,aA,aZ,aS]
   refine tkw 2 rfl (YieldsG.pure (v:=.int .u64 (x3:Int)) (by rfl) (λw9 h9=>by have hz:=(Below.cell (p:=⟨w.heap.size,3,none⟩) h9 lX).trans qx3; go_simp; first | done | simp [hz])) ?_
   try simp only [Act.put,aA,aZ,aS]
   refine tk 3 rfl ?_
   try simp only [Act.put,aA,aZ,aS]
   refine tk 4 rfl ?_
   try simp only [Act.put,aA,aZ,aS]
   refine tkw 5 rfl (YieldsG.pure (v:=.int .u64 (y3:Int)) (by rfl) (λw9 h9=>by have hz:=(Below.cell (p:=⟨w.heap.size+1,3,none⟩) h9 lY).trans qy3; go_simp; first | done | simp [hz])) ?_
   try simp only [Act.put,aA,aZ,aS]
   refine tkw 6 rfl (YieldsG.pure (v:=.bool b) (by rfl) (λw9 h9=>by go_simp; congr 3; all_goals (rw [HB.out]; all_goals (by_cases h:x3=y3 <;> simp [h] <;> omega)))) ?_
   try simp only [Act.put,aA,aZ,aS]
   refine wpAnyG_done (by kernel_rfl) (λu hu=>?_)
   have hbu:=Below.gr hb hu
   have BXu:=Gr.blk hu BX
   have BYu:=Gr.blk hu BY
   cases b
   ·have hxy:x3=y3:=by
     have:=HB.out
     simpa using this
    have HXY:=Lib.hid hxy
    clear hxy
    go_wp2
    exact ⟨⟨hbu,BXu,BYu,Lib.hid (.inr (.inl ⟨rfl,HXY.out⟩))⟩,by decide⟩
   ·have hxy:x3≠y3:=by
     have:=HB.out
     simpa using this
    have hr2:=Lib.hid (HT.out.1 hxy)
    have lXu:=BXu.lt
    have lYu:=BYu.lt
    have px:u.cell? ⟨w.heap.size,3,none⟩=some (.int .u64 (x3:Int)):=BXu.cell 3
    have py:u.cell? ⟨w.heap.size+1,3,none⟩=some (.int .u64 (y3:Int)):=BYu.cell 3
    clear hxy hk HT
    go_wp2
    refine wp_region_G (λ_=>false) (by kernel_rfl) ?_
    try simp only [Act.put]
    refine tk 0 rfl ?_
    try simp only [Act.put,aA,aZ,aS]
    refine tk 1 rfl ?_
    try simp only [Act.put,aA,aZ,aS]
    refine tkw 2 rfl (YieldsG.pure (v:=.int .u64 (x3:Int)) (by rfl) (λw9 h9=>by have hz:=(Below.cell (p:=⟨w.heap.size,3,none⟩) h9 lXu).trans px; go_simp; first | done | simp [hz])) ?_
    try simp only [Act.put,aA,aZ,aS]
    refine tk 3 rfl ?_
    try simp only [Act.put,aA,aZ,aS]
    refine tk 4 rfl ?_
    try simp only [Act.put,aA,aZ,aS]
    refine tkw 5 rfl (YieldsG.pure (v:=.int .u64 (y3:Int)) (by rfl) (λw9 h9=>by have hz:=(Below.cell (p:=⟨w.heap.size+1,3,none⟩) h9 lYu).trans py; go_simp; first | done | simp [hz])) ?_
    try simp only [Act.put,aA,aZ,aS]
    refine tkw 6 rfl (YieldsG.pure (v:=.bool r) (by rfl) (λw9 h9=>by go_simp; congr 3; rw [hr2.out]; all_goals (apply decide_eq_decide.2; omega))) ?_
    try simp only [Act.put,aA,aZ,aS]
    refine tk 7 rfl ?_
    try simp only [Act.put,aA,aZ,aS]
    refine wpAnyG_done (by kernel_rfl) (λu2 hu2=>?_)
    go_wp2
    go_ret
    exact ⟨rfl,Below.gr hbu hu2⟩
  ·have hk:Hid (x3=y3):=Lib.hid E
   clear HI E
   obtain ⟨b,hbd⟩:∃ b,b=decide (x2≠y2):=⟨_,rfl⟩
   have hbb:(!((x2:Int) == (y2:Int)))=b:=by
    rw [hbd]
    by_cases h:x2=y2 <;> simp [h] <;> omega
   have HB:=Lib.hid hbd
   clear hbd
   go_wp2
   refine wp_region_G (λ_=>false) (by kernel_rfl) ?_
   try simp only [Act.put]
   refine tk 0 rfl ?_
   try simp only [Act.put,aA,aZ,aS]
   refine tk 1 rfl ?_
   try simp only [Act.put,aA,aZ,aS]
   refine tkw 2 rfl (YieldsG.pure (v:=.int .u64 (x2:Int)) (by rfl) (λw9 h9=>by have hz:=(Below.cell (p:=⟨w.heap.size,2,none⟩) h9 lX).trans qx2; go_simp; first | done | simp [hz])) ?_
   try simp only [Act.put,aA,aZ,aS]
   refine tk 3 rfl ?_
   try simp only [Act.put,aA,aZ,aS]
   refine tk 4 rfl ?_
   try simp only [Act.put,aA,aZ,aS]
   refine tkw 5 rfl (YieldsG.pure (v:=.int .u64 (y2:Int)) (by rfl) (λw9 h9=>by have hz:=(Below.cell (p:=⟨w.heap.size+1,2,none⟩) h9 lY).trans qy2; go_simp; first | done | simp [hz])) ?_
   try simp only [Act.put,aA,aZ,aS]
   refine tkw 6 rfl (YieldsG.pure (v:=.bool b) (by rfl) (λw9 h9=>by go_simp; congr 3; all_goals (rw [HB.out]; all_goals (by_cases h:x2=y2 <;> simp [h] <;> omega)))) ?_
   try simp only [Act.put,aA,aZ,aS]
   refine wpAnyG_done (by kernel_rfl) (λu hu=>?_)
   have hbu:=Below.gr hb hu
   have BXu:=Gr.blk hu BX
   have BYu:=Gr.blk hu BY
   cases b
   ·have hxy:x2=y2:=by
     have:=HB.out
     simpa using this
    have HXY:=Lib.hid hxy
    clear hxy
    go_wp2
    exact ⟨⟨hbu,BXu,BYu,Lib.hid (.inr (.inr (.inl ⟨rfl,hk.out,HXY.out⟩)))⟩,by decide⟩
   ·have hxy:x2≠y2:=by
     have:=HB.out
     simpa using this
    have hr2:=Lib.hid (HT.out.2.1 hk.out hxy)
    have lXu:=BXu.lt
    have lYu:=BYu.lt
    have px:u.cell? ⟨w.heap.size,2,none⟩=some (.int .u64 (x2:Int)):=BXu.cell 2
    have py:u.cell? ⟨w.heap.size+1,2,none⟩=some (.int .u64 (y2:Int)):=BYu.cell 2
    clear hxy hk HT
    go_wp2
    refine wp_region_G (λ_=>false) (by kernel_rfl) ?_
    try simp only [Act.put]
    refine tk 0 rfl ?_
    try simp only [Act.put,aA,aZ,aS]
    refine tk 1 rfl ?_
    try simp only [Act.put,aA,aZ,aS]
    refine tkw 2 rfl (YieldsG.pure (v:=.int .u64 (x2:Int)) (by rfl) (λw9 h9=>by have hz:=(Below.cell (p:=⟨w.heap.size,2,none⟩) h9 lXu).trans px; go_simp; first | done | simp [hz])) ?_
    try simp only [Act.put,aA,aZ,aS]
    refine tk 3 rfl ?_
    try simp only [Act.put,aA,aZ,aS]
    refine tk 4 rfl ?_
    try simp only [Act.put,aA,aZ,aS]
    refine tkw 5 rfl (YieldsG.pure (v:=.int .u64 (y2:Int)) (by rfl) (λw9 h9=>by have hz:=(Below.cell (p:=⟨w.heap.size+1,2,none⟩) h9 lYu).trans py; go_simp; first | done | simp [hz])) ?_
    try simp only [Act.put,aA,aZ,aS]
    refine tkw 6 rfl (YieldsG.pure (v:=.bool r) (by rfl) (λw9 h9=>by go_simp; congr 3; rw [hr2.out]; all_goals (apply decide_eq_decide.2; omega))) ?_
    try simp only [Act.put,aA,aZ,aS]
    refine tk 7 rfl ?_
    try simp only [Act.put,aA,aZ,aS]
    refine wpAnyG_done (by kernel_rfl) (λu2 hu2=>?_)
    go_wp2
    go_ret
    exact ⟨rfl,Below.gr hbu hu2⟩
  ·have hk:Hid (x3=y3∧x2=y2):=Lib.hid E
   clear HI E
   obtain ⟨b,hbd⟩:∃ b,b=decide (x1≠y1):=⟨_,rfl⟩
   have hbb:(!((x1:Int) == (y1:Int)))=b:=by
    rw [hbd]
    by_cases h:x1=y1 <;> simp [h] <;> omega
   have HB:=Lib.hid hbd
   clear hbd
   go_wp2
   refine wp_region_G (λ_=>false) (by kernel_rfl) ?_
   try simp only [Act.put]
   refine tk 0 rfl ?_
   try simp only [Act.put,aA,aZ,aS]
   refine tk 1 rfl ?_
   try simp only [Act.put,aA,aZ,aS]
   refine tkw 2 rfl (YieldsG.pure (v:=.int .u64 (x1:Int)) (by rfl) (λw9 h9=>by have hz:=(Below.cell (p:=⟨w.heap.size,1,none⟩) h9 lX).trans qx1; go_simp; first | done | simp [hz])) ?_
   try simp only [Act.put,aA,aZ,aS]
   refine tk 3 rfl ?_
   try simp only [Act.put,aA,aZ,aS]
   refine tk 4 rfl ?_
   try simp only [Act.put,aA,aZ,aS]
   refine tkw 5 rfl (YieldsG.pure (v:=.int .u64 (y1:Int)) (by rfl) (λw9 h9=>by have hz:=(Below.cell (p:=⟨w.heap.size+1,1,none⟩) h9 lY).trans qy1; go_simp; first | done | simp [hz])) ?_
   try simp only [Act.put,aA,aZ,aS]
   refine tkw 6 rfl (YieldsG.pure (v:=.bool b) (by rfl) (λw9 h9=>by go_simp; congr 3; all_goals (rw [HB.out]; all_goals (by_cases h:x1=y1 <;> simp [h] <;> omega)))) ?_
   try simp only [Act.put,aA,aZ,aS]
   refine wpAnyG_done (by kernel_rfl) (λu hu=>?_)
   have hbu:=Below.gr hb hu
   have BXu:=Gr.blk hu BX
   have BYu:=Gr.blk hu BY
   cases b
   ·have hxy:x1=y1:=by
     have:=HB.out
     simpa using this
    have HXY:=Lib.hid hxy
    clear hxy
    go_wp2
    exact ⟨⟨hbu,BXu,BYu,Lib.hid (.inr (.inr (.inr (.inl ⟨rfl,hk.out.1,hk.out.2,HXY.out⟩))))⟩,by decide⟩
   ·have hxy:x1≠y1:=by
     have:=HB.out
     simpa using this
    have hr2:=Lib.hid (HT.out.2.2.1 hk.out.1 hk.out.2 hxy)
    have lXu:=BXu.lt
    have lYu:=BYu.lt
    have px:u.cell? ⟨w.heap.size,1,none⟩=some (.int .u64 (x1:Int)):=BXu.cell 1
    have py:u.cell? ⟨w.heap.size+1,1,none⟩=some (.int .u64 (y1:Int)):=BYu.cell 1
    clear hxy hk HT
    go_wp2
    refine wp_region_G (λ_=>false) (by kernel_rfl) ?_
    try simp only [Act.put]
    refine tk 0 rfl ?_
    try simp only [Act.put,aA,aZ,aS]
    refine tk 1 rfl ?_
    try simp only [Act.put,aA,aZ,aS]
    refine tkw 2 rfl (YieldsG.pure (v:=.int .u64 (x1:Int)) (by rfl) (λw9 h9=>by have hz:=(Below.cell (p:=⟨w.heap.size,1,none⟩) h9 lXu).trans px; go_simp; first | done | simp [hz])) ?_
    try simp only [Act.put,aA,aZ,aS]
    refine tk 3 rfl ?_
    try simp only [Act.put,aA,aZ,aS]
    refine tk 4 rfl ?_
    try simp only [Act.put,aA,aZ,aS]
    refine tkw 5 rfl (YieldsG.pure (v:=.int .u64 (y1:Int)) (by rfl) (λw9 h9=>by have hz:=(Below.cell (p:=⟨w.heap.size+1,1,none⟩) h9 lYu).trans py; go_simp; first | done | simp [hz])) ?_
    try simp only [Act.put,aA,aZ,aS]
    refine tkw 6 rfl (YieldsG.pure (v:=.bool r) (by rfl) (λw9 h9=>by go_simp; congr 3; rw [hr2.out]; all_goals (apply decide_eq_decide.2; omega))) ?_
    try simp only [Act.put,aA,aZ,aS]
    refine tk 7 rfl ?_
    try simp only [Act.put,aA,aZ,aS]
    refine wpAnyG_done (by kernel_rfl) (λu2 hu2=>?_)
    go_wp2
    go_ret
    exact ⟨rfl,Below.gr hbu hu2⟩
  ·have hk:Hid (x3=y3∧x2=y2∧x1=y1):=Lib.hid E
   clear HI E
   obtain ⟨b,hbd⟩:∃ b,b=decide (x0≠y0):=⟨_,rfl⟩
   have hbb:(!((x0:Int) == (y0:Int)))=b:=by
    rw [hbd]
    by_cases h:x0=y0 <;> simp [h] <;> omega
   have HB:=Lib.hid hbd
   clear hbd
   go_wp2
   refine wp_region_G (λ_=>false) (by kernel_rfl) ?_
   try simp only [Act.put]
   refine tk 0 rfl ?_
   try simp only [Act.put,aA,aZ,aS]
   refine tk 1 rfl ?_
   try simp only [Act.put,aA,aZ,aS]
   refine tkw 2 rfl (YieldsG.pure (v:=.int .u64 (x0:Int)) (by rfl) (λw9 h9=>by have hz:=(Below.cell (p:=⟨w.heap.size,0,none⟩) h9 lX).trans qx0; go_simp; first | done | simp [hz])) ?_
   try simp only [Act.put,aA,aZ,aS]
   refine tk 3 rfl ?_
   try simp only [Act.put,aA,aZ,aS]
   refine tk 4 rfl ?_
   try simp only [Act.put,aA,aZ,aS]
   refine tkw 5 rfl (YieldsG.pure (v:=.int .u64 (y0:Int)) (by rfl) (λw9 h9=>by have hz:=(Below.cell (p:=⟨w.heap.size+1,0,none⟩) h9 lY).trans qy0; go_simp; first | done | simp [hz])) ?_
   try simp only [Act.put,aA,aZ,aS]
   refine tkw 6 rfl (YieldsG.pure (v:=.bool b) (by rfl) (λw9 h9=>by go_simp; congr 3; all_goals (rw [HB.out]; all_goals (by_cases h:x0=y0 <;> simp [h] <;> omega)))) ?_
   try simp only [Act.put,aA,aZ,aS]
   refine wpAnyG_done (by kernel_rfl) (λu hu=>?_)
   have hbu:=Below.gr hb hu
   have BXu:=Gr.blk hu BX
   have BYu:=Gr.blk hu BY
   cases b
   ·have hxy:x0=y0:=by
     have:=HB.out
     simpa using this
    have HXY:=Lib.hid hxy
    clear hxy
    go_wp2
    exact ⟨⟨hbu,BXu,BYu,Lib.hid (.inr (.inr (.inr (.inr ⟨rfl,hk.out.1,hk.out.2.1,hk.out.2.2,HXY.out⟩))))⟩,by decide⟩
   ·have hxy:x0≠y0:=by
     have:=HB.out
     simpa using this
    have hr2:=Lib.hid (HT.out.2.2.2.1 hk.out.1 hk.out.2.1 hk.out.2.2 hxy)
    have lXu:=BXu.lt
    have lYu:=BYu.lt
    have px:u.cell? ⟨w.heap.size,0,none⟩=some (.int .u64 (x0:Int)):=BXu.cell 0
    have py:u.cell? ⟨w.heap.size+1,0,none⟩=some (.int .u64 (y0:Int)):=BYu.cell 0
    clear hxy hk HT
    go_wp2
    refine wp_region_G (λ_=>false) (by kernel_rfl) ?_
    try simp only [Act.put]
    refine tk 0 rfl ?_
    try simp only [Act.put,aA,aZ,aS]
    refine tk 1 rfl ?_
    try simp only [Act.put,aA,aZ,aS]
    refine tkw 2 rfl (YieldsG.pure (v:=.int .u64 (x0:Int)) (by rfl) (λw9 h9=>by have hz:=(Below.cell (p:=⟨w.heap.size,0,none⟩) h9 lXu).trans px; go_simp; first | done | simp [hz])) ?_
    try simp only [Act.put,aA,aZ,aS]
    refine tk 3 rfl ?_
    try simp only [Act.put,aA,aZ,aS]
    refine tk 4 rfl ?_
    try simp only [Act.put,aA,aZ,aS]
    refine tkw 5 rfl (YieldsG.pure (v:=.int .u64 (y0:Int)) (by rfl) (λw9 h9=>by have hz:=(Below.cell (p:=⟨w.heap.size+1,0,none⟩) h9 lYu).trans py; go_simp; first | done | simp [hz])) ?_
    try simp only [Act.put,aA,aZ,aS]
    refine tkw 6 rfl (YieldsG.pure (v:=.bool r) (by rfl) (λw9 h9=>by go_simp; congr 3; rw [hr2.out]; all_goals (apply decide_eq_decide.2; omega))) ?_
    try simp only [Act.put,aA,aZ,aS]
    refine tk 7 rfl ?_
    try simp only [Act.put,aA,aZ,aS]
    refine wpAnyG_done (by kernel_rfl) (λu2 hu2=>?_)
    go_wp2
    go_ret
    exact ⟨rfl,Below.gr hbu hu2⟩
  ·have HR:Hid (r=false):=Lib.hid (HT.out.2.2.2.2 E.1 E.2.1 E.2.2.1 E.2.2.2)
   clear HI E
   go_wp2
   go_ret
   exact ⟨by rw [HR.out]; rfl,hb⟩
end
end
section
section
open Go.RowKit Go.Lib
set_option maxHeartbeats 8000000 in
set_option maxRecDepth 100000 in
theorem minusR_at {v1 v2:Value} (w:World) (x y s k:Nat) (h1:fv x=v1) (h2:fv y=v2) (hx:x<(2^256)) (hy:y<(2^256)) (hs:s<(2^256)) (he:s+y=x+(2^256)*k):Calls Tryz.prog 304 #[v1,v2] w λe w'=>e=.returned (fv s)∧Below w.heap.size w w':=by
 subst h1 h2
 obtain ⟨x0,x1,x2,x3,a0,a1,a2,a3,ex,fx⟩:=words_of x hx
 obtain ⟨y0,y1,y2,y3,b0,b1,b2,b3,ey,fy⟩:=words_of y hy
 obtain ⟨s0,c0,d0,k0,e0,r0⟩:=sub0_ex x0 y0 a0 b0
 obtain ⟨s1,c1,d1,k1,e1,r1⟩:=subc_ex x1 y1 c0 a1 b1 k0
 obtain ⟨s2,c2,d2,k2,e2,r2⟩:=subc_ex x2 y2 c1 a2 b2 k1
 obtain ⟨s3,c3,d3,k3,e3,r3⟩:=subc_ex x3 y3 c2 a3 b3 k2
 have fin:s0+18446744073709551616*s1+340282366920938463463374607431768211456*s2+6277101735386680763835789423207666416102355444464034512896*s3=s:=by omega
 have hfs:=fv_mk s0 s1 s2 s3 d0 d1 d2 d3
 rw [fin] at hfs
 have Fd:=Lib.hid hfs
 rw [fx,fy]
 clear fx fy ex ey hx hy hs he a0 a1 a2 a3 b0 b1 b2 b3 d0 d1 d2 d3 k0 k1 k2 k3 e0 e1 e2 e3 fin hfs
 go_enter Tryz.func304,Tryz.ntmps304
 go_wp2_with fail
 go_loopw [5,6] (λbo i wr=>Below w.heap.size w wr∧Blk wr (w.heap.size+1) 373 #[.int .u64 (y0:Int),.int .u64 (y1:Int),.int .u64 (y2:Int),.int .u64 (y3:Int)]∧Blk wr (w.heap.size+2) 373 #[.int .u64 0,.int .u64 0,.int .u64 0,.int .u64 0]∧Hid ((i=.int .i64 0∧bo=.int .u64 0∧Blk wr w.heap.size 373 #[.int .u64 (x0:Int),.int .u64 (x1:Int),.int .u64 (x2:Int),.int .u64 (x3:Int)])∨(i=.int .i64 1∧bo=.int .u64 (c0:Int)∧Blk wr w.heap.size 373 #[.int .u64 (s0:Int),.int .u64 (x1:Int),.int .u64 (x2:Int),.int .u64 (x3:Int)])∨(i=.int .i64 2∧bo=.int .u64 (c1:Int)∧Blk wr w.heap.size 373 #[.int .u64 (s0:Int),.int .u64 (s1:Int),.int .u64 (x2:Int),.int .u64 (x3:Int)])∨(i=.int .i64 3∧bo=.int .u64 (c2:Int)∧Blk wr w.heap.size 373 #[.int .u64 (s0:Int),.int .u64 (s1:Int),.int .u64 (s2:Int),.int .u64 (x3:Int)])∨(i=.int .i64 4∧bo=.int .u64 (c3:Int)∧Blk wr w.heap.size 373 #[.int .u64 (s0:Int),.int .u64 (s1:Int),.int .u64 (s2:Int),.int .u64 (s3:Int)]))) (λ_ i _=>4 - (RowKit.intOf i).toNat)
 case atStart=>exact ⟨below_alloc3 w _ _ _,(blk_new2 w _ _ _).alloc _,blk_new3 w _ _ _ _,Lib.hid (.inl ⟨rfl,rfl,((Blk.new w _ _).alloc _).alloc _⟩)⟩
 case round =>
  obtain ⟨hb,BY,BR,HI⟩:=hrel
  have lY:=BY.lt
  have lX:w.heap.size<wr.heap.size:=by omega
  have hsz:w.heap.size+2<wr.heap.size:=BR.lt
  rcases HI.out with ⟨rfl,rfl,BX⟩ | ⟨rfl,rfl,BX⟩ | ⟨rfl,rfl,BX⟩ | ⟨rfl,rfl,BX⟩ | ⟨rfl,rfl,BX⟩
  ·clear HI
   have px:wr.cell? ⟨w.heap.size,0,none⟩=some (.int .u64 (x0:Int)):=BX.cell 0
   have py:wr.cell? ⟨w.heap.size+1,0,none⟩=some (.int .u64 (y0:Int)):=BY.cell 0
   go_wp2
   refine wp_region_G (λ_=>false) (by kernel_rfl) ?_
   try simp only [Act.put]
   refine tk 0 rfl ?_
   try simp only [Act.put,aA,aZ,aS]
   refine tk 1 rfl ?_
   try simp only [Act.put,aA,aZ,aS]
   refine tkw 2 rfl (YieldsG.pure (v:=.int .u64 (x0:Int)) (by rfl) (λw9 h9=>by have hz:=(Below.cell (p:=⟨w.heap.size,0,none⟩) h9 lX).trans px; go_simp; first | done | simp [hz])) ?_
   try simp only [Act.put,aA,aZ,aS]
   refine tk 3 rfl ?_
   try simp only [Act.put,aA,aZ,aS]
   refine tk 4 rfl ?_
   try simp only [Act.put,aA,aZ,aS]
   refine tkw 5 rfl (YieldsG.pure (v:=.int .u64 (y0:Int)) (by rfl) (λw9 h9=>by have hz:=(Below.cell (p:=⟨w.heap.size+1,0,none⟩) h9 lY).trans py; go_simp; first | done | simp [hz])) ?_
   try simp only [Act.put,aA,aZ,aS]
   refine tk 6 rfl ?_
   try simp only [Act.put,aA,aZ,aS]
   refine tkw 7 rfl (YieldsG.pure (v:=.tuple #[.int .u64 (s0:Int),.int .u64 (c0:Int)]) (by rfl) (λw9 h9=>by go_simp)) ?_
   try simp only [Act.put,aA,aZ,aS]
   refine tk 8 rfl ?_
   try simp only [Act.put,aA,aZ,aS]
   refine tk 9 rfl ?_
   try simp only [Act.put,aA,aZ,aS]
   refine tk 10 rfl ?_
   try simp only [Act.put,aA,aZ,aS]
   refine tk 11 rfl ?_
   try simp only [Act.put,aA,aZ,aS]
   refine tk 12 rfl ?_
   try simp only [Act.put,aA,aZ,aS]
   refine wpAnyG_done (by kernel_rfl) (λu hu=>?_)
   have BXu:=Gr.blk hu BX
   have BYu:=Gr.blk hu BY
   have BRu:=Gr.blk hu BR
   have hbu:=Below.gr hb hu
   have pc:u.cell? ⟨w.heap.size,0,none⟩=some (.int .u64 (x0:Int)):=BXu.cell 0
   have pf:=BXu.frozen 0
   go_wp2
   refine ⟨⟨hbu.setCell (Nat.le_refl _) _,BYu.far (by show w.heap.size+1≠w.heap.size; omega) _,BRu.far (by show w.heap.size+2≠w.heap.size; omega) _,Lib.hid (.inr (.inl (⟨rfl,rfl,BXu.set_ 0 _⟩)))⟩,by decide⟩
  ·clear HI
   have px:wr.cell? ⟨w.heap.size,1,none⟩=some (.int .u64 (x1:Int)):=BX.cell 1
   have py:wr.cell? ⟨w.heap.size+1,1,none⟩=some (.int .u64 (y1:Int)):=BY.cell 1
   go_wp2
   refine wp_region_G (λ_=>false) (by kernel_rfl) ?_
   try simp only [Act.put]
   refine tk 0 rfl ?_
   try simp only [Act.put,aA,aZ,aS]
   refine tk 1 rfl ?_
   try simp only [Act.put,aA,aZ,aS]
   refine tkw 2 rfl (YieldsG.pure (v:=.int .u64 (x1:Int)) (by rfl) (λw9 h9=>by have hz:=(Below.cell (p:=⟨w.heap.size,1,none⟩) h9 lX).trans px; go_simp; first | done | simp [hz])) ?_
   try simp only [Act.put,aA,aZ,aS]
   refine tk 3 rfl ?_
   try simp only [Act.put,aA,aZ,aS]
   refine tk 4 rfl ?_
   try simp only [Act.put,aA,aZ,aS]
   refine tkw 5 rfl (YieldsG.pure (v:=.int .u64 (y1:Int)) (by rfl) (λw9 h9=>by have hz:=(Below.cell (p:=⟨w.heap.size+1,1,none⟩) h9 lY).trans py; go_simp; first | done | simp [hz])) ?_
   try simp only [Act.put,aA,aZ,aS]
   refine tk 6 rfl ?_
   try simp only [Act.put,aA,aZ,aS]
   refine tkw 7 rfl (YieldsG.pure (v:=.tuple #[.int .u64 (s1:Int),.int .u64 (c1:Int)]) (by rfl) (λw9 h9=>by go_simp)) ?_
   try simp only [Act.put,aA,aZ,aS]
   refine tk 8 rfl ?_
   try simp only [Act.put,aA,aZ,aS]
   refine tk 9 rfl ?_
   try simp only [Act.put,aA,aZ,aS]
   refine tk 10 rfl ?_
   try simp only [Act.put,aA,aZ,aS]
   refine tk 11 rfl ?_
   try simp only [Act.put,aA,aZ,aS]
   refine tk 12 rfl ?_
   try simp only [Act.put,aA,aZ,aS]
   refine wpAnyG_done (by kernel_rfl) (λu hu=>?_)
   have BXu:=Gr.blk hu BX
   have BYu:=Gr.blk hu BY
   have BRu:=Gr.blk hu BR
   have hbu:=Below.gr hb hu
   have pc:u.cell? ⟨w.heap.size,1,none⟩=some (.int .u64 (x1:Int)):=BXu.cell 1
   have pf:=BXu.frozen 1
   go_wp2
   refine ⟨⟨hbu.setCell (Nat.le_refl _) _,BYu.far (by show w.heap.size+1≠w.heap.size; omega) _,BRu.far (by show w.heap.size+2≠w.heap.size; omega) _,Lib.hid (.inr (.inr (.inl (⟨rfl,rfl,BXu.set_ 1 _⟩))))⟩,by decide⟩
  ·clear HI
   have px:wr.cell? ⟨w.heap.size,2,none⟩=some (.int .u64 (x2:Int)):=BX.cell 2
   have py:wr.cell? ⟨w.heap.size+1,2,none⟩=some (.int .u64 (y2:Int)):=BY.cell 2
   go_wp2
   refine wp_region_G (λ_=>false) (by kernel_rfl) ?_
   try simp only [Act.put]
   refine tk 0 rfl ?_
   try simp only [Act.put,aA,aZ,aS]
   refine tk 1 rfl ?_
   try simp only [Act.put,aA,aZ,aS]
   refine tkw 2 rfl (YieldsG.pure (v:=.int .u64 (x2:Int)) (by rfl) (λw9 h9=>by have hz:=(Below.cell (p:=⟨w.heap.size,2,none⟩) h9 lX).trans px; go_simp; first | done | simp [hz])) ?_
   try simp only [Act.put,aA,aZ,aS]
   refine tk 3 rfl ?_
   try simp only [Act.put,aA,aZ,aS]
   refine tk 4 rfl ?_
   try simp only [Act.put,aA,aZ,aS]
   refine tkw 5 rfl (YieldsG.pure (v:=.int .u64 (y2:Int)) (by rfl) (λw9 h9=>by have hz:=(Below.cell (p:=⟨w.heap.size+1,2,none⟩) h9 lY).trans py; go_simp; first | done | simp [hz])) ?_
   try simp only [Act.put,aA,aZ,aS]
   refine tk 6 rfl ?_
   try simp only [Act.put,aA,aZ,aS]
   refine tkw 7 rfl (YieldsG.pure (v:=.tuple #[.int .u64 (s2:Int),.int .u64 (c2:Int)]) (by rfl) (λw9 h9=>by go_simp)) ?_
   try simp only [Act.put,aA,aZ,aS]
   refine tk 8 rfl ?_
   try simp only [Act.put,aA,aZ,aS]
   refine tk 9 rfl ?_
   try simp only [Act.put,aA,aZ,aS]
   refine tk 10 rfl ?_
   try simp only [Act.put,aA,aZ,aS]
   refine tk 11 rfl ?_
   try simp only [Act.put,aA,aZ,aS]
   refine tk 12 rfl ?_
   try simp only [Act.put,aA,aZ,aS]
   refine wpAnyG_done (by kernel_rfl) (λu hu=>?_)
   have BXu:=Gr.blk hu BX
   have BYu:=Gr.blk hu BY
   have BRu:=Gr.blk hu BR
   have hbu:=Below.gr hb hu
   have pc:u.cell? ⟨w.heap.size,2,none⟩=some (.int .u64 (x2:Int)):=BXu.cell 2
   have pf:=BXu.frozen 2
   go_wp2
   refine ⟨⟨hbu.setCell (Nat.le_refl _) _,BYu.far (by show w.heap.size+1≠w.heap.size; omega) _,BRu.far (by show w.heap.size+2≠w.heap.size; omega) _,Lib.hid (.inr (.inr (.inr (.inl (⟨rfl,rfl,BXu.set_ 2 _⟩)))))⟩,by decide⟩
  ·clear HI
   have px:wr.cell? ⟨w.heap.size,3,none⟩=some (.int .u64 (x3:Int)):=BX.cell 3
   have py:wr.cell? ⟨w.heap.size+1,3,none⟩=some (.int .u64 (y3:Int)):=BY.cell 3
   go_wp2
   refine wp_region_G (λ_=>false) (by kernel_rfl) ?_
   try simp only [Act.put]
   refine tk 0 rfl ?_
   try simp only [Act.put,aA,aZ,aS]
   refine tk 1 rfl ?_
   try simp only [Act.put,aA,aZ,aS]
   refine tkw 2 rfl (YieldsG.pure (v:=.int .u64 (x3:Int)) (by rfl) (λw9 h9=>by have hz:=(Below.cell (p:=⟨w.heap.size,3,none⟩) h9 lX).trans px; go_simp; first | done | simp [hz])) ?_
   try simp only [Act.put,aA,aZ,aS]
   refine tk 3 rfl ?_
   try simp only [Act.put,aA,aZ,aS]
   refine tk 4 rfl ?_
   try simp only [Act.put,aA,aZ,aS]
   refine tkw 5 rfl (YieldsG.pure (v:=.int .u64 (y3:Int)) (by rfl) (λw9 h9=>by have hz:=(Below.cell (p:=⟨w.heap.size+1,3,none⟩) h9 lY).trans py; go_simp; first | done | simp [hz])) ?_
   try simp only [Act.put,aA,aZ,aS]
   refine tk 6 rfl ?_
   try simp only [Act.put,aA,aZ,aS]
   refine tkw 7 rfl (YieldsG.pure (v:=.tuple #[.int .u64 (s3:Int),.int .u64 (c3:Int)]) (by rfl) (λw9 h9=>by go_simp)) ?_
   try simp only [Act.put,aA,aZ,aS]
   refine tk 8 rfl ?_
   try simp only [Act.put,aA,aZ,aS]
   refine tk 9 rfl ?_
   try simp only [Act.put,aA,aZ,aS]
   refine tk 10 rfl ?_
   try simp only [Act.put,aA,aZ,aS]
   refine tk 11 rfl ?_
   try simp only [Act.put,aA,aZ,aS]
   refine tk 12 rfl ?_
   try simp only [Act.put,aA,aZ,aS]
   refine wpAnyG_done (by kernel_rfl) (λu hu=>?_)
   have BXu:=Gr.blk hu BX
   have BYu:=Gr.blk hu BY
   have BRu:=Gr.blk hu BR
   have hbu:=Below.gr hb hu
   have pc:u.cell? ⟨w.heap.size,3,none⟩=some (.int .u64 (x3:Int)):=BXu.cell 3
   have pf:=BXu.frozen 3
   go_wp2
   refine ⟨⟨hbu.setCell (Nat.le_refl _) _,BYu.far (by show w.heap.size+1≠w.heap.size; omega) _,BRu.far (by show w.heap.size+2≠w.heap.size; omega) _,Lib.hid (.inr (.inr (.inr (.inr (⟨rfl,rfl,BXu.set_ 3 _⟩)))))⟩,by decide⟩
  ·clear HI
   have BS:=BX.eq_ (fcs_words Fd.out.symm).symm
   go_wp2_with (first | ((with_reducible refine here_load (d:=some 28) ?_); refine wpList_load_fv rfl _ _ rfl (w.heap.size) rfl (s) _ _ _ (BS) (fv_fcs s) Tryz.underlying373 rfl (by kernel_rfl) ?_) | ((with_reducible refine here_store ?_); refine wpList_store_blk rfl _ _ _ rfl (w.heap.size+2) (fcs (s)) rfl rfl _ _ (BR) (by kernel_rfl) (by rfl) (fcs_one _) ?_; intro w9 hL9 hB9 hK9))
   exact bodyPost_ret (results_cell_row rfl _ _ (w.heap.size+2) _ _ (0,0) _ rfl hL9 Tryz.underlying373 rfl (by kernel_rfl)) rfl ⟨rfl,hb.trans (hB9 _ (by omega))⟩
theorem mod_range {w:World} {g:Nat} {t:TypeId} {a b c d:Value} {r:List Value} (h:Blk w g t (a::b::c::d::r).toArray):w.rangeAt g 0 [a,b,c,d]:=λj v hj=>by
 rw [Nat.zero_add,h.cell]
 match j,hj with
 | 0,hj=>simpa using hj
 | 1,hj=>simpa using hj
 | 2,hj=>simpa using hj
 | 3,hj=>simpa using hj
 | j+4,hj=>simp at hj
theorem wpList_load_part {P:Program} {ops:Array Oper} {rest:List Oper} {o:Oper} {a:Act} {w:World} {Q:Exit→Act→World→Prop} (hgd:o.guard=none) (ty:TypeId) (x:Operand) (ho:o.op=.load ty x)
  (g:Nat) (hx:a.eval x=.pointer (some ⟨g,0,none⟩)) (n:Nat) (cs:List Value) (d:TypeDesc) (hr:w.rangeAt g 0 cs) (hf:fv n=.agg cs.toArray)
  (hu:P.underlying ty=some d) (hd:d.isRow=true) (hi:(P.info? ty).map (·.size)=some cs.length)
  (h:wpList P ops Q rest (a.put o.dst (fv n)) w):wpList P ops Q (o::rest) a w :=
 wpList_plain hgd λK hK=>by
  have hl:=run_loadVar_mid (P:=P) w g 0 ty cs d hr hu hd hi
  unfold Oper.wp execOp
  simp only [ho,hx,Instr.loadAt,Instr.sureAddr,Sem.run_bind,Sem.run_pure,Result.andThen_ok,hl]
  rw [← hf]
  exact hK _ _ h
set_option maxHeartbeats 2000000 in
set_option maxRecDepth 100000 in
theorem normR_any (w:World) (x:Nat) (hx:x<(2^256)):Calls Tryz.prog 273 #[modV,fv x] w λe w'=>e=.returned (fv (x%pM))∧Below w.heap.size w w':=by
 obtain ⟨z,hz⟩:∃ z,z=x%pM:=⟨_,rfl⟩
 obtain ⟨p,hp⟩:∃ p,p=115792089237316195423570985008687907853269984665640564039457584007908834671663:=⟨_,rfl⟩
 have hpl:p<(2^256):=by omega
 obtain ⟨b,hb⟩:∃ b,b=decide (x<p):=⟨_,rfl⟩
 have cb:∀ w,Calls Tryz.prog 303 #[fv x,fv p] w λe w'=>e=.returned (.bool b)∧Below w.heap.size w w':=by
  intro w; rw [hb]; exact below_at w x p rfl rfl hx hpl
 have t1:b=true→z=x:=λh=>by
  rw [hb] at h
  rw [hz]
  exact Nat.mod_eq_of_lt (by rw [pM_eq, ← hp]; simpa using h)
 have cm:b=false→∀ w,Calls Tryz.prog 304 #[fv x,fv p] w λe w'=>e=.returned (fv z)∧Below w.heap.size w w':=λh w=>by
  rw [hb] at h
  have hle:¬ x<p:=by simpa using h
  have hzx:z+p=x:=by rw [hz,red_once x hx,if_neg (by omega)]; omega
  exact minusR_at w x p z 0 rfl rfl hx hpl (by omega) (by omega)
 have hpc:fv p=.agg #[.int .u64 18446744069414583343,.int .u64 18446744073709551615,.int .u64 18446744073709551615,.int .u64 18446744073709551615]:=by rw [hp]; exact fv_P
 obtain ⟨x0,x1,x2,x3,fx⟩:=words_fv x hx
 have FX:=Lib.hid fx
 have FP:=Lib.hid hpc
 rw [fx, ← hz]
 unfold modV
 clear fx hpc hx hz hp hpl hb
 go_enter Tryz.func273,Tryz.ntmps273
 go_wp2_with (first | ((with_reducible refine here_load (d:=some 6) ?_); refine wpList_load_fv rfl _ _ rfl (w.heap.size+1) rfl (x) _ _ _ ((blk_new2 w _ _ _).alloc _) (FX.out) Tryz.underlying373 rfl (by kernel_rfl) ?_) | ((with_reducible refine here_load (d:=some 8) ?_); refine wpList_load_part rfl _ _ rfl w.heap.size rfl p [.int .u64 18446744069414583343,.int .u64 18446744073709551615,.int .u64 18446744073709551615,.int .u64 18446744073709551615] _ (mod_range (((Blk.new w _ _).alloc _).alloc _)) FP.out Tryz.underlying373 rfl (by kernel_rfl) ?_))
 refine (cb _).mono ?_
 rintro e w1 ⟨rfl,k1⟩
 have BM:Blk w1 w.heap.size 397 _:=Gr.blk k1 (((Blk.new w _ _).alloc _).alloc _)
 have BX:Blk w1 (w.heap.size+1) 373 _:=Gr.blk k1 ((blk_new2 w _ _ _).alloc _)
 have BR:Blk w1 (w.heap.size+2) 373 _:=Gr.blk k1 (blk_new3 w _ _ _ _)
 have hB:=Below.gr (below_alloc3 w _ _ _) k1
 clear k1 cb
 cases b
 ·have cmm:=cm rfl
  clear cm t1
  go_wp2_with (first | ((with_reducible refine here_load (d:=some 12) ?_); refine wpList_load_fv rfl _ _ rfl (w.heap.size+1) rfl (x) _ _ _ (BX) (FX.out) Tryz.underlying373 rfl (by kernel_rfl) ?_) | ((with_reducible refine here_load (d:=some 14) ?_); refine wpList_load_part rfl _ _ rfl w.heap.size rfl p [.int .u64 18446744069414583343,.int .u64 18446744073709551615,.int .u64 18446744073709551615,.int .u64 18446744073709551615] _ (mod_range (BM)) FP.out Tryz.underlying373 rfl (by kernel_rfl) ?_))
  refine (cmm _).mono ?_
  rintro e w2 ⟨rfl,k2⟩
  have BR2:=Gr.blk k2 BR
  have hB2:=Below.gr hB k2
  clear k2 cmm
  go_wp2_with (first | ((with_reducible refine here_store ?_); refine wpList_store_blk rfl _ _ _ rfl (w.heap.size+2) (fcs (z)) rfl rfl _ _ (BR2) (by kernel_rfl) (by rfl) (fcs_one _) ?_; intro w9 hL9 hB9 hK9))
  exact bodyPost_ret (results_cell_row rfl _ _ (w.heap.size+2) _ _ (0,0) _ rfl hL9 Tryz.underlying373 rfl (by kernel_rfl)) rfl ⟨rfl,hB2.trans (hB9 _ (by omega))⟩
 ·have HZX:=Lib.hid (t1 rfl)
  clear t1 cm
  go_wp2_with (first | ((with_reducible refine here_load (d:=some 11) ?_); refine wpList_load_fv rfl _ _ rfl (w.heap.size+1) rfl (x) _ _ _ (BX) (FX.out) Tryz.underlying373 rfl (by kernel_rfl) ?_) | ((with_reducible refine here_store ?_); refine wpList_store_blk rfl _ _ _ rfl (w.heap.size+2) (fcs (x)) rfl rfl _ _ (BR) (by kernel_rfl) (by rfl) (fcs_one _) ?_; intro w9 hL9 hB9 hK9))
  exact bodyPost_ret (results_cell_row rfl _ _ (w.heap.size+2) _ _ (0,0) _ rfl hL9 Tryz.underlying373 rfl (by kernel_rfl)) rfl ⟨by rw [HZX.out]; rfl,hB.trans (hB9 _ (by omega))⟩
end
end
section
namespace Fz
open Go.RowKit Go.Lib Sy
def vR (R:Nat→Nat):Nat→Nat
 | 0=>0
 | n+1=>vR R n+R n*18446744073709551616 ^ n
def upd (R:Nat→Nat) (k y:Nat):Nat→Nat:=λt=>if t=k then y else R t
theorem upd_ne {R:Nat→Nat} {k y t:Nat} (h:t≠k):upd R k y t=R t:=if_neg h
theorem upd_lt {R:Nat→Nat} {k y:Nat} (h:∀ t,R t<18446744073709551616) (hy:y<18446744073709551616) (t:Nat):upd R k y t<18446744073709551616:=by
 unfold upd
 split
 ·exact hy
 ·exact h t
theorem vR_same {R S:Nat→Nat}:∀ n,(∀ t,t<n→R t=S t)→vR R n=vR S n
 | 0,_=>rfl
 | n+1,h=>by
  show vR R n+_=vR S n+_
  rw [vR_same n λt ht=>h t (by omega),h n (by omega)]
theorem vR_upd (R:Nat→Nat) (k y:Nat):∀ n,k<n→vR (upd R k y) n+R k*18446744073709551616 ^ k=vR R n+y*18446744073709551616 ^ k
 | 0,h=>absurd h (Nat.not_lt_zero _)
 | n+1,h=>by
  show vR (upd R k y) n+upd R k y n*_+_=vR R n+R n*_+_
  by_cases e:k=n
  ·subst e
   rw [show upd R k y k=y from if_pos rfl,vR_same (R:=upd R k y) (S:=R) k λt ht=>if_neg (by omega)]
   omega
  ·have h2:=vR_upd R k y n (by omega)
   rw [show upd R k y n=R n from if_neg (by omega)]
   omega
theorem vR_lt {R:Nat→Nat} (h:∀ t,R t<18446744073709551616):∀ n,vR R n<18446744073709551616 ^ n
 | 0=>Nat.one_pos
 | n+1=>by
  have h1:=vR_lt h n
  have h2:=h n
  show vR R n+R n*_<_
  rw [Nat.pow_succ]
  have h3:(R n+1)*18446744073709551616 ^ n≤18446744073709551616*18446744073709551616 ^ n:=Nat.mul_le_mul_right _ h2
  rw [Nat.add_mul,Nat.one_mul] at h3
  rw [Nat.mul_comm (18446744073709551616 ^ n)]
  omega
theorem vR_split (R:Nat→Nat) (a:Nat):∀ n,vR R (a+n)=vR R a+vR (λt=>R (a+t)) n*18446744073709551616 ^ a
 | 0=>by
  show vR R a=vR R a+0*_
  rw [Nat.zero_mul,Nat.add_zero]
 | n+1=>by
  show vR R (a+n)+R (a+n)*18446744073709551616 ^ (a+n)=vR R a+(vR _ n+R (a+n)*_)*_
  rw [vR_split R a n,Nat.add_mul,Nat.mul_assoc, ← Nat.pow_add,Nat.add_comm n a,Nat.add_assoc]
theorem vR_zero:∀ n,vR (λ_=>0) n=0
 | 0=>rfl
 | n+1=>by
  show vR _ n+0*_=0
  rw [vR_zero n,Nat.zero_mul]
def cpy (R:Nat→Nat) (k:Nat):Nat→Nat:=λt=>if t<k then R t else 0
theorem cpy_lt {R:Nat→Nat} (h:∀ t,R t<18446744073709551616) (k t:Nat):cpy R k t<18446744073709551616:=by
 unfold cpy
 split
 ·exact h t
 ·decide
theorem cpy_succ (R:Nat→Nat) (k:Nat):upd (cpy R k) k (R k)=cpy R (k+1):=by
 funext t
 unfold upd cpy
 by_cases e:t=k
 ·rw [if_pos e,if_pos (by omega),e]
 ·rw [if_neg e]
  by_cases l:t<k
  ·rw [if_pos l,if_pos (by omega)]
  ·rw [if_neg l,if_neg (by omega)]
theorem vR_cpy (R:Nat→Nat):vR (cpy R 4) 8=vR R 4:=by
 rw [show (8:Nat)=4+4 from rfl,vR_split,vR_same (R:=cpy R 4) (S:=R) 4 (λt ht=>if_pos ht),vR_same (R:=λt=>cpy R 4 (4+t)) (S:=λ_=>0) 4 (λt _=>if_neg (by omega)),vR_zero,Nat.zero_mul,Nat.add_zero]
def rw8 (R:Nat→Nat):Array Value:=#[.int .u64 ((R 0:Nat):Int),.int .u64 ((R 1:Nat):Int),.int .u64 ((R 2:Nat):Int),.int .u64 ((R 3:Nat):Int),.int .u64 ((R 4:Nat):Int),.int .u64 ((R 5:Nat):Int),.int .u64 ((R 6:Nat):Int),.int .u64 ((R 7:Nat):Int)]
theorem eight {k:Nat} (h:k<8):k=0∨k=1∨k=2∨k=3∨k=4∨k=5∨k=6∨k=7:=by omega
theorem rw8_at (R:Nat→Nat) {k o:Nat} (h:k<8) (ho:o=k):(rw8 R)[o]? = some (.int .u64 ((R k:Nat):Int)):=by
 subst ho
 rcases eight h with rfl | rfl | rfl | rfl | rfl | rfl | rfl | rfl <;> rfl
theorem rw8_set (R:Nat→Nat) (y:Nat) {k o:Nat} (h:k<8) (ho:o=k):(rw8 R).setIfInBounds o (.int .u64 ((y:Nat):Int))=rw8 (upd R k y):=by
 subst ho
 rcases eight h with rfl | rfl | rfl | rfl | rfl | rfl | rfl | rfl <;> rfl
theorem rw8_fit (R:Nat→Nat) {k o:Nat} (h:k<8) (ho:o=k):o<(rw8 R).size:=by
 subst ho
 exact h
def modc (M:Nat) (lw:Nat→Nat):Array Value:=((fcs M).toList++([.int .u64 ((lw 0:Nat):Int),.int .u64 ((lw 1:Nat):Int),.int .u64 ((lw 2:Nat):Int)]:List Value)).toArray
theorem modc_at (M:Nat) (lw:Nat→Nat) {j o:Nat} (h:j<3) (ho:o=4+j):(modc M lw)[o]? = some (.int .u64 ((lw j:Nat):Int)):=by
 subst ho
 have:j=0∨j=1∨j=2:=by omega
 rcases this with rfl | rfl | rfl <;> rfl
def wd (x:Nat) (t:Nat):Nat:=x / 18446744073709551616 ^ t%18446744073709551616
theorem wd_lt (x t:Nat):wd x t<18446744073709551616:=Nat.mod_lt _ (by decide)
theorem wd_all (x:Nat):∀ n,vR (wd x) n=x%18446744073709551616 ^ n
 | 0=>by rw [Nat.pow_zero,Nat.mod_one]; rfl
 | n+1=>by
  show vR (wd x) n+wd x n*_=_
  rw [wd_all x n,Nat.mod_pow_succ,Nat.mul_comm]
  rfl
theorem fcs_at (x:Nat) {k o:Nat} (h:k<4) (ho:o=k):(fcs x)[o]? = some (.int .u64 ((wd x k:Nat):Int)):=by
 subst ho
 have:o=0∨o=1∨o=2∨o=3:=by omega
 have e0:wd x 0=x%18446744073709551616:=by unfold wd; rw [Nat.pow_zero,Nat.div_one]
 have e1:wd x 1=x / 18446744073709551616%18446744073709551616:=by unfold wd; rw [Nat.pow_one]
 rcases this with rfl | rfl | rfl | rfl
 ·rw [e0]; rfl
 ·rw [e1]; rfl
 ·rfl
 ·rfl
theorem row_fv {R:Nat→Nat} (h:∀ t,R t<18446744073709551616):Value.agg #[.int .u64 ((R 0:Nat):Int),.int .u64 ((R 1:Nat):Int),.int .u64 ((R 2:Nat):Int),.int .u64 ((R 3:Nat):Int)]=fv (vR R 4):=by
 rw [fv_mk _ _ _ _ (h 0) (h 1) (h 2) (h 3)]
 congr 1
 show _=0+R 0*1+R 1*18446744073709551616+R 2*340282366920938463463374607431768211456+R 3*6277101735386680763835789423207666416102355444464034512896
 omega
theorem stepZ {hi lo x k y l e d r c:Nat} (h1:lo+18446744073709551616*hi=e*d) (h2:x+18446744073709551616*k=lo+r) (h3:y+18446744073709551616*l=x+c):y+18446744073709551616*(hi+k+l)=e*d+r+c:=by omega
theorem carryZ {hi k l y e d r c:Nat} (h:y+18446744073709551616*(hi+k+l)=e*d+r+c) (he:e<18446744073709551616) (hd:d<18446744073709551616) (hr:r<18446744073709551616) (hc:c<18446744073709551616):hi+k+l<18446744073709551616:=by
 have h2:e*d≤18446744073709551615*18446744073709551615:=Nat.mul_le_mul (by omega) (by omega)
 omega
theorem innerZ {v v' r P c c' y e d V LS Bi P0:Nat} (h1:v'+r*P=v+y*P) (h2:v+c*P=V+e*LS*Bi) (h3:y+18446744073709551616*c'=e*d+r+c) (hp:P=P0*Bi):v'+c'*(P*18446744073709551616)=V+e*(LS+d*P0)*Bi:=by
 grind
theorem carry2 {v v' r P c l x V:Nat} (h1:v'+r*P=v+x*P) (h2:v+c*P=V) (h3:x+18446744073709551616*l=r+c):v'+l*(P*18446744073709551616)=V:=by
 grind
theorem or_nat (a b:Nat) (ha:a<18446744073709551616) (hb:b<18446744073709551616):IntKind.u64.wrap ((BitVec.ofInt IntKind.u64.bits (a:Int) ||| BitVec.ofInt IntKind.u64.bits (b:Int)).toNat:Int)=((a ||| b:Nat):Int):=by
 have hl:a ||| b<18446744073709551616:=Nat.or_lt_two_pow (n:=64) ha hb
 have hw2:(BitVec.ofInt 64 (a:Int) ||| BitVec.ofInt 64 (b:Int)).toNat=a ||| b:=by
  rw [BitVec.toNat_or]
  simp only [BitVec.ofInt_natCast,BitVec.toNat_ofNat]
  rw [Nat.mod_eq_of_lt (by omega),Nat.mod_eq_of_lt (by omega)]
 show IntKind.u64.wrap ((BitVec.ofInt 64 (a:Int) ||| BitVec.ofInt 64 (b:Int)).toNat:Int)=_
 rw [hw2,wrap_u64 (by omega) (by omega)]
theorem int_or {P:Program} (t:TypeId) (k:IntKind) (a b c:Int) (h:k.wrap ((BitVec.ofInt k.bits a ||| BitVec.ofInt k.bits b).toNat:Int)=c) (w:World):(binOp .or t (.int k a) (.int k b)).run P w=.ok (.int k c) w:=by
 simp only [binOp,ne_eq,not_true_eq_false,if_false,Op.intBits,Sem.run_pure]
 rw [h]
theorem mulZ_any (w:World) (x y hi lo:Nat) (hx:x<18446744073709551616) (hy:y<18446744073709551616) (hlo:lo<18446744073709551616) (he:lo+18446744073709551616*hi=x*y) :
  Calls Tryz.prog 297 #[.int .u64 ((x:Nat):Int),.int .u64 ((y:Nat):Int)] w (Gets w (.tuple #[.int .u64 ((hi:Nat):Int),.int .u64 ((lo:Nat):Int)])) :=
 (mul64_at w x y hi lo hx hy hlo he).mono λe w' ⟨h1,h2⟩=>⟨h1,by rw [h2]; exact Below.refl _ _⟩
theorem two_words (x y:Nat):∃ hi lo:Nat,lo<18446744073709551616∧lo+18446744073709551616*hi=x*y:=⟨x*y / 18446744073709551616,x*y%18446744073709551616,Nat.mod_lt _ (by decide),Nat.mod_add_div _ _⟩
theorem outerM {x y i c:Nat} {y1 z:Nat→Nat} (h1:vR y1 8=vR (wd x) i*vR (wd y) 4) (h2:vR z 8+c*18446744073709551616 ^ (i+4)=vR y1 8+wd x i*vR (wd y) 4*18446744073709551616 ^ i) (h3:z (i+4)=0) (hi:i<4):vR (upd z (i+4) c) 8=vR (wd x) (i+1)*vR (wd y) 4:=by
 have h4:=vR_upd z (i+4) c 8 (by omega)
 rw [h3,Nat.zero_mul,Nat.add_zero] at h4
 show _=(vR (wd x) i+wd x i*_)*_
 rw [h4,h2,h1]
 grind
theorem wd4 {x:Nat} (hx:x<(2^256)):vR (wd x) 4=x:=by
 rw [wd_all]
 exact Nat.mod_eq_of_lt hx
end Fz
end
section
namespace Fz
open Go.RowKit Go.Lib Sy
theorem or_zero {y:Nat→Nat} (h:¬ (((y 4 ||| y 5) ||| y 6) ||| y 7>0)):y 4=0∧y 5=0∧y 6=0∧y 7=0:=by
 have h0:((y 4 ||| y 5) ||| y 6) ||| y 7=0:=by omega
 rw [Nat.or_eq_zero_iff,Nat.or_eq_zero_iff,Nat.or_eq_zero_iff] at h0
 exact ⟨h0.1.1.1,h0.1.1.2,h0.1.2,h0.2⟩
theorem vR_hi (y:Nat→Nat):vR (λt=>y (4+t)) 4=0+y 4*1+y 5*18446744073709551616+y 6*340282366920938463463374607431768211456+y 7*6277101735386680763835789423207666416102355444464034512896:=rfl
theorem vR_lowN {y:Nat→Nat} (n k:Nat) (hn:n=k+k) (e:vR (λt=>y (k+t)) k=0):vR y n=vR y k:=by
 subst hn
 have s:=vR_split y k k
 rw [e,Nat.zero_mul,Nat.add_zero] at s
 exact s
theorem vR_low {y:Nat→Nat} (h:y 4=0∧y 5=0∧y 6=0∧y 7=0):vR y 8=vR y 4:=vR_lowN 8 4 rfl (by
 rw [vR_hi]
 obtain ⟨h1,h2,h3,h4⟩:=h
 omega)
theorem outerZ {M:Nat} {lw y z:Nat→Nat} (_:∀ t,lw t<18446744073709551616) (hM0:0<M) (hM:M+vR lw 3=18446744073709551616 ^ 4) (_:∀ t,y t<18446744073709551616) (h:vR z 8=vR y 4+vR (λt=>y (4+t)) 4*vR lw 3) (ho:((y 4 ||| y 5) ||| y 6) ||| y 7>0):vR z 8%M=vR y 8%M∧vR z 8<vR y 8:=by
 have e:vR y 8=vR z 8+vR (λt=>y (4+t)) 4*M:=by
  rw [show (8:Nat)=4+4 from rfl,vR_split y, ← hM,show (4+4:Nat)=8 from rfl,h,Nat.mul_add]
  omega
 have hp:0<vR (λt=>y (4+t)) 4:=by
  rw [vR_hi]
  rcases Nat.eq_zero_or_pos (y 4) with h4 | h4
  ·rcases Nat.eq_zero_or_pos (y 5) with h5 | h5
   ·rcases Nat.eq_zero_or_pos (y 6) with h6 | h6
    ·rcases Nat.eq_zero_or_pos (y 7) with h7 | h7
     ·rw [h4,h5,h6,h7] at ho
      exact absurd ho (by decide)
     ·omega
    ·omega
   ·omega
  ·omega
 have hpos:0<vR (λt=>y (4+t)) 4*M:=Nat.mul_pos hp hM0
 refine ⟨?_,by omega⟩
 rw [e,Nat.add_mul_mod_self_right]
theorem endZ {lw y y3 z:Nat→Nat} {c i n:Nat} (hlw:∀ t,lw t<18446744073709551616) (hy:∀ t,y t<18446744073709551616) (h3:vR y3 8=vR y 4+vR (λt=>y (4+t)) i*vR lw 3) (hz:∀ t,z t<18446744073709551616) (h:vR z 8+c*18446744073709551616 ^ n=vR y3 8+y (4+i)*vR lw 3*18446744073709551616 ^ i) (hi:i<4) (hc:c=0∨n=8) :
  vR z 8=vR y 4+vR (λt=>y (4+t)) (i+1)*vR lw 3:=by
 have e:vR y3 8+y (4+i)*vR lw 3*18446744073709551616 ^ i=vR y 4+vR (λt=>y (4+t)) (i+1)*vR lw 3:=by
  show _=_+(vR (λt=>y (4+t)) i+y (4+i)*_)*_
  rw [h3]
  grind
 rw [e] at h
 rcases hc with rfl | rfl
 ·rw [Nat.zero_mul,Nat.add_zero] at h
  exact h
 ·have h1:=vR_lt hy 4
  have h2:=vR_lt (R:=λt=>y (4+t)) (λt=>hy _) (i+1)
  have h4:=vR_lt hlw 3
  have h5:18446744073709551616 ^ (i+1)≤18446744073709551616 ^ 4:=Nat.pow_le_pow_right (by decide) (by omega)
  have h6:vR (λt=>y (4+t)) (i+1)*vR lw 3≤18446744073709551616 ^ 4*18446744073709551616 ^ 3:=Nat.mul_le_mul (by omega) (by omega)
  have h7:(18446744073709551616 ^ 4+18446744073709551616 ^ 4*18446744073709551616 ^ 3:Nat)<18446744073709551616 ^ 8:=by decide
  rcases Nat.eq_zero_or_pos c with rfl | hp
  ·rw [Nat.zero_mul,Nat.add_zero] at h
   exact h
  ·have h8:1*18446744073709551616 ^ 8≤c*18446744073709551616 ^ 8:=Nat.mul_le_mul_right _ hp
   omega
set_option maxHeartbeats 4000000 in
set_option maxRecDepth 100000 in
theorem foldZ (w:World) (M:Nat) (lw:Nat→Nat) (hlw:∀ t,lw t<18446744073709551616) (hM0:0<M) (hM:M+vR lw 3=18446744073709551616 ^ 4) (hnorm:∀ w x,x<(2^256)→Calls Tryz.prog 273 #[.agg (modc M lw),fv x] w (Gets w (fv (x%M)))) (R:Nat→Nat) (hR:∀ t,R t<18446744073709551616):Calls Tryz.prog 317 #[.agg (modc M lw),.agg (rw8 R)] w (Gets w (fv (vR R 8%M))):=by
 obtain ⟨V,hV⟩:∃ V,V=vR R 8%M:=⟨_,rfl⟩
 obtain ⟨V0,hV0⟩:∃ V,V=vR R 8:=⟨_,rfl⟩
 rw [← hV]
 refine Sy.enter (args:=[.agg (modc M lw),.agg (rw8 R)]) Tryz.func317 rfl kL ?_
 refine sC ?_
 refine sM 397 (modc M lw) (λg0=>?_)
 refine Sy.make kR 439 (rw8 R) ptr kF (λg1=>?_)
 refine sM 373 (fcs 0) (λg2=>?_)
 refine sG<|Sy.seq<|Sy.block ?_
 refine Sy.loopX (T:=Nat→Nat) V0 (λk1 y1=>[(2,.pointer (some ⟨g0,0,none⟩)),(3,.pointer (some ⟨g1,0,none⟩)),(4,.pointer (some ⟨g2,0,none⟩))]) (λk1 y1=>[(g0,397,(modc M lw)),(g1,439,(rw8 y1)),(g2,373,(fcs 0))]) (λk1 y1=>(∀ t,y1 t<18446744073709551616)∧vR y1 8%M=V∧vR y1 8+k1≤V0) R [true,true,true] (⟨hR,hV.symm,by show vR R 8+0≤V0; omega⟩) (all_cons kR (all_cons kR (all_cons kR all_nil))) kR (λk1 y1 hk1 hh1=>?_)
 refine Sy.seq<|sC ?_
 refine sP (.pointer (some ⟨g1,4,none⟩))<|sS (.int .u64 ((y1 4:Nat):Int)) (Quiet.cell 1 g1 4 439 22 (rw8 y1) _ _ rfl kR kR Tryz.underlying22 rfl _ kR)<|sP (.pointer (some ⟨g1,5,none⟩))<|sS (.int .u64 ((y1 5:Nat):Int)) (Quiet.cell 1 g1 5 439 22 (rw8 y1) _ _ rfl kR kR Tryz.underlying22 rfl _ kR)<|sS (.int .u64 (((y1 4) ||| (y1 5):Nat):Int)) (Quiet.pure (exec_int .or _ _ _ .u64 _ _ _ rfl rfl rfl (int_or _ _ _ _ _ (or_nat _ _ (hh1.1 _) (hh1.1 _)))))<|sP (.pointer (some ⟨g1,6,none⟩))<|sS (.int .u64 ((y1 6:Nat):Int)) (Quiet.cell 1 g1 6 439 22 (rw8 y1) _ _ rfl kR kR Tryz.underlying22 rfl _ kR)<|sS (.int .u64 ((((y1 4) ||| (y1 5)) ||| (y1 6):Nat):Int)) (Quiet.pure (exec_int .or _ _ _ .u64 _ _ _ rfl rfl rfl (int_or _ _ _ _ _ (or_nat _ _ (Nat.or_lt_two_pow (n:=64) (hh1.1 _) (hh1.1 _)) (hh1.1 _))))) ?_
 refine sP (.pointer (some ⟨g1,7,none⟩))<|sS (.int .u64 ((y1 7:Nat):Int)) (Quiet.cell 1 g1 7 439 22 (rw8 y1) _ _ rfl kR kR Tryz.underlying22 rfl _ kR)<|sS (.int .u64 (((((y1 4) ||| (y1 5)) ||| (y1 6)) ||| (y1 7):Nat):Int)) (Quiet.pure (exec_int .or _ _ _ .u64 _ _ _ rfl rfl rfl (int_or _ _ _ _ _ (or_nat _ _ (Nat.or_lt_two_pow (n:=64) (Nat.or_lt_two_pow (n:=64) (hh1.1 _) (hh1.1 _)) (hh1.1 _)) (hh1.1 _))))) ?_
 obtain ⟨b1,hb1⟩:∃ z:Bool,z=decide ((((y1 4) ||| (y1 5)) ||| (y1 6)) ||| (y1 7)>0):=⟨_,rfl⟩
 refine sS (.bool b1) (Quiet.pure (exec_int .gtr _ _ _ .u64 _ _ _ rfl rfl rfl (int_gtr _ _ _ _ _ (by rw [hb1]; exact decide_eq_decide.2 (by omega))))) ?_
 refine sG ?_
 cases b1
 ·have lb1:¬ ((((y1 4) ||| (y1 5)) ||| (y1 6)) ||| (y1 7)>0):=of_decide_eq_false hb1.symm
  refine sU<|Sy.exit<|Sy.then_exit<|Sy.then_exit ?_
  have hz:=or_zero lb1
  have hlow:=vR_low hz
  refine Sy.in_exit<|sB ?_
  refine sS (.agg (modc M lw)) (qL 0 g0 0 7 397 397 (modc M lw) rfl Tryz.underlying397)<|sP (.pointer (some ⟨g1,0,none⟩))<|sS (.int .u64 ((y1 0:Nat):Int)) (Quiet.cell 1 g1 0 439 22 (rw8 y1) _ _ rfl kR kR Tryz.underlying22 rfl _ kR)<|sP (.pointer (some ⟨g1,1,none⟩))<|sS (.int .u64 ((y1 1:Nat):Int)) (Quiet.cell 1 g1 1 439 22 (rw8 y1) _ _ rfl kR kR Tryz.underlying22 rfl _ kR)<|sP (.pointer (some ⟨g1,2,none⟩))<|sS (.int .u64 ((y1 2:Nat):Int)) (Quiet.cell 1 g1 2 439 22 (rw8 y1) _ _ rfl kR kR Tryz.underlying22 rfl _ kR)<|sP (.pointer (some ⟨g1,3,none⟩)) ?_
  refine sS (.int .u64 ((y1 3:Nat):Int)) (Quiet.cell 1 g1 3 439 22 (rw8 y1) _ _ rfl kR kR Tryz.underlying22 rfl _ kR)<|sS (fv (vR y1 4)) (Quiet.pure (λw=>by rw [← row_fv hh1.1]; kernel_rfl))<|sS (fv ((vR y1 4)%M)) (qF 273 #[.agg (modc M lw),fv (vR y1 4)] (λw=>hnorm w _ (vR_lt hh1.1 4)))<|sW 2 g2 373 (fcs 0) (fcs ((vR y1 4)%M)) (wS 0 373 (fcs ((vR y1 4)%M)) rfl) ?_
  refine sG<|Sy.ret ?_
  rw [show (fv V:Value)=fv ((vR y1 4)%M) from by rw [← hh1.2.1,hlow]]
  exact rC (v:=fv ((vR y1 4)%M)) 373 g2 2 (fcs ((vR y1 4)%M)) rfl Tryz.underlying373
 ·have lb1:(((y1 4) ||| (y1 5)) ||| (y1 6)) ||| (y1 7)>0:=of_decide_eq_true hb1.symm
  refine sT<|Sy.skip<|Sy.then_<|Sy.block<|sC ?_
  refine Sy.make kR 439 (rw8 (λ_=>0)) ptr kF (λg3=>?_)
  refine sG<|Sy.seq<|sC ?_
  refine sP (.int .i64 0) ?_
  refine sG<|Sy.block ?_
  refine Sy.loopK 4 (λk2=>[(2,.pointer (some ⟨g0,0,none⟩)),(3,.pointer (some ⟨g1,0,none⟩)),(4,.pointer (some ⟨g2,0,none⟩)),(5,.pointer (some ⟨g3,0,none⟩)),(6,.int .i64 ((k2:Nat):Int))]) (λk2=>[(g0,397,(modc M lw)),(g1,439,(rw8 y1)),(g2,373,(fcs 0)),(g3,439,(rw8 (cpy y1 k2)))]) [true,true,true,true] (M:=[(g0,397,(modc M lw)),(g1,439,(rw8 y1)),(g2,373,(fcs 0)),(g3,439,(rw8 (λ_=>0)))]) (all_cons kR (all_cons kR (all_cons kR (all_cons kR (all_cons kR all_nil))))) kR (bcons rfl (bcons rfl (bcons rfl (bcons (beq kR) rfl)))) (λk2 hk2=>?_)
  refine Sy.seq<|sC ?_
  refine sP (.int .i64 ((k2:Nat):Int)) ?_
  obtain ⟨b2,hb2⟩:∃ z:Bool,z=decide (k2<4):=⟨_,rfl⟩
  refine sS (.bool b2) (Quiet.pure (exec_int .lss _ _ _ .i64 _ _ _ rfl rfl rfl (int_lss _ _ _ _ _ (by rw [hb2]; exact decide_eq_decide.2 (by omega))))) ?_
  refine sG ?_
  cases b2
  ·have lb2:¬ (k2<4):=of_decide_eq_false hb2.symm
   refine sU<|Sy.exit<|Sy.then_exit<|Sy.then_exit ?_
   obtain rfl:k2=4:=by omega
   refine Sy.in_exit<|Sy.then_<|Sy.seq<|sC ?_
   refine sP (.int .i64 0) ?_
   refine sG<|Sy.block ?_
   refine Sy.loopX (T:=Nat→Nat) 4 (λk3 y3=>[(2,.pointer (some ⟨g0,0,none⟩)),(3,.pointer (some ⟨g1,0,none⟩)),(4,.pointer (some ⟨g2,0,none⟩)),(5,.pointer (some ⟨g3,0,none⟩)),(7,.int .i64 ((k3:Nat):Int))]) (λk3 y3=>[(g0,397,(modc M lw)),(g1,439,(rw8 y1)),(g2,373,(fcs 0)),(g3,439,(rw8 y3))]) (λk3 y3=>(∀ t,y3 t<18446744073709551616)∧vR y3 8=vR y1 4+vR (λt=>y1 (4+t)) k3*vR lw 3) (cpy y1 4) [true,true,true,true] (⟨cpy_lt hh1.1 4,(vR_cpy y1).trans (by show _=_+0*_; rw [Nat.zero_mul,Nat.add_zero])⟩) (all_cons kR (all_cons kR (all_cons kR (all_cons kR (all_cons kR all_nil))))) kR (λk3 y3 hk3 hh3=>?_)
   refine Sy.seq<|sC ?_
   refine sP (.int .i64 ((k3:Nat):Int)) ?_
   obtain ⟨b3,hb3⟩:∃ z:Bool,z=decide (k3<4):=⟨_,rfl⟩
   refine sS (.bool b3) (Quiet.pure (exec_int .lss _ _ _ .i64 _ _ _ rfl rfl rfl (int_lss _ _ _ _ _ (by rw [hb3]; exact decide_eq_decide.2 (by omega))))) ?_
   refine sG ?_
   cases b3
   ·have lb3:¬ (k3<4):=of_decide_eq_false hb3.symm
    refine sU<|Sy.exit<|Sy.then_exit<|Sy.then_exit ?_
    obtain rfl:k3=4:=by omega
    refine Sy.in_exit<|Sy.then_<|Sy.region ?_
    refine sS (.agg (rw8 y3)) (Quiet.load 3 g3 0 8 439 439 (rw8 y3) _ _ rfl kR kR Tryz.underlying439 rfl kR _ kR kL) ?_
    refine Sy.write kR 1 g1 439 (rw8 y1) (rw8 y3) kR (Writes.store 0 439 (rw8 y3) _ _ rfl kR kR kR kL kR kR) ?_
    refine Sy.nil<|Sy.in_ ?_
    have hf:=outerZ hlw hM0 hM hh1.1 hh3.2 lb1
    obtain ⟨hf1,hf2⟩:=hf
    exact Sy.againX (y3) [true,true,true,false] (by have:=hh1.2.2; omega) (⟨hh3.1,hf1.trans hh1.2.1,by have:=hh1.2.2; omega⟩) (all_cons kR (all_cons kR (all_cons kR all_nil))) kR
   ·have lb3:k3<4:=of_decide_eq_true hb3.symm
    refine sT<|Sy.skip<|Sy.then_<|Sy.seq<|Sy.block<|sC ?_
    refine sP (.int .u64 0) ?_
    refine sG<|Sy.seq<|sC ?_
    refine sP (.int .i64 0) ?_
    refine sG<|Sy.block ?_
    refine Sy.loopX (T:=(Nat→Nat)×Nat) 3 (λk4 y4=>[(2,.pointer (some ⟨g0,0,none⟩)),(3,.pointer (some ⟨g1,0,none⟩)),(4,.pointer (some ⟨g2,0,none⟩)),(5,.pointer (some ⟨g3,0,none⟩)),(7,.int .i64 ((k3:Nat):Int)),(8,.int .u64 ((y4.2:Nat):Int)),(9,.int .i64 ((k4:Nat):Int))]) (λk4 y4=>[(g0,397,(modc M lw)),(g1,439,(rw8 y1)),(g2,373,(fcs 0)),(g3,439,(rw8 y4.1))]) (λk4 y4=>(∀ t,y4.1 t<18446744073709551616)∧y4.2<18446744073709551616∧vR y4.1 8+y4.2*18446744073709551616 ^ (k3+k4)=vR y3 8+y1 (4+k3)*vR lw k4*18446744073709551616 ^ k3) (y3,0) [true,true,true,true] (⟨hh3.1,by show (0:Nat)<18446744073709551616; decide,by show vR y3 8+0*_=_+_*0*_; omega⟩) (all_cons kR (all_cons kR (all_cons kR (all_cons kR (all_cons kR (all_cons kR (all_cons kR all_nil))))))) kR (λk4 y4 hk4 hh4=>?_)
    refine Sy.seq<|sC ?_
    refine sP (.int .i64 ((k4:Nat):Int)) ?_
    obtain ⟨b4,hb4⟩:∃ z:Bool,z=decide (k4<3):=⟨_,rfl⟩
    refine sS (.bool b4) (Quiet.pure (exec_int .lss _ _ _ .i64 _ _ _ rfl rfl rfl (int_lss _ _ _ _ _ (by rw [hb4]; exact decide_eq_decide.2 (by omega))))) ?_
    refine sG ?_
    cases b4
    ·have lb4:¬ (k4<3):=of_decide_eq_false hb4.symm
     refine sU<|Sy.exit<|Sy.then_exit<|Sy.then_exit ?_
     obtain rfl:k4=3:=by omega
     refine Sy.in_exit<|sB ?_
     refine sP (.int .i64 ((k3:Nat):Int))<|sS (.int .i64 ((k3+3:Nat):Int)) (Quiet.pure (exec_int .add _ _ _ .i64 _ _ _ rfl rfl rfl (int_add _ _ _ _ _ ((wrap_i64 (by omega) (by omega)).trans (by omega)))))<|sP (.int .i64 ((k3+3:Nat):Int)) ?_
     refine sG<|Sy.block ?_
     refine Sy.loopX (T:=(Nat→Nat)×Nat) (5 - k3) (λk5 y5=>[(2,.pointer (some ⟨g0,0,none⟩)),(3,.pointer (some ⟨g1,0,none⟩)),(4,.pointer (some ⟨g2,0,none⟩)),(5,.pointer (some ⟨g3,0,none⟩)),(7,.int .i64 ((k3:Nat):Int)),(8,.int .u64 ((y5.2:Nat):Int)),(16,.int .i64 ((k3+3+k5:Nat):Int))]) (λk5 y5=>[(g0,397,(modc M lw)),(g1,439,(rw8 y1)),(g2,373,(fcs 0)),(g3,439,(rw8 y5.1))]) (λk5 y5=>(∀ t,y5.1 t<18446744073709551616)∧y5.2<18446744073709551616∧vR y5.1 8+y5.2*18446744073709551616 ^ (k3+3+k5)=vR y3 8+y1 (4+k3)*vR lw 3*18446744073709551616 ^ k3) y4 [true,true,true,true] (⟨hh4.1,hh4.2.1,hh4.2.2⟩) (all_cons kR (all_cons kR (all_cons kR (all_cons kR (all_cons kR (all_cons kR (all_cons kR all_nil))))))) kR (λk5 y5 hk5 hh5=>?_)
     refine Sy.seq<|sC ?_
     refine sP (.int .i64 ((k3+3+k5:Nat):Int)) ?_
     obtain ⟨b5,hb5⟩:∃ z:Bool,z=decide (k3+3+k5<8):=⟨_,rfl⟩
     refine sS (.bool b5) (Quiet.pure (exec_int .lss _ _ _ .i64 _ _ _ rfl rfl rfl (int_lss _ _ _ _ _ (by rw [hb5]; exact decide_eq_decide.2 (by omega)))))<|sP (.bool b5) ?_
     cases b5
     ·have lb5:¬ (k3+3+k5<8):=of_decide_eq_false hb5.symm
      refine sN<|sN ?_
      refine sP (.bool false) ?_
      refine sG<|sU<|Sy.exit<|Sy.then_exit<|Sy.then_exit ?_
      have hfin:=endZ hlw hh1.1 hh3.2 hh5.1 hh5.2.2 (by omega) (by first | (left; omega) | (right; omega))
      refine Sy.in_exit<|Sy.in_<|Sy.then_<|Sy.region ?_
      refine sP (.int .i64 ((k3:Nat):Int))<|sS (.int .i64 ((k3+1:Nat):Int)) (Quiet.pure (exec_int .add _ _ _ .i64 _ _ _ rfl rfl rfl (int_add _ _ _ _ _ ((wrap_i64 (by omega) (by omega)).trans (by omega)))))<|sP (.int .i64 ((k3+1:Nat):Int)) ?_
      refine Sy.nil ?_
      have hq:=hfin
      exact Sy.againX (y5.1) [true,true,true,true] (by omega) (⟨hh5.1,hq⟩) (all_cons kR (all_cons kR (all_cons kR (all_cons kR (all_cons kR all_nil))))) kR
     ·have lb5:k3+3+k5<8:=of_decide_eq_true hb5.symm
      refine sP (.int .u64 ((y5.2:Nat):Int)) ?_
      obtain ⟨b6,hb6⟩:∃ z:Bool,z=decide (y5.2>0):=⟨_,rfl⟩
      refine sS (.bool b6) (Quiet.pure (exec_int .gtr _ _ _ .u64 _ _ _ rfl rfl rfl (int_gtr _ _ _ _ _ (by rw [hb6]; exact decide_eq_decide.2 (by omega)))))<|sP (.bool b6) ?_
      refine sG ?_
      cases b6
      ·have lb6:¬ (y5.2>0):=of_decide_eq_false hb6.symm
       refine sU<|Sy.exit<|Sy.then_exit<|Sy.then_exit ?_
       have hfin:=endZ hlw hh1.1 hh3.2 hh5.1 hh5.2.2 (by omega) (by first | (left; omega) | (right; omega))
       refine Sy.in_exit<|Sy.in_<|Sy.then_<|Sy.region ?_
       refine sP (.int .i64 ((k3:Nat):Int))<|sS (.int .i64 ((k3+1:Nat):Int)) (Quiet.pure (exec_int .add _ _ _ .i64 _ _ _ rfl rfl rfl (int_add _ _ _ _ _ ((wrap_i64 (by omega) (by omega)).trans (by omega)))))<|sP (.int .i64 ((k3+1:Nat):Int)) ?_
       refine Sy.nil ?_
       have hq:=hfin
       exact Sy.againX (y5.1) [true,true,true,true] (by omega) (⟨hh5.1,hq⟩) (all_cons kR (all_cons kR (all_cons kR (all_cons kR (all_cons kR all_nil))))) kR
      ·have lb6:y5.2>0:=of_decide_eq_true hb6.symm
       refine sT<|Sy.skip<|Sy.then_<|Sy.seq<|Sy.block<|sC ?_
       refine sP (.int .i64 ((k3+3+k5:Nat):Int))<|sS (.pointer (some ⟨g3,0+(k3+3+k5)*1,none⟩)) (Quiet.pure (exec_atA 439 _ _ _ g3 0 _ (k3+3+k5) 1 .i64 rfl rfl rfl Tryz.underlying439 kF (by omega)))<|sS (.int .u64 ((y5.1 (k3+3+k5):Nat):Int)) (Quiet.cell 3 g3 (0+(k3+3+k5)*1) 439 22 (rw8 y5.1) _ _ rfl kR kR Tryz.underlying22 rfl _ (rw8_at y5.1 (k:=k3+3+k5) (by omega) (by omega)))<|sP (.int .u64 ((y5.2:Nat):Int)) ?_
       obtain ⟨x1,c1,lx1,lc1,ex1,rx1⟩:=add0_ex (y5.1 (k3+3+k5)) (y5.2) (by first | assumption | exact hR _ | exact hlw _ | exact wd_lt _ _ | exact hh1.1 _ | exact hh3.1 _ | exact hh4.1 _ | exact hh5.1 _ | exact hh5.2.1 | exact hh4.2.1 | decide) (by first | assumption | exact hR _ | exact hlw _ | exact wd_lt _ _ | exact hh1.1 _ | exact hh3.1 _ | exact hh4.1 _ | exact hh5.1 _ | exact hh5.2.1 | exact hh4.2.1 | decide)
       refine sS (.tuple #[.int .u64 ((x1:Nat):Int),.int .u64 ((c1:Nat):Int)]) (Quiet.pure (λw=>Eq.trans kR (rx1 w)))<|sP (.tuple #[.int .u64 ((x1:Nat):Int),.int .u64 ((c1:Nat):Int)])<|sP (.int .u64 ((x1:Nat):Int))<|sP (.int .u64 ((c1:Nat):Int))<|sP (.int .u64 ((x1:Nat):Int))<|sP (.int .u64 ((c1:Nat):Int)) ?_
       refine sA ?_
       refine sP (.int .i64 ((k3+3+k5:Nat):Int))<|sP (.int .u64 ((x1:Nat):Int))<|sS (.pointer (some ⟨g3,0+(k3+3+k5)*1,none⟩)) (Quiet.pure (exec_atA 439 _ _ _ g3 0 _ (k3+3+k5) 1 .i64 rfl rfl rfl Tryz.underlying439 kF (by omega))) ?_
       refine Sy.write kR 3 g3 439 (rw8 y5.1) (rw8 (upd y5.1 (k3+3+k5) x1)) kR (Writes.one (0+(k3+3+k5)*1) 22 (.int .u64 ((x1:Nat):Int)) _ _ rfl kR kR kR rfl rfl (rw8_fit _ (k:=k3+3+k5) (by omega) (by omega)) (rw8_set _ _ (by omega) (by omega))) ?_
       refine sG<|Sy.region ?_
       refine sP (.int .u64 ((c1:Nat):Int))<|sP (.int .u64 ((c1:Nat):Int)) ?_
       refine Sy.nil<|Sy.in_<|Sy.then_<|Sy.region ?_
       refine sP (.int .i64 ((k3+3+k5:Nat):Int))<|sS (.int .i64 (((k3+3+k5)+1:Nat):Int)) (Quiet.pure (exec_int .add _ _ _ .i64 _ _ _ rfl rfl rfl (int_add _ _ _ _ _ ((wrap_i64 (by omega) (by omega)).trans (by omega)))))<|sP (.int .i64 (((k3+3+k5)+1:Nat):Int)) ?_
       refine Sy.nil ?_
       have hin:=carry2 (vR_upd y5.1 (k3+3+k5) x1 8 (by omega)) hh5.2.2 ex1
       exact Sy.againX ((upd y5.1 (k3+3+k5) x1,c1)) [true,true,true,true] (by omega) (⟨upd_lt hh5.1 lx1,by omega,by rw [← Nat.add_assoc,Nat.pow_succ]; exact hin⟩) (all_cons kR (all_cons kR (all_cons kR (all_cons kR (all_cons kR (all_cons kR (all_cons kR all_nil))))))) kR
    ·have lb4:k4<3:=of_decide_eq_true hb4.symm
     refine sT<|Sy.skip<|Sy.then_<|Sy.seq<|Sy.block<|Sy.seq ?_
     refine Sy.regionD (λj=>false) kR ?_
     refine sZ 0 rfl (.int .i64 ((k3:Nat):Int))<|sD 1 rfl (.int .i64 ((4+k3:Nat):Int)) (Quiet.pure (exec_int .add _ _ _ .i64 _ _ _ rfl rfl rfl (int_add _ _ _ _ _ ((wrap_i64 (by omega) (by omega)).trans (by omega)))))<|sD 2 rfl (.pointer (some ⟨g1,0+(4+k3)*1,none⟩)) (Quiet.pure (exec_atA 439 _ _ _ g1 0 _ (4+k3) 1 .i64 rfl rfl rfl Tryz.underlying439 kF (by omega)))<|sD 3 rfl (.int .u64 ((y1 (4+k3):Nat):Int)) (Quiet.cell 1 g1 (0+(4+k3)*1) 439 22 (rw8 y1) _ _ rfl kR kR Tryz.underlying22 rfl _ (rw8_at y1 (k:=4+k3) (by omega) (by omega)))<|sZ 4 rfl (.int .i64 ((k4:Nat):Int))<|sZ 5 rfl (.pointer (some ⟨g0,4,none⟩))<|sD 6 rfl (.pointer (some ⟨g0,4+k4*1,none⟩)) (Quiet.pure (exec_atA 395 _ _ _ g0 4 _ k4 1 .i64 rfl rfl rfl Tryz.underlying395 kF (by omega)))<|sD 7 rfl (.int .u64 ((lw k4:Nat):Int)) (Quiet.cell 0 g0 (4+k4*1) 397 22 (modc M lw) _ _ rfl kR kR Tryz.underlying22 rfl _ (modc_at M lw (j:=k4) (by omega) (by omega))) ?_
     obtain ⟨hi1,lo1,llo1,elo1⟩:=two_words (y1 (4+k3)) (lw k4)
     refine sD 8 rfl (.tuple #[.int .u64 ((hi1:Nat):Int),.int .u64 ((lo1:Nat):Int)]) (qF 297 #[.int .u64 ((y1 (4+k3):Nat):Int),.int .u64 ((lw k4:Nat):Int)] (λw=>mulZ_any w (y1 (4+k3)) (lw k4) hi1 lo1 (by first | assumption | exact hR _ | exact hlw _ | exact wd_lt _ _ | exact hh1.1 _ | exact hh3.1 _ | exact hh4.1 _ | exact hh5.1 _ | exact hh5.2.1 | exact hh4.2.1 | decide) (by first | assumption | exact hR _ | exact hlw _ | exact wd_lt _ _ | exact hh1.1 _ | exact hh3.1 _ | exact hh4.1 _ | exact hh5.1 _ | exact hh5.2.1 | exact hh4.2.1 | decide) llo1 elo1))<|sZ 9 rfl (.tuple #[.int .u64 ((hi1:Nat):Int),.int .u64 ((lo1:Nat):Int)])<|sZ 10 rfl (.int .u64 ((hi1:Nat):Int))<|sZ 11 rfl (.int .u64 ((lo1:Nat):Int))<|sZ 12 rfl (.int .u64 ((hi1:Nat):Int))<|sZ 13 rfl (.int .u64 ((lo1:Nat):Int)) ?_
     refine sE ?_
     refine sB ?_
     refine sP (.int .u64 ((lo1:Nat):Int))<|sP (.int .i64 ((k3:Nat):Int))<|sP (.int .i64 ((k4:Nat):Int))<|sS (.int .i64 ((k3+k4:Nat):Int)) (Quiet.pure (exec_int .add _ _ _ .i64 _ _ _ rfl rfl rfl (int_add _ _ _ _ _ ((wrap_i64 (by omega) (by omega)).trans (by omega)))))<|sS (.pointer (some ⟨g3,0+(k3+k4)*1,none⟩)) (Quiet.pure (exec_atA 439 _ _ _ g3 0 _ (k3+k4) 1 .i64 rfl rfl rfl Tryz.underlying439 kF (by omega)))<|sS (.int .u64 ((y4.1 (k3+k4):Nat):Int)) (Quiet.cell 3 g3 (0+(k3+k4)*1) 439 22 (rw8 y4.1) _ _ rfl kR kR Tryz.underlying22 rfl _ (rw8_at y4.1 (k:=k3+k4) (by omega) (by omega))) ?_
     obtain ⟨x2,c2,lx2,lc2,ex2,rx2⟩:=add0_ex (lo1) (y4.1 (k3+k4)) (by first | assumption | exact hR _ | exact hlw _ | exact wd_lt _ _ | exact hh1.1 _ | exact hh3.1 _ | exact hh4.1 _ | exact hh5.1 _ | exact hh5.2.1 | exact hh4.2.1 | decide) (by first | assumption | exact hR _ | exact hlw _ | exact wd_lt _ _ | exact hh1.1 _ | exact hh3.1 _ | exact hh4.1 _ | exact hh5.1 _ | exact hh5.2.1 | exact hh4.2.1 | decide)
     refine sS (.tuple #[.int .u64 ((x2:Nat):Int),.int .u64 ((c2:Nat):Int)]) (Quiet.pure (λw=>Eq.trans kR (rx2 w)))<|sP (.tuple #[.int .u64 ((x2:Nat):Int),.int .u64 ((c2:Nat):Int)])<|sP (.int .u64 ((x2:Nat):Int))<|sP (.int .u64 ((c2:Nat):Int))<|sP (.int .u64 ((x2:Nat):Int))<|sP (.int .u64 ((c2:Nat):Int)) ?_
     refine sA ?_
     refine sP (.int .u64 ((x2:Nat):Int))<|sP (.int .u64 ((y4.2:Nat):Int)) ?_
     obtain ⟨x3,c3,lx3,lc3,ex3,rx3⟩:=add0_ex (x2) (y4.2) (by first | assumption | exact hR _ | exact hlw _ | exact wd_lt _ _ | exact hh1.1 _ | exact hh3.1 _ | exact hh4.1 _ | exact hh5.1 _ | exact hh5.2.1 | exact hh4.2.1 | decide) (by first | assumption | exact hR _ | exact hlw _ | exact wd_lt _ _ | exact hh1.1 _ | exact hh3.1 _ | exact hh4.1 _ | exact hh5.1 _ | exact hh5.2.1 | exact hh4.2.1 | decide)
     refine sS (.tuple #[.int .u64 ((x3:Nat):Int),.int .u64 ((c3:Nat):Int)]) (Quiet.pure (λw=>Eq.trans kR (rx3 w)))<|sP (.tuple #[.int .u64 ((x3:Nat):Int),.int .u64 ((c3:Nat):Int)])<|sP (.int .u64 ((x3:Nat):Int))<|sP (.int .u64 ((c3:Nat):Int))<|sP (.int .u64 ((x3:Nat):Int))<|sP (.int .u64 ((c3:Nat):Int)) ?_
     refine sA ?_
     refine sP (.int .i64 ((k3:Nat):Int))<|sP (.int .i64 ((k4:Nat):Int))<|sS (.int .i64 ((k3+k4:Nat):Int)) (Quiet.pure (exec_int .add _ _ _ .i64 _ _ _ rfl rfl rfl (int_add _ _ _ _ _ ((wrap_i64 (by omega) (by omega)).trans (by omega)))))<|sP (.int .u64 ((x3:Nat):Int))<|sS (.pointer (some ⟨g3,0+(k3+k4)*1,none⟩)) (Quiet.pure (exec_atA 439 _ _ _ g3 0 _ (k3+k4) 1 .i64 rfl rfl rfl Tryz.underlying439 kF (by omega))) ?_
     refine Sy.write kR 3 g3 439 (rw8 y4.1) (rw8 (upd y4.1 (k3+k4) x3)) kR (Writes.one (0+(k3+k4)*1) 22 (.int .u64 ((x3:Nat):Int)) _ _ rfl kR kR kR rfl rfl (rw8_fit _ (k:=k3+k4) (by omega) (by omega)) (rw8_set _ _ (by omega) (by omega))) ?_
     refine sG<|Sy.region ?_
     refine sP (.int .u64 ((hi1:Nat):Int))<|sP (.int .u64 ((c2:Nat):Int)) ?_
     have hst:=stepZ elo1 ex2 ex3
     have hcar:=carryZ hst (by first | assumption | exact hR _ | exact hlw _ | exact wd_lt _ _ | exact hh1.1 _ | exact hh3.1 _ | exact hh4.1 _ | exact hh5.1 _ | exact hh5.2.1 | exact hh4.2.1 | decide) (by first | assumption | exact hR _ | exact hlw _ | exact wd_lt _ _ | exact hh1.1 _ | exact hh3.1 _ | exact hh4.1 _ | exact hh5.1 _ | exact hh5.2.1 | exact hh4.2.1 | decide) (by first | assumption | exact hR _ | exact hlw _ | exact wd_lt _ _ | exact hh1.1 _ | exact hh3.1 _ | exact hh4.1 _ | exact hh5.1 _ | exact hh5.2.1 | exact hh4.2.1 | decide) hh4.2.1
     refine sS (.int .u64 ((hi1+c2:Nat):Int)) (Quiet.pure (exec_int .add _ _ _ .u64 _ _ _ rfl rfl rfl (int_add _ _ _ _ _ ((wrap_u64 (by omega) (by omega)).trans (by omega)))))<|sP (.int .u64 ((c3:Nat):Int))<|sS (.int .u64 (((hi1+c2)+c3:Nat):Int)) (Quiet.pure (exec_int .add _ _ _ .u64 _ _ _ rfl rfl rfl (int_add _ _ _ _ _ ((wrap_u64 (by omega) (by omega)).trans (by omega)))))<|sP (.int .u64 (((hi1+c2)+c3:Nat):Int)) ?_
     refine Sy.nil<|Sy.in_<|Sy.then_<|Sy.region ?_
     refine sP (.int .i64 ((k4:Nat):Int))<|sS (.int .i64 ((k4+1:Nat):Int)) (Quiet.pure (exec_int .add _ _ _ .i64 _ _ _ rfl rfl rfl (int_add _ _ _ _ _ ((wrap_i64 (by omega) (by omega)).trans (by omega)))))<|sP (.int .i64 ((k4+1:Nat):Int)) ?_
     refine Sy.nil ?_
     have hin:=innerZ (vR_upd y4.1 (k3+k4) x3 8 (by omega)) hh4.2.2 hst (P0:=18446744073709551616 ^ k4) (by rw [Nat.add_comm,Nat.pow_add])
     exact Sy.againX ((upd y4.1 (k3+k4) x3,hi1+c2+c3)) [true,true,true,true] (by omega) (⟨upd_lt hh4.1 lx3,hcar,by rw [← Nat.add_assoc,Nat.pow_succ]; exact hin⟩) (all_cons kR (all_cons kR (all_cons kR (all_cons kR (all_cons kR (all_cons kR (all_cons kR all_nil))))))) kR
  ·have lb2:k2<4:=of_decide_eq_true hb2.symm
   refine sT<|Sy.skip<|Sy.then_<|Sy.seq<|Sy.block<|Sy.region ?_
   refine sP (.int .i64 ((k2:Nat):Int))<|sP (.int .i64 ((k2:Nat):Int))<|sS (.pointer (some ⟨g1,0+k2*1,none⟩)) (Quiet.pure (exec_atA 439 _ _ _ g1 0 _ k2 1 .i64 rfl rfl rfl Tryz.underlying439 kF (by omega)))<|sS (.int .u64 ((y1 k2:Nat):Int)) (Quiet.cell 1 g1 (0+k2*1) 439 22 (rw8 y1) _ _ rfl kR kR Tryz.underlying22 rfl _ (rw8_at y1 (k:=k2) (by omega) (by omega)))<|sS (.pointer (some ⟨g3,0+k2*1,none⟩)) (Quiet.pure (exec_atA 439 _ _ _ g3 0 _ k2 1 .i64 rfl rfl rfl Tryz.underlying439 kF (by omega))) ?_
   refine Sy.write kR 3 g3 439 (rw8 (cpy y1 k2)) (rw8 (upd (cpy y1 k2) k2 (y1 k2))) kR (Writes.one (0+k2*1) 22 (.int .u64 ((y1 k2:Nat):Int)) _ _ rfl kR kR kR rfl rfl (rw8_fit _ (k:=k2) (by omega) (by omega)) (rw8_set _ _ (by omega) (by omega))) ?_
   refine Sy.nil<|Sy.in_<|Sy.then_<|Sy.region ?_
   refine sP (.int .i64 ((k2:Nat):Int))<|sS (.int .i64 ((k2+1:Nat):Int)) (Quiet.pure (exec_int .add _ _ _ .i64 _ _ _ rfl rfl rfl (int_add _ _ _ _ _ ((wrap_i64 (by omega) (by omega)).trans (by omega)))))<|sP (.int .i64 ((k2+1:Nat):Int)) ?_
   refine Sy.nil ?_
   exact Sy.againK [true,true,true,true] (M:=[(g0,397,(modc M lw)),(g1,439,(rw8 y1)),(g2,373,(fcs 0)),(g3,439,(rw8 (upd (cpy y1 k2) k2 (y1 k2))))]) (by omega) (all_cons kR (all_cons kR (all_cons kR (all_cons kR (all_cons kR all_nil))))) kR (bcons rfl (bcons rfl (bcons rfl (bcons (beq (congrArg rw8 (cpy_succ _ _))) rfl))))
end Fz
end
section
section
open Go.RowKit Go.Lib
def val8 (a b c d e f g h:Nat):Nat:=a+18446744073709551616*b+340282366920938463463374607431768211456*c+6277101735386680763835789423207666416102355444464034512896*d+(2^256)*e+2135987035920910082395021706169552114602704522356652769947041607822219725780640550022962086936576*f+39402006196394479212279040100143613805079739270465446667948293404245721771497210611414266254884915640806627990306816*g+726838724295606890549323807888004534353641360687318060281490199180639288113397923326191050713763565560762521606266177933534601628614656*h
def r8 (a b c d e f g h:Nat):Nat→Nat
 | 0=>a
 | 1=>b
 | 2=>c
 | 3=>d
 | 4=>e
 | 5=>f
 | 6=>g
 | 7=>h
 | _=>0
theorem r8_val (a b c d e f g h:Nat):Fz.vR (r8 a b c d e f g h) 8=val8 a b c d e f g h:=by
 show 0+a*1+b*18446744073709551616+c*340282366920938463463374607431768211456+d*6277101735386680763835789423207666416102355444464034512896+e*(2^256)+f*2135987035920910082395021706169552114602704522356652769947041607822219725780640550022962086936576+g*39402006196394479212279040100143613805079739270465446667948293404245721771497210611414266254884915640806627990306816+h*726838724295606890549323807888004534353641360687318060281490199180639288113397923326191050713763565560762521606266177933534601628614656=val8 a b c d e f g h
 unfold val8
 omega
def lackW:Nat→Nat
 | 0=>4294968273
 | 1=>0
 | 2=>0
 | _=>0
theorem lackW_lt:∀ t,lackW t<18446744073709551616
 | 0=>by decide
 | 1=>by decide
 | 2=>by decide
 | _+3=>by show 0<_; decide
theorem mod_row:Fz.modc pM lackW=#[.int .u64 18446744069414583343,.int .u64 18446744073709551615,.int .u64 18446744073709551615,.int .u64 18446744073709551615,.int .u64 4294968273,.int .u64 0,.int .u64 0]:=by kernel_rfl
theorem lack_sum:pM+Fz.vR lackW 3=18446744073709551616 ^ 4:=by decide +kernel
theorem pM_pos0:0<pM:=by decide +kernel
theorem fold_any (w:World) (d0 d1 d2 d3 d4 d5 d6 d7:Nat) (hd:d0<18446744073709551616∧d1<18446744073709551616∧d2<18446744073709551616∧d3<18446744073709551616∧d4<18446744073709551616∧d5<18446744073709551616∧d6<18446744073709551616∧d7<18446744073709551616):Calls Tryz.prog 317 #[.agg #[.int .u64 18446744069414583343,.int .u64 18446744073709551615,.int .u64 18446744073709551615,.int .u64 18446744073709551615,.int .u64 4294968273,.int .u64 0,.int .u64 0],.agg #[.int .u64 (d0:Int),.int .u64 (d1:Int),.int .u64 (d2:Int),.int .u64 (d3:Int),.int .u64 (d4:Int),.int .u64 (d5:Int),.int .u64 (d6:Int),.int .u64 (d7:Int)]] w λe w'=>e=.returned (fv (val8 d0 d1 d2 d3 d4 d5 d6 d7%pM))∧Below w.heap.size w w':=by
 have h:=Fz.foldZ w pM lackW lackW_lt pM_pos0 lack_sum (λw x hx=>by rw [mod_row]; exact normR_any w x hx) (r8 d0 d1 d2 d3 d4 d5 d6 d7) (λt=>by
  obtain ⟨h0,h1,h2,h3,h4,h5,h6,h7⟩:=hd
  rcases t with _ | _ | _ | _ | _ | _ | _ | _ | t <;> first | assumption | exact Nat.zero_lt_succ _)
 rw [r8_val,mod_row] at h
 exact h
end
end
section
section
open Go.RowKit Go.Lib
theorem below_alloc4 (w:World) (a b c d:Obj):Below w.heap.size w ((((w.alloc a).alloc b).alloc c).alloc d):=(below_alloc3 w a b c).alloc (by simp <;> omega) _
theorem below_alloc5 (w:World) (a b c d e:Obj):Below w.heap.size w (((((w.alloc a).alloc b).alloc c).alloc d).alloc e):=(below_alloc4 w a b c d).alloc (by simp <;> omega) _
theorem blk_new5 (w:World) (a b c d:Obj) (t:TypeId) (cs:Array Value):Blk (((((w.alloc a).alloc b).alloc c).alloc d).alloc (.cells cs t)) (w.heap.size+4) t cs:=by
 have h:=Blk.new ((((w.alloc a).alloc b).alloc c).alloc d) t cs
 have e:((((w.alloc a).alloc b).alloc c).alloc d).heap.size=w.heap.size+4:=by simp
 rwa [e] at h
section
variable {P:Program} {ops:Array Oper}
end
set_option maxHeartbeats 8000000 in
set_option maxRecDepth 100000 in
theorem addR_any (w:World) (x y:Nat) (hx:x<(2^256)) (hy:y<(2^256)):Calls Tryz.prog 318 #[.agg #[.int .u64 18446744069414583343,.int .u64 18446744073709551615,.int .u64 18446744073709551615,.int .u64 18446744073709551615,.int .u64 4294968273,.int .u64 0,.int .u64 0],fv x,fv y] w λe w'=>e=.returned (fv (addP x y))∧Below w.heap.size w w':=by
 obtain ⟨x0,x1,x2,x3,a0,a1,a2,a3,ex,fx⟩:=words_of x hx
 obtain ⟨y0,y1,y2,y3,b0,b1,b2,b3,ey,fy⟩:=words_of y hy
 obtain ⟨s0,c0,d0,k0,e0,r0⟩:=add0_ex x0 y0 a0 b0
 obtain ⟨s1,c1,d1,k1,e1,r1⟩:=addc_ex x1 y1 c0 a1 b1 k0
 obtain ⟨s2,c2,d2,k2,e2,r2⟩:=addc_ex x2 y2 c1 a2 b2 k1
 obtain ⟨s3,c3,d3,k3,e3,r3⟩:=addc_ex x3 y3 c2 a3 b3 k2
 have fin:val8 s0 s1 s2 s3 c3 0 0 0=x+y:=by simp only [val8]; omega
 obtain ⟨z,hz⟩:∃ z,z=addP x y:=⟨_,rfl⟩
 have cF:∀ w,Calls Tryz.prog 317 #[.agg #[.int .u64 18446744069414583343,.int .u64 18446744073709551615,.int .u64 18446744073709551615,.int .u64 18446744073709551615,.int .u64 4294968273,.int .u64 0,.int .u64 0],.agg #[.int .u64 (s0:Int),.int .u64 (s1:Int),.int .u64 (s2:Int),.int .u64 (s3:Int),.int .u64 (c3:Int),.int .u64 0,.int .u64 0,.int .u64 0]] w λe w'=>e=.returned (fv z)∧Below w.heap.size w w':=by
  intro w
  have h:=fold_any w s0 s1 s2 s3 c3 0 0 0 ⟨d0,d1,d2,d3,by omega,by omega,by omega,by omega⟩
  rw [fin] at h
  rw [hz]
  exact h
 rw [fx,fy, ← hz]
 clear fx fy ex ey hx hy hz a0 a1 a2 a3 b0 b1 b2 b3 d0 d1 d2 d3 k0 k1 k2 k3 e0 e1 e2 e3 fin
 go_enter Tryz.func318,Tryz.ntmps318
 go_wp2_with fail
 go_loopw [8,9] (λbo i wr=>Below w.heap.size w wr∧Blk wr w.heap.size 397 #[.int .u64 18446744069414583343,.int .u64 18446744073709551615,.int .u64 18446744073709551615,.int .u64 18446744073709551615,.int .u64 4294968273,.int .u64 0,.int .u64 0]∧Blk wr (w.heap.size+1) 373 #[.int .u64 (x0:Int),.int .u64 (x1:Int),.int .u64 (x2:Int),.int .u64 (x3:Int)]∧Blk wr (w.heap.size+2) 373 #[.int .u64 (y0:Int),.int .u64 (y1:Int),.int .u64 (y2:Int),.int .u64 (y3:Int)]∧Blk wr (w.heap.size+3) 373 #[.int .u64 0,.int .u64 0,.int .u64 0,.int .u64 0]∧Hid ((i=.int .i64 0∧bo=.int .u64 0∧Blk wr (w.heap.size+4) 439 #[.int .u64 0,.int .u64 0,.int .u64 0,.int .u64 0,.int .u64 0,.int .u64 0,.int .u64 0,.int .u64 0])∨(i=.int .i64 1∧bo=.int .u64 (c0:Int)∧Blk wr (w.heap.size+4) 439 #[.int .u64 (s0:Int),.int .u64 0,.int .u64 0,.int .u64 0,.int .u64 0,.int .u64 0,.int .u64 0,.int .u64 0])∨(i=.int .i64 2∧bo=.int .u64 (c1:Int)∧Blk wr (w.heap.size+4) 439 #[.int .u64 (s0:Int),.int .u64 (s1:Int),.int .u64 0,.int .u64 0,.int .u64 0,.int .u64 0,.int .u64 0,.int .u64 0])∨(i=.int .i64 3∧bo=.int .u64 (c2:Int)∧Blk wr (w.heap.size+4) 439 #[.int .u64 (s0:Int),.int .u64 (s1:Int),.int .u64 (s2:Int),.int .u64 0,.int .u64 0,.int .u64 0,.int .u64 0,.int .u64 0])∨(i=.int .i64 4∧bo=.int .u64 (c3:Int)∧Blk wr (w.heap.size+4) 439 #[.int .u64 (s0:Int),.int .u64 (s1:Int),.int .u64 (s2:Int),.int .u64 (s3:Int),.int .u64 0,.int .u64 0,.int .u64 0,.int .u64 0]))) (λ_ i _=>4 - (RowKit.intOf i).toNat)
 case atStart=>exact ⟨below_alloc5 w _ _ _ _ _,(((((Blk.new w _ _).alloc _).alloc _).alloc _).alloc _),((((blk_new2 w _ _ _).alloc _).alloc _).alloc _),(((blk_new3 w _ _ _ _).alloc _).alloc _),((blk_new4 w _ _ _ _ _).alloc _),Lib.hid (.inl ⟨rfl,rfl,blk_new5 w _ _ _ _ _ _⟩)⟩
 case round =>
  obtain ⟨hb,BM,BX,BY,BR,HI⟩:=hrel
  have lX:=BX.lt
  have lY:=BY.lt
  have lR:=BR.lt
  rcases HI.out with ⟨rfl,rfl,BW⟩ | ⟨rfl,rfl,BW⟩ | ⟨rfl,rfl,BW⟩ | ⟨rfl,rfl,BW⟩ | ⟨rfl,rfl,BW⟩
  ·clear HI
   have px:wr.cell? ⟨w.heap.size+1,0,none⟩=some (.int .u64 (x0:Int)):=BX.cell 0
   have py:wr.cell? ⟨w.heap.size+2,0,none⟩=some (.int .u64 (y0:Int)):=BY.cell 0
   go_wp2
   refine wp_region_G (λ_=>false) (by kernel_rfl) ?_
   try simp only [Act.put]
   refine tk 0 rfl ?_
   try simp only [Act.put,aA,aZ,aS]
   refine tk 1 rfl ?_
   try simp only [Act.put,aA,aZ,aS]
   refine tkw 2 rfl (YieldsG.pure (v:=.int .u64 (x0:Int)) (by rfl) (λw9 h9=>by have hz:=(Below.cell (p:=⟨w.heap.size+1,0,none⟩) h9 lX).trans px; go_simp; first | done | simp [hz])) ?_
   try simp only [Act.put,aA,aZ,aS]
   refine tk 3 rfl ?_
   try simp only [Act.put,aA,aZ,aS]
   refine tk 4 rfl ?_
   try simp only [Act.put,aA,aZ,aS]
   refine tkw 5 rfl (YieldsG.pure (v:=.int .u64 (y0:Int)) (by rfl) (λw9 h9=>by have hz:=(Below.cell (p:=⟨w.heap.size+2,0,none⟩) h9 lY).trans py; go_simp; first | done | simp [hz])) ?_
   try simp only [Act.put,aA,aZ,aS]
   refine tk 6 rfl ?_
   try simp only [Act.put,aA,aZ,aS]
   refine tkw 7 rfl (YieldsG.pure (v:=.tuple #[.int .u64 (s0:Int),.int .u64 (c0:Int)]) (by rfl) (λw9 h9=>by go_simp)) ?_
   try simp only [Act.put,aA,aZ,aS]
   refine tk 8 rfl ?_
   try simp only [Act.put,aA,aZ,aS]
   refine tk 9 rfl ?_
   try simp only [Act.put,aA,aZ,aS]
   refine tk 10 rfl ?_
   try simp only [Act.put,aA,aZ,aS]
   refine tk 11 rfl ?_
   try simp only [Act.put,aA,aZ,aS]
   refine tk 12 rfl ?_
   try simp only [Act.put,aA,aZ,aS]
   refine wpAnyG_done (by kernel_rfl) (λu hu=>?_)
   have BM:=Gr.blk hu BM
   have BX:=Gr.blk hu BX
   have BY:=Gr.blk hu BY
   have BR:=Gr.blk hu BR
   have BW:=Gr.blk hu BW
   have hb:=Below.gr hb hu
   have pc:u.cell? ⟨w.heap.size+4,0,none⟩=some (.int .u64 0):=BW.cell 0
   have pf:=BW.frozen 0
   clear hu px py
   go_wp2
   refine ⟨⟨hb.setCell (by show w.heap.size≤w.heap.size+4; omega) _,BM.far (by show w.heap.size≠w.heap.size+4; omega) _,BX.far (by show w.heap.size+1≠w.heap.size+4; omega) _,BY.far (by show w.heap.size+2≠w.heap.size+4; omega) _,BR.far (by show w.heap.size+3≠w.heap.size+4; omega) _,Lib.hid (.inr (.inl (⟨rfl,rfl,BW.set_ 0 _⟩)))⟩,by decide⟩
  ·clear HI
   have px:wr.cell? ⟨w.heap.size+1,1,none⟩=some (.int .u64 (x1:Int)):=BX.cell 1
   have py:wr.cell? ⟨w.heap.size+2,1,none⟩=some (.int .u64 (y1:Int)):=BY.cell 1
   go_wp2
   refine wp_region_G (λ_=>false) (by kernel_rfl) ?_
   try simp only [Act.put]
   refine tk 0 rfl ?_
   try simp only [Act.put,aA,aZ,aS]
   refine tk 1 rfl ?_
   try simp only [Act.put,aA,aZ,aS]
   refine tkw 2 rfl (YieldsG.pure (v:=.int .u64 (x1:Int)) (by rfl) (λw9 h9=>by have hz:=(Below.cell (p:=⟨w.heap.size+1,1,none⟩) h9 lX).trans px; go_simp; first | done | simp [hz])) ?_
   try simp only [Act.put,aA,aZ,aS]
   refine tk 3 rfl ?_
   try simp only [Act.put,aA,aZ,aS]
   refine tk 4 rfl ?_
   try simp only [Act.put,aA,aZ,aS]
   refine tkw 5 rfl (YieldsG.pure (v:=.int .u64 (y1:Int)) (by rfl) (λw9 h9=>by have hz:=(Below.cell (p:=⟨w.heap.size+2,1,none⟩) h9 lY).trans py; go_simp; first | done | simp [hz])) ?_
   try simp only [Act.put,aA,aZ,aS]
   refine tk 6 rfl ?_
   try simp only [Act.put,aA,aZ,aS]
   refine tkw 7 rfl (YieldsG.pure (v:=.tuple #[.int .u64 (s1:Int),.int .u64 (c1:Int)]) (by rfl) (λw9 h9=>by go_simp)) ?_
   try simp only [Act.put,aA,aZ,aS]
   refine tk 8 rfl ?_
   try simp only [Act.put,aA,aZ,aS]
   refine tk 9 rfl ?_
   try simp only [Act.put,aA,aZ,aS]
   refine tk 10 rfl ?_
   try simp only [Act.put,aA,aZ,aS]
   refine tk 11 rfl ?_
   try simp only [Act.put,aA,aZ,aS]
   refine tk 12 rfl ?_
   try simp only [Act.put,aA,aZ,aS]
   refine wpAnyG_done (by kernel_rfl) (λu hu=>?_)
   have BM:=Gr.blk hu BM
   have BX:=Gr.blk hu BX
   have BY:=Gr.blk hu BY
   have BR:=Gr.blk hu BR
   have BW:=Gr.blk hu BW
   have hb:=Below.gr hb hu
   have pc:u.cell? ⟨w.heap.size+4,1,none⟩=some (.int .u64 0):=BW.cell 1
   have pf:=BW.frozen 1
   clear hu px py
   go_wp2
   refine ⟨⟨hb.setCell (by show w.heap.size≤w.heap.size+4; omega) _,BM.far (by show w.heap.size≠w.heap.size+4; omega) _,BX.far (by show w.heap.size+1≠w.heap.size+4; omega) _,BY.far (by show w.heap.size+2≠w.heap.size+4; omega) _,BR.far (by show w.heap.size+3≠w.heap.size+4; omega) _,Lib.hid (.inr (.inr (.inl (⟨rfl,rfl,BW.set_ 1 _⟩))))⟩,by decide⟩
  ·clear HI
   have px:wr.cell? ⟨w.heap.size+1,2,none⟩=some (.int .u64 (x2:Int)):=BX.cell 2
   have py:wr.cell? ⟨w.heap.size+2,2,none⟩=some (.int .u64 (y2:Int)):=BY.cell 2
   go_wp2
   refine wp_region_G (λ_=>false) (by kernel_rfl) ?_
   try simp only [Act.put]
   refine tk 0 rfl ?_
   try simp only [Act.put,aA,aZ,aS]
   refine tk 1 rfl ?_
   try simp only [Act.put,aA,aZ,aS]
   refine tkw 2 rfl (YieldsG.pure (v:=.int .u64 (x2:Int)) (by rfl) (λw9 h9=>by have hz:=(Below.cell (p:=⟨w.heap.size+1,2,none⟩) h9 lX).trans px; go_simp; first | done | simp [hz])) ?_
   try simp only [Act.put,aA,aZ,aS]
   refine tk 3 rfl ?_
   try simp only [Act.put,aA,aZ,aS]
   refine tk 4 rfl ?_
   try simp only [Act.put,aA,aZ,aS]
   refine tkw 5 rfl (YieldsG.pure (v:=.int .u64 (y2:Int)) (by rfl) (λw9 h9=>by have hz:=(Below.cell (p:=⟨w.heap.size+2,2,none⟩) h9 lY).trans py; go_simp; first | done | simp [hz])) ?_
   try simp only [Act.put,aA,aZ,aS]
   refine tk 6 rfl ?_
   try simp only [Act.put,aA,aZ,aS]
   refine tkw 7 rfl (YieldsG.pure (v:=.tuple #[.int .u64 (s2:Int),.int .u64 (c2:Int)]) (by rfl) (λw9 h9=>by go_simp)) ?_
   try simp only [Act.put,aA,aZ,aS]
   refine tk 8 rfl ?_
   try simp only [Act.put,aA,aZ,aS]
   refine tk 9 rfl ?_
   try simp only [Act.put,aA,aZ,aS]
   refine tk 10 rfl ?_
   try simp only [Act.put,aA,aZ,aS]
   refine tk 11 rfl ?_
   try simp only [Act.put,aA,aZ,aS]
   refine tk 12 rfl ?_
   try simp only [Act.put,aA,aZ,aS]
   refine wpAnyG_done (by kernel_rfl) (λu hu=>?_)
   have BM:=Gr.blk hu BM
   have BX:=Gr.blk hu BX
   have BY:=Gr.blk hu BY
   have BR:=Gr.blk hu BR
   have BW:=Gr.blk hu BW
   have hb:=Below.gr hb hu
   have pc:u.cell? ⟨w.heap.size+4,2,none⟩=some (.int .u64 0):=BW.cell 2
   have pf:=BW.frozen 2
   clear hu px py
   go_wp2
   refine ⟨⟨hb.setCell (by show w.heap.size≤w.heap.size+4; omega) _,BM.far (by show w.heap.size≠w.heap.size+4; omega) _,BX.far (by show w.heap.size+1≠w.heap.size+4; omega) _,BY.far (by show w.heap.size+2≠w.heap.size+4; omega) _,BR.far (by show w.heap.size+3≠w.heap.size+4; omega) _,Lib.hid (.inr (.inr (.inr (.inl (⟨rfl,rfl,BW.set_ 2 _⟩)))))⟩,by decide⟩
  ·clear HI
   have px:wr.cell? ⟨w.heap.size+1,3,none⟩=some (.int .u64 (x3:Int)):=BX.cell 3
   have py:wr.cell? ⟨w.heap.size+2,3,none⟩=some (.int .u64 (y3:Int)):=BY.cell 3
   go_wp2
   refine wp_region_G (λ_=>false) (by kernel_rfl) ?_
   try simp only [Act.put]
   refine tk 0 rfl ?_
   try simp only [Act.put,aA,aZ,aS]
   refine tk 1 rfl ?_
   try simp only [Act.put,aA,aZ,aS]
   refine tkw 2 rfl (YieldsG.pure (v:=.int .u64 (x3:Int)) (by rfl) (λw9 h9=>by have hz:=(Below.cell (p:=⟨w.heap.size+1,3,none⟩) h9 lX).trans px; go_simp; first | done | simp [hz])) ?_
   try simp only [Act.put,aA,aZ,aS]
   refine tk 3 rfl ?_
   try simp only [Act.put,aA,aZ,aS]
   refine tk 4 rfl ?_
   try simp only [Act.put,aA,aZ,aS]
   refine tkw 5 rfl (YieldsG.pure (v:=.int .u64 (y3:Int)) (by rfl) (λw9 h9=>by have hz:=(Below.cell (p:=⟨w.heap.size+2,3,none⟩) h9 lY).trans py; go_simp; first | done | simp [hz])) ?_
   try simp only [Act.put,aA,aZ,aS]
   refine tk 6 rfl ?_
   try simp only [Act.put,aA,aZ,aS]
   refine tkw 7 rfl (YieldsG.pure (v:=.tuple #[.int .u64 (s3:Int),.int .u64 (c3:Int)]) (by rfl) (λw9 h9=>by go_simp)) ?_
   try simp only [Act.put,aA,aZ,aS]
   refine tk 8 rfl ?_
   try simp only [Act.put,aA,aZ,aS]
   refine tk 9 rfl ?_
   try simp only [Act.put,aA,aZ,aS]
   refine tk 10 rfl ?_
   try simp only [Act.put,aA,aZ,aS]
   refine tk 11 rfl ?_
   try simp only [Act.put,aA,aZ,aS]
   refine tk 12 rfl ?_
   try simp only [Act.put,aA,aZ,aS]
   refine wpAnyG_done (by kernel_rfl) (λu hu=>?_)
   have BM:=Gr.blk hu BM
   have BX:=Gr.blk hu BX
   have BY:=Gr.blk hu BY
   have BR:=Gr.blk hu BR
   have BW:=Gr.blk hu BW
   have hb:=Below.gr hb hu
   have pc:u.cell? ⟨w.heap.size+4,3,none⟩=some (.int .u64 0):=BW.cell 3
   have pf:=BW.frozen 3
   clear hu px py
   go_wp2
   refine ⟨⟨hb.setCell (by show w.heap.size≤w.heap.size+4; omega) _,BM.far (by show w.heap.size≠w.heap.size+4; omega) _,BX.far (by show w.heap.size+1≠w.heap.size+4; omega) _,BY.far (by show w.heap.size+2≠w.heap.size+4; omega) _,BR.far (by show w.heap.size+3≠w.heap.size+4; omega) _,Lib.hid (.inr (.inr (.inr (.inr (⟨rfl,rfl,BW.set_ 3 _⟩)))))⟩,by decide⟩
  ·clear HI
   have pc:wr.cell? ⟨w.heap.size+4,4,none⟩=some (.int .u64 0):=BW.cell 4
   have pf:=BW.frozen 4
   have BM4:Blk (wr.setCell ⟨w.heap.size+4,4,none⟩ (.int .u64 (c3:Int))) w.heap.size 397 #[.int .u64 18446744069414583343,.int .u64 18446744073709551615,.int .u64 18446744073709551615,.int .u64 18446744073709551615,.int .u64 4294968273,.int .u64 0,.int .u64 0]:=BM.far (by show w.heap.size≠w.heap.size+4; omega) _
   have BW4:Blk (wr.setCell ⟨w.heap.size+4,4,none⟩ (.int .u64 (c3:Int))) (w.heap.size+4) 439 #[.int .u64 (s0:Int),.int .u64 (s1:Int),.int .u64 (s2:Int),.int .u64 (s3:Int),.int .u64 (c3:Int),.int .u64 0,.int .u64 0,.int .u64 0]:=BW.set_ 4 _
   have BR4:Blk (wr.setCell ⟨w.heap.size+4,4,none⟩ (.int .u64 (c3:Int))) (w.heap.size+3) 373 #[.int .u64 0,.int .u64 0,.int .u64 0,.int .u64 0]:=BR.far (by show w.heap.size+3≠w.heap.size+4; omega) _
   have hb4:Below w.heap.size w (wr.setCell ⟨w.heap.size+4,4,none⟩ (.int .u64 (c3:Int))):=hb.setCell (by show w.heap.size≤w.heap.size+4; omega) _
   have H4:=Lib.hid (And.intro BM4 (And.intro BW4 (And.intro BR4 hb4)))
   clear BM BX BY BR BW hb BM4 BW4 BR4 hb4
   go_wp2_with (first | ((with_reducible refine here_load (d:=some 33) ?_); refine wpList_load_blk rfl _ _ rfl w.heap.size rfl _ _ _ H4.out.1 Tryz.underlying397 rfl (by kernel_rfl) ?_) | ((with_reducible refine here_load (d:=some 34) ?_); refine wpList_load_blk rfl _ _ rfl (w.heap.size+4) rfl _ _ _ H4.out.2.1 Tryz.underlying439 rfl (by kernel_rfl) ?_))
   refine (cF _).mono ?_
   rintro e u ⟨rfl,hu⟩
   have BRu:=Gr.blk hu H4.out.2.2.1
   have hbu:=Below.gr H4.out.2.2.2 hu
   clear hu H4 cF
   go_wp2_with (first | ((with_reducible refine here_store ?_); refine wpList_store_blk rfl _ _ _ rfl (w.heap.size+3) (fcs (z)) rfl rfl _ _ (BRu) (by kernel_rfl) (by rfl) (fcs_one _) ?_; intro w9 hL9 hB9 hK9))
   exact bodyPost_ret (results_cell_row rfl _ _ (w.heap.size+3) _ _ (0,0) _ rfl hL9 Tryz.underlying373 rfl (by kernel_rfl)) rfl ⟨rfl,hbu.trans (hB9 _ (by omega))⟩
end
end
section
namespace Fz
open Go.RowKit Go.Lib Sy
set_option maxHeartbeats 4000000 in
set_option maxRecDepth 100000 in
theorem mulZ (w:World) (M:Nat) (lw:Nat→Nat) (hlw:∀ t,lw t<18446744073709551616) (hM0:0<M) (hM:M+vR lw 3=18446744073709551616 ^ 4) (hnorm:∀ w x,x<(2^256)→Calls Tryz.prog 273 #[.agg (modc M lw),fv x] w (Gets w (fv (x%M)))) (x y:Nat) (hx:x<(2^256)) (hy:y<(2^256)):Calls Tryz.prog 305 #[.agg (modc M lw),fv x,fv y] w (Gets w (fv (x*y%M))):=by
 refine Sy.enter (args:=[.agg (modc M lw),fv x,fv y]) Tryz.func305 rfl kL ?_
 refine sC ?_
 refine sM 397 (modc M lw) (λg0=>?_)
 refine sM 373 (fcs x) (λg1=>?_)
 refine sM 373 (fcs y) (λg2=>?_)
 refine sM 373 (fcs 0) (λg3=>?_)
 refine sA ?_
 refine Sy.make kR 439 (rw8 (λ_=>0)) ptr kF (λg4=>?_)
 refine sG<|Sy.seq<|sC ?_
 refine sP (.int .i64 0) ?_
 refine sG<|Sy.block ?_
 refine Sy.loopX (T:=Nat→Nat) 4 (λk1 y1=>[(3,.pointer (some ⟨g0,0,none⟩)),(4,.pointer (some ⟨g1,0,none⟩)),(5,.pointer (some ⟨g2,0,none⟩)),(6,.pointer (some ⟨g3,0,none⟩)),(7,.pointer (some ⟨g4,0,none⟩)),(8,.int .i64 ((k1:Nat):Int))]) (λk1 y1=>[(g0,397,(modc M lw)),(g1,373,(fcs x)),(g2,373,(fcs y)),(g3,373,(fcs 0)),(g4,439,(rw8 y1))]) (λk1 y1=>(∀ t,y1 t<18446744073709551616)∧vR y1 8=vR (wd x) k1*vR (wd y) 4∧∀ t,k1+4≤t→y1 t=0) (λ_=>0) [true,true,true,true,true] (⟨λ_=>by show (0:Nat)<18446744073709551616; decide,by rw [vR_zero]; exact (Nat.zero_mul _).symm,λ_ _=>rfl⟩) (all_cons kR (all_cons kR (all_cons kR (all_cons kR (all_cons kR (all_cons kR all_nil)))))) kR (λk1 y1 hk1 hh1=>?_)
 refine Sy.seq<|sC ?_
 refine sP (.int .i64 ((k1:Nat):Int)) ?_
 obtain ⟨b1,hb1⟩:∃ z:Bool,z=decide (k1<4):=⟨_,rfl⟩
 refine sS (.bool b1) (Quiet.pure (exec_int .lss _ _ _ .i64 _ _ _ rfl rfl rfl (int_lss _ _ _ _ _ (by rw [hb1]; exact decide_eq_decide.2 (by omega))))) ?_
 refine sG ?_
 cases b1
 ·have lb1:¬ (k1<4):=of_decide_eq_false hb1.symm
  refine sU<|Sy.exit<|Sy.then_exit<|Sy.then_exit ?_
  obtain rfl:k1=4:=by omega
  refine Sy.in_exit<|sB ?_
  refine sS (.agg (modc M lw)) (qL 0 g0 0 7 397 397 (modc M lw) rfl Tryz.underlying397)<|sS (.agg (rw8 y1)) (Quiet.load 4 g4 0 8 439 439 (rw8 y1) _ _ rfl kR kR Tryz.underlying439 rfl kR _ kR kL)<|sS (fv (vR y1 8%M)) (qF 317 #[.agg (modc M lw),.agg (rw8 y1)] (λw=>foldZ w M lw hlw hM0 hM hnorm y1 hh1.1))<|sW 3 g3 373 (fcs 0) (fcs (vR y1 8%M)) (wS 0 373 (fcs (vR y1 8%M)) rfl) ?_
  refine sG<|Sy.ret ?_
  rw [show (fv (x*y%M):Value)=fv (vR y1 8%M) from by rw [hh1.2.1,wd4 hx,wd4 hy]]
  exact rC (v:=fv (vR y1 8%M)) 373 g3 3 (fcs (vR y1 8%M)) rfl Tryz.underlying373
 ·have lb1:k1<4:=of_decide_eq_true hb1.symm
  refine sT<|Sy.skip<|Sy.then_<|Sy.seq<|Sy.block<|sC ?_
  refine sP (.int .u64 0) ?_
  refine sG<|Sy.seq<|sC ?_
  refine sP (.int .i64 0) ?_
  refine sG<|Sy.block ?_
  refine Sy.loopX (T:=(Nat→Nat)×Nat) 4 (λk2 y2=>[(3,.pointer (some ⟨g0,0,none⟩)),(4,.pointer (some ⟨g1,0,none⟩)),(5,.pointer (some ⟨g2,0,none⟩)),(6,.pointer (some ⟨g3,0,none⟩)),(7,.pointer (some ⟨g4,0,none⟩)),(8,.int .i64 ((k1:Nat):Int)),(9,.int .u64 ((y2.2:Nat):Int)),(10,.int .i64 ((k2:Nat):Int))]) (λk2 y2=>[(g0,397,(modc M lw)),(g1,373,(fcs x)),(g2,373,(fcs y)),(g3,373,(fcs 0)),(g4,439,(rw8 y2.1))]) (λk2 y2=>(∀ t,y2.1 t<18446744073709551616)∧y2.2<18446744073709551616∧vR y2.1 8+y2.2*18446744073709551616 ^ (k1+k2)=vR y1 8+wd x k1*vR (wd y) k2*18446744073709551616 ^ k1∧∀ t,k1+4≤t→y2.1 t=0) (y1,0) [true,true,true,true,true] (⟨hh1.1,by show (0:Nat)<18446744073709551616; decide,by show vR y1 8+0*_=_+_*0*_; omega,hh1.2.2⟩) (all_cons kR (all_cons kR (all_cons kR (all_cons kR (all_cons kR (all_cons kR (all_cons kR (all_cons kR all_nil)))))))) kR (λk2 y2 hk2 hh2=>?_)
  refine Sy.seq<|sC ?_
  refine sP (.int .i64 ((k2:Nat):Int)) ?_
  obtain ⟨b2,hb2⟩:∃ z:Bool,z=decide (k2<4):=⟨_,rfl⟩
  refine sS (.bool b2) (Quiet.pure (exec_int .lss _ _ _ .i64 _ _ _ rfl rfl rfl (int_lss _ _ _ _ _ (by rw [hb2]; exact decide_eq_decide.2 (by omega))))) ?_
  refine sG ?_
  cases b2
  ·have lb2:¬ (k2<4):=of_decide_eq_false hb2.symm
   refine sU<|Sy.exit<|Sy.then_exit<|Sy.then_exit ?_
   obtain rfl:k2=4:=by omega
   refine Sy.in_exit<|Sy.then_<|Sy.region ?_
   refine sP (.int .i64 ((k1:Nat):Int))<|sS (.int .i64 ((k1+4:Nat):Int)) (Quiet.pure (exec_int .add _ _ _ .i64 _ _ _ rfl rfl rfl (int_add _ _ _ _ _ ((wrap_i64 (by omega) (by omega)).trans (by omega)))))<|sP (.int .u64 ((y2.2:Nat):Int))<|sS (.pointer (some ⟨g4,0+(k1+4)*1,none⟩)) (Quiet.pure (exec_atA 439 _ _ _ g4 0 _ (k1+4) 1 .i64 rfl rfl rfl Tryz.underlying439 kF (by omega))) ?_
   refine Sy.write kR 4 g4 439 (rw8 y2.1) (rw8 (upd y2.1 (k1+4) y2.2)) kR (Writes.one (0+(k1+4)*1) 22 (.int .u64 ((y2.2:Nat):Int)) _ _ rfl kR kR kR rfl rfl (rw8_fit _ (k:=k1+4) (by omega) (by omega)) (rw8_set _ _ (by omega) (by omega))) ?_
   refine Sy.nil<|Sy.in_<|Sy.then_<|Sy.region ?_
   refine sP (.int .i64 ((k1:Nat):Int))<|sS (.int .i64 ((k1+1:Nat):Int)) (Quiet.pure (exec_int .add _ _ _ .i64 _ _ _ rfl rfl rfl (int_add _ _ _ _ _ ((wrap_i64 (by omega) (by omega)).trans (by omega)))))<|sP (.int .i64 ((k1+1:Nat):Int)) ?_
   refine Sy.nil ?_
   have hq:=outerM hh1.2.1 hh2.2.2.1 (hh2.2.2.2 _ (Nat.le_refl _)) (by omega)
   exact Sy.againX (upd y2.1 (k1+4) y2.2) [true,true,true,true,true] (by omega) (⟨upd_lt hh2.1 hh2.2.1,hq,λt ht=>(upd_ne (by omega)).trans (hh2.2.2.2 t (by omega))⟩) (all_cons kR (all_cons kR (all_cons kR (all_cons kR (all_cons kR (all_cons kR all_nil)))))) kR
  ·have lb2:k2<4:=of_decide_eq_true hb2.symm
   refine sT<|Sy.skip<|Sy.then_<|Sy.seq<|Sy.block<|Sy.seq ?_
   refine Sy.regionD (λj=>false) kR ?_
   refine sZ 0 rfl (.int .i64 ((k1:Nat):Int))<|sD 1 rfl (.pointer (some ⟨g1,0+k1*1,none⟩)) (Quiet.pure (exec_atA 373 _ _ _ g1 0 _ k1 1 .i64 rfl rfl rfl Tryz.underlying373 kF (by omega)))<|sD 2 rfl (.int .u64 ((wd x k1:Nat):Int)) (Quiet.cell 1 g1 (0+k1*1) 373 22 (fcs x) _ _ rfl kR kR Tryz.underlying22 rfl _ (fcs_at x (k:=k1) (by omega) (by omega)))<|sZ 3 rfl (.int .i64 ((k2:Nat):Int))<|sD 4 rfl (.pointer (some ⟨g2,0+k2*1,none⟩)) (Quiet.pure (exec_atA 373 _ _ _ g2 0 _ k2 1 .i64 rfl rfl rfl Tryz.underlying373 kF (by omega)))<|sD 5 rfl (.int .u64 ((wd y k2:Nat):Int)) (Quiet.cell 2 g2 (0+k2*1) 373 22 (fcs y) _ _ rfl kR kR Tryz.underlying22 rfl _ (fcs_at y (k:=k2) (by omega) (by omega))) ?_
   obtain ⟨hi1,lo1,llo1,elo1⟩:=two_words (wd x k1) (wd y k2)
   refine sD 6 rfl (.tuple #[.int .u64 ((hi1:Nat):Int),.int .u64 ((lo1:Nat):Int)]) (qF 297 #[.int .u64 ((wd x k1:Nat):Int),.int .u64 ((wd y k2:Nat):Int)] (λw=>mulZ_any w (wd x k1) (wd y k2) hi1 lo1 (by first | assumption | exact wd_lt _ _ | exact hh1.1 _ | exact hh2.1 _ | exact hh2.2.1 | decide) (by first | assumption | exact wd_lt _ _ | exact hh1.1 _ | exact hh2.1 _ | exact hh2.2.1 | decide) llo1 elo1))<|sZ 7 rfl (.tuple #[.int .u64 ((hi1:Nat):Int),.int .u64 ((lo1:Nat):Int)])<|sZ 8 rfl (.int .u64 ((hi1:Nat):Int))<|sZ 9 rfl (.int .u64 ((lo1:Nat):Int))<|sZ 10 rfl (.int .u64 ((hi1:Nat):Int))<|sZ 11 rfl (.int .u64 ((lo1:Nat):Int)) ?_
   refine sE ?_
   refine sB ?_
   refine sP (.int .u64 ((lo1:Nat):Int))<|sP (.int .i64 ((k1:Nat):Int))<|sP (.int .i64 ((k2:Nat):Int))<|sS (.int .i64 ((k1+k2:Nat):Int)) (Quiet.pure (exec_int .add _ _ _ .i64 _ _ _ rfl rfl rfl (int_add _ _ _ _ _ ((wrap_i64 (by omega) (by omega)).trans (by omega)))))<|sS (.pointer (some ⟨g4,0+(k1+k2)*1,none⟩)) (Quiet.pure (exec_atA 439 _ _ _ g4 0 _ (k1+k2) 1 .i64 rfl rfl rfl Tryz.underlying439 kF (by omega)))<|sS (.int .u64 ((y2.1 (k1+k2):Nat):Int)) (Quiet.cell 4 g4 (0+(k1+k2)*1) 439 22 (rw8 y2.1) _ _ rfl kR kR Tryz.underlying22 rfl _ (rw8_at y2.1 (k:=k1+k2) (by omega) (by omega))) ?_
   obtain ⟨x1,c1,lx1,lc1,ex1,rx1⟩:=add0_ex (lo1) (y2.1 (k1+k2)) (by first | assumption | exact wd_lt _ _ | exact hh1.1 _ | exact hh2.1 _ | exact hh2.2.1 | decide) (by first | assumption | exact wd_lt _ _ | exact hh1.1 _ | exact hh2.1 _ | exact hh2.2.1 | decide)
   refine sS (.tuple #[.int .u64 ((x1:Nat):Int),.int .u64 ((c1:Nat):Int)]) (Quiet.pure (λw=>Eq.trans kR (rx1 w)))<|sP (.tuple #[.int .u64 ((x1:Nat):Int),.int .u64 ((c1:Nat):Int)])<|sP (.int .u64 ((x1:Nat):Int))<|sP (.int .u64 ((c1:Nat):Int))<|sP (.int .u64 ((x1:Nat):Int))<|sP (.int .u64 ((c1:Nat):Int)) ?_
   refine sA ?_
   refine sP (.int .u64 ((x1:Nat):Int))<|sP (.int .u64 ((y2.2:Nat):Int)) ?_
   obtain ⟨x2,c2,lx2,lc2,ex2,rx2⟩:=add0_ex (x1) (y2.2) (by first | assumption | exact wd_lt _ _ | exact hh1.1 _ | exact hh2.1 _ | exact hh2.2.1 | decide) (by first | assumption | exact wd_lt _ _ | exact hh1.1 _ | exact hh2.1 _ | exact hh2.2.1 | decide)
   refine sS (.tuple #[.int .u64 ((x2:Nat):Int),.int .u64 ((c2:Nat):Int)]) (Quiet.pure (λw=>Eq.trans kR (rx2 w)))<|sP (.tuple #[.int .u64 ((x2:Nat):Int),.int .u64 ((c2:Nat):Int)])<|sP (.int .u64 ((x2:Nat):Int))<|sP (.int .u64 ((c2:Nat):Int))<|sP (.int .u64 ((x2:Nat):Int))<|sP (.int .u64 ((c2:Nat):Int)) ?_
   refine sA ?_
   refine sP (.int .i64 ((k1:Nat):Int))<|sP (.int .i64 ((k2:Nat):Int))<|sS (.int .i64 ((k1+k2:Nat):Int)) (Quiet.pure (exec_int .add _ _ _ .i64 _ _ _ rfl rfl rfl (int_add _ _ _ _ _ ((wrap_i64 (by omega) (by omega)).trans (by omega)))))<|sP (.int .u64 ((x2:Nat):Int))<|sS (.pointer (some ⟨g4,0+(k1+k2)*1,none⟩)) (Quiet.pure (exec_atA 439 _ _ _ g4 0 _ (k1+k2) 1 .i64 rfl rfl rfl Tryz.underlying439 kF (by omega))) ?_
   refine Sy.write kR 4 g4 439 (rw8 y2.1) (rw8 (upd y2.1 (k1+k2) x2)) kR (Writes.one (0+(k1+k2)*1) 22 (.int .u64 ((x2:Nat):Int)) _ _ rfl kR kR kR rfl rfl (rw8_fit _ (k:=k1+k2) (by omega) (by omega)) (rw8_set _ _ (by omega) (by omega))) ?_
   refine sG<|Sy.region ?_
   refine sP (.int .u64 ((hi1:Nat):Int))<|sP (.int .u64 ((c1:Nat):Int)) ?_
   have hst:=stepZ elo1 ex1 ex2
   have hcar:=carryZ hst (by first | assumption | exact wd_lt _ _ | exact hh1.1 _ | exact hh2.1 _ | exact hh2.2.1 | decide) (by first | assumption | exact wd_lt _ _ | exact hh1.1 _ | exact hh2.1 _ | exact hh2.2.1 | decide) (by first | assumption | exact wd_lt _ _ | exact hh1.1 _ | exact hh2.1 _ | exact hh2.2.1 | decide) hh2.2.1
   refine sS (.int .u64 ((hi1+c1:Nat):Int)) (Quiet.pure (exec_int .add _ _ _ .u64 _ _ _ rfl rfl rfl (int_add _ _ _ _ _ ((wrap_u64 (by omega) (by omega)).trans (by omega)))))<|sP (.int .u64 ((c2:Nat):Int))<|sS (.int .u64 (((hi1+c1)+c2:Nat):Int)) (Quiet.pure (exec_int .add _ _ _ .u64 _ _ _ rfl rfl rfl (int_add _ _ _ _ _ ((wrap_u64 (by omega) (by omega)).trans (by omega)))))<|sP (.int .u64 (((hi1+c1)+c2:Nat):Int)) ?_
   refine Sy.nil<|Sy.in_<|Sy.then_<|Sy.region ?_
   refine sP (.int .i64 ((k2:Nat):Int))<|sS (.int .i64 ((k2+1:Nat):Int)) (Quiet.pure (exec_int .add _ _ _ .i64 _ _ _ rfl rfl rfl (int_add _ _ _ _ _ ((wrap_i64 (by omega) (by omega)).trans (by omega)))))<|sP (.int .i64 ((k2+1:Nat):Int)) ?_
   refine Sy.nil ?_
   have hin:=innerZ (vR_upd y2.1 (k1+k2) x2 8 (by omega)) hh2.2.2.1 hst (P0:=18446744073709551616 ^ k2) (by rw [Nat.add_comm,Nat.pow_add])
   exact Sy.againX ((upd y2.1 (k1+k2) x2,hi1+c1+c2)) [true,true,true,true,true] (by omega) (⟨upd_lt hh2.1 lx2,hcar,by rw [← Nat.add_assoc,Nat.pow_succ]; exact hin,λt ht=>(upd_ne (by omega)).trans (hh2.2.2.2 t ht)⟩) (all_cons kR (all_cons kR (all_cons kR (all_cons kR (all_cons kR (all_cons kR (all_cons kR (all_cons kR all_nil)))))))) kR
end Fz
end
section
section
open Go.RowKit Go.Lib
theorem mulR_any (w:World) (x y:Nat) (hx:x<(2^256)) (hy:y<(2^256)):Calls Tryz.prog 305 #[.agg #[.int .u64 18446744069414583343,.int .u64 18446744073709551615,.int .u64 18446744073709551615,.int .u64 18446744073709551615,.int .u64 4294968273,.int .u64 0,.int .u64 0],fv x,fv y] w λe w'=>e=.returned (fv (mulP x y))∧Below w.heap.size w w':=by
 have h:=Fz.mulZ w pM lackW lackW_lt pM_pos0 lack_sum (λw x hx=>by rw [mod_row]; exact normR_any w x hx) x y hx hy
 rw [mod_row] at h
 exact h
end
end
section
namespace Fz
open Go.RowKit Go.Lib Sy
end Fz
end
section
section
open Go.RowKit Go.Lib
end
end
section
section
open Go.RowKit Go.Lib
def byteN (z j:Nat):UInt8:=UInt8.ofNat (z / 2 ^ (8*j)%256)
def lowB (z:Nat):Nat→List UInt8
 | 0=>[]
 | k+1=>byteN z k::lowB z k
theorem lowB_length (z:Nat):∀ k,(lowB z k).length=k
 | 0=>rfl
 | k+1=>by rw [lowB,List.length_cons,lowB_length z k]
def bytesS (z:Nat):List UInt8:=lowB z 32
def partB (z k:Nat):List UInt8:=List.replicate (32 - k) 0++lowB z k
theorem partB_length (z k:Nat) (h:k≤32):(partB z k).length=32:=by simp [partB,lowB_length]; omega
theorem partB_full (z:Nat):partB z 32=bytesS z:=by simp [partB,bytesS]
theorem partB_set (z k:Nat) (h:k<32):((partB z k).map bv).toArray.setIfInBounds (31 - k) (bv (byteN z k))=((partB z (k+1)).map bv).toArray:=by
 rw [List.setIfInBounds_toArray]
 congr 1
 rw [← List.map_set]
 congr 1
 unfold partB
 rw [List.set_append_left _ _ (by simp; omega)]
 obtain ⟨m,hm⟩:∃ m,32 - k=m+1:=⟨31 - k,by omega⟩
 have h2:32 - (k+1)=m:=by omega
 have h3:31 - k=m:=by omega
 rw [hm,h2,h3,List.replicate_succ',List.set_append_right _ _ (by simp)]
 simp [lowB]
theorem bytesS_length (z:Nat):(bytesS z).length=32:=lowB_length z 32
theorem bv_byteN (z j:Nat):bv (byteN z j)=.int .u8 ((z / 2 ^ (8*j)%256:Nat):Int):=by
 unfold bv byteN
 congr 2
 rw [UInt8.toNat_ofNat']
 omega
theorem Blk.val {w:World} {a:Addr} {v v':Value} {g:Nat} {t:TypeId} {cs:Array Value} (h:Blk (w.setCell a v) g t cs) (e:v=v'):Blk (w.setCell a v') g t cs:=e ▸ h
theorem b32_info {l:List UInt8} (h:l.length=32):(Tryz.prog.info? 27).map (·.size)=some (l.map bv).toArray.size:=by
 simp only [List.size_toArray,List.length_map,h]
 kernel_rfl
theorem b32_one (l:List UInt8):(l.map bv).toArray.all (·.oneCell')=true:=by simp [bv,Value.oneCell']
end
end
section
section
open Go.RowKit Sp
def Src (w:World) (A:Option Addr) (m:List UInt8):Prop :=
 m≠[]→∃ b o,A=some ⟨b,o,none⟩∧b<w.heap.size∧∀ j u,m[j]? = some u→w.cell? ⟨b,o+j,none⟩=some (bv u)
theorem Src.of_blk {w:World} {g:Nat} {t:TypeId} {m:List UInt8} (h:Blk w g t (m.map bv).toArray):Src w (some ⟨g,0,none⟩) m:=λ_ =>
 ⟨g,0,rfl,h.lt,λj u hu=>by rw [Nat.zero_add]; exact (h.cell j).trans (by simp [hu])⟩
theorem addr_add (g o n:Nat):(⟨g,o,none⟩:Addr).add n=⟨g,o+n,none⟩:=by
 unfold Addr.add; split <;> simp_all
theorem oneCell_bv (l:List UInt8):∀ v∈l.map bv,v.oneCell'=true:=λv hv=>by
 obtain ⟨x,_,rfl⟩:=List.mem_map.1 hv
 rfl
def OwnB (w:World) (base:Nat) (v:Value) (l:List UInt8):Prop:=w.ownsRow base 5 1 v l.length (l.map bv)
theorem infoByte:(Tryz.prog.info? 5).map (λi=>(i.zero,i.size,i.bytes))=some (some (.int .u8 0),1,1):=by kernel_rfl
theorem OwnB.form {w:World} {base:Nat} {v:Value} {l:List UInt8} (h:OwnB w base v l) (hl:0<l.length) :
  ∃ g cap,v=.slice (some ⟨g,0,none⟩) l.length cap∧base≤g∧g<w.heap.size:=World.ownsRow.form h hl
theorem OwnB.form' {w:World} {base:Nat} {v:Value} {l:List UInt8} (h:OwnB w base v l) (hl:0<l.length) :
  ∃ g n cap,v=.slice (some ⟨g,0,none⟩) n cap∧Hid (n=l.length)∧base≤g∧g<w.heap.size:=by
 obtain ⟨g,cap,h1,h2,h3⟩:=h.form hl
 exact ⟨g,l.length,cap,h1,Lib.hid rfl,h2,h3⟩
theorem OwnB.alloc {w:World} {base:Nat} {v:Value} {l:List UInt8} (h:OwnB w base v l) (o:Obj):OwnB (w.alloc o) base v l:=World.ownsRow.alloc h o
theorem OwnB.nil (w:World) (base:Nat):OwnB w base (.slice none 0 0) []:=World.ownsRow_nil w base _ _
theorem below_own {B base:Nat} {w0 w w':World} {v:Value} {l:List UInt8} (h:Below B w0 w) (hown:OwnB w base v l) (hg:w.grownBy w' v.ownBlock) (hB:B≤base) (hw:B≤w.heap.size):Below B w0 w' :=
 h.grown hg hw (λk hk=>Nat.le_trans hB (World.ownsRow.lt hown k hk).1)
theorem run_append_of_nil {P:Program} (w:World) (base:Nat) (t ty e:TypeId) (i:TypeInfo) (size:Nat) (ht:P.underlying t=some (.slice e)) (hi:P.info? e=some i)
  (v:Value) (n:Nat) (xs:List Value) (hown:w.ownsRow base e size v n xs) (c:Nat):(Builtin.append_ #[t,t] ty #[v,.slice none 0 c]).run P w=.ok v w:=by
 rcases hown.2 with ⟨rfl,rfl⟩ | ⟨g,cap,cur,rfl,_,_,hnc,_⟩
 ·simp [Builtin.append_,run_underlying ht,sizeOf,typeInfo,hi,Builtin.lenOf,Builtin.firstCells]
 ·simp [Builtin.append_,run_underlying ht,sizeOf,typeInfo,hi,Builtin.lenOf,Builtin.firstCells,hnc,storeCells]
theorem run_append_bytes (w:World) (base:Nat) (v:Value) (l m:List UInt8) (hown:OwnB w base v l) (A:Option Addr) (c:Nat) (hsrc:Src w A m) (hlen:l.length+m.length≤140737488355328) (hbase:base≤w.heap.size) (ty:TypeId) :
  ∃ v' w',(Builtin.append_ #[29,29] ty #[v,.slice A m.length c]).run Tryz.prog w=.ok v' w'∧OwnB w' base v' (l++m)∧w.grownBy w' v.ownBlock:=by
 obtain ⟨i,hi,hz0,hz1,hz2⟩:=info_parts infoByte
 by_cases hm:m=[]
 ·subst hm
  cases A with
  | none=>exact ⟨v,w,run_append_of_nil w base _ _ _ i 1 Tryz.underlying29 hi v _ _ hown c,by simpa using hown,World.grownBy.refl w _⟩
  | some ad =>
   obtain ⟨v',w',h1,h2,h3,_⟩:=run_append_own (P:=Tryz.prog) w base 29 ty 5 i (.int .u8 0) 1 1 Tryz.underlying29 hi hz0 hz1 hz2 rfl (by decide) v l.length (l.map bv) hown ad 0 c [] rfl (by simp) (by simp)
    (by simp [maxLen]; simp at hlen; omega) (by simp at hlen; omega) hbase
   exact ⟨v',w',h1,by simpa [OwnB] using h2,h3⟩
 ·obtain ⟨b,o,rfl,_,hc⟩:=hsrc hm
  obtain ⟨v',w',h1,h2,h3,_⟩:=run_append_own (P:=Tryz.prog) w base 29 ty 5 i (.int .u8 0) 1 1 Tryz.underlying29 hi hz0 hz1 hz2 rfl (by decide) v l.length (l.map bv) hown ⟨b,o,none⟩ m.length c (m.map bv) (by simp)
   (λj u hu=>by
    rw [addr_add]
    rw [List.getElem?_map] at hu
    obtain ⟨x,hx,rfl⟩:=Option.map_eq_some_iff.1 hu
    exact hc j x hx) (oneCell_bv m) (by simp [maxLen]; omega) (by omega) hbase
  exact ⟨v',w',h1,by simpa [OwnB] using h2,h3⟩
theorem wpList_append_bytes {w:World} {ops:Array Oper} {rest:List Oper} {o:Oper} {a:Act} {Q:Exit→Act→World→Prop} (hgd:o.guard=none) (s x:Operand)
  (ho:o.op=.call { callee:=.builtin .append,args:=#[s,x],argTypes:=#[29,29] }) (base:Nat) (v:Value) (l:List UInt8) (hs:a.eval s=v) (hown:OwnB w base v l)
  (A:Option Addr) (m:List UInt8) (c:Nat) (hx:a.eval x=.slice A m.length c) (hsrc:Src w A m) (hlen:l.length+m.length≤140737488355328) (hbase:base≤w.heap.size)
  (h:∀ v' w',OwnB w' base v' (l++m)→w.grownBy w' v.ownBlock→wpList Tryz.prog ops Q rest (a.put o.dst v') w'):wpList Tryz.prog ops Q (o::rest) a w:=by
 refine wpList_plain hgd λK hK=>?_
 obtain ⟨v',w',hrun,h2,h3⟩:=run_append_bytes w base v l m hown A c hsrc hlen hbase o.type
 unfold Oper.wp execOp
 simp only [ho,resolve,invoke,builtin,Sem.run_bind,Sem.run_pure,Result.andThen_ok,List.map_toArray,List.map_cons,List.map_nil,hs,hx,hrun]
 exact hK _ _ (h v' w' h2 h3)
end
end
section
section
open Go.RowKit Go.Lib
set_option maxHeartbeats 2000000 in
set_option maxRecDepth 100000 in
theorem rightR_any (w : World) (x : Nat) (hx : x < (2^256)) : Calls Tryz.prog 278 #[modV, fv x] w fun e w' => e = .returned (.bool (decide (x < pM))) ∧ Below w.heap.size w w' := by
  obtain ⟨p,hp⟩:∃ p,p=115792089237316195423570985008687907853269984665640564039457584007908834671663:=⟨_,rfl⟩
  obtain ⟨b,hb⟩:∃ b,b=decide (x<pM):=⟨_,rfl⟩
  have cb:∀ w,Calls Tryz.prog 303 #[fv x,fv p] w λe w'=>e=.returned (.bool b)∧Below w.heap.size w w':=by
    intro w; rw [hb,pM_eq, ← hp]; exact below_at w x p rfl rfl hx (by omega)
  have hpc:fv p=.agg #[.int .u64 18446744069414583343,.int .u64 18446744073709551615,.int .u64 18446744073709551615,.int .u64 18446744073709551615]:=by rw [hp]; exact fv_P
  obtain ⟨x0,x1,x2,x3,fx⟩:=words_fv x hx
  have FX:=Lib.hid fx
  have FP:=Lib.hid hpc
  rw [fx, ← hb]
  unfold modV
  clear fx hpc hx hp hb
  go_enter Tryz.func278,Tryz.ntmps278
  go_wp2_with (first | ((with_reducible refine here_load (d:=some 5) ?_); refine wpList_load_fv rfl _ _ rfl (w.heap.size+1) rfl (x) _ _ _ (blk_new2 w _ _ _) (FX.out) Tryz.underlying373 rfl (by kernel_rfl) ?_) | ((with_reducible refine here_load (d:=some 7) ?_); refine wpList_load_part rfl _ _ rfl w.heap.size rfl p [.int .u64 18446744069414583343,.int .u64 18446744073709551615,.int .u64 18446744073709551615,.int .u64 18446744073709551615] _ (mod_range ((Blk.new w _ _).alloc _)) FP.out Tryz.underlying373 rfl (by kernel_rfl) ?_))
  refine (cb _).mono ?_
  rintro e w1 ⟨rfl,k1⟩
  go_wp2
  go_ret
  exact ⟨rfl,Below.gr (below_alloc2 w _ _) k1⟩
theorem div_word (a r s : Nat) (hs : s ≤ 56) : (a + 18446744073709551616 * r) / 2 ^ s % 256 = a / 2 ^ s % 256 := by
  obtain ⟨u,hu⟩:∃ u,2 ^ s*(256*u)=18446744073709551616:=by
    refine ⟨2 ^ (56 - s),?_⟩
    have:2 ^ s*2 ^ (56 - s)=2 ^ 56:=by rw [← Nat.pow_add]; congr 1; omega
    rw [show (256:Nat)*2 ^ (56 - s)=2 ^ (56 - s)*256 from Nat.mul_comm _ _, ← Nat.mul_assoc,this]
  rw [← hu,Nat.mul_assoc,Nat.add_mul_div_left _ _ (Nat.two_pow_pos s),Nat.mul_assoc,Nat.add_mul_mod_self_left]
theorem shift_word (z i s w r:Nat) (hz:z / 2 ^ (64*i)=w+18446744073709551616*r) (hs:s≤56):z / 2 ^ (64*i+s)%256=w / 2 ^ s%256:=by
  rw [Nat.pow_add, ← Nat.div_div_eq_div_mul,hz,div_word w r s hs]
theorem lowB_get (z : Nat) : ∀ (k j : Nat), j < k → (lowB z k)[j]? = some (byteN z (k - 1 - j))
  | 0,j,h=>by omega
  | k+1,0,_=>by simp [lowB]
  | k+1,j+1,h=>by
    rw [lowB,List.getElem?_cons_succ,lowB_get z k j (by omega)]
    congr 2
    omega
theorem take_bytes (z n:Nat) (h:n<32):(bytesS z).take n++[byteN z (31 - n)]=(bytesS z).take (n+1):=by
  rw [List.take_add_one,bytesS,lowB_get z 32 n h]
  rfl
set_option maxHeartbeats 4000000 in
set_option maxRecDepth 100000 in
theorem bytesR_any (w : World) (z : Nat) (hz : z < (2^256)) : Calls Tryz.prog 239 #[fv z] w fun e w' => ∃ g cap, e = .returned (.slice (some ⟨g, 0, none⟩) 32 cap) ∧ OwnB w' (w.heap.size + 1) (.slice (some ⟨g, 0, none⟩) 32 cap) (bytesS z) ∧ g < w'.heap.size ∧ Below w.heap.size w w' := by
  obtain ⟨z0,z1,z2,z3,a0,a1,a2,a3,ez,fz⟩:=words_of z hz
  have s0:=λs hs=>shift_word z 0 s z0 (z1+18446744073709551616*z2+340282366920938463463374607431768211456*z3) (by omega) hs
  have s1:=λs hs=>shift_word z 1 s z1 (z2+18446744073709551616*z3) (by omega) hs
  have s2:=λs hs=>shift_word z 2 s z2 z3 (by omega) hs
  have s3:=λs hs=>shift_word z 3 s z3 0 (by omega) hs
  have HS:=Lib.hid (And.intro s0 (And.intro s1 (And.intro s2 s3)))
  rw [fz]
  clear ez fz hz a0 a1 a2 a3 s0 s1 s2 s3
  go_enter Tryz.func239,Tryz.ntmps239
  go_wp2_with fail
  go_loopw [3,4] (λv i wr=>Below w.heap.size w wr∧Blk wr w.heap.size 373 #[.int .u64 (z0:Int),.int .u64 (z1:Int),.int .u64 (z2:Int),.int .u64 (z3:Int)]∧Hid ((i=.int .i64 3∧OwnB wr (w.heap.size+1) v ((bytesS z).take 0))∨(i=.int .i64 2∧OwnB wr (w.heap.size+1) v ((bytesS z).take 8))∨(i=.int .i64 1∧OwnB wr (w.heap.size+1) v ((bytesS z).take 16))∨(i=.int .i64 0∧OwnB wr (w.heap.size+1) v ((bytesS z).take 24))∨(i=.int .i64 (-1)∧OwnB wr (w.heap.size+1) v ((bytesS z).take 32)))) (λ_ i _=>(RowKit.intOf i+1).toNat)
  case atStart=>exact ⟨(Below.refl _ _).alloc (Nat.le_refl _) _,Blk.new w _ _,Lib.hid (.inl ⟨rfl,OwnB.nil _ _⟩)⟩
  case round =>
    obtain ⟨hb,BZ,HI⟩:=hrel
    rcases HI.out with ⟨rfl,hown⟩ | ⟨rfl,hown⟩ | ⟨rfl,hown⟩ | ⟨rfl,hown⟩ | ⟨rfl,hown⟩
    · clear HI
      go_wp2_with fail
      go_loopw [3,5] (λv s wr=>∃ t:Nat,t≤8∧s=.int .i64 (56 - 8*(t:Int))∧Below w.heap.size w wr∧Blk wr w.heap.size 373 #[.int .u64 (z0:Int),.int .u64 (z1:Int),.int .u64 (z2:Int),.int .u64 (z3:Int)]∧OwnB wr (w.heap.size+1) v ((bytesS z).take (0+t))) (λ_ s _=>(RowKit.intOf s+8).toNat)
      case atStart=>exact ⟨0,by omega,rfl,hb,BZ,hown⟩
      case round =>
        clear hb BZ hown
        obtain ⟨t,ht,rfl,hb,BZ,hown⟩:=hrel
        by_cases hlt:t<8
        · obtain ⟨s, hs⟩ : ∃ s, s = 56 - 8 * t := ⟨_, rfl⟩
          have hs1:(56 - 8*(t:Int))=(s:Int):=by omega
          obtain ⟨x,hx⟩:∃ x,x=byteN z (31 - (0+t)):=⟨_,rfl⟩
          have hxe:(z3:Int) / 2 ^ s%256=(x.toNat:Int):=by
            have h:=HS.out.2.2.2 s (by omega)
            have e:8*(31 - (0+t))=64*3+s:=by omega
            rw [hx,byteN,UInt8.toNat_ofNat',e,h]
            have:((z3:Int) / 2 ^ s%256)=((z3 / 2 ^ s%256:Nat):Int):=by push_cast; rfl
            rw [this]
            omega
          have hlen:((bytesS z).take (0+t)).length≤32:=by rw [List.length_take,bytesS_length]; omega
          have HX:=Lib.hid (And.intro hx (And.intro hxe hlen))
          have pc:wr.cell? ⟨w.heap.size,3,none⟩=some (.int .u64 (z3:Int)):=BZ.cell 3
          have hsl:s≤56:=by omega
          have HT:=Lib.hid hs
          have lz:=BZ.lt
          rw [hs1]
          clear hx hxe hlen hs
          go_wp2_with (at_builtin
                       refine wpList_append_bytes rfl (.tmp 14) (.tmp 21) rfl (w.heap.size+1) _ ((bytesS z).take (0+t)) rfl (hown.alloc _) (some ⟨wr.heap.size,0,none⟩) [x] 1 rfl (Src.of_blk (Blk.eq_ (Blk.new wr 5 _) (by rw [HX.out.2.1]; rfl))) (by have:=HX.out.2.2; simp only [List.length_singleton]; omega) (by simp <;> omega) ?_
                       intro v3 w3 hv3 hg3
                       have hb3:=below_own (hb.alloc (by omega) _) (hown.alloc _) hg3 (Nat.le_succ _) (by simp <;> omega)
                       have BZ3:=Blk.grown (BZ.alloc _) hg3 (λe=>by have:=(World.ownsRow.lt hown _ e.symm).1; omega)
                       rw [HX.out.1,take_bytes z (0+t) (by omega)] at hv3)
          go_roundw
          case rel=>exact ⟨t+1,by omega,by congr 1; omega,hb3,BZ3,hv3⟩
          case measure=>simp [RowKit.intOf]; omega
        · obtain rfl:t=8:=by omega
          go_wp2
          refine ⟨⟨hb,BZ,Lib.hid (.inr (.inl (⟨rfl,hown⟩)))⟩,by decide⟩
    · clear HI
      go_wp2_with fail
      go_loopw [3,5] (λv s wr=>∃ t:Nat,t≤8∧s=.int .i64 (56 - 8*(t:Int))∧Below w.heap.size w wr∧Blk wr w.heap.size 373 #[.int .u64 (z0:Int),.int .u64 (z1:Int),.int .u64 (z2:Int),.int .u64 (z3:Int)]∧OwnB wr (w.heap.size+1) v ((bytesS z).take (8+t))) (λ_ s _=>(RowKit.intOf s+8).toNat)
      case atStart=>exact ⟨0,by omega,rfl,hb,BZ,hown⟩
      case round =>
        clear hb BZ hown
        obtain ⟨t,ht,rfl,hb,BZ,hown⟩:=hrel
        by_cases hlt:t<8
        · obtain ⟨s, hs⟩ : ∃ s, s = 56 - 8 * t := ⟨_, rfl⟩
          have hs1:(56 - 8*(t:Int))=(s:Int):=by omega
          obtain ⟨x,hx⟩:∃ x,x=byteN z (31 - (8+t)):=⟨_,rfl⟩
          have hxe:(z2:Int) / 2 ^ s%256=(x.toNat:Int):=by
            have h:=HS.out.2.2.1 s (by omega)
            have e:8*(31 - (8+t))=64*2+s:=by omega
            rw [hx,byteN,UInt8.toNat_ofNat',e,h]
            have:((z2:Int) / 2 ^ s%256)=((z2 / 2 ^ s%256:Nat):Int):=by push_cast; rfl
            rw [this]
            omega
          have hlen:((bytesS z).take (8+t)).length≤32:=by rw [List.length_take,bytesS_length]; omega
          have HX:=Lib.hid (And.intro hx (And.intro hxe hlen))
          have pc:wr.cell? ⟨w.heap.size,2,none⟩=some (.int .u64 (z2:Int)):=BZ.cell 2
          have hsl:s≤56:=by omega
          have HT:=Lib.hid hs
          have lz:=BZ.lt
          rw [hs1]
          clear hx hxe hlen hs
          go_wp2_with (at_builtin
                       refine wpList_append_bytes rfl (.tmp 14) (.tmp 21) rfl (w.heap.size+1) _ ((bytesS z).take (8+t)) rfl (hown.alloc _) (some ⟨wr.heap.size,0,none⟩) [x] 1 rfl (Src.of_blk (Blk.eq_ (Blk.new wr 5 _) (by rw [HX.out.2.1]; rfl))) (by have:=HX.out.2.2; simp only [List.length_singleton]; omega) (by simp <;> omega) ?_
                       intro v3 w3 hv3 hg3
                       have hb3:=below_own (hb.alloc (by omega) _) (hown.alloc _) hg3 (Nat.le_succ _) (by simp <;> omega)
                       have BZ3:=Blk.grown (BZ.alloc _) hg3 (λe=>by have:=(World.ownsRow.lt hown _ e.symm).1; omega)
                       rw [HX.out.1,take_bytes z (8+t) (by omega)] at hv3)
          go_roundw
          case rel=>exact ⟨t+1,by omega,by congr 1; omega,hb3,BZ3,hv3⟩
          case measure=>simp [RowKit.intOf]; omega
        · obtain rfl:t=8:=by omega
          go_wp2
          refine ⟨⟨hb,BZ,Lib.hid (.inr (.inr (.inl (⟨rfl,hown⟩))))⟩,by decide⟩
    · clear HI
      go_wp2_with fail
      go_loopw [3,5] (λv s wr=>∃ t:Nat,t≤8∧s=.int .i64 (56 - 8*(t:Int))∧Below w.heap.size w wr∧Blk wr w.heap.size 373 #[.int .u64 (z0:Int),.int .u64 (z1:Int),.int .u64 (z2:Int),.int .u64 (z3:Int)]∧OwnB wr (w.heap.size+1) v ((bytesS z).take (16+t))) (λ_ s _=>(RowKit.intOf s+8).toNat)
      case atStart=>exact ⟨0,by omega,rfl,hb,BZ,hown⟩
      case round =>
        clear hb BZ hown
        obtain ⟨t,ht,rfl,hb,BZ,hown⟩:=hrel
        by_cases hlt:t<8
        · obtain ⟨s, hs⟩ : ∃ s, s = 56 - 8 * t := ⟨_, rfl⟩
          have hs1:(56 - 8*(t:Int))=(s:Int):=by omega
          obtain ⟨x,hx⟩:∃ x,x=byteN z (31 - (16+t)):=⟨_,rfl⟩
          have hxe:(z1:Int) / 2 ^ s%256=(x.toNat:Int):=by
            have h:=HS.out.2.1 s (by omega)
            have e:8*(31 - (16+t))=64*1+s:=by omega
            rw [hx,byteN,UInt8.toNat_ofNat',e,h]
            have:((z1:Int) / 2 ^ s%256)=((z1 / 2 ^ s%256:Nat):Int):=by push_cast; rfl
            rw [this]
            omega
          have hlen:((bytesS z).take (16+t)).length≤32:=by rw [List.length_take,bytesS_length]; omega
          have HX:=Lib.hid (And.intro hx (And.intro hxe hlen))
          have pc:wr.cell? ⟨w.heap.size,1,none⟩=some (.int .u64 (z1:Int)):=BZ.cell 1
          have hsl:s≤56:=by omega
          have HT:=Lib.hid hs
          have lz:=BZ.lt
          rw [hs1]
          clear hx hxe hlen hs
          go_wp2_with (at_builtin
                       refine wpList_append_bytes rfl (.tmp 14) (.tmp 21) rfl (w.heap.size+1) _ ((bytesS z).take (16+t)) rfl (hown.alloc _) (some ⟨wr.heap.size,0,none⟩) [x] 1 rfl (Src.of_blk (Blk.eq_ (Blk.new wr 5 _) (by rw [HX.out.2.1]; rfl))) (by have:=HX.out.2.2; simp only [List.length_singleton]; omega) (by simp <;> omega) ?_
                       intro v3 w3 hv3 hg3
                       have hb3:=below_own (hb.alloc (by omega) _) (hown.alloc _) hg3 (Nat.le_succ _) (by simp <;> omega)
                       have BZ3:=Blk.grown (BZ.alloc _) hg3 (λe=>by have:=(World.ownsRow.lt hown _ e.symm).1; omega)
                       rw [HX.out.1,take_bytes z (16+t) (by omega)] at hv3)
          go_roundw
          case rel=>exact ⟨t+1,by omega,by congr 1; omega,hb3,BZ3,hv3⟩
          case measure=>simp [RowKit.intOf]; omega
        · obtain rfl:t=8:=by omega
          go_wp2
          refine ⟨⟨hb,BZ,Lib.hid (.inr (.inr (.inr (.inl (⟨rfl,hown⟩)))))⟩,by decide⟩
    · clear HI
      go_wp2_with fail
      go_loopw [3,5] (λv s wr=>∃ t:Nat,t≤8∧s=.int .i64 (56 - 8*(t:Int))∧Below w.heap.size w wr∧Blk wr w.heap.size 373 #[.int .u64 (z0:Int),.int .u64 (z1:Int),.int .u64 (z2:Int),.int .u64 (z3:Int)]∧OwnB wr (w.heap.size+1) v ((bytesS z).take (24+t))) (λ_ s _=>(RowKit.intOf s+8).toNat)
      case atStart=>exact ⟨0,by omega,rfl,hb,BZ,hown⟩
      case round =>
        clear hb BZ hown
        obtain ⟨t,ht,rfl,hb,BZ,hown⟩:=hrel
        by_cases hlt:t<8
        · obtain ⟨s, hs⟩ : ∃ s, s = 56 - 8 * t := ⟨_, rfl⟩
          have hs1:(56 - 8*(t:Int))=(s:Int):=by omega
          obtain ⟨x,hx⟩:∃ x,x=byteN z (31 - (24+t)):=⟨_,rfl⟩
          have hxe:(z0:Int) / 2 ^ s%256=(x.toNat:Int):=by
            have h:=HS.out.1 s (by omega)
            have e:8*(31 - (24+t))=64*0+s:=by omega
            rw [hx,byteN,UInt8.toNat_ofNat',e,h]
            have:((z0:Int) / 2 ^ s%256)=((z0 / 2 ^ s%256:Nat):Int):=by push_cast; rfl
            rw [this]
            omega
          have hlen:((bytesS z).take (24+t)).length≤32:=by rw [List.length_take,bytesS_length]; omega
          have HX:=Lib.hid (And.intro hx (And.intro hxe hlen))
          have pc:wr.cell? ⟨w.heap.size,0,none⟩=some (.int .u64 (z0:Int)):=BZ.cell 0
          have hsl:s≤56:=by omega
          have HT:=Lib.hid hs
          have lz:=BZ.lt
          rw [hs1]
          clear hx hxe hlen hs
          go_wp2_with (at_builtin
                       refine wpList_append_bytes rfl (.tmp 14) (.tmp 21) rfl (w.heap.size+1) _ ((bytesS z).take (24+t)) rfl (hown.alloc _) (some ⟨wr.heap.size,0,none⟩) [x] 1 rfl (Src.of_blk (Blk.eq_ (Blk.new wr 5 _) (by rw [HX.out.2.1]; rfl))) (by have:=HX.out.2.2; simp only [List.length_singleton]; omega) (by simp <;> omega) ?_
                       intro v3 w3 hv3 hg3
                       have hb3:=below_own (hb.alloc (by omega) _) (hown.alloc _) hg3 (Nat.le_succ _) (by simp <;> omega)
                       have BZ3:=Blk.grown (BZ.alloc _) hg3 (λe=>by have:=(World.ownsRow.lt hown _ e.symm).1; omega)
                       rw [HX.out.1,take_bytes z (24+t) (by omega)] at hv3)
          go_roundw
          case rel=>exact ⟨t+1,by omega,by congr 1; omega,hb3,BZ3,hv3⟩
          case measure=>simp [RowKit.intOf]; omega
        · obtain rfl:t=8:=by omega
          go_wp2
          refine ⟨⟨hb,BZ,Lib.hid (.inr (.inr (.inr (.inr (⟨rfl,hown⟩)))))⟩,by decide⟩
    · clear HI
      rw [List.take_of_length_le (by rw [bytesS_length]; exact Nat.le_refl _)] at hown
      obtain ⟨g,n,cap,rfl,hn,_,hl⟩:=hown.form' (by rw [bytesS_length]; omega)
      have hn32:n=32:=by rw [hn.out,bytesS_length]
      subst hn32
      go_wp2
      go_ret
      exact ⟨g,cap,rfl,hown,hl,hb⟩
end
end
section
namespace Cu
open Go.RowKit Sy
set_option maxRecDepth 100000
set_option maxHeartbeats 4000000
def modcs:Array Value:=#[.int .u64 18446744069414583343,.int .u64 18446744073709551615,.int .u64 18446744073709551615,.int .u64 18446744073709551615,.int .u64 4294968273,.int .u64 0,.int .u64 0]
def mod0:Array Value:=#[.int .u64 0,.int .u64 0,.int .u64 0,.int .u64 0,.int .u64 0,.int .u64 0,.int .u64 0]
theorem refmul_c (w:World) (a b:Fp):Calls Tryz.prog 305 #[.agg modcs,fv a.val,fv b.val] w (Gets w (fv (a*b).val)):=mulR_any w a.val b.val (lt4 a) (lt4 b)
theorem refadd_c (w:World) (a b:Fp):Calls Tryz.prog 318 #[.agg modcs,fv a.val,fv b.val] w (Gets w (fv (a+b).val)):=addR_any w a.val b.val (lt4 a) (lt4 b)
theorem eql_num (w:World) (F:Slots) (o:Oper) (x y:Operand) (n m:Nat) {yt:TypeId} (ho:o.op=.binOp .eql 373 x y yt) (hx:evF F x=fv n) (hy:evF F y=fv m) (hn:n<K4) (hm:m<K4):(execOp (evF F) o).run Tryz.prog w=.ok (.value (.bool (decide (n=m)))) w:=by
 have h1:=Nm.run_eqGuard_fv .eql x y n m w
 have h2:=Nm.run_eql_fv w n m hn hm
 unfold execOp
 simp only [ho,hx,hy,Sem.run_bind,h1,h2,Result.andThen_ok,Sem.run_pure]
theorem small_c (w:World) (k:Nat) (hk:k<18446744073709551616):Calls Tryz.prog 307 #[.int .u64 (k:Int)] w (Gets w (fv k)):=by
 rw [fv_small k hk]
 refine Sy.enter (args:=[.int .u64 (k:Int)]) Tryz.func307 rfl kL ?_
 refine sC ?_
 refine sM 373 (fcs 0) (λg0=>?_)
 refine sA ?_
 refine sP (.int .u64 (k:Int))<|sP (.agg #[.int .u64 (k:Int),.int .u64 0,.int .u64 0,.int .u64 0])<|sW 0 g0 373 (fcs 0) #[.int .u64 (k:Int),.int .u64 0,.int .u64 0,.int .u64 0] (wS 0 373 #[.int .u64 (k:Int),.int .u64 0,.int .u64 0,.int .u64 0] rfl) ?_
 refine sG<|Sy.ret ?_
 exact Sy.ret1 rfl (.inl (Res.cell (ty':=373) g0 0 #[.int .u64 (k:Int),.int .u64 0,.int .u64 0,.int .u64 0] _ kR kR Tryz.underlying373 rfl kR kR))
theorem mulR_c (w:World) (a b:Fp):Calls Tryz.prog 279 #[fv a.val,fv b.val] w (Gets w (fv (a*b).val)):=by
 refine Sy.enter (args:=[fv a.val,fv b.val]) Tryz.func279 rfl kL ?_
 refine sC ?_
 refine sM 373 (fcs a.val) (λg0=>?_)
 refine sM 373 (fcs b.val) (λg1=>?_)
 refine sM 373 (fcs 0) (λg2=>?_)
 refine sH (λj=>j == 4) ?_
 refine sD 0 rfl (.agg modcs) (qF 277 #[] (refP_any))<|sD 1 rfl (fv a.val) (qL 0 g0 0 4 373 373 (fcs a.val) rfl Tryz.underlying373)<|sD 2 rfl (fv b.val) (qL 1 g1 0 4 373 373 (fcs b.val) rfl Tryz.underlying373) ?_
 obtain ⟨z1,hz1⟩:∃ z:Fp,z=a*b:=⟨_,rfl⟩
 refine sD 3 rfl (fv z1.val) (qF 305 #[.agg modcs,fv a.val,fv b.val] (λw=>by rw [hz1]; exact refmul_c w a b))<|sX 4 rfl 2 g2 373 (fcs 0) (fcs z1.val) (wS 0 373 (fcs z1.val) rfl) ?_
 refine sI ?_
 refine Sy.ret ?_
 rw [show (fv (a*b).val:Value)=fv z1.val from by rw [hz1]]
 exact rC (v:=fv z1.val) 373 g2 2 (fcs z1.val) rfl Tryz.underlying373
theorem addR_c (w:World) (a b:Fp):Calls Tryz.prog 306 #[fv a.val,fv b.val] w (Gets w (fv (a+b).val)):=by
 refine Sy.enter (args:=[fv a.val,fv b.val]) Tryz.func306 rfl kL ?_
 refine sC ?_
 refine sM 373 (fcs a.val) (λg0=>?_)
 refine sM 373 (fcs b.val) (λg1=>?_)
 refine sM 373 (fcs 0) (λg2=>?_)
 refine sH (λj=>j == 4) ?_
 refine sD 0 rfl (.agg modcs) (qF 277 #[] (refP_any))<|sD 1 rfl (fv a.val) (qL 0 g0 0 4 373 373 (fcs a.val) rfl Tryz.underlying373)<|sD 2 rfl (fv b.val) (qL 1 g1 0 4 373 373 (fcs b.val) rfl Tryz.underlying373) ?_
 obtain ⟨z1,hz1⟩:∃ z:Fp,z=a+b:=⟨_,rfl⟩
 refine sD 3 rfl (fv z1.val) (qF 318 #[.agg modcs,fv a.val,fv b.val] (λw=>by rw [hz1]; exact refadd_c w a b))<|sX 4 rfl 2 g2 373 (fcs 0) (fcs z1.val) (wS 0 373 (fcs z1.val) rfl) ?_
 refine sI ?_
 refine Sy.ret ?_
 rw [show (fv (a+b).val:Value)=fv z1.val from by rw [hz1]]
 exact rC (v:=fv z1.val) 373 g2 2 (fcs z1.val) rfl Tryz.underlying373
theorem zeroR_c (w:World)  : Calls Tryz.prog 276 #[] w (Gets w (pv 0 0 true)):=by
 refine Sy.enter (args:=[]) Tryz.func276 rfl kL ?_
 refine sC ?_
 refine sM 73 (pcs 0 0 false) (λg0=>?_)
 refine sA ?_
 refine sP (pv 0 0 true)<|sW 0 g0 73 (pcs 0 0 false) (pcs 0 0 true) (wS 0 73 (pcs 0 0 true) rfl) ?_
 refine sG<|Sy.ret ?_
 exact rC (v:=pv 0 0 true) 73 g0 0 (pcs 0 0 true) rfl Tryz.underlying73
theorem cubeR_c (w:World) (x:Fp):Calls Tryz.prog 280 #[fv x.val] w (Gets w (fv (x*x*x+7).val)):=by
 refine Sy.enter (args:=[fv x.val]) Tryz.func280 rfl kL ?_
 refine sC ?_
 refine sM 373 (fcs x.val) (λg0=>?_)
 refine sM 373 (fcs 0) (λg1=>?_)
 refine sH (λj=>j == 7) ?_
 refine sD 0 rfl (fv x.val) (qL 0 g0 0 4 373 373 (fcs x.val) rfl Tryz.underlying373)<|sD 1 rfl (fv x.val) (qL 0 g0 0 4 373 373 (fcs x.val) rfl Tryz.underlying373)<|sD 2 rfl (fv x.val) (qL 0 g0 0 4 373 373 (fcs x.val) rfl Tryz.underlying373) ?_
 obtain ⟨z1,hz1⟩:∃ z:Fp,z=x*x:=⟨_,rfl⟩
 refine sD 3 rfl (fv z1.val) (qF 279 #[fv x.val,fv x.val] (λw=>by rw [hz1]; exact mulR_c w x x)) ?_
 obtain ⟨z2,hz2⟩:∃ z:Fp,z=x*z1:=⟨_,rfl⟩
 refine sD 4 rfl (fv z2.val) (qF 279 #[fv x.val,fv z1.val] (λw=>by rw [hz2]; exact mulR_c w x z1)) ?_
 obtain ⟨z3,hz3⟩:∃ z:Fp,z=(7:Fp):=⟨_,rfl⟩
 refine sD 5 rfl (fv z3.val) (qF 307 #[.int .u64 7] (λw=>by rw [hz3]; exact small_c w 7 (by decide))) ?_
 obtain ⟨z4,hz4⟩:∃ z:Fp,z=z2+z3:=⟨_,rfl⟩
 refine sD 6 rfl (fv z4.val) (qF 306 #[fv z2.val,fv z3.val] (λw=>by rw [hz4]; exact addR_c w z2 z3))<|sX 7 rfl 1 g1 373 (fcs 0) (fcs z4.val) (wS 0 373 (fcs z4.val) rfl) ?_
 refine sI ?_
 refine Sy.ret ?_
 rw [show (fv (x*x*x+7).val:Value)=fv z4.val from by
  refine congrArg (λt:Fp=>fv t.val) ?_
  grobner]
 exact rC (v:=fv z4.val) 373 g1 1 (fcs z4.val) rfl Tryz.underlying373
theorem rightR_b (w:World) (x y:Nat) (i:Bool) (hx:x<K4) (hy:y<K4):Calls Tryz.prog 241 #[pv x y i] w (Gets w (.bool (rightB x y i))):=by
 refine Sy.enter (args:=[pv x y i]) Tryz.func241 rfl kL ?_
 refine sC ?_
 refine sM 73 (pcs x y i) (λg0=>?_)
 refine sP (.bool false) ?_
 refine sG<|Sy.seq<|sC ?_
 refine sP (.pointer (some ⟨g0,8,none⟩))<|sS (.bool i) (qC 0 g0 8 73 4 (pcs x y i) rfl Tryz.underlying4) ?_
 refine sG ?_
 cases i
 ·refine sU<|Sy.skip<|sB ?_
  refine sP (.pointer (some ⟨g0,0,none⟩))<|sS (fv x) (qL 0 g0 0 4 73 71 (pcs x y false) rfl Tryz.underlying71)<|sS (fv x) (qF 240 #[fv x] (λw=>refOf_any w x lK)) ?_
  refine sM 373 (fcs 0) (λg1=>?_)
  refine sW 1 g1 373 (fcs 0) (fcs x) (wS 0 373 (fcs x) rfl) ?_
  refine sA ?_
  refine sP (.pointer (some ⟨g0,4,none⟩))<|sS (fv y) (qL 0 g0 4 4 73 71 (pcs x y false) rfl Tryz.underlying71)<|sS (fv y) (qF 240 #[fv y] (λw=>refOf_any w y lK)) ?_
  refine sM 373 (fcs 0) (λg2=>?_)
  refine sW 2 g2 373 (fcs 0) (fcs y) (wS 0 373 (fcs y) rfl) ?_
  refine sA ?_
  refine sS (.agg modcs) (qF 277 #[] (refP_any)) ?_
  refine sM 397 mod0 (λg3=>?_)
  refine sW 3 g3 397 mod0 modcs (wS 0 397 modcs rfl) ?_
  refine sA ?_
  refine sS (.agg modcs) (qL 3 g3 0 7 397 397 modcs rfl Tryz.underlying397)<|sS (fv x) (qL 1 g1 0 4 373 373 (fcs x) rfl Tryz.underlying373) ?_
  obtain ⟨b1,hb1⟩:∃ z:Bool,z=decide (x<pM):=⟨_,rfl⟩
  refine sS (.bool b1) (qF 278 #[.agg modcs,fv x] (λw=>by rw [hb1]; exact rightR_any w x lK))<|sP (.bool b1) ?_
  refine sA ?_
  refine sS (.agg modcs) (qL 3 g3 0 7 397 397 modcs rfl Tryz.underlying397)<|sS (fv y) (qL 2 g2 0 4 373 373 (fcs y) rfl Tryz.underlying373) ?_
  obtain ⟨b2,hb2⟩:∃ z:Bool,z=decide (y<pM):=⟨_,rfl⟩
  refine sS (.bool b2) (qF 278 #[.agg modcs,fv y] (λw=>by rw [hb2]; exact rightR_any w y lK))<|sP (.bool b2) ?_
  refine sH (λj=>false) ?_
  refine sZ 0 rfl (.bool b1)<|sZ 1 rfl (.bool b1) ?_
  cases b1
  ·refine sQ 2 rfl<|sZ 3 rfl (.bool false)<|sZ 4 rfl (.bool false)<|sQ 5 rfl<|sQ 6 rfl<|sQ 7 rfl<|sQ 8 rfl<|sQ 9 rfl ?_
   refine sQ 10 rfl<|sZ 11 rfl (.bool false)<|sZ 12 rfl (.bool false) ?_
   refine sI ?_
   refine Sy.ret ?_
   rw [show (.bool (rightB x y false):Value)=.bool false from by rw [rb_x (of_decide_eq_false hb1.symm)]]
   exact rV (.bool false) rfl
  ·obtain ⟨ux,rfl⟩:∃ u:Fp,x=u.val:=⟨⟨x,of_decide_eq_true hb1.symm⟩,rfl⟩
   refine sZ 2 rfl (.bool b2)<|sZ 3 rfl (.bool b2)<|sZ 4 rfl (.bool b2) ?_
   cases b2
   ·refine sQ 5 rfl<|sQ 6 rfl<|sQ 7 rfl<|sQ 8 rfl<|sQ 9 rfl<|sQ 10 rfl<|sZ 11 rfl (.bool false)<|sZ 12 rfl (.bool false) ?_
    refine sI ?_
    refine Sy.ret ?_
    rw [show (.bool (rightB ux.val y false):Value)=.bool false from by rw [rb_y (of_decide_eq_false hb2.symm)]]
    exact rV (.bool false) rfl
   ·obtain ⟨uy,rfl⟩:∃ u:Fp,y=u.val:=⟨⟨y,of_decide_eq_true hb2.symm⟩,rfl⟩
    refine sD 5 rfl (fv uy.val) (qL 2 g2 0 4 373 373 (fcs uy.val) rfl Tryz.underlying373)<|sD 6 rfl (fv uy.val) (qL 2 g2 0 4 373 373 (fcs uy.val) rfl Tryz.underlying373) ?_
    obtain ⟨z1,hz1⟩:∃ z:Fp,z=uy*uy:=⟨_,rfl⟩
    refine sD 7 rfl (fv z1.val) (qF 279 #[fv uy.val,fv uy.val] (λw=>by rw [hz1]; exact mulR_c w uy uy))<|sD 8 rfl (fv ux.val) (qL 1 g1 0 4 373 373 (fcs ux.val) rfl Tryz.underlying373) ?_
    obtain ⟨z2,hz2⟩:∃ z:Fp,z=ux*ux*ux+7:=⟨_,rfl⟩
    refine sD 9 rfl (fv z2.val) (qF 280 #[fv ux.val] (λw=>by rw [hz2]; exact cubeR_c w ux)) ?_
    obtain ⟨b3,hb3⟩:∃ z:Bool,z=decide (z1.val=z2.val):=⟨_,rfl⟩
    refine sD 10 rfl (.bool b3) (Quiet.pure (λw=>by rw [hb3]; exact eql_num w _ _ _ _ _ _ rfl rfl rfl lK lK))<|sZ 11 rfl (.bool b3)<|sZ 12 rfl (.bool b3) ?_
    refine sI ?_
    refine Sy.ret ?_
    rw [show (.bool (rightB ux.val uy.val false):Value)=.bool b3 from by rw [hb3,rb_xy]; simp only [hz2,hz1]]
    exact rV (.bool b3) rfl
 ·refine sT<|Sy.seq ?_
  refine Sy.regionD (λj=>false) kR ?_
  refine sD 0 rfl (pv x y true) (qL 0 g0 0 9 73 73 (pcs x y true) rfl Tryz.underlying73)<|sD 1 rfl (pv 0 0 true) (qF 276 #[] (zeroR_c)) ?_
  obtain ⟨b4,hb4⟩:∃ z:Bool,z=sameB x y true 0 0 true:=⟨_,rfl⟩
  refine sD 2 rfl (.bool b4) (Quiet.pure (λw=>by rw [hb4]; exact eql_pt w _ _ _ _ _ _ _ _ _ _ rfl rfl rfl lK lK lK lK))<|sZ 3 rfl (.bool b4) ?_
  refine sI ?_
  refine Sy.ret<|Sy.then_ret ?_
  rw [show (.bool (rightB x y true):Value)=.bool b4 from by rw [hb4,rightB_inf]]
  exact rV (.bool b4) rfl
theorem taken_c (w:World) (x y:Nat) (i:Bool) (hx:x<K4) (hy:y<K4):Calls Tryz.prog 281 #[pv x y i] w (Gets w (ptv (dec x y i))):=by
 refine Sy.enter (args:=[pv x y i]) Tryz.func281 rfl kL ?_
 refine sC ?_
 refine sM 73 (pcs x y i) (λg0=>?_)
 refine sM 73 (pcs 0 0 false) (λg1=>?_)
 refine sA ?_
 refine sS (pv x y i) (qL 0 g0 0 9 73 73 (pcs x y i) rfl Tryz.underlying73) ?_
 obtain ⟨b1,hb1⟩:∃ z:Bool,z=rightB x y i:=⟨_,rfl⟩
 refine sS (.bool b1) (qF 241 #[pv x y i] (by rw [hb1]; exact λw=>rightR_b w x y i lK lK))<|sP (.bool b1) ?_
 refine sG<|Sy.seq<|sC ?_
 refine sP (.bool b1) ?_
 cases b1
 ·refine sP (.bool true) ?_
  refine sG<|sT<|sC ?_
  refine sS (pv 0 0 true) (qF 276 #[] (zeroR_c))<|sW 1 g1 73 (pcs 0 0 false) (pcs 0 0 true) (wS 0 73 (pcs 0 0 true) rfl) ?_
  refine sG<|Sy.ret<|Sy.then_ret ?_
  rw [show (ptv (dec x y i):Value)=pv 0 0 true from ptv_wrong x y i hb1.symm]
  exact rC (v:=pv 0 0 true) 73 g1 1 (pcs 0 0 true) rfl Tryz.underlying73
 ·refine sP (.bool false) ?_
  refine sG<|sU<|Sy.skip<|sB ?_
  refine sS (pv x y i) (qL 0 g0 0 9 73 73 (pcs x y i) rfl Tryz.underlying73)<|sW 1 g1 73 (pcs 0 0 false) (pcs x y i) (wS 0 73 (pcs x y i) rfl) ?_
  refine sG<|Sy.ret ?_
  rw [show (ptv (dec x y i):Value)=pv x y i from ptv_right x y i hb1.symm]
  exact rC (v:=pv x y i) 73 g1 1 (pcs x y i) rfl Tryz.underlying73
end Cu
end
section
namespace Cu
open Go.RowKit Sy
end Cu
end
section
section
open Go.RowKit Go.Lib
set_option maxHeartbeats 8000000 in
set_option maxRecDepth 100000 in
theorem bytes_any (w:World) (x:Nat) (hx:x<(2^256)):Calls Tryz.prog 263 #[fv x] w λe w'=>e=.returned (.agg ((bytesS (x%pM)).map bv).toArray)∧Below w.heap.size w w':=by
 obtain ⟨z,hz⟩:∃ z,z=x%pM:=⟨_,rfl⟩
 have hzl:z<(2^256):=by rw [hz]; exact mod_lt x
 have cn:∀ w,Calls Tryz.prog 266 #[fv x] w λe w'=>e=.returned (fv z)∧Below w.heap.size w w':=by
  intro w; rw [hz]; exact norm_any w x hx
 rw [← hz]
 obtain ⟨z0,z1,z2,z3,a0,a1,a2,a3,ez,fz⟩:=words_of z hzl
 have HZ:=Lib.hid (And.intro a0 (And.intro a1 (And.intro a2 (And.intro a3 ez))))
 have FZ:=Lib.hid fz
 obtain ⟨x0,x1,x2,x3,fx⟩:=words_fv x hx
 rw [fx] at cn ⊢
 clear fx fz hz hzl a0 a1 a2 a3 ez hx
 have hZB:Hid ((List.replicate 32 (Value.int .u8 0)).toArray=((partB z 0).map bv).toArray):=Lib.hid (by simp [partB,lowB,bv])
 go_enter Tryz.func263,Tryz.ntmps263
 go_wp2_with fail
 refine (cn _).mono ?_
 rintro e w1 ⟨rfl,hb⟩
 have BR:Blk w1 (w.heap.size+1) 27 _:=Gr.blk hb (Blk.alloc (blk_new2 w _ _ _) _)
 have BB:Blk w1 (w.heap.size+2) 27 ((partB z 0).map bv).toArray:=Blk.eq_ (Gr.blk hb (blk_new3 w _ _ _ _)) hZB.out
 have hB:=Below.gr (below_alloc3 w _ _ _) hb
 have sz:=BB.lt
 clear hb cn
 go_wp2_with (first | ((with_reducible refine here_store ?_); refine wpList_store_blk rfl _ _ _ rfl (w1.heap.size) (fcs (z)) rfl rfl _ _ (Blk.new w1 _ _) (by kernel_rfl) (by rfl) (fcs_one _) ?_; intro w2 hL2 hB2 hK2; have CR:=hK2 _ (by omega) _ _ (BR.alloc _); have CB:=hK2 _ (by omega) _ _ (BB.alloc _); have hC:=(hB.alloc (by omega) _).trans (hB2 _ (by omega))))
 go_loopw [8] (λi wr=>∃ k:Nat,k≤32∧i=.int .i64 (k:Int)∧Below w.heap.size w wr∧Blk wr (w.heap.size+2) 27 ((partB z k).map bv).toArray∧Blk wr w1.heap.size 71 #[.int .u64 (z0:Int),.int .u64 (z1:Int),.int .u64 (z2:Int),.int .u64 (z3:Int)]∧Blk wr (w.heap.size+1) 27 (List.replicate 32 (Value.int .u8 0)).toArray) (λi _=>32 - (RowKit.intOf i).toNat)
 case atStart=>exact ⟨0,by omega,rfl,hC,CB,hL2.eq_ (fcs_words FZ.out),CR⟩
 case round =>
  obtain ⟨k,hk,rfl,hb,hP,hN,hR⟩:=hrel
  by_cases hlt:k<32
  ·have ce:∀ j,j<32→∃ v,wr.cell? ⟨w.heap.size+1+1,j,none⟩=some v:=λj hj=>⟨_,(hP.cell j).trans (Array.getElem?_eq_getElem (by simp [partB_length z k hk]; exact hj))⟩
   obtain ⟨v,hv⟩:=ce (31 - k) (by omega)
   have ff:=hP.frozen (31 - k)
   have q0:wr.cell? ⟨w1.heap.size,0,none⟩=some (.int .u64 (z0:Int)):=hN.cell 0
   have q1:wr.cell? ⟨w1.heap.size,1,none⟩=some (.int .u64 (z1:Int)):=hN.cell 1
   have q2:wr.cell? ⟨w1.heap.size,2,none⟩=some (.int .u64 (z2:Int)):=hN.cell 2
   have q3:wr.cell? ⟨w1.heap.size,3,none⟩=some (.int .u64 (z3:Int)):=hN.cell 3
   have hPn:=hP.set_ (31 - k) (bv (byteN z k))
   rw [partB_set z k hlt] at hPn
   have HP:=Lib.hid hPn
   clear hPn ce
   have HR:=Lib.hid (And.intro hb (And.intro hN hR))
   clear hb hP hN hR hk
   have hsz:w.heap.size+2<w1.heap.size:=sz
   rcases (show k=0∨k=1∨k=2∨k=3∨k=4∨k=5∨k=6∨k=7∨k=8∨k=9∨k=10∨k=11∨k=12∨k=13∨k=14∨k=15∨k=16∨k=17∨k=18∨k=19∨k=20∨k=21∨k=22∨k=23∨k=24∨k=25∨k=26∨k=27∨k=28∨k=29∨k=30∨k=31 by omega) with rfl | rfl | rfl | rfl | rfl | rfl | rfl | rfl | rfl | rfl | rfl | rfl | rfl | rfl | rfl | rfl | rfl | rfl | rfl | rfl | rfl | rfl | rfl | rfl | rfl | rfl | rfl | rfl | rfl | rfl | rfl | rfl
   all_goals
    go_wp2
    obtain ⟨a0,a1,a2,a3,ez⟩:=HZ.out
    refine ⟨⟨_,by decide,rfl,HR.out.1.setCell (by show w.heap.size≤w.heap.size+1+1; omega) _,HP.out.val (by rw [bv_byteN]; congr 1; omega),HR.out.2.1.far (by show w1.heap.size≠w.heap.size+1+1; omega) _,HR.out.2.2.far (by show w.heap.size+1≠w.heap.size+1+1; omega) _⟩,by simp [RowKit.intOf]⟩
  ·have p1:¬ (k:Int)<32:=by omega
   obtain rfl:k=32:=by omega
   rw [partB_full] at hP
   have HI:=Lib.hid (bytesS_length z)
   have HL:=Lib.hid hP
   have HR:=Lib.hid hR
   clear hN hP hR
   go_wp2_with (first | ((with_reducible refine here_load (d:=some 24) ?_); refine wpList_load_blk rfl _ _ rfl (w.heap.size+2) rfl _ _ _ HL.out Tryz.underlying27 rfl (b32_info HI.out) ?_) | ((with_reducible refine here_store ?_); refine wpList_store_blk rfl _ _ _ rfl (w.heap.size+1) ((bytesS z).map bv).toArray rfl rfl _ _ HR.out (b32_info HI.out) (by simp [HI.out]) (b32_one _) ?_; intro w9 hL9 hB9 hK9))
   exact bodyPost_ret (results_cell_row rfl _ _ (w.heap.size+1) _ _ (0,0) _ rfl hL9 Tryz.underlying27 rfl (b32_info HI.out)) rfl ⟨rfl,hb.trans (hB9 _ (by omega))⟩
end
end
section
section
open Go.RowKit Go.Lib
end
end
section
section
open Go.RowKit Go.Lib
end
end
section
section
open Go.RowKit Go.Lib
end
end
section
namespace Cu
open Go.RowKit Sy
set_option maxRecDepth 100000
set_option maxHeartbeats 4000000
noncomputable def infU8:TypeInfo:=(Tryz.prog.info? 5).getD default
theorem info_u8:Tryz.prog.info? 5=some infU8:=by kernel_rfl
end Cu
end
section
namespace Cu
open Go.RowKit Sy
def encS:Pt→List UInt8
 | none=>List.replicate 33 0
 | some (x,y)=>(if y.val%2=1 then 3 else 2)::bytesS x.val
theorem encS_length:∀ P,(encS P).length=33
 | none=>rfl
 | some (x,y)=>by simp [encS,bytesS_length]
theorem list32 (m:List UInt8) (h:m.length=32):∃ a0 a1 a2 a3 a4 a5 a6 a7 a8 a9 a10 a11 a12 a13 a14 a15 a16 a17 a18 a19 a20 a21 a22 a23 a24 a25 a26 a27 a28 a29 a30 a31:UInt8,m=[a0,a1,a2,a3,a4,a5,a6,a7,a8,a9,a10,a11,a12,a13,a14,a15,a16,a17,a18,a19,a20,a21,a22,a23,a24,a25,a26,a27,a28,a29,a30,a31]:=by
 match m,h with
 | [a0,a1,a2,a3,a4,a5,a6,a7,a8,a9,a10,a11,a12,a13,a14,a15,a16,a17,a18,a19,a20,a21,a22,a23,a24,a25,a26,a27,a28,a29,a30,a31],_=>exact ⟨a0,a1,a2,a3,a4,a5,a6,a7,a8,a9,a10,a11,a12,a13,a14,a15,a16,a17,a18,a19,a20,a21,a22,a23,a24,a25,a26,a27,a28,a29,a30,a31,  rfl⟩
end Cu
end
end Go.Proofs.YtgggdbjakcpanaaGreatDoor
