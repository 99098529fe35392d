/-
  Texts of ours, put together: FePow, FeRuns, FeEq, FeSqrt, FeInv, Crv, NumEq, Pnt, PLift, SymB, Zz, SymZ, ZzK, CrvA, CrvB, EcJ, CrvJ, CrvK, SymD, CrvL, CrvM, RefNum, RefMinus, SymC.
-/
import Derived.Test.YtlooclodlpcglaaGreatDoorBR1
set_option linter.unusedVariables false
set_option linter.unusedSimpArgs false
namespace Go.Proofs.YtlooclodlpcglaaGreatDoor
section
section
open Go.RowKit Go.Lib
def sqI (x:Nat):Nat→Nat
 | 0=>x
 | n+1=>mulP (sqI x n) (sqI x n)
theorem sqI_lt (x n:Nat) (hx:x<(2^256)):sqI x n<(2^256):=by
 cases n with
 | zero=>exact hx
 | succ n=>exact mulP_lt _ _
theorem mulP_mod (x y:Nat):mulP x y%pM=x*y%pM:=by unfold mulP; rw [Nat.mod_mod]
theorem mul_pow {a x y i j:Nat} (hx:x%pM=a ^ i%pM) (hy:y%pM=a ^ j%pM):mulP x y%pM=a ^ (i+j)%pM:=by
 rw [mulP_mod,Nat.mul_mod,hx,hy, ← Nat.mul_mod, ← Nat.pow_add]
theorem sqI_pow {a x i:Nat} (hx:x%pM=a ^ i%pM):∀ n,sqI x n%pM=a ^ (i*2 ^ n)%pM
 | 0=>by rw [Nat.pow_zero,Nat.mul_one]; exact hx
 | n+1=>by
  rw [sqI,mul_pow (sqI_pow hx n) (sqI_pow hx n),Nat.pow_succ]
  congr 2
  rw [← Nat.mul_assoc,Nat.mul_two]
def jn (x d y:Nat):Nat:=mulP (sqI x d) y
theorem jn_lt (x d y:Nat):jn x d y<(2^256):=mulP_lt _ _
theorem jn_pow {a x y i j d:Nat} (hx:x%pM=a ^ i%pM) (hy:y%pM=a ^ j%pM):jn x d y%pM=a ^ (i*2 ^ d+j)%pM:=mul_pow (sqI_pow hx d) hy
set_option maxHeartbeats 1000000 in
set_option maxRecDepth 100000 in
theorem square_any (w:World) (x d:Nat) (hx:x<(2^256)) (hd:d≤1000):Calls Tryz.prog 251 #[fv x,.int .i64 (d:Int)] w λe w'=>e=.returned (fv (sqI x d))∧Below w.heap.size w w':=by
 obtain ⟨x0,x1,x2,x3,fx⟩:=words_fv x hx
 have FX:=Lib.hid fx
 have HX:=Lib.hid hx
 have HD:=Lib.hid hd
 have hd':(d:Int)≤1000:=by omega
 rw [fx]
 clear fx hx hd
 go_enter Tryz.func251,Tryz.ntmps251
 go_wp2_with fail
 go_loopw [6] (λi wr=>∃ k v:Nat,k≤d∧i=.int .i64 (k:Int)∧Hid (v=sqI x k)∧Below w.heap.size w wr∧Blk wr w.heap.size 50 (fcs v)∧Blk wr (w.heap.size+1) 50 #[.int .u64 0,.int .u64 0,.int .u64 0,.int .u64 0]) (λi _=>d - (intOf i).toNat)
 case atStart=>exact ⟨0,x,Nat.zero_le _,rfl,Lib.hid rfl,below_alloc2 w _ _,Blk.eq_ ((Blk.new w _ _).alloc _) (fcs_words FX.out).symm,blk_new2 w _ _ _⟩
 case round =>
  obtain ⟨k,v,hk,rfl,HV,hb,hB,hR⟩:=hrel
  have HL:Hid (v<(2^256)):=Lib.hid (by rw [HV.out]; exact sqI_lt x k HX.out)
  by_cases hlt:k<d
  ·have p1:(k:Int)<(d:Int):=by omega
   go_wp2_with (first | ((with_reducible refine here_load (d:=some 8) ?_); refine wpList_load_fv rfl _ _ rfl (w.heap.size) rfl (v) _ _ _ (hB) (fv_fcs v) Tryz.underlying50 rfl (by kernel_rfl) ?_) | ((with_reducible refine here_load (d:=some 9) ?_); refine wpList_load_fv rfl _ _ rfl (w.heap.size) rfl (v) _ _ _ (hB) (fv_fcs v) Tryz.underlying50 rfl (by kernel_rfl) ?_))
   refine (mulF_any _ v v HL.out HL.out).mono ?_
   rintro e w1 ⟨rfl,hb1⟩
   obtain ⟨z,hz⟩:∃ z,z=mulP v v:=⟨_,rfl⟩
   have HZ:=Lib.hid hz
   rw [← hz]
   clear hz
   have hB1:=Gr.blk hb1 hB
   have hR1:=Gr.blk hb1 hR
   have hbb:=Below.gr hb hb1
   clear hb hb1 hB hR
   go_wp2_with (first | ((with_reducible refine here_store ?_); refine wpList_store_blk rfl _ _ _ rfl (w.heap.size) (fcs (z)) rfl rfl _ _ (hB1) (by kernel_rfl) (by rfl) (fcs_one _) ?_; intro w2 hL2 hB2 hK2; have hR2:=hK2 _ (by omega) _ _ hR1))
   go_roundw
   case rel=>exact ⟨k+1,z,by omega,by simp <;> rfl,Lib.hid (by rw [HZ.out,HV.out]; rfl),hbb.trans (hB2 _ (by omega)),hL2,hR2⟩
   case measure=>simp [intOf]; omega
  ·have p1:¬ (k:Int)<(d:Int):=by omega
   obtain rfl:k=d:=by omega
   go_wp2_with (first | ((with_reducible refine here_load (d:=some 12) ?_); refine wpList_load_fv rfl _ _ rfl (w.heap.size) rfl (v) _ _ _ (hB) (fv_fcs v) Tryz.underlying50 rfl (by kernel_rfl) ?_) | ((with_reducible refine here_store ?_); refine wpList_store_blk rfl _ _ _ rfl (w.heap.size+1) (fcs (v)) rfl rfl _ _ (hR) (by kernel_rfl) (by rfl) (fcs_one _) ?_; intro w2 hL2 hB2 hK2))
   exact bodyPost_ret (results_cell_row rfl _ _ (w.heap.size+1) _ _ (0,0) _ rfl hL2 Tryz.underlying50 rfl (by kernel_rfl)) rfl ⟨by rw [HV.out]; rfl,hb.trans (hB2 _ (by omega))⟩
end
end
section
section
open Go.RowKit Go.Lib
theorem res_three_cells {P:Program} {fn:Func} {p q r:Tmp} {ty:TypeId} (h:fn.results=#[.cell p ty,.cell q ty,.cell r ty]) (tmps:Array Value) (w:World) (g g2 g3:Nat) (t t2 t3:TypeId) (cs cs2 cs3:Array Value) (d:TypeDesc)
  (hp:tmps.getD p undef=.pointer (some ⟨g,0,none⟩)) (hg:Blk w g t cs) (hq:tmps.getD q undef=.pointer (some ⟨g2,0,none⟩)) (hg2:Blk w g2 t2 cs2) (hr:tmps.getD r undef=.pointer (some ⟨g3,0,none⟩)) (hg3:Blk w g3 t3 cs3)
  (hu:P.underlying ty=some d) (hd:(match d with | .struct _ | .array _ _=>true | _=>false)=true) (hi:(P.info? ty).map (·.size)=some cs.size) (hi2:(P.info? ty).map (·.size)=some cs2.size) (hi3:(P.info? ty).map (·.size)=some cs3.size) :
  (results fn tmps).run P w=.ok (.tuple #[.agg cs,.agg cs2,.agg cs3]) w:=by
 have hp':tmps[p]?.getD undef=.pointer (some ⟨g,0,none⟩):=by simpa using hp
 have hq':tmps[q]?.getD undef=.pointer (some ⟨g2,0,none⟩):=by simpa using hq
 have hr':tmps[r]?.getD undef=.pointer (some ⟨g3,0,none⟩):=by simpa using hr
 simp [results,h,hp',hq',hr',asAddr,run_loadVar_row w g t ty cs (0,0) d hg hu hd hi,run_loadVar_row w g2 t2 ty cs2 (0,0) d hg2 hu hd hi2,run_loadVar_row w g3 t3 ty cs3 (0,0) d hg3 hu hd hi3,Result.andThen]
set_option maxHeartbeats 1000000 in
set_option maxRecDepth 100000 in
theorem join_any (w:World) (x d y:Nat) (hx:x<(2^256)) (hy:y<(2^256)) (hd:d≤1000):Calls Tryz.prog 246 #[fv x,.int .i64 (d:Int),fv y] w λe w'=>e=.returned (fv (jn x d y))∧Below w.heap.size w w':=by
 obtain ⟨s,hs⟩:∃ s,s=sqI x d:=⟨_,rfl⟩
 obtain ⟨z,hz⟩:∃ z,z=mulP s y:=⟨_,rfl⟩
 have hsl:s<(2^256):=by rw [hs]; exact sqI_lt x d hx
 have HZ:=Lib.hid (And.intro hs (And.intro hz (And.intro hsl (And.intro hx (And.intro hy hd)))))
 rw [show jn x d y=z by rw [hz,hs]; rfl]
 obtain ⟨x0,x1,x2,x3,fx⟩:=words_fv x hx
 obtain ⟨y0,y1,y2,y3,fy⟩:=words_fv y hy
 have FX:=Lib.hid fx
 have FY:=Lib.hid fy
 rw [fx,fy]
 clear fx fy hx hy hs hz hsl hd
 go_enter Tryz.func246,Tryz.ntmps246
 go_wp2
 refine wp_region_G (λj=>j == 5) (by kernel_rfl) ?_
 try simp only [Act.put]
 refine tkw 0 rfl (YieldsG.loadF (by rfl) _ _ rfl (w.heap.size) rfl (x) _ _ (((Blk.new w _ _).alloc _).alloc _) (FX.out) Tryz.underlying50 rfl (by kernel_rfl)) ?_
 try simp only [Act.put,aA,aZ,aS]
 refine tk 1 rfl ?_
 try simp only [Act.put,aA,aZ,aS]
 refine tkw 2 rfl (YieldsG.call (v:=fv s) (by rfl) 251 _ (λw9=>by go_simp; try (first | with_reducible rfl | rfl)) (λw9 h9=>HZ.out.1 ▸ square_any w9 x d HZ.out.2.2.2.1 HZ.out.2.2.2.2.2)) ?_
 try simp only [Act.put,aA,aZ,aS]
 refine tkw 3 rfl (YieldsG.loadF (by rfl) _ _ rfl (w.heap.size+1) rfl (y) _ _ ((blk_new2 w _ _ _).alloc _) (FY.out) Tryz.underlying50 rfl (by kernel_rfl)) ?_
 try simp only [Act.put,aA,aZ,aS]
 refine tkw 4 rfl (YieldsG.call (v:=fv z) (by rfl) 197 _ (λw9=>by go_simp; try (first | with_reducible rfl | rfl)) (λw9 h9=>HZ.out.2.1 ▸ mulF_any w9 s y HZ.out.2.2.1 HZ.out.2.2.2.2.1)) ?_
 try simp only [Act.put,aA,aZ,aS]
 refine wpAnyG_store 5 rfl (by kernel_rfl) (by rfl) _ _ _ rfl (w.heap.size+2) (fcs (z)) rfl rfl _ _ (blk_new3 w _ _ _ _) (by kernel_rfl) (by rfl) (fcs_one _) rfl (λw6 h6 w7 hB7 hL7=>?_)
 try simp only [Act.put]
 refine wpAnyG_done (by kernel_rfl) (λw8 h8=>?_)
 have hfin:=Gr.blk h8 hL7
 have hb9:=(Below.gr (below_alloc3 w _ _ _) h6).trans ((hB7 _ (by omega)).trans (Below.mono h8 (by have:=hL7.lt; omega)))
 go_wp2
 exact bodyPost_ret (results_cell_row rfl _ _ (w.heap.size+2) _ _ (0,0) _ rfl hfin Tryz.underlying50 rfl (by kernel_rfl)) rfl ⟨rfl,hb9⟩
theorem join_at (w:World) (x d y z:Nat) (di:Int) (hdi:di=(d:Int)) (hz:z=jn x d y) (hx:x<(2^256)) (hy:y<(2^256)) (hd:d≤1000):Calls Tryz.prog 246 #[fv x,.int .i64 di,fv y] w λe w'=>e=.returned (fv z)∧Below w.heap.size w w':=by
 subst hdi hz
 exact join_any w x d y hx hy hd
theorem pow_self (x:Nat):x%pM=x ^ 1%pM:=by rw [Nat.pow_one]
def rTwo (x:Nat):Nat:=jn x 1 x
theorem rTwo_lt (x:Nat):rTwo x<(2^256):=jn_lt _ _ _
def eTwo:Nat:=1*2 ^ 1+1
theorem rTwo_pow (x:Nat):rTwo x%pM=x ^ eTwo%pM:=by
 unfold rTwo eTwo
 exact jn_pow (pow_self x) (pow_self x)
def rThree (x:Nat):Nat:=jn (rTwo x) 1 x
theorem rThree_lt (x:Nat):rThree x<(2^256):=jn_lt _ _ _
def eThree:Nat:=eTwo*2 ^ 1+1
theorem rThree_pow (x:Nat):rThree x%pM=x ^ eThree%pM:=by
 unfold rThree eThree
 exact jn_pow (rTwo_pow x) (pow_self x)
def rSix (x:Nat):Nat:=jn (rThree x) 3 (rThree x)
theorem rSix_lt (x:Nat):rSix x<(2^256):=jn_lt _ _ _
def eSix:Nat:=eThree*2 ^ 3+eThree
theorem rSix_pow (x:Nat):rSix x%pM=x ^ eSix%pM:=by
 unfold rSix eSix
 exact jn_pow (rThree_pow x) (rThree_pow x)
def rNine (x:Nat):Nat:=jn (rSix x) 3 (rThree x)
theorem rNine_lt (x:Nat):rNine x<(2^256):=jn_lt _ _ _
def eNine:Nat:=eSix*2 ^ 3+eThree
theorem rNine_pow (x:Nat):rNine x%pM=x ^ eNine%pM:=by
 unfold rNine eNine
 exact jn_pow (rSix_pow x) (rThree_pow x)
def rEleven (x:Nat):Nat:=jn (rNine x) 2 (rTwo x)
theorem rEleven_lt (x:Nat):rEleven x<(2^256):=jn_lt _ _ _
def eEleven:Nat:=eNine*2 ^ 2+eTwo
theorem rEleven_pow (x:Nat):rEleven x%pM=x ^ eEleven%pM:=by
 unfold rEleven eEleven
 exact jn_pow (rNine_pow x) (rTwo_pow x)
def rSome (x:Nat):Nat:=jn (rEleven x) 11 (rEleven x)
theorem rSome_lt (x:Nat):rSome x<(2^256):=jn_lt _ _ _
def eSome:Nat:=eEleven*2 ^ 11+eEleven
theorem rSome_pow (x:Nat):rSome x%pM=x ^ eSome%pM:=by
 unfold rSome eSome
 exact jn_pow (rEleven_pow x) (rEleven_pow x)
def rDbl (x:Nat):Nat:=jn (rSome x) 22 (rSome x)
theorem rDbl_lt (x:Nat):rDbl x<(2^256):=jn_lt _ _ _
def eDbl:Nat:=eSome*2 ^ 22+eSome
theorem rDbl_pow (x:Nat):rDbl x%pM=x ^ eDbl%pM:=by
 unfold rDbl eDbl
 exact jn_pow (rSome_pow x) (rSome_pow x)
def rM1 (x:Nat):Nat:=jn (rDbl x) 44 (rDbl x)
theorem rM1_lt (x:Nat):rM1 x<(2^256):=jn_lt _ _ _
def eM1:Nat:=eDbl*2 ^ 44+eDbl
theorem rM1_pow (x:Nat):rM1 x%pM=x ^ eM1%pM:=by
 unfold rM1 eM1
 exact jn_pow (rDbl_pow x) (rDbl_pow x)
def rM2 (x:Nat):Nat:=jn (rM1 x) 88 (rM1 x)
theorem rM2_lt (x:Nat):rM2 x<(2^256):=jn_lt _ _ _
def eM2:Nat:=eM1*2 ^ 88+eM1
theorem rM2_pow (x:Nat):rM2 x%pM=x ^ eM2%pM:=by
 unfold rM2 eM2
 exact jn_pow (rM1_pow x) (rM1_pow x)
def rM3 (x:Nat):Nat:=jn (rM2 x) 44 (rDbl x)
theorem rM3_lt (x:Nat):rM3 x<(2^256):=jn_lt _ _ _
def eM3:Nat:=eM2*2 ^ 44+eDbl
theorem rM3_pow (x:Nat):rM3 x%pM=x ^ eM3%pM:=by
 unfold rM3 eM3
 exact jn_pow (rM2_pow x) (rDbl_pow x)
def rMost (x:Nat):Nat:=jn (rM3 x) 3 (rThree x)
theorem rMost_lt (x:Nat):rMost x<(2^256):=jn_lt _ _ _
def eMost:Nat:=eM3*2 ^ 3+eThree
theorem rMost_pow (x:Nat):rMost x%pM=x ^ eMost%pM:=by
 unfold rMost eMost
 exact jn_pow (rM3_pow x) (rThree_pow x)
set_option maxHeartbeats 4000000 in
set_option maxRecDepth 100000 in
theorem runs_any (w:World) (x:Nat) (hx:x<(2^256)):Calls Tryz.prog 245 #[fv x] w λe w'=>e=.returned (.tuple #[fv (rTwo x),fv (rSome x),fv (rMost x)])∧Below w.heap.size w w':=by
 obtain ⟨ztwo,hztwo⟩:∃ z,z=rTwo x:=⟨_,rfl⟩
 obtain ⟨zthree,hzthree⟩:∃ z,z=rThree x:=⟨_,rfl⟩
 obtain ⟨zsix,hzsix⟩:∃ z,z=rSix x:=⟨_,rfl⟩
 obtain ⟨znine,hznine⟩:∃ z,z=rNine x:=⟨_,rfl⟩
 obtain ⟨zeleven,hzeleven⟩:∃ z,z=rEleven x:=⟨_,rfl⟩
 obtain ⟨zsome,hzsome⟩:∃ z,z=rSome x:=⟨_,rfl⟩
 obtain ⟨zdbl,hzdbl⟩:∃ z,z=rDbl x:=⟨_,rfl⟩
 obtain ⟨zm1,hzm1⟩:∃ z,z=rM1 x:=⟨_,rfl⟩
 obtain ⟨zm2,hzm2⟩:∃ z,z=rM2 x:=⟨_,rfl⟩
 obtain ⟨zm3,hzm3⟩:∃ z,z=rM3 x:=⟨_,rfl⟩
 obtain ⟨zmost,hzmost⟩:∃ z,z=rMost x:=⟨_,rfl⟩
 rw [← hztwo, ← hzsome, ← hzmost]
 have HX:=Lib.hid hx
 have HZtwo:Hid (ztwo=jn x 1 x∧ztwo<(2^256)):=Lib.hid ⟨by rw [hztwo]; rfl,by rw [hztwo]; exact rTwo_lt x⟩
 have HZthree:Hid (zthree=jn ztwo 1 x∧zthree<(2^256)):=Lib.hid ⟨by rw [hzthree,hztwo]; rfl,by rw [hzthree]; exact rThree_lt x⟩
 have HZsix:Hid (zsix=jn zthree 3 zthree∧zsix<(2^256)):=Lib.hid ⟨by rw [hzsix,hzthree]; rfl,by rw [hzsix]; exact rSix_lt x⟩
 have HZnine:Hid (znine=jn zsix 3 zthree∧znine<(2^256)):=Lib.hid ⟨by rw [hznine,hzsix,hzthree]; rfl,by rw [hznine]; exact rNine_lt x⟩
 have HZeleven:Hid (zeleven=jn znine 2 ztwo∧zeleven<(2^256)):=Lib.hid ⟨by rw [hzeleven,hznine,hztwo]; rfl,by rw [hzeleven]; exact rEleven_lt x⟩
 have HZsome:Hid (zsome=jn zeleven 11 zeleven∧zsome<(2^256)):=Lib.hid ⟨by rw [hzsome,hzeleven]; rfl,by rw [hzsome]; exact rSome_lt x⟩
 have HZdbl:Hid (zdbl=jn zsome 22 zsome∧zdbl<(2^256)):=Lib.hid ⟨by rw [hzdbl,hzsome]; rfl,by rw [hzdbl]; exact rDbl_lt x⟩
 have HZm1:Hid (zm1=jn zdbl 44 zdbl∧zm1<(2^256)):=Lib.hid ⟨by rw [hzm1,hzdbl]; rfl,by rw [hzm1]; exact rM1_lt x⟩
 have HZm2:Hid (zm2=jn zm1 88 zm1∧zm2<(2^256)):=Lib.hid ⟨by rw [hzm2,hzm1]; rfl,by rw [hzm2]; exact rM2_lt x⟩
 have HZm3:Hid (zm3=jn zm2 44 zdbl∧zm3<(2^256)):=Lib.hid ⟨by rw [hzm3,hzm2,hzdbl]; rfl,by rw [hzm3]; exact rM3_lt x⟩
 have HZmost:Hid (zmost=jn zm3 3 zthree∧zmost<(2^256)):=Lib.hid ⟨by rw [hzmost,hzm3,hzthree]; rfl,by rw [hzmost]; exact rMost_lt x⟩
 clear hztwo hzthree hzsix hznine hzeleven hzsome hzdbl hzm1 hzm2 hzm3 hzmost
 obtain ⟨x0,x1,x2,x3,fx⟩:=words_fv x hx
 have FX:=Lib.hid fx
 rw [fx]
 clear fx hx
 go_enter Tryz.func245,Tryz.ntmps245
 go_wp2_with (first | ((with_reducible refine here_load (d:=some 10) ?_); refine wpList_load_fv rfl _ _ rfl (w.heap.size) rfl (x) _ _ _ (Blk.eq_ ((((Blk.new w _ _).alloc _).alloc _).alloc _) (fcs_words FX.out).symm) (fv_fcs (x)) Tryz.underlying50 rfl (by kernel_rfl) ?_) | ((with_reducible refine here_load (d:=some 11) ?_); refine wpList_load_fv rfl _ _ rfl (w.heap.size) rfl (x) _ _ _ (Blk.eq_ ((((Blk.new w _ _).alloc _).alloc _).alloc _) (fcs_words FX.out).symm) (fv_fcs (x)) Tryz.underlying50 rfl (by kernel_rfl) ?_))
 refine (join_at _ x 1 x ztwo 1 rfl HZtwo.out.1 HX.out HX.out (by omega)).mono ?_
 rintro e w10 ⟨rfl,hb⟩
 have B0_a:Blk w10 (w.heap.size) 50 _:=Gr.blk hb (Blk.eq_ ((((Blk.new w _ _).alloc _).alloc _).alloc _) (fcs_words FX.out).symm)
 have l0_a:=B0_a.lt
 have B0_t2:Blk w10 (w.heap.size+1) 50 _:=Gr.blk hb (((blk_new2 w _ _ _).alloc _).alloc _)
 have l0_t2:=B0_t2.lt
 have B0_t3:Blk w10 (w.heap.size+2) 50 _:=Gr.blk hb ((blk_new3 w _ _ _ _).alloc _)
 have l0_t3:=B0_t3.lt
 have B0_t4:Blk w10 (w.heap.size+3) 50 _:=Gr.blk hb (blk_new4 w _ _ _ _ _)
 have l0_t4:=B0_t4.lt
 have hB0:=Below.gr ((below_alloc3 w _ _ _).alloc (by simp <;> omega) _) hb
 have sz0:=hB0.size
 clear hb
 go_wp2_with (first | ((with_reducible refine here_store ?_); refine wpList_store_blk rfl _ _ _ rfl (w.heap.size+1) (fcs (ztwo)) rfl rfl _ _ (B0_t2) (by kernel_rfl) (by rfl) (fcs_one _) ?_; intro v11 hL1 hq1 hK1; have C1_a:=hK1 _ (by omega) _ _ (B0_a); have C1_t3:=hK1 _ (by omega) _ _ (B0_t3); have C1_t4:=hK1 _ (by omega) _ _ (B0_t4); have hC1:=(hB0).trans (hq1 _ (by omega))) | ((with_reducible refine here_load (d:=some 13) ?_); refine wpList_load_fv rfl _ _ rfl (w.heap.size+1) rfl (ztwo) _ _ _ (hL1) (fv_fcs (ztwo)) Tryz.underlying50 rfl (by kernel_rfl) ?_) | ((with_reducible refine here_load (d:=some 14) ?_); refine wpList_load_fv rfl _ _ rfl (w.heap.size) rfl (x) _ _ _ (C1_a) (fv_fcs (x)) Tryz.underlying50 rfl (by kernel_rfl) ?_))
 refine (join_at _ ztwo 1 x zthree 1 rfl HZthree.out.1 HZtwo.out.2 HX.out (by omega)).mono ?_
 rintro e w11 ⟨rfl,hb⟩
 have B1_a:Blk w11 (w.heap.size) 50 _:=Gr.blk hb (C1_a)
 have l1_a:=B1_a.lt
 have B1_t3:Blk w11 (w.heap.size+2) 50 _:=Gr.blk hb (C1_t3)
 have l1_t3:=B1_t3.lt
 have B1_t4:Blk w11 (w.heap.size+3) 50 _:=Gr.blk hb (C1_t4)
 have l1_t4:=B1_t4.lt
 have B1_t2:Blk w11 (w.heap.size+1) 50 _:=Gr.blk hb (hL1)
 have l1_t2:=B1_t2.lt
 have hB1:=Below.gr (hC1) hb
 have sz1:=hB1.size
 clear hb
 go_wp2_with (first | ((with_reducible refine here_store ?_); refine wpList_store_blk rfl _ _ _ rfl (w11.heap.size) (fcs (zthree)) rfl rfl _ _ (Blk.new w11 _ _) (by kernel_rfl) (by rfl) (fcs_one _) ?_; intro v12 hL2 hq2 hK2; have C2_a:=hK2 _ (by omega) _ _ ((B1_a).alloc _); have C2_t3:=hK2 _ (by omega) _ _ ((B1_t3).alloc _); have C2_t4:=hK2 _ (by omega) _ _ ((B1_t4).alloc _); have C2_t2:=hK2 _ (by omega) _ _ ((B1_t2).alloc _); have hC2:=(((hB1).alloc (by omega) _)).trans (hq2 _ (by omega))) | ((with_reducible refine here_load (d:=some 16) ?_); refine wpList_load_fv rfl _ _ rfl (w11.heap.size) rfl (zthree) _ _ _ (hL2) (fv_fcs (zthree)) Tryz.underlying50 rfl (by kernel_rfl) ?_) | ((with_reducible refine here_load (d:=some 17) ?_); refine wpList_load_fv rfl _ _ rfl (w11.heap.size) rfl (zthree) _ _ _ (hL2) (fv_fcs (zthree)) Tryz.underlying50 rfl (by kernel_rfl) ?_))
 refine (join_at _ zthree 3 zthree zsix 3 rfl HZsix.out.1 HZthree.out.2 HZthree.out.2 (by omega)).mono ?_
 rintro e w12 ⟨rfl,hb⟩
 have B2_a:Blk w12 (w.heap.size) 50 _:=Gr.blk hb (C2_a)
 have l2_a:=B2_a.lt
 have B2_t3:Blk w12 (w.heap.size+2) 50 _:=Gr.blk hb (C2_t3)
 have l2_t3:=B2_t3.lt
 have B2_t4:Blk w12 (w.heap.size+3) 50 _:=Gr.blk hb (C2_t4)
 have l2_t4:=B2_t4.lt
 have B2_t2:Blk w12 (w.heap.size+1) 50 _:=Gr.blk hb (C2_t2)
 have l2_t2:=B2_t2.lt
 have B2_three:Blk w12 (w11.heap.size) 50 _:=Gr.blk hb (hL2)
 have l2_three:=B2_three.lt
 have hB2:=Below.gr (hC2) hb
 have sz2:=hB2.size
 clear hb
 go_wp2_with (first | ((with_reducible refine here_store ?_); refine wpList_store_blk rfl _ _ _ rfl (w12.heap.size) (fcs (zsix)) rfl rfl _ _ (Blk.new w12 _ _) (by kernel_rfl) (by rfl) (fcs_one _) ?_; intro v13 hL3 hq3 hK3; have C3_a:=hK3 _ (by omega) _ _ ((B2_a).alloc _); have C3_t3:=hK3 _ (by omega) _ _ ((B2_t3).alloc _); have C3_t4:=hK3 _ (by omega) _ _ ((B2_t4).alloc _); have C3_t2:=hK3 _ (by omega) _ _ ((B2_t2).alloc _); have C3_three:=hK3 _ (by omega) _ _ ((B2_three).alloc _); have hC3:=(((hB2).alloc (by omega) _)).trans (hq3 _ (by omega))) | ((with_reducible refine here_load (d:=some 19) ?_); refine wpList_load_fv rfl _ _ rfl (w12.heap.size) rfl (zsix) _ _ _ (hL3) (fv_fcs (zsix)) Tryz.underlying50 rfl (by kernel_rfl) ?_) | ((with_reducible refine here_load (d:=some 20) ?_); refine wpList_load_fv rfl _ _ rfl (w11.heap.size) rfl (zthree) _ _ _ (C3_three) (fv_fcs (zthree)) Tryz.underlying50 rfl (by kernel_rfl) ?_))
 refine (join_at _ zsix 3 zthree znine 3 rfl HZnine.out.1 HZsix.out.2 HZthree.out.2 (by omega)).mono ?_
 rintro e w13 ⟨rfl,hb⟩
 have B3_a:Blk w13 (w.heap.size) 50 _:=Gr.blk hb (C3_a)
 have l3_a:=B3_a.lt
 have B3_t3:Blk w13 (w.heap.size+2) 50 _:=Gr.blk hb (C3_t3)
 have l3_t3:=B3_t3.lt
 have B3_t4:Blk w13 (w.heap.size+3) 50 _:=Gr.blk hb (C3_t4)
 have l3_t4:=B3_t4.lt
 have B3_t2:Blk w13 (w.heap.size+1) 50 _:=Gr.blk hb (C3_t2)
 have l3_t2:=B3_t2.lt
 have B3_three:Blk w13 (w11.heap.size) 50 _:=Gr.blk hb (C3_three)
 have l3_three:=B3_three.lt
 have B3_six:Blk w13 (w12.heap.size) 50 _:=Gr.blk hb (hL3)
 have l3_six:=B3_six.lt
 have hB3:=Below.gr (hC3) hb
 have sz3:=hB3.size
 clear hb
 go_wp2_with (first | ((with_reducible refine here_store ?_); refine wpList_store_blk rfl _ _ _ rfl (w13.heap.size) (fcs (znine)) rfl rfl _ _ (Blk.new w13 _ _) (by kernel_rfl) (by rfl) (fcs_one _) ?_; intro v14 hL4 hq4 hK4; have C4_a:=hK4 _ (by omega) _ _ ((B3_a).alloc _); have C4_t3:=hK4 _ (by omega) _ _ ((B3_t3).alloc _); have C4_t4:=hK4 _ (by omega) _ _ ((B3_t4).alloc _); have C4_t2:=hK4 _ (by omega) _ _ ((B3_t2).alloc _); have C4_three:=hK4 _ (by omega) _ _ ((B3_three).alloc _); have C4_six:=hK4 _ (by omega) _ _ ((B3_six).alloc _); have hC4:=(((hB3).alloc (by omega) _)).trans (hq4 _ (by omega))) | ((with_reducible refine here_load (d:=some 22) ?_); refine wpList_load_fv rfl _ _ rfl (w13.heap.size) rfl (znine) _ _ _ (hL4) (fv_fcs (znine)) Tryz.underlying50 rfl (by kernel_rfl) ?_) | ((with_reducible refine here_load (d:=some 23) ?_); refine wpList_load_fv rfl _ _ rfl (w.heap.size+1) rfl (ztwo) _ _ _ (C4_t2) (fv_fcs (ztwo)) Tryz.underlying50 rfl (by kernel_rfl) ?_))
 refine (join_at _ znine 2 ztwo zeleven 2 rfl HZeleven.out.1 HZnine.out.2 HZtwo.out.2 (by omega)).mono ?_
 rintro e w14 ⟨rfl,hb⟩
 have B4_a:Blk w14 (w.heap.size) 50 _:=Gr.blk hb (C4_a)
 have l4_a:=B4_a.lt
 have B4_t3:Blk w14 (w.heap.size+2) 50 _:=Gr.blk hb (C4_t3)
 have l4_t3:=B4_t3.lt
 have B4_t4:Blk w14 (w.heap.size+3) 50 _:=Gr.blk hb (C4_t4)
 have l4_t4:=B4_t4.lt
 have B4_t2:Blk w14 (w.heap.size+1) 50 _:=Gr.blk hb (C4_t2)
 have l4_t2:=B4_t2.lt
 have B4_three:Blk w14 (w11.heap.size) 50 _:=Gr.blk hb (C4_three)
 have l4_three:=B4_three.lt
 have B4_six:Blk w14 (w12.heap.size) 50 _:=Gr.blk hb (C4_six)
 have l4_six:=B4_six.lt
 have B4_nine:Blk w14 (w13.heap.size) 50 _:=Gr.blk hb (hL4)
 have l4_nine:=B4_nine.lt
 have hB4:=Below.gr (hC4) hb
 have sz4:=hB4.size
 clear hb
 go_wp2_with (first | ((with_reducible refine here_store ?_); refine wpList_store_blk rfl _ _ _ rfl (w14.heap.size) (fcs (zeleven)) rfl rfl _ _ (Blk.new w14 _ _) (by kernel_rfl) (by rfl) (fcs_one _) ?_; intro v15 hL5 hq5 hK5; have C5_a:=hK5 _ (by omega) _ _ ((B4_a).alloc _); have C5_t3:=hK5 _ (by omega) _ _ ((B4_t3).alloc _); have C5_t4:=hK5 _ (by omega) _ _ ((B4_t4).alloc _); have C5_t2:=hK5 _ (by omega) _ _ ((B4_t2).alloc _); have C5_three:=hK5 _ (by omega) _ _ ((B4_three).alloc _); have C5_six:=hK5 _ (by omega) _ _ ((B4_six).alloc _); have C5_nine:=hK5 _ (by omega) _ _ ((B4_nine).alloc _); have hC5:=(((hB4).alloc (by omega) _)).trans (hq5 _ (by omega))) | ((with_reducible refine here_load (d:=some 25) ?_); refine wpList_load_fv rfl _ _ rfl (w14.heap.size) rfl (zeleven) _ _ _ (hL5) (fv_fcs (zeleven)) Tryz.underlying50 rfl (by kernel_rfl) ?_) | ((with_reducible refine here_load (d:=some 26) ?_); refine wpList_load_fv rfl _ _ rfl (w14.heap.size) rfl (zeleven) _ _ _ (hL5) (fv_fcs (zeleven)) Tryz.underlying50 rfl (by kernel_rfl) ?_))
 refine (join_at _ zeleven 11 zeleven zsome 11 rfl HZsome.out.1 HZeleven.out.2 HZeleven.out.2 (by omega)).mono ?_
 rintro e w15 ⟨rfl,hb⟩
 have B5_a:Blk w15 (w.heap.size) 50 _:=Gr.blk hb (C5_a)
 have l5_a:=B5_a.lt
 have B5_t3:Blk w15 (w.heap.size+2) 50 _:=Gr.blk hb (C5_t3)
 have l5_t3:=B5_t3.lt
 have B5_t4:Blk w15 (w.heap.size+3) 50 _:=Gr.blk hb (C5_t4)
 have l5_t4:=B5_t4.lt
 have B5_t2:Blk w15 (w.heap.size+1) 50 _:=Gr.blk hb (C5_t2)
 have l5_t2:=B5_t2.lt
 have B5_three:Blk w15 (w11.heap.size) 50 _:=Gr.blk hb (C5_three)
 have l5_three:=B5_three.lt
 have B5_six:Blk w15 (w12.heap.size) 50 _:=Gr.blk hb (C5_six)
 have l5_six:=B5_six.lt
 have B5_nine:Blk w15 (w13.heap.size) 50 _:=Gr.blk hb (C5_nine)
 have l5_nine:=B5_nine.lt
 have B5_eleven:Blk w15 (w14.heap.size) 50 _:=Gr.blk hb (hL5)
 have l5_eleven:=B5_eleven.lt
 have hB5:=Below.gr (hC5) hb
 have sz5:=hB5.size
 clear hb
 go_wp2_with (first | ((with_reducible refine here_store ?_); refine wpList_store_blk rfl _ _ _ rfl (w.heap.size+2) (fcs (zsome)) rfl rfl _ _ (B5_t3) (by kernel_rfl) (by rfl) (fcs_one _) ?_; intro v16 hL6 hq6 hK6; have C6_a:=hK6 _ (by omega) _ _ (B5_a); have C6_t4:=hK6 _ (by omega) _ _ (B5_t4); have C6_t2:=hK6 _ (by omega) _ _ (B5_t2); have C6_three:=hK6 _ (by omega) _ _ (B5_three); have C6_six:=hK6 _ (by omega) _ _ (B5_six); have C6_nine:=hK6 _ (by omega) _ _ (B5_nine); have C6_eleven:=hK6 _ (by omega) _ _ (B5_eleven); have hC6:=(hB5).trans (hq6 _ (by omega))) | ((with_reducible refine here_load (d:=some 28) ?_); refine wpList_load_fv rfl _ _ rfl (w.heap.size+2) rfl (zsome) _ _ _ (hL6) (fv_fcs (zsome)) Tryz.underlying50 rfl (by kernel_rfl) ?_) | ((with_reducible refine here_load (d:=some 29) ?_); refine wpList_load_fv rfl _ _ rfl (w.heap.size+2) rfl (zsome) _ _ _ (hL6) (fv_fcs (zsome)) Tryz.underlying50 rfl (by kernel_rfl) ?_))
 refine (join_at _ zsome 22 zsome zdbl 22 rfl HZdbl.out.1 HZsome.out.2 HZsome.out.2 (by omega)).mono ?_
 rintro e w16 ⟨rfl,hb⟩
 have B6_a:Blk w16 (w.heap.size) 50 _:=Gr.blk hb (C6_a)
 have l6_a:=B6_a.lt
 have B6_t4:Blk w16 (w.heap.size+3) 50 _:=Gr.blk hb (C6_t4)
 have l6_t4:=B6_t4.lt
 have B6_t2:Blk w16 (w.heap.size+1) 50 _:=Gr.blk hb (C6_t2)
 have l6_t2:=B6_t2.lt
 have B6_three:Blk w16 (w11.heap.size) 50 _:=Gr.blk hb (C6_three)
 have l6_three:=B6_three.lt
 have B6_six:Blk w16 (w12.heap.size) 50 _:=Gr.blk hb (C6_six)
 have l6_six:=B6_six.lt
 have B6_nine:Blk w16 (w13.heap.size) 50 _:=Gr.blk hb (C6_nine)
 have l6_nine:=B6_nine.lt
 have B6_eleven:Blk w16 (w14.heap.size) 50 _:=Gr.blk hb (C6_eleven)
 have l6_eleven:=B6_eleven.lt
 have B6_t3:Blk w16 (w.heap.size+2) 50 _:=Gr.blk hb (hL6)
 have l6_t3:=B6_t3.lt
 have hB6:=Below.gr (hC6) hb
 have sz6:=hB6.size
 clear hb
 go_wp2_with (first | ((with_reducible refine here_store ?_); refine wpList_store_blk rfl _ _ _ rfl (w16.heap.size) (fcs (zdbl)) rfl rfl _ _ (Blk.new w16 _ _) (by kernel_rfl) (by rfl) (fcs_one _) ?_; intro v17 hL7 hq7 hK7; have C7_a:=hK7 _ (by omega) _ _ ((B6_a).alloc _); have C7_t4:=hK7 _ (by omega) _ _ ((B6_t4).alloc _); have C7_t2:=hK7 _ (by omega) _ _ ((B6_t2).alloc _); have C7_three:=hK7 _ (by omega) _ _ ((B6_three).alloc _); have C7_six:=hK7 _ (by omega) _ _ ((B6_six).alloc _); have C7_nine:=hK7 _ (by omega) _ _ ((B6_nine).alloc _); have C7_eleven:=hK7 _ (by omega) _ _ ((B6_eleven).alloc _); have C7_t3:=hK7 _ (by omega) _ _ ((B6_t3).alloc _); have hC7:=(((hB6).alloc (by omega) _)).trans (hq7 _ (by omega))) | ((with_reducible refine here_load (d:=some 31) ?_); refine wpList_load_fv rfl _ _ rfl (w16.heap.size) rfl (zdbl) _ _ _ (hL7) (fv_fcs (zdbl)) Tryz.underlying50 rfl (by kernel_rfl) ?_) | ((with_reducible refine here_load (d:=some 32) ?_); refine wpList_load_fv rfl _ _ rfl (w16.heap.size) rfl (zdbl) _ _ _ (hL7) (fv_fcs (zdbl)) Tryz.underlying50 rfl (by kernel_rfl) ?_))
 refine (join_at _ zdbl 44 zdbl zm1 44 rfl HZm1.out.1 HZdbl.out.2 HZdbl.out.2 (by omega)).mono ?_
 rintro e w17 ⟨rfl,hb⟩
 have B7_a:Blk w17 (w.heap.size) 50 _:=Gr.blk hb (C7_a)
 have l7_a:=B7_a.lt
 have B7_t4:Blk w17 (w.heap.size+3) 50 _:=Gr.blk hb (C7_t4)
 have l7_t4:=B7_t4.lt
 have B7_t2:Blk w17 (w.heap.size+1) 50 _:=Gr.blk hb (C7_t2)
 have l7_t2:=B7_t2.lt
 have B7_three:Blk w17 (w11.heap.size) 50 _:=Gr.blk hb (C7_three)
 have l7_three:=B7_three.lt
 have B7_six:Blk w17 (w12.heap.size) 50 _:=Gr.blk hb (C7_six)
 have l7_six:=B7_six.lt
 have B7_nine:Blk w17 (w13.heap.size) 50 _:=Gr.blk hb (C7_nine)
 have l7_nine:=B7_nine.lt
 have B7_eleven:Blk w17 (w14.heap.size) 50 _:=Gr.blk hb (C7_eleven)
 have l7_eleven:=B7_eleven.lt
 have B7_t3:Blk w17 (w.heap.size+2) 50 _:=Gr.blk hb (C7_t3)
 have l7_t3:=B7_t3.lt
 have B7_dbl:Blk w17 (w16.heap.size) 50 _:=Gr.blk hb (hL7)
 have l7_dbl:=B7_dbl.lt
 have hB7:=Below.gr (hC7) hb
 have sz7:=hB7.size
 clear hb
 go_wp2_with (first | ((with_reducible refine here_store ?_); refine wpList_store_blk rfl _ _ _ rfl (w.heap.size+3) (fcs (zm1)) rfl rfl _ _ (B7_t4) (by kernel_rfl) (by rfl) (fcs_one _) ?_; intro v18 hL8 hq8 hK8; have C8_a:=hK8 _ (by omega) _ _ (B7_a); have C8_t2:=hK8 _ (by omega) _ _ (B7_t2); have C8_three:=hK8 _ (by omega) _ _ (B7_three); have C8_six:=hK8 _ (by omega) _ _ (B7_six); have C8_nine:=hK8 _ (by omega) _ _ (B7_nine); have C8_eleven:=hK8 _ (by omega) _ _ (B7_eleven); have C8_t3:=hK8 _ (by omega) _ _ (B7_t3); have C8_dbl:=hK8 _ (by omega) _ _ (B7_dbl); have hC8:=(hB7).trans (hq8 _ (by omega))) | ((with_reducible refine here_load (d:=some 34) ?_); refine wpList_load_fv rfl _ _ rfl (w.heap.size+3) rfl (zm1) _ _ _ (hL8) (fv_fcs (zm1)) Tryz.underlying50 rfl (by kernel_rfl) ?_) | ((with_reducible refine here_load (d:=some 35) ?_); refine wpList_load_fv rfl _ _ rfl (w.heap.size+3) rfl (zm1) _ _ _ (hL8) (fv_fcs (zm1)) Tryz.underlying50 rfl (by kernel_rfl) ?_))
 refine (join_at _ zm1 88 zm1 zm2 88 rfl HZm2.out.1 HZm1.out.2 HZm1.out.2 (by omega)).mono ?_
 rintro e w18 ⟨rfl,hb⟩
 have B8_a:Blk w18 (w.heap.size) 50 _:=Gr.blk hb (C8_a)
 have l8_a:=B8_a.lt
 have B8_t2:Blk w18 (w.heap.size+1) 50 _:=Gr.blk hb (C8_t2)
 have l8_t2:=B8_t2.lt
 have B8_three:Blk w18 (w11.heap.size) 50 _:=Gr.blk hb (C8_three)
 have l8_three:=B8_three.lt
 have B8_six:Blk w18 (w12.heap.size) 50 _:=Gr.blk hb (C8_six)
 have l8_six:=B8_six.lt
 have B8_nine:Blk w18 (w13.heap.size) 50 _:=Gr.blk hb (C8_nine)
 have l8_nine:=B8_nine.lt
 have B8_eleven:Blk w18 (w14.heap.size) 50 _:=Gr.blk hb (C8_eleven)
 have l8_eleven:=B8_eleven.lt
 have B8_t3:Blk w18 (w.heap.size+2) 50 _:=Gr.blk hb (C8_t3)
 have l8_t3:=B8_t3.lt
 have B8_dbl:Blk w18 (w16.heap.size) 50 _:=Gr.blk hb (C8_dbl)
 have l8_dbl:=B8_dbl.lt
 have B8_t4:Blk w18 (w.heap.size+3) 50 _:=Gr.blk hb (hL8)
 have l8_t4:=B8_t4.lt
 have hB8:=Below.gr (hC8) hb
 have sz8:=hB8.size
 clear hb
 go_wp2_with (first | ((with_reducible refine here_store ?_); refine wpList_store_blk rfl _ _ _ rfl (w.heap.size+3) (fcs (zm2)) rfl rfl _ _ (B8_t4) (by kernel_rfl) (by rfl) (fcs_one _) ?_; intro v19 hL9 hq9 hK9; have C9_a:=hK9 _ (by omega) _ _ (B8_a); have C9_t2:=hK9 _ (by omega) _ _ (B8_t2); have C9_three:=hK9 _ (by omega) _ _ (B8_three); have C9_six:=hK9 _ (by omega) _ _ (B8_six); have C9_nine:=hK9 _ (by omega) _ _ (B8_nine); have C9_eleven:=hK9 _ (by omega) _ _ (B8_eleven); have C9_t3:=hK9 _ (by omega) _ _ (B8_t3); have C9_dbl:=hK9 _ (by omega) _ _ (B8_dbl); have hC9:=(hB8).trans (hq9 _ (by omega))) | ((with_reducible refine here_load (d:=some 37) ?_); refine wpList_load_fv rfl _ _ rfl (w.heap.size+3) rfl (zm2) _ _ _ (hL9) (fv_fcs (zm2)) Tryz.underlying50 rfl (by kernel_rfl) ?_) | ((with_reducible refine here_load (d:=some 38) ?_); refine wpList_load_fv rfl _ _ rfl (w16.heap.size) rfl (zdbl) _ _ _ (C9_dbl) (fv_fcs (zdbl)) Tryz.underlying50 rfl (by kernel_rfl) ?_))
 refine (join_at _ zm2 44 zdbl zm3 44 rfl HZm3.out.1 HZm2.out.2 HZdbl.out.2 (by omega)).mono ?_
 rintro e w19 ⟨rfl,hb⟩
 have B9_a:Blk w19 (w.heap.size) 50 _:=Gr.blk hb (C9_a)
 have l9_a:=B9_a.lt
 have B9_t2:Blk w19 (w.heap.size+1) 50 _:=Gr.blk hb (C9_t2)
 have l9_t2:=B9_t2.lt
 have B9_three:Blk w19 (w11.heap.size) 50 _:=Gr.blk hb (C9_three)
 have l9_three:=B9_three.lt
 have B9_six:Blk w19 (w12.heap.size) 50 _:=Gr.blk hb (C9_six)
 have l9_six:=B9_six.lt
 have B9_nine:Blk w19 (w13.heap.size) 50 _:=Gr.blk hb (C9_nine)
 have l9_nine:=B9_nine.lt
 have B9_eleven:Blk w19 (w14.heap.size) 50 _:=Gr.blk hb (C9_eleven)
 have l9_eleven:=B9_eleven.lt
 have B9_t3:Blk w19 (w.heap.size+2) 50 _:=Gr.blk hb (C9_t3)
 have l9_t3:=B9_t3.lt
 have B9_dbl:Blk w19 (w16.heap.size) 50 _:=Gr.blk hb (C9_dbl)
 have l9_dbl:=B9_dbl.lt
 have B9_t4:Blk w19 (w.heap.size+3) 50 _:=Gr.blk hb (hL9)
 have l9_t4:=B9_t4.lt
 have hB9:=Below.gr (hC9) hb
 have sz9:=hB9.size
 clear hb
 go_wp2_with (first | ((with_reducible refine here_store ?_); refine wpList_store_blk rfl _ _ _ rfl (w.heap.size+3) (fcs (zm3)) rfl rfl _ _ (B9_t4) (by kernel_rfl) (by rfl) (fcs_one _) ?_; intro v20 hL10 hq10 hK10; have C10_a:=hK10 _ (by omega) _ _ (B9_a); have C10_t2:=hK10 _ (by omega) _ _ (B9_t2); have C10_three:=hK10 _ (by omega) _ _ (B9_three); have C10_six:=hK10 _ (by omega) _ _ (B9_six); have C10_nine:=hK10 _ (by omega) _ _ (B9_nine); have C10_eleven:=hK10 _ (by omega) _ _ (B9_eleven); have C10_t3:=hK10 _ (by omega) _ _ (B9_t3); have C10_dbl:=hK10 _ (by omega) _ _ (B9_dbl); have hC10:=(hB9).trans (hq10 _ (by omega))) | ((with_reducible refine here_load (d:=some 40) ?_); refine wpList_load_fv rfl _ _ rfl (w.heap.size+3) rfl (zm3) _ _ _ (hL10) (fv_fcs (zm3)) Tryz.underlying50 rfl (by kernel_rfl) ?_) | ((with_reducible refine here_load (d:=some 41) ?_); refine wpList_load_fv rfl _ _ rfl (w11.heap.size) rfl (zthree) _ _ _ (C10_three) (fv_fcs (zthree)) Tryz.underlying50 rfl (by kernel_rfl) ?_))
 refine (join_at _ zm3 3 zthree zmost 3 rfl HZmost.out.1 HZm3.out.2 HZthree.out.2 (by omega)).mono ?_
 rintro e w20 ⟨rfl,hb⟩
 have B10_a:Blk w20 (w.heap.size) 50 _:=Gr.blk hb (C10_a)
 have l10_a:=B10_a.lt
 have B10_t2:Blk w20 (w.heap.size+1) 50 _:=Gr.blk hb (C10_t2)
 have l10_t2:=B10_t2.lt
 have B10_three:Blk w20 (w11.heap.size) 50 _:=Gr.blk hb (C10_three)
 have l10_three:=B10_three.lt
 have B10_six:Blk w20 (w12.heap.size) 50 _:=Gr.blk hb (C10_six)
 have l10_six:=B10_six.lt
 have B10_nine:Blk w20 (w13.heap.size) 50 _:=Gr.blk hb (C10_nine)
 have l10_nine:=B10_nine.lt
 have B10_eleven:Blk w20 (w14.heap.size) 50 _:=Gr.blk hb (C10_eleven)
 have l10_eleven:=B10_eleven.lt
 have B10_t3:Blk w20 (w.heap.size+2) 50 _:=Gr.blk hb (C10_t3)
 have l10_t3:=B10_t3.lt
 have B10_dbl:Blk w20 (w16.heap.size) 50 _:=Gr.blk hb (C10_dbl)
 have l10_dbl:=B10_dbl.lt
 have B10_t4:Blk w20 (w.heap.size+3) 50 _:=Gr.blk hb (hL10)
 have l10_t4:=B10_t4.lt
 have hB10:=Below.gr (hC10) hb
 have sz10:=hB10.size
 clear hb
 go_wp2_with (first | ((with_reducible refine here_store ?_); refine wpList_store_blk rfl _ _ _ rfl (w.heap.size+3) (fcs (zmost)) rfl rfl _ _ (B10_t4) (by kernel_rfl) (by rfl) (fcs_one _) ?_; intro v21 hL11 hq11 hK11; have C11_a:=hK11 _ (by omega) _ _ (B10_a); have C11_t2:=hK11 _ (by omega) _ _ (B10_t2); have C11_three:=hK11 _ (by omega) _ _ (B10_three); have C11_six:=hK11 _ (by omega) _ _ (B10_six); have C11_nine:=hK11 _ (by omega) _ _ (B10_nine); have C11_eleven:=hK11 _ (by omega) _ _ (B10_eleven); have C11_t3:=hK11 _ (by omega) _ _ (B10_t3); have C11_dbl:=hK11 _ (by omega) _ _ (B10_dbl); have hC11:=(hB10).trans (hq11 _ (by omega))))
 refine wp_region_G (λ_=>false) (by kernel_rfl) ?_
 try simp only [Act.put]
 refine tkw 0 rfl (YieldsG.loadF (by rfl) _ _ rfl (w.heap.size+1) rfl (ztwo) _ _ (C11_t2) (fv_fcs _) Tryz.underlying50 rfl (by kernel_rfl)) ?_
 try simp only [Act.put,aA,aZ,aS]
 refine tkw 1 rfl (YieldsG.loadF (by rfl) _ _ rfl (w.heap.size+2) rfl (zsome) _ _ (C11_t3) (fv_fcs _) Tryz.underlying50 rfl (by kernel_rfl)) ?_
 try simp only [Act.put,aA,aZ,aS]
 refine tkw 2 rfl (YieldsG.loadF (by rfl) _ _ rfl (w.heap.size+3) rfl (zmost) _ _ (hL11) (fv_fcs _) Tryz.underlying50 rfl (by kernel_rfl)) ?_
 try simp only [Act.put,aA,aZ,aS]
 refine tkw 3 rfl (YieldsG.again (by rfl) _ _ _ rfl (w.heap.size+1) (fcs (ztwo)) rfl rfl _ (C11_t2) (by kernel_rfl) (fcs_one _)) ?_
 try simp only [Act.put]
 refine tkw 4 rfl (YieldsG.again (by rfl) _ _ _ rfl (w.heap.size+2) (fcs (zsome)) rfl rfl _ (C11_t3) (by kernel_rfl) (fcs_one _)) ?_
 try simp only [Act.put]
 refine tkw 5 rfl (YieldsG.again (by rfl) _ _ _ rfl (w.heap.size+3) (fcs (zmost)) rfl rfl _ (hL11) (by kernel_rfl) (fcs_one _)) ?_
 try simp only [Act.put]
 refine wpAnyG_done (by kernel_rfl) (λu hu=>?_)
 have hbz:=Below.gr (hC11) hu
 have Et2:=Gr.blk hu C11_t2
 have Et3:=Gr.blk hu C11_t3
 have Et4:=Gr.blk hu hL11
 go_wp2
 exact bodyPost_ret (res_three_cells rfl _ _ (w.heap.size+1) (w.heap.size+2) (w.heap.size+3) _ _ _ _ _ _ _ rfl Et2 rfl Et3 rfl Et4 Tryz.underlying50 rfl (by kernel_rfl) (by kernel_rfl) (by kernel_rfl)) rfl ⟨rfl,hbz⟩
end
end
section
section
open Go.RowKit Go.Lib
theorem all_range_eqN:∀ (xs ys:List Nat),xs.length=ys.length→((List.range xs.length).all λi=>xs.getD i 0 == ys.getD i 0)=(xs == ys)
 | [],[],_=>rfl
 | x::xs,y::ys,h=>by
  have ih:=all_range_eqN xs ys (by simpa using h)
  rw [List.length_cons,List.range_succ_eq_map,List.all_cons,List.all_map]
  simp only [List.getD_cons_zero,Function.comp_def,List.getD_cons_succ,ih]
  simp [List.cons_beq_cons]
 | [],_::_,h=>by simp at h
 | _::_,[],h=>by simp at h
theorem run_equalIn_words {P:Program} (w:World) (d:Nat) (t e:TypeId) (n:Nat) (ht:P.underlying t=some (.array n e)) (he:P.underlying e=some (.int .u64)) (hsz:∀ w,(sizeOf e).run P w=.ok 1 w)
  (xs ys:List Nat) (hx:xs.length=n) (hy:ys.length=n) :
  (Op.equalIn (d+2) t (.agg (xs.map qv).toArray) (.agg (ys.map qv).toArray)).run P w=.ok (xs == ys) w:=by
 rw [← all_range_eqN xs ys (hx.trans hy.symm),hx,List.range_eq_range',Op.equalIn]
 simp only [Sem.run_bind,run_underlying ht,Result.andThen_ok,hsz,Std.Legacy.Range.forIn_eq_forIn_range',Std.Legacy.Range.size,Nat.sub_zero,Nat.add_sub_cancel,Nat.div_one]
 have hl:∀ i∈List.range' 0 n 1,i<n:=λi hi=>by simpa using (List.mem_range'_1.1 hi).2
 generalize List.range' 0 n 1=l at hl ⊢
 induction l with
 | nil=>simp
 | cons i l ih =>
  have hi:i<n:=hl i (by simp)
  have px:(part e (xs.map qv).toArray (i*1)).run P w=.ok (qv (xs.getD i 0)) w:=by
   simp [part,isAgg,run_underlying he,List.getD,List.getElem?_eq_getElem (show i<xs.length by omega)]
  have py:(part e (ys.map qv).toArray (i*1)).run P w=.ok (qv (ys.getD i 0)) w:=by
   simp [part,isAgg,run_underlying he,List.getD,List.getElem?_eq_getElem (show i<ys.length by omega)]
  have pe:(Op.equalIn (d+1) e (qv (xs.getD i 0)) (qv (ys.getD i 0))).run P w=.ok (xs.getD i 0 == ys.getD i 0) w:=by
   rw [qv,qv,run_equalIn_int w d e .u64 .u64 _ _ he]
   congr 1
   rw [Bool.eq_iff_iff]
   simp
   omega
  simp only [List.forIn_cons,Sem.run_bind,px,py,pe,Result.andThen_ok,List.all_cons]
  cases hb:(xs.getD i 0 == ys.getD i 0)
  ·simp
  ·simp only [Bool.not_true,Bool.false_eq_true,if_false,Sem.run_pure,Result.andThen_ok,Bool.true_and]
   exact ih λj hj=>hl j (by simp [hj])
def wl (n:Nat):List Nat:=[n%18446744073709551616,n / 18446744073709551616%18446744073709551616,n / 340282366920938463463374607431768211456%18446744073709551616,n / 6277101735386680763835789423207666416102355444464034512896%18446744073709551616]
theorem fv_wl (n:Nat):fv n=.agg ((wl n).map qv).toArray:=rfl
theorem wl_inj {n m:Nat} (hn:n<(2^256)) (hm:m<(2^256)) (h:wl n=wl m):n=m:=by
 unfold wl at h
 simp only [List.cons.injEq,and_true] at h
 obtain ⟨h0,h1,h2,h3⟩:=h
 omega
theorem wl_beq {n m:Nat} (hn:n<(2^256)) (hm:m<(2^256)):(wl n == wl m)=decide (n=m):=by
 by_cases h:n=m
 ·subst h; simp
 ·have:wl n≠wl m:=λe=>h (wl_inj hn hm e)
  simp [h,this]
theorem run_equalIn_fv (W:World) (n m:Nat) (hn:n<(2^256)) (hm:m<(2^256)):(Op.equalIn 10000 50 (fv n) (fv m)).run Tryz.prog W=.ok (decide (n=m)) W:=by
 rw [fv_wl,fv_wl]
 have h:=run_equalIn_words W 9998 50 44 4 Tryz.underlying50 Tryz.underlying44 (λW=>by kernel_rfl) (wl n) (wl m) rfl rfl
 rw [wl_beq hn hm] at h
 exact h
theorem run_eql_fv (W:World) (n m:Nat) (hn:n<(2^256)) (hm:m<(2^256)):(binOp .eql 50 (fv n) (fv m)).run Tryz.prog W=.ok (.bool (decide (n=m))) W:=by
 have h:=run_equalIn_fv W n m hn hm
 rw [fv_wl,fv_wl] at h ⊢
 rw [run_eql_struct,h]
 rfl
theorem run_eqGuard_fv (op:BinOp) (x y:Operand) (n m:Nat) (W:World):(eqGuard op 50 x y (fv n) (fv m)).run Tryz.prog W=.ok () W:=by
 rw [fv_fcs,fv_fcs]
 go_simp
theorem and_one (n:Nat) (hn:n<18446744073709551616):bits .and .u64 (n:Int) 1=((n%2:Nat):Int):=by
 have h:=bits_and_u64_nat n 1 hn (by omega)
 have e:n &&& 1=n%2:=Nat.and_two_pow_sub_one_eq_mod n 1
 rw [e] at h
 exact h
set_option maxHeartbeats 1000000 in
theorem odd_any (w:World) (x:Nat) (hx:x<(2^256)):Calls Tryz.prog 206 #[fv x] w λe w'=>e=.returned (.bool (decide (x%pM%2=1)))∧Below w.heap.size w w':=by
 obtain ⟨z,hz⟩:∃ z,z=x%pM:=⟨_,rfl⟩
 have hzl:z<(2^256):=by rw [hz]; exact mod_lt x
 obtain ⟨z0,z1,z2,z3,a0,a1,a2,a3,ez,fz⟩:=words_of z hzl
 obtain ⟨o,ho⟩:∃ o,o=z%2:=⟨_,rfl⟩
 have h1:bits .and .u64 (z0:Int) 1=(o:Int):=by rw [and_one z0 a0,ho]; congr 1; omega
 have hN:∀ w,Calls Tryz.prog 204 #[fv x] w λe w'=>e=.returned (.agg #[.int .u64 z0,.int .u64 z1,.int .u64 z2,.int .u64 z3])∧Below w.heap.size w w':=by
  intro w; rw [← fz,hz]; exact norm_any w x hx
 obtain ⟨x0,x1,x2,x3,fx⟩:=words_fv x hx
 rw [fx] at hN ⊢
 rw [← hz, ← ho]
 have hol:o<2:=by omega
 obtain ⟨b,hb⟩:∃ b,b=decide (o=1):=⟨_,rfl⟩
 have hob:((o:Int) == 1)=b:=by
  rw [hb]
  rcases (show o=0∨o=1 by omega) with rfl | rfl <;> rfl
 rw [← hb]
 clear fx hx hz hzl ez fz ho a0 a1 a2 a3 hb hol
 have hI:∀ W,(Instr.index 50 (.agg #[.int .u64 z0,.int .u64 z1,.int .u64 z2,.int .u64 z3]) (.int .i64 0)).run Tryz.prog W=.ok (.int .u64 (z0:Int)) W:=λW=>by kernel_rfl
 go_enter Tryz.func206,Tryz.ntmps206
 go_wp2_with fail
 refine (hN _).mono ?_
 rintro e w1 ⟨rfl,hb1⟩
 go_wp2
 go_ret
 exact ⟨rfl,Below.gr ((Below.refl _ _).alloc (Nat.le_refl _) _) hb1⟩
end
end
section
section
open Go.RowKit Go.Lib
def rZ1 (x:Nat):Nat:=jn (rMost x) 23 (rSome x)
end
end
section
section
open Go.RowKit Go.Lib
def iZ2 (x:Nat):Nat:=jn (rZ1 x) 5 x
def iZ3 (x:Nat):Nat:=jn (iZ2 x) 3 (rTwo x)
def invR (x:Nat):Nat:=jn (iZ3 x) 2 x
theorem invR_red (x:Nat):invR x%pM=invR x:=by
 have h:invR x=sqI (iZ3 x) 2*x%pM:=rfl
 rw [h,Nat.mod_mod]
def eInv:Nat:=(((eMost*2 ^ 23+eSome)*2 ^ 5+1)*2 ^ 3+eTwo)*2 ^ 2+1
theorem eInv_is:eInv=115792089237316195423570985008687907853269984665640564039457584007908834671663 - 2:=by decide +kernel
theorem invR_pow (x:Nat):invR x%pM=x ^ eInv%pM:=by
 unfold invR eInv
 exact jn_pow (jn_pow (jn_pow (jn_pow (rMost_pow x) (rSome_pow x)) (pow_self x)) (rTwo_pow x)) (pow_self x)
set_option maxHeartbeats 4000000 in
set_option maxRecDepth 100000 in
theorem inv_any (w:World) (x:Nat) (hx:x<(2^256)):Calls Tryz.prog 225 #[fv x] w λe w'=>e=.returned (fv (invR x))∧Below w.heap.size w w':=by
 obtain ⟨z2,hz2⟩:∃ z,z=rTwo x:=⟨_,rfl⟩
 obtain ⟨zs,hzs⟩:∃ z,z=rSome x:=⟨_,rfl⟩
 obtain ⟨zm,hzm⟩:∃ z,z=rMost x:=⟨_,rfl⟩
 obtain ⟨y1,hy1⟩:∃ z,z=rZ1 x:=⟨_,rfl⟩
 obtain ⟨y2,hy2⟩:∃ z,z=iZ2 x:=⟨_,rfl⟩
 obtain ⟨y3,hy3⟩:∃ z,z=iZ3 x:=⟨_,rfl⟩
 obtain ⟨y4,hy4⟩:∃ z,z=invR x:=⟨_,rfl⟩
 have cR:∀ w,Calls Tryz.prog 245 #[fv x] w λe w'=>e=.returned (.tuple #[fv z2,fv zs,fv zm])∧Below w.heap.size w w':=by
  intro w; rw [hz2,hzs,hzm]; exact runs_any w x hx
 have c1:=λw=>join_at w zm 23 zs y1 23 rfl (by rw [hzm,hzs,hy1]; rfl) (by rw [hzm]; exact rMost_lt x) (by rw [hzs]; exact rSome_lt x) (by omega)
 have c2:=λw=>join_at w y1 5 x y2 5 rfl (by rw [hy1,hy2]; rfl) (by rw [hy1]; exact jn_lt _ _ _) hx (by omega)
 have c3:=λw=>join_at w y2 3 z2 y3 3 rfl (by rw [hy2,hz2,hy3]; rfl) (by rw [hy2]; exact jn_lt _ _ _) (by rw [hz2]; exact rTwo_lt x) (by omega)
 have c4:=λw=>join_at w y3 2 x y4 2 rfl (by rw [hy3,hy4]; rfl) (by rw [hy3]; exact jn_lt _ _ _) hx (by omega)
 rw [← hy4]
 obtain ⟨x0,x1,x2,x3,fx⟩:=words_fv x hx
 have FX:=Lib.hid fx
 rw [fx] at cR ⊢
 clear fx hx hz2 hzs hzm hy1 hy2 hy3 hy4
 go_enter Tryz.func225,Tryz.ntmps225
 go_wp2_with fail
 refine (cR _).mono ?_
 rintro e w10 ⟨rfl,hb⟩
 have B0_a:Blk w10 (w.heap.size) 50 _:=Gr.blk hb (Blk.eq_ ((Blk.new w _ _).alloc _) (fcs_words FX.out).symm)
 have l0_a:=B0_a.lt
 have B0_t2:Blk w10 (w.heap.size+1) 50 _:=Gr.blk hb (blk_new2 w _ _ _)
 have l0_t2:=B0_t2.lt
 have hB0:=Below.gr (below_alloc2 w _ _) hb
 have sz0:=hB0.size
 clear hb
 go_wp2_with (first | ((with_reducible refine here_store ?_); refine wpList_store_blk rfl _ _ _ rfl (w10.heap.size) (fcs (z2)) rfl rfl _ _ (((Blk.new w10 _ _).alloc _).alloc _) (by kernel_rfl) (by rfl) (fcs_one _) ?_; intro v11t3 hLt3 hqt3 hKt3; have Ct3_a:=hKt3 _ (by omega) _ _ ((((B0_a).alloc _).alloc _).alloc _); have Ct3_t2:=hKt3 _ (by omega) _ _ ((((B0_t2).alloc _).alloc _).alloc _); have Ct3_t4:=hKt3 _ (by omega) _ _ ((blk_new2 w10 _ _ _).alloc _); have Ct3_t5:=hKt3 _ (by omega) _ _ (blk_new3 w10 _ _ _ _); have hCt3:=((((hB0).alloc (by omega) _).alloc (by simp <;> omega) _).alloc (by simp <;> omega) _).trans (hqt3 _ (by omega))) | ((with_reducible refine here_store ?_); refine wpList_store_blk rfl _ _ _ rfl (w10.heap.size+1) (fcs (zs)) rfl rfl _ _ (Ct3_t4) (by kernel_rfl) (by rfl) (fcs_one _) ?_; intro v11t4 hLt4 hqt4 hKt4; have Ct4_a:=hKt4 _ (by omega) _ _ (Ct3_a); have Ct4_t2:=hKt4 _ (by omega) _ _ (Ct3_t2); have Ct4_t5:=hKt4 _ (by omega) _ _ (Ct3_t5); have Ct4_t3:=hKt4 _ (by omega) _ _ (hLt3); have hCt4:=(hCt3).trans (hqt4 _ (by omega))) | ((with_reducible refine here_store ?_); refine wpList_store_blk rfl _ _ _ rfl (w10.heap.size+2) (fcs (zm)) rfl rfl _ _ (Ct4_t5) (by kernel_rfl) (by rfl) (fcs_one _) ?_; intro v11t5 hLt5 hqt5 hKt5; have Ct5_a:=hKt5 _ (by omega) _ _ (Ct4_a); have Ct5_t2:=hKt5 _ (by omega) _ _ (Ct4_t2); have Ct5_t3:=hKt5 _ (by omega) _ _ (Ct4_t3); have Ct5_t4:=hKt5 _ (by omega) _ _ (hLt4); have hCt5:=(hCt4).trans (hqt5 _ (by omega))) | ((with_reducible refine here_load (d:=some 13) ?_); refine wpList_load_fv rfl _ _ rfl (w10.heap.size+2) rfl (zm) _ _ _ (hLt5) (fv_fcs (zm)) Tryz.underlying50 rfl (by kernel_rfl) ?_) | ((with_reducible refine here_load (d:=some 14) ?_); refine wpList_load_fv rfl _ _ rfl (w10.heap.size+1) rfl (zs) _ _ _ (Ct5_t4) (fv_fcs (zs)) Tryz.underlying50 rfl (by kernel_rfl) ?_))
 refine (c1 _).mono ?_
 rintro e w11 ⟨rfl,hb⟩
 have B1_a:Blk w11 (w.heap.size) 50 _:=Gr.blk hb (Ct5_a)
 have l1_a:=B1_a.lt
 have B1_t2:Blk w11 (w.heap.size+1) 50 _:=Gr.blk hb (Ct5_t2)
 have l1_t2:=B1_t2.lt
 have B1_t3:Blk w11 (w10.heap.size) 50 _:=Gr.blk hb (Ct5_t3)
 have l1_t3:=B1_t3.lt
 have B1_t4:Blk w11 (w10.heap.size+1) 50 _:=Gr.blk hb (Ct5_t4)
 have l1_t4:=B1_t4.lt
 have B1_t5:Blk w11 (w10.heap.size+2) 50 _:=Gr.blk hb (hLt5)
 have l1_t5:=B1_t5.lt
 have hB1:=Below.gr (hCt5) hb
 have sz1:=hB1.size
 clear hb
 go_wp2_with (first | ((with_reducible refine here_store ?_); refine wpList_store_blk rfl _ _ _ rfl (w11.heap.size) (fcs (y1)) rfl rfl _ _ (Blk.new w11 _ _) (by kernel_rfl) (by rfl) (fcs_one _) ?_; intro v12 hL2 hq2 hK2; have C2_a:=hK2 _ (by omega) _ _ ((B1_a).alloc _); have C2_t2:=hK2 _ (by omega) _ _ ((B1_t2).alloc _); have C2_t3:=hK2 _ (by omega) _ _ ((B1_t3).alloc _); have C2_t4:=hK2 _ (by omega) _ _ ((B1_t4).alloc _); have C2_t5:=hK2 _ (by omega) _ _ ((B1_t5).alloc _); have hC2:=(((hB1).alloc (by omega) _)).trans (hq2 _ (by omega))) | ((with_reducible refine here_load (d:=some 16) ?_); refine wpList_load_fv rfl _ _ rfl (w11.heap.size) rfl (y1) _ _ _ (hL2) (fv_fcs (y1)) Tryz.underlying50 rfl (by kernel_rfl) ?_) | ((with_reducible refine here_load (d:=some 17) ?_); refine wpList_load_fv rfl _ _ rfl (w.heap.size) rfl (x) _ _ _ (C2_a) (fv_fcs (x)) Tryz.underlying50 rfl (by kernel_rfl) ?_))
 refine (c2 _).mono ?_
 rintro e w12 ⟨rfl,hb⟩
 have B2_a:Blk w12 (w.heap.size) 50 _:=Gr.blk hb (C2_a)
 have l2_a:=B2_a.lt
 have B2_t2:Blk w12 (w.heap.size+1) 50 _:=Gr.blk hb (C2_t2)
 have l2_t2:=B2_t2.lt
 have B2_t3:Blk w12 (w10.heap.size) 50 _:=Gr.blk hb (C2_t3)
 have l2_t3:=B2_t3.lt
 have B2_t4:Blk w12 (w10.heap.size+1) 50 _:=Gr.blk hb (C2_t4)
 have l2_t4:=B2_t4.lt
 have B2_t5:Blk w12 (w10.heap.size+2) 50 _:=Gr.blk hb (C2_t5)
 have l2_t5:=B2_t5.lt
 have B2_t6:Blk w12 (w11.heap.size) 50 _:=Gr.blk hb (hL2)
 have l2_t6:=B2_t6.lt
 have hB2:=Below.gr (hC2) hb
 have sz2:=hB2.size
 clear hb
 go_wp2_with (first | ((with_reducible refine here_store ?_); refine wpList_store_blk rfl _ _ _ rfl (w11.heap.size) (fcs (y2)) rfl rfl _ _ (B2_t6) (by kernel_rfl) (by rfl) (fcs_one _) ?_; intro v13 hL3 hq3 hK3; have C3_a:=hK3 _ (by omega) _ _ (B2_a); have C3_t2:=hK3 _ (by omega) _ _ (B2_t2); have C3_t3:=hK3 _ (by omega) _ _ (B2_t3); have C3_t4:=hK3 _ (by omega) _ _ (B2_t4); have C3_t5:=hK3 _ (by omega) _ _ (B2_t5); have hC3:=(hB2).trans (hq3 _ (by omega))) | ((with_reducible refine here_load (d:=some 19) ?_); refine wpList_load_fv rfl _ _ rfl (w11.heap.size) rfl (y2) _ _ _ (hL3) (fv_fcs (y2)) Tryz.underlying50 rfl (by kernel_rfl) ?_) | ((with_reducible refine here_load (d:=some 20) ?_); refine wpList_load_fv rfl _ _ rfl (w10.heap.size) rfl (z2) _ _ _ (C3_t3) (fv_fcs (z2)) Tryz.underlying50 rfl (by kernel_rfl) ?_))
 refine (c3 _).mono ?_
 rintro e w13 ⟨rfl,hb⟩
 have B3_a:Blk w13 (w.heap.size) 50 _:=Gr.blk hb (C3_a)
 have l3_a:=B3_a.lt
 have B3_t2:Blk w13 (w.heap.size+1) 50 _:=Gr.blk hb (C3_t2)
 have l3_t2:=B3_t2.lt
 have B3_t3:Blk w13 (w10.heap.size) 50 _:=Gr.blk hb (C3_t3)
 have l3_t3:=B3_t3.lt
 have B3_t4:Blk w13 (w10.heap.size+1) 50 _:=Gr.blk hb (C3_t4)
 have l3_t4:=B3_t4.lt
 have B3_t5:Blk w13 (w10.heap.size+2) 50 _:=Gr.blk hb (C3_t5)
 have l3_t5:=B3_t5.lt
 have B3_t6:Blk w13 (w11.heap.size) 50 _:=Gr.blk hb (hL3)
 have l3_t6:=B3_t6.lt
 have hB3:=Below.gr (hC3) hb
 have sz3:=hB3.size
 clear hb
 go_wp2_with (first | ((with_reducible refine here_store ?_); refine wpList_store_blk rfl _ _ _ rfl (w11.heap.size) (fcs (y3)) rfl rfl _ _ (B3_t6) (by kernel_rfl) (by rfl) (fcs_one _) ?_; intro v14 hL4 hq4 hK4; have C4_a:=hK4 _ (by omega) _ _ (B3_a); have C4_t2:=hK4 _ (by omega) _ _ (B3_t2); have C4_t3:=hK4 _ (by omega) _ _ (B3_t3); have C4_t4:=hK4 _ (by omega) _ _ (B3_t4); have C4_t5:=hK4 _ (by omega) _ _ (B3_t5); have hC4:=(hB3).trans (hq4 _ (by omega))) | ((with_reducible refine here_load (d:=some 22) ?_); refine wpList_load_fv rfl _ _ rfl (w11.heap.size) rfl (y3) _ _ _ (hL4) (fv_fcs (y3)) Tryz.underlying50 rfl (by kernel_rfl) ?_) | ((with_reducible refine here_load (d:=some 23) ?_); refine wpList_load_fv rfl _ _ rfl (w.heap.size) rfl (x) _ _ _ (C4_a) (fv_fcs (x)) Tryz.underlying50 rfl (by kernel_rfl) ?_))
 refine (c4 _).mono ?_
 rintro e w14 ⟨rfl,hb⟩
 have B4_a:Blk w14 (w.heap.size) 50 _:=Gr.blk hb (C4_a)
 have l4_a:=B4_a.lt
 have B4_t2:Blk w14 (w.heap.size+1) 50 _:=Gr.blk hb (C4_t2)
 have l4_t2:=B4_t2.lt
 have B4_t3:Blk w14 (w10.heap.size) 50 _:=Gr.blk hb (C4_t3)
 have l4_t3:=B4_t3.lt
 have B4_t4:Blk w14 (w10.heap.size+1) 50 _:=Gr.blk hb (C4_t4)
 have l4_t4:=B4_t4.lt
 have B4_t5:Blk w14 (w10.heap.size+2) 50 _:=Gr.blk hb (C4_t5)
 have l4_t5:=B4_t5.lt
 have B4_t6:Blk w14 (w11.heap.size) 50 _:=Gr.blk hb (hL4)
 have l4_t6:=B4_t6.lt
 have hB4:=Below.gr (hC4) hb
 have sz4:=hB4.size
 clear hb
 go_wp2_with (first | ((with_reducible refine here_store ?_); refine wpList_store_blk rfl _ _ _ rfl (w.heap.size+1) (fcs (y4)) rfl rfl _ _ (B4_t2) (by kernel_rfl) (by rfl) (fcs_one _) ?_; intro v15 hL5 hq5 hK5; have C5_a:=hK5 _ (by omega) _ _ (B4_a); have C5_t3:=hK5 _ (by omega) _ _ (B4_t3); have C5_t4:=hK5 _ (by omega) _ _ (B4_t4); have C5_t5:=hK5 _ (by omega) _ _ (B4_t5); have C5_t6:=hK5 _ (by omega) _ _ (B4_t6); have hC5:=(hB4).trans (hq5 _ (by omega))))
 exact bodyPost_ret (results_cell_row rfl _ _ (w.heap.size+1) _ _ (0,0) _ rfl hL5 Tryz.underlying50 rfl (by kernel_rfl)) rfl ⟨rfl,hC5⟩
end
end
section
namespace Cu
open Go.RowKit Sy
instance npM:NeZero pM:=⟨by unfold pM; decide⟩
abbrev Fp:=Fin pM
theorem pM_K4:pM<(2^256):=by rw [pM_eq]; decide
theorem lt4 (a:Fp):a.val<(2^256):=Nat.lt_trans a.isLt pM_K4
def finv (a:Fp):Fp:=⟨invR a.val,by rw [← invR_red]; exact mod_lt_p _⟩
def nat (k:Nat) (h:k<pM):Fp:=⟨k,h⟩
theorem val_sub (a b:Fp):subP a.val b.val=(a - b).val:=by
 have hb:=b.isLt
 show (a.val+(pM - b.val%pM))%pM=((pM - b.val)+a.val)%pM
 rw [Nat.mod_eq_of_lt hb,Nat.add_comm]
theorem mul_c (a b:Fp) (w:World):Calls Tryz.prog 197 #[fv a.val,fv b.val] w (Gets w (fv (a*b).val)):=mulF_any w a.val b.val (lt4 a) (lt4 b)
theorem add_c (a b:Fp) (w:World):Calls Tryz.prog 221 #[fv a.val,fv b.val] w (Gets w (fv (a+b).val)):=addF_any w a.val b.val (lt4 a) (lt4 b)
theorem sub_c (a b:Fp) (w:World):Calls Tryz.prog 196 #[fv a.val,fv b.val] w (Gets w (fv (a - b).val)):=by rw [← val_sub]; exact subF_any w a.val b.val (lt4 a) (lt4 b)
theorem inv_c (a:Fp) (w:World):Calls Tryz.prog 225 #[fv a.val] w (Gets w (fv (finv a).val)):=inv_any w a.val (lt4 a)
theorem of_c (k:Nat) (h:k<pM) (hk:k<18446744073709551616) (w:World):Calls Tryz.prog 218 #[.int .u64 (k:Int)] w (Gets w (fv (nat k h).val)):=of_any w k hk
theorem inv_gen (p q a:Nat) (hp:Nt.Pr p) (hq:q+1=p - 1) (h:a%p≠0):a*(a ^ q%p)%p=1:=by
 rw [Nat.mul_mod_mod, ← Nat.pow_succ',show q.succ=p - 1 from hq]
 exact Nt.flt hp a h
theorem finv_one (a:Fp) (h:a≠0):a*finv a=1:=by
 have hp:Nt.Pr pM:=Nt.pr_p
 have ha:a.val%pM≠0:=by
  rw [Nat.mod_eq_of_lt a.isLt]
  exact λe=>h (Fin.ext e)
 obtain ⟨q,hq⟩:∃ q,q=eInv:=⟨_,rfl⟩
 have hq1:q+1=pM - 1:=by rw [hq]; decide +kernel
 have e1:=invR_pow a.val
 rw [← hq] at e1
 have e2:=inv_gen pM q a.val hp hq1 ha
 rw [← e1,Nat.mul_mod_mod] at e2
 exact Fin.ext e2
theorem cube_one (p q r x:Nat) (hp:Nt.Pr p) (hq:p - 1=3*q) (h3:x ^ 3%p=r) (hx:x%p≠0):r ^ q%p=1:=by
 have:=Nt.flt hp x hx
 rw [hq,Nat.pow_mul,Nat.pow_mod,h3] at this
 exact this
def thirdP:Nat:=38597363079105398474523661669562635951089994888546854679819194669302944890554
theorem thirdP_is:pM - 1=3*thirdP:=by decide +kernel
theorem no_cube:(pM - 7) ^ thirdP%pM≠1:=by
 rw [← Nt.pow_is 256 pM (pM - 7) thirdP (by decide +kernel) (by decide +kernel)]
 decide +kernel
theorem no_two (x y:Fp) (h:y*y=x*x*x+7):y≠0:=by
 rintro rfl
 have hx:x≠0:=by
  rintro rfl
  have:=congrArg Fin.val h
  exact absurd this (by decide +kernel)
 have ha:x.val%pM≠0:=by
  rw [Nat.mod_eq_of_lt x.isLt]
  exact λe=>hx (Fin.ext e)
 have h3:x.val ^ 3%pM=pM - 7:=by
  have h4:x*x*x=⟨pM - 7,by decide +kernel⟩:=by
   have e7:(⟨pM - 7,by decide +kernel⟩:Fp) = -7:=by decide +kernel
   rw [e7]
   clear ha hx
   grobner
  have h5:=congrArg Fin.val h4
  have h6:(x*x*x).val=x.val ^ 3%pM:=by
   show x.val*x.val%pM*x.val%pM=x.val ^ 3%pM
   rw [Nat.mod_mul_mod,show x.val ^ 3=x.val*x.val*x.val by rw [Nat.pow_succ,Nat.pow_succ,Nat.pow_one]]
  rw [← h6,h5]
 exact no_cube (cube_one pM thirdP _ x.val Nt.pr_p thirdP_is h3 ha)
theorem twice_zero (p k:Nat) (ho:p%2=1) (h:k<p) (h2:(k+k)%p=0):k=0:=by
 rcases Nat.lt_or_ge (k+k) p with hl | hl
 ·rw [Nat.mod_eq_of_lt hl] at h2
  omega
 ·rw [Nat.mod_eq_sub_mod hl,Nat.mod_eq_of_lt (by omega)] at h2
  omega
theorem fld:Ec.Fld pM finv where
 one:=finv_one
 two x h:=Fin.ext (twice_zero pM x.val (by decide +kernel) x.isLt (congrArg Fin.val h))
 noTwo:=no_two
end Cu
end
section
namespace Nm
open Go.RowKit Go.Lib
theorem run_equalIn_fv (W:World) (n m:Nat) (hn:n<(2^256)) (hm:m<(2^256)):(Op.equalIn 10000 98 (fv n) (fv m)).run Tryz.prog W=.ok (decide (n=m)) W:=by
 rw [fv_wl,fv_wl]
 have h:=run_equalIn_words W 9998 98 44 4 Tryz.underlying98 Tryz.underlying44 (λW=>by kernel_rfl) (wl n) (wl m) rfl rfl
 rw [wl_beq hn hm] at h
 exact h
theorem run_eql_fv (W:World) (n m:Nat) (hn:n<(2^256)) (hm:m<(2^256)):(binOp .eql 98 (fv n) (fv m)).run Tryz.prog W=.ok (.bool (decide (n=m))) W:=by
 have h:=run_equalIn_fv W n m hn hm
 rw [fv_wl,fv_wl] at h ⊢
 rw [run_eql_struct,h]
 rfl
theorem run_neq_fv (W:World) (n m:Nat) (hn:n<(2^256)) (hm:m<(2^256)):(binOp .neq 98 (fv n) (fv m)).run Tryz.prog W=.ok (.bool (decide (n≠m))) W:=by
 have h:=run_equalIn_fv W n m hn hm
 rw [fv_wl,fv_wl] at h ⊢
 rw [run_neq_struct,h]
 by_cases e:n=m <;> simp [e]
theorem run_eqGuard_fv (op:BinOp) (x y:Operand) (n m:Nat) (W:World):(eqGuard op 98 x y (fv n) (fv m)).run Tryz.prog W=.ok () W:=by
 rw [fv_fcs,fv_fcs]
 go_simp
end Nm
end
section
namespace Cu
open Go.RowKit Sy
abbrev Pt:=Ec.Pt pM
abbrev K4:Nat:=(2^256)
def fws (n:Nat):List Value:=[qv (n%18446744073709551616),qv (n / 18446744073709551616%18446744073709551616),qv (n / 340282366920938463463374607431768211456%18446744073709551616),qv (n / 6277101735386680763835789423207666416102355444464034512896%18446744073709551616)]
theorem fv_fws (n:Nat):fv n=.agg (fws n).toArray:=rfl
def pcs (x y:Nat) (i:Bool):Array Value:=(fws x++(fws y++[Value.bool i])).toArray
def pv (x y:Nat) (i:Bool):Value:=.agg (pcs x y i)
def rightB (x y:Nat) (i:Bool):Bool:=if i then (decide (x=0) && decide (y=0)) else decide (x<pM) && decide (y<pM) && decide (y*y%pM=(x*x%pM*x%pM+7)%pM)
def dec (x y:Nat) (i:Bool):Pt:=if h:i=false∧x<pM∧y<pM∧y*y%pM=(x*x%pM*x%pM+7)%pM then some (⟨x,h.2.1⟩,⟨y,h.2.2.1⟩) else none
def ptv:Pt→Value
 | none=>pv 0 0 true
 | some (x,y)=>pv x.val y.val false
theorem dec_on (x y:Nat) (i:Bool):Ec.On (dec x y i):=by
 unfold dec
 split
 ·rename_i h
  show (_:Fp)*_=_*_*_+7
  refine Fin.ext ?_
  exact h.2.2.2
 ·trivial
theorem dec_fin (x y:Fp) (h:y*y=x*x*x+7):dec x.val y.val false=some (x,y):=by
 unfold dec
 rw [dif_pos ⟨rfl,x.isLt,y.isLt,congrArg Fin.val h⟩]
theorem dec_inf (x y:Nat):dec x y true=none:=by
 unfold dec
 rw [dif_neg (by simp)]
theorem dec_zero:dec 0 0 true=none:=dec_inf 0 0
theorem dec_right (x y:Nat) (h:rightB x y false=true):∃ (hx:x<pM) (hy:y<pM),dec x y false=some (⟨x,hx⟩,⟨y,hy⟩):=by
 unfold rightB at h
 simp only [Bool.false_eq_true,if_false,Bool.and_eq_true,decide_eq_true_eq] at h
 refine ⟨h.1.1,h.1.2,?_⟩
 unfold dec
 rw [dif_pos ⟨rfl,h.1.1,h.1.2,h.2⟩]
theorem dec_wrong (x y:Nat) (i:Bool) (h:rightB x y i=false):dec x y i=none:=by
 unfold rightB at h
 unfold dec
 rw [dif_neg]
 rintro ⟨rfl,h1,h2,h3⟩
 simp [h1,h2,h3] at h
theorem ptv_right (x y:Nat) (i:Bool) (h:rightB x y i=true):ptv (dec x y i)=pv x y i:=by
 cases i
 ·obtain ⟨hx,hy,e⟩:=dec_right x y h
  rw [e]; rfl
 ·unfold rightB at h
  simp only [if_true,Bool.and_eq_true,decide_eq_true_eq] at h
  rw [dec_inf,h.1,h.2]; rfl
theorem ptv_wrong (x y:Nat) (i:Bool) (h:rightB x y i=false):ptv (dec x y i)=pv 0 0 true:=by rw [dec_wrong x y i h]; rfl
theorem ptv_raw (P:Pt) (h:Ec.On P):∃ x y i,x<K4∧y<K4∧ptv P=pv x y i∧dec x y i=P∧rightB x y i=true:=by
 rcases P with _ | ⟨x,y⟩
 ·exact ⟨0,0,true,by decide,by decide,rfl,dec_zero,rfl⟩
 ·refine ⟨x.val,y.val,false,lt4 x,lt4 y,rfl,dec_fin x y h,?_⟩
  unfold rightB
  rw [if_neg (by simp)]
  simp only [Bool.and_eq_true,decide_eq_true_eq]
  exact ⟨⟨x.isLt,y.isLt⟩,congrArg Fin.val h⟩
theorem part_fe (cs:Array Value) (o:Nat) (W:World):(part 50 cs o).run Tryz.prog W=.ok (.agg (cs.extract o (o+4))) W:=by
 have h1:=Tryz.isAgg50
 have h2:=Tryz.sizeOf50
 simp [part,h1,h2,go_sem]
theorem part_bool (cs:Array Value) (o:Nat) (b:Bool) (hb:cs[o]? = some (.bool b)) (W:World):(part 4 cs o).run Tryz.prog W=.ok (.bool b) W:=by
 have h1:=Tryz.isAgg4
 simp [part,h1,hb,go_sem]
theorem pcs_x (x y:Nat) (i:Bool):(pcs x y i).extract 0 (0+4)=fcs x:=rfl
theorem pcs_y (x y:Nat) (i:Bool):(pcs x y i).extract 4 (4+4)=fcs y:=rfl
theorem pcs_i (x y:Nat) (i:Bool):(pcs x y i)[8]? = some (.bool i):=rfl
theorem eql_fe_at (W:World) (n m:Nat) (hn:n<K4) (hm:m<K4):(Op.equalIn 9999 50 (.agg (fcs n)) (.agg (fcs m))).run Tryz.prog W=.ok (decide (n=m)) W:=by
 have h:=run_equalIn_words W 9997 50 44 4 Tryz.underlying50 Tryz.underlying44 (λW=>by kernel_rfl) (wl n) (wl m) rfl rfl
 rw [wl_beq hn hm] at h
 exact h
theorem eql_bool_at (W:World) (a b:Bool):(Op.equalIn 9999 4 (.bool a) (.bool b)).run Tryz.prog W=.ok (a == b) W:=by
 cases a <;> cases b <;> kernel_rfl
def sameB (x y:Nat) (i:Bool) (u v:Nat) (j:Bool):Bool:=decide (x=u) && (decide (y=v) && (i == j))
theorem run_eql_pv (W:World) (x y:Nat) (i:Bool) (u v:Nat) (j:Bool) (hx:x<K4) (hy:y<K4) (hu:u<K4) (hv:v<K4) :
  (binOp .eql 52 (pv x y i) (pv u v j)).run Tryz.prog W=.ok (.bool (sameB x y i u v j)) W:=by
 have hS:Tryz.prog.underlying 52=some (.struct (Tryz.prog.fieldsOf 52)):=by kernel_rfl
 have hpp:Tryz.prog.stoodInHeld 52=false:=by kernel_rfl
 unfold pv
 rw [run_eql_struct,show (10000:Nat)=9999+1 from rfl,run_equalIn_struct W 9999 52 _ _ hS hpp]
 simp only [Program.fieldsOf,Tryz.underlying52]
 have a1:∀ W,(part 50 (pcs x y i) 0).run Tryz.prog W=.ok (.agg (fcs x)) W:=λW=>by rw [part_fe,pcs_x]
 have a2:∀ W,(part 50 (pcs u v j) 0).run Tryz.prog W=.ok (.agg (fcs u)) W:=λW=>by rw [part_fe,pcs_x]
 have a3:∀ W,(part 50 (pcs x y i) 4).run Tryz.prog W=.ok (.agg (fcs y)) W:=λW=>by rw [part_fe,pcs_y]
 have a4:∀ W,(part 50 (pcs u v j) 4).run Tryz.prog W=.ok (.agg (fcs v)) W:=λW=>by rw [part_fe,pcs_y]
 have a5:∀ W,(part 4 (pcs x y i) 8).run Tryz.prog W=.ok (.bool i) W:=λW=>part_bool _ 8 i (pcs_i x y i) W
 have a6:∀ W,(part 4 (pcs u v j) 8).run Tryz.prog W=.ok (.bool j) W:=λW=>part_bool _ 8 j (pcs_i u v j) W
 have e1:∀ W,_:=λW=>eql_fe_at W x u hx hu
 have e2:∀ W,_:=λW=>eql_fe_at W y v hy hv
 have e3:∀ W,_:=λW=>eql_bool_at W i j
 unfold sameB
 generalize decide (x=u)=b1 at *
 generalize decide (y=v)=b2 at *
 generalize (i == j)=b3 at *
 cases b1 <;> cases b2 <;> cases b3 <;> simp [Op.eqFields,a1,a2,a3,a4,a5,a6,e1,e2,e3,Sem.run_bind,Sem.run_ite]
theorem run_eqGuard_pv (op:BinOp) (x y:Operand) (a b:Nat) (i:Bool) (u v:Nat) (j:Bool) (W:World):(eqGuard op 52 x y (pv a b i) (pv u v j)).run Tryz.prog W=.ok () W:=by
 unfold pv
 go_simp
end Cu
end
section
namespace Cu
open Go.ChangeShapes Go.WideShapes Go.ChangeAt Go.RowKit Go.Deep
theorem words_trod {H:Type} {enc:TypeId×Value→H} {P:Program} {W:World} {b:Nat} {sp:Nat→Bool} {held:Bool} {fuel:Nat} {t q:TypeId} {c0 c1 c2 c3:Value} {x:DataW H×List MemPlace} (ht:P.underlying t=some (.array 4 q)) (hq:P.underlying q=some (.int .u64)) (hcq:P.cellsOf q=1)
  (hf:DataW.trod enc P W b sp held fuel t [c0,c1,c2,c3]=some x):∃ n:Nat,n<K4∧[c0,c1,c2,c3]=fws n:=by
 obtain ⟨y0,y1,y2,y3,m,_,g0,g1,g2,g3⟩:=trod_array4 ht hcq hf
 obtain ⟨z0,e0,_,w0⟩:=DataW.trod_int hq g0
 obtain ⟨z1,e1,_,w1⟩:=DataW.trod_int hq g1
 obtain ⟨z2,e2,_,w2⟩:=DataW.trod_int hq g2
 obtain ⟨z3,e3,_,w3⟩:=DataW.trod_int hq g3
 obtain ⟨a,rfl,ha⟩:=u64_wf w0
 obtain ⟨b,rfl,hb⟩:=u64_wf w1
 obtain ⟨c,rfl,hc⟩:=u64_wf w2
 obtain ⟨e,rfl,he⟩:=u64_wf w3
 simp only [List.cons.injEq,and_true] at e0 e1 e2 e3
 subst e0 e1 e2 e3
 refine ⟨_,fv_lt a b c e ha hb hc he,?_⟩
 have h:=fv_mk a b c e ha hb hc he
 rw [fv_fws] at h
 injection h with h
 exact congrArg Array.toList h
end Cu
end
section
namespace Sy
open Go.RowKit
theorem St.setNew {w0:Base} {w w':World} {L:Blocks} (h:St w0 w L) (hg:Gr w w') {i g:Nat} {t:TypeId} {cs:Array Value} (hi:i<L.length) (hn:w.heap.size≤g) (hb:Blk w' g t cs):St w0 w' (L.set i (g,t,cs)):=by
 have h':=h.gr hg
 refine ⟨h'.below,λg1 t1 c1 hm=>?_,?_,h'.size,h'.non⟩
 ·rcases List.mem_or_eq_of_mem_set hm with hm | e
  ·exact ⟨(h.blk g1 t1 c1 hm).1,hg.blk (h.blk g1 t1 c1 hm).2⟩
  ·obtain ⟨rfl,rfl,rfl⟩:g1=g∧t1=t∧c1=cs:=by simpa using e
   exact ⟨Nat.le_trans h.below.size hn,hb⟩
 ·rw [List.map_set]
  have hlt:∀ x∈L.map (·.1),x<g:=λx hx=>by
   obtain ⟨⟨g1,t1,c1⟩,hm,rfl⟩:=List.mem_map.1 hx
   exact Nat.lt_of_lt_of_le (h.blk g1 t1 c1 hm).2.lt hn
  have hp:=h.apart
  generalize L.map (·.1)=l at hlt hp
  clear h hb hi
  induction l generalizing i with
  | nil=>exact List.Pairwise.nil
  | cons x l ih =>
   obtain ⟨h1,h2⟩:=List.nodup_cons.1 hp
   cases i with
   | zero =>
    refine List.nodup_cons.2 ⟨λhm=>?_,h2⟩
    have:=hlt g (List.mem_cons_of_mem _ hm)
    omega
   | succ i =>
    refine List.nodup_cons.2 ⟨λhm=>?_,ih (λy hy=>hlt y (List.mem_cons_of_mem _ hy)) h2⟩
    rcases List.mem_or_eq_of_mem_set hm with hm | e
    ·exact h1 hm
    ·have:=hlt x (List.mem_cons_self ..)
     omega
theorem addr_off (b f q:Nat):(⟨b,f,none⟩:Addr).add q=⟨b,f+q,none⟩:=by unfold Addr.add; split <;> simp_all
section
variable {P:Program} {w0:Base} {n:Nat} {Q:Exit→Act→World→Prop} {F:Slots} {L:Blocks} {ops:Array Oper} {o:Oper} {l:List Oper}
theorem Quiet.callS {v:Value} (f:FuncId) (args:Array Value) (he:∀ w,(execOp (evF F) o).run P w=.ok (.enter f args) w)
  (h:∀ w,St w0 w L→Calls P f args w (Gets w v)):Quiet P w0 F L o v:=λw hw=>by
 unfold Gives; rw [he w]; exact h w hw
theorem Writes.one (f:Nat) {g:Nat} {t:TypeId} {cs cs':Array Value} (ty:TypeId) (v:Value) (x y:Operand) (ho:o.op=.store ty x y) (hx:evF F x=.pointer (some ⟨g,f,none⟩)) (hy:evF F y=v)
  (hi:(P.info? ty).map (·.size)=some 1) (hv:v.cells=#[v]) (h1:v.oneCell'=true) (hk:f<cs.size) (hcs:cs.setIfInBounds f v=cs'):Writes P F o g t cs cs' :=
 λw hb=>⟨w.setCell ⟨g,f,none⟩ v,by
  have hth:=hb.there f 1 hk
  have hst:=run_storeCells_cells (P:=P) g f [v] 0 w (λj hj=>by simpa using (hth j hj).1) (λj hj=>by simpa using (hth j hj).2) (λu hu=>by rw [List.mem_singleton.1 hu]; exact h1)
  unfold execOp
  cases hq:P.info? ty with
  | none=>simp [hq] at hi
  | some i =>
   have hs:i.size=1:=by simpa [hq] using hi
   simp only [World.setCells,Nat.add_zero] at hst
   simp [ho,hx,hy,Instr.storeAt,Instr.sureAddr,storeVar,sizeOf,typeInfo,hq,hs,hv,hst,Result.andThen],
  only_setCell (World.grownBy.refl w (some g)) (.inl rfl) v,hcs ▸ hb.set_ f v⟩
theorem append (hg:good ops n F o=true) (ts e:TypeId) (inf:TypeInfo) (z:Value) (ht:P.underlying ts=some (.slice e)) (hinf:P.info? e=some inf) (hz:inf.zero=some z) (hs1:inf.size=1) (hb1:inf.bytes=1) (hzs:z.cells.size=1)
  (s x:Operand) (ho:o.op=.call { callee:=.builtin .append,args:=#[s,x],argTypes:=#[ts,ts] })
  (i g len cap:Nat) (cs:Array Value) (old:List Value) (hs:evF F s=.slice (some ⟨g,0,none⟩) len cap) (hL:L[i]? = some (g,e,cs)) (hold:cs.toList.take len=old) (hlen:old.length=len) (hcap:cs.size=cap) (hmax:cap≤maxLen)
  (j gx fx m c:Nat) (tx:TypeId) (cx:Array Value) (news:List Value) (hx:evF F x=.slice (some ⟨gx,fx,none⟩) m c) (hLx:L[j]? = some (gx,tx,cx)) (hnews:(cx.toList.drop fx).take m=news) (hm:news.length=m) (h1:∀ u∈news,u.oneCell'=true) (hsmall:len+m≤140737488355328)
  (h:∀ (g' cap':Nat) (sp:List Value),sp.length+(len+m)=cap'→cap'≤maxLen→wpS P w0 n ops Q (putF F o.dst (.slice (some ⟨g',0,none⟩) (len+m) cap')) (L.set i (g',e,(old++(news++sp)).toArray)) l):wpS P w0 n ops Q F L (o::l):=λa w ha hw=>by
 obtain ⟨k1,_,k3,_⟩:=good_spec hg
 refine wpList_step λK hK=>?_
 rw [if_pos (ha.wanted k1)]
 have hb:=hw.get hL
 have hbx:=hw.get hLx
 have hle:len≤cap:=by
  have:=congrArg List.length hold
  rw [List.length_take,hlen,Array.length_toList,hcap] at this
  omega
 have hn:∀ q u,news[q]? = some u→w.cell? ((⟨gx,fx,none⟩:Addr).add q)=some u:=λq u hq=>by
  rw [addr_off,hbx.cell]
  rw [← hnews] at hq
  have hlt:q<m:=by
   have:=(List.getElem?_eq_some_iff.1 hq).1
   simp at this; omega
  rw [List.getElem?_take_of_lt hlt,List.getElem?_drop] at hq
  simpa using hq
 have hown:w.ownsRow 0 e 1 (.slice (some ⟨g,0,none⟩) len cap) len old:=⟨by omega,.inr ⟨g,cap,cs,rfl,Nat.zero_le _,hb,hle,hmax,by omega,by rw [Nat.mul_one]; exact hold⟩⟩
 have step:∀ v' w',(Builtin.append_ #[ts,ts] o.type #[.slice (some ⟨g,0,none⟩) len cap,.slice (some ⟨gx,fx,none⟩) m c]).run P w=.ok v' w'→K (a.put o.dst v') w'→o.wp P a w K Q:=λv' w' hr hk=>by
  unfold Oper.wp
  rw [good_exec hg ha]
  unfold execOp
  simp only [ho,resolve,invoke,builtin,Sem.run_bind,Sem.run_pure,Result.andThen_ok,List.map_toArray,List.map_cons,List.map_nil,hs,hx,hr]
  exact hk
 have last:∀ (w':World) (g' cap':Nat) (cur:Array Value),cur.size=cap'→cap'≤maxLen→cur.toList.take (len+m)=old++news→St w0 w' (L.set i (g',e,cur))→K (a.put o.dst (.slice (some ⟨g',0,none⟩) (len+m) cap')) w':=λw' g' cap' cur h2 h3 h4 h5=>by
  have hc:cur=(old++(news++cur.toList.drop (len+m))).toArray:=by
   rw [← List.append_assoc, ← h4,List.take_append_drop]
  rw [hc] at h5
  refine hK _ _ (h g' cap' _ ?_ h3 _ _ (ha.put k3 _) h5)
  have:=congrArg List.length h4
  rw [List.length_take,List.length_append,Array.length_toList,hlen,hm] at this
  rw [List.length_drop,Array.length_toList]
  omega
 rcases Nat.lt_or_ge cap (len+m) with hlt | hge
 ·obtain ⟨v',w',hr,hrow,hgr⟩:=run_append_arg_grows (P:=P) w ts o.type e inf z 1 1 ht hinf hz hs1 hb1 hzs (by decide) ⟨g,0,none⟩ len cap old (by omega) (hown.cells (g:=g) rfl) ⟨gx,fx,none⟩ m c news (by omega) hn hlt (by simp only [maxLen]; omega) (by omega)
  refine step v' w' hr ?_
  rcases hrow.2 with ⟨rfl,h0⟩ | ⟨g',cap',cur,rfl,q1,q2,_,q4,q5,q6⟩
  ·omega
  ·exact last w' g' cap' cur (by omega) q4 (by rw [Nat.mul_one] at q6; exact q6) (hw.setNew (⟨hgr.os,hgr.tape,hgr.output,hgr.size,λk hk=>hgr.block k hk (by simp)⟩) (List.getElem?_eq_some_iff.1 hL).1 q1 q2)
 ·obtain ⟨w',hr,hrow,hgr⟩:=run_append_own_spare (P:=P) w 0 ts o.type e inf 1 ht hinf hs1 g len cap old hown ⟨gx,fx,none⟩ m c news (by omega) hn h1 hge
  refine step _ w' hr ?_
  rcases hrow.2 with ⟨h0,_⟩ | ⟨g',cap',cur,hv,_,q2,_,q4,q5,q6⟩
  ·cases h0
  ·cases hv
   exact last w' g cap cur (by omega) q4 (by rw [Nat.mul_one] at q6; exact q6) (hw.set hL hgr q2)
def wpR (P:Program) (w0:Base) (n:Nat) (c:Code) (Q:Exit→Act→World→Prop) (k:Nat) (F:Slots) (L:Blocks):Prop:=∀ a w,Fr w0.ds a n F→St w0 w L→Code.roundsIn w0.fence w0.room P c Q k a w
theorem loopN {c:Code} (k:Nat) (h:wpR P w0 n c Q k F L):wpC P w0 n Q F L (.loop c):=λa w ha hw=>wpIn_loop_rounds k (h a w ha hw)
theorem round {c:Code} {k:Nat} (h:wpC P w0 n (Exit.then (Code.roundsIn w0.fence w0.room P c Q k) Q) F L c):wpR P w0 n c Q (k+1) F L:=λa w ha hw=>h a w ha hw
theorem again {c:Code} {k:Nat} {R:Exit→Act→World→Prop} (h:wpR P w0 n c Q k F L):X w0 n (Exit.then (Code.roundsIn w0.fence w0.room P c Q k) R) F L .normal:=λa w ha hw=>h a w ha hw
theorem loopI {c:Code} (N:Nat) (I:Nat→Act→World→Prop) (h0:∀ a w,Fr w0.ds a n F→St w0 w L→I 0 a w)
  (hr:∀ i,i≤N→∀ a w,I i a w→c.wpIn w0.fence w0.room P (Exit.then (λa w=>i<N∧I (i+1) a w) Q) a w):wpC P w0 n Q F L (.loop c):=λa w ha hw=>by
 refine wpIn_loop_rounds (N+1) ?_
 have key:∀ k i,i+k=N→∀ a w,I i a w→Code.roundsIn w0.fence w0.room P c Q (k+1) a w:=by
  intro k
  induction k with
  | zero =>
   intro i hi a w h
   refine wpIn_mono (hr i (by omega) a w h) λe a w hq=>?_
   cases e <;> first | exact hq | exact absurd hq.1 (by omega)
  | succ k ih =>
   intro i hi a w h
   refine wpIn_mono (hr i (by omega) a w h) λe a w hq=>?_
   cases e <;> first | exact hq | exact ih (i+1) (by omega) a w hq.2
 exact key N 0 (by omega) a w (h0 a w ha hw)
theorem lookup_all:∀ (G:Slots),(∀ p∈G,F.lookup p.1=some p.2)→∀ i v,G.lookup i=some v→F.lookup i=some v
 | [],_,_,_,h=>by cases h
 | (q,u)::G,hG,i,v,h=>by
  simp only [List.lookup_cons] at h
  by_cases e:i=q
  ·subst e
   simp at h
   subst h
   exact hG (i,u) (List.mem_cons_self ..)
  ·have e':(i == q)=false:=by simpa using e
   rw [e'] at h
   exact lookup_all G (λp hp=>hG p (List.mem_cons_of_mem _ hp)) i v h
theorem Fr.all {ds:List Deferred} {a:Act} (h:Fr ds a n F) {G:Slots} (hG:∀ p∈G,F.lookup p.1=some p.2):Fr ds a n G:=h.less (lookup_all G hG)
theorem all_nil:∀ p∈([]:Slots),F.lookup p.1=some p.2:=λ_ h=>by cases h
theorem all_cons {G:Slots} {i:Nat} {v:Value} (h:F.lookup i=some v) (hG:∀ p∈G,F.lookup p.1=some p.2):∀ p∈(i,v)::G,F.lookup p.1=some p.2:=λp hp=>by
 rcases List.mem_cons.1 hp with rfl | hp
 ·exact h
 ·exact hG p hp
def sel:Blocks→List Bool→Blocks
 | x::l,true::m=>x::sel l m
 | _::l,false::m=>sel l m
 | _,_=>[]
theorem sel_sub:∀ (l:Blocks) (m:List Bool),(sel l m).Sublist l
 | [],[]=>List.Sublist.slnil
 | [],_::_=>by simp [sel]
 | _::_,[]=>by simp [sel]
 | _::l,true::m=>(sel_sub l m).cons_cons _
 | _::l,false::m=>(sel_sub l m).cons _
theorem tidyR {c:Code} {k:Nat} {G:Slots} {M:Blocks} (m:List Bool) (hM:sel L m=M) (hF:∀ p∈G,F.lookup p.1=some p.2) (h:wpR P w0 n c Q k G M):wpR P w0 n c Q k F L:=λa w ha hw=>h a w (ha.all hF) (hM ▸ hw.less (sel_sub L m))
theorem Quiet.there (g f k:Nat) (ty:TypeId) (cs:List Value) (d:TypeDesc) (x:Operand) (ho:o.op=.load ty x) (hx:evF F x=.pointer (some ⟨g,f,none⟩)) (hg:g<w0.world.heap.size) (hr:w0.world.rangeAt g f cs)
  (hu:P.underlying ty=some d) (hd:d.isRow=true) (hi:(P.info? ty).map (·.size)=some k) (hk:cs.length=k) (v:Value) (hv:Value.agg cs.toArray=v):Quiet P w0 F L o v:=λw hw=>by
 have hl:=run_loadVar_mid (P:=P) w g f ty cs d (λj u hj=>(Below.cell (p:=⟨g,f+j,none⟩) hw.below hg).trans (hr j u hj)) hu hd (by rw [hi,hk])
 unfold Gives execOp
 simp only [ho,hx,Instr.loadAt,Instr.sureAddr,Sem.run_bind,Sem.run_pure,Result.andThen_ok,hl]
 exact ⟨hv,Gr.refl _⟩
theorem Quiet.thereOne (g f:Nat) (ty:TypeId) (d:TypeDesc) (x:Operand) (ho:o.op=.load ty x) (hx:evF F x=.pointer (some ⟨g,f,none⟩)) (hg:g<w0.world.heap.size) (v:Value) (hr:w0.world.cell? ⟨g,f,none⟩=some v)
  (hu:P.underlying ty=some d) (hd:d.isRow=false):Quiet P w0 F L o v:=λw hw=>by
 have hc:w.cell? ⟨g,f,none⟩=some v:=(Below.cell (p:=⟨g,f,none⟩) hw.below hg).trans hr
 have ha:(isAgg ty).run P w=.ok false w:=by
  cases d <;> first | (cases hd; done) | simp [isAgg,underlying,hu]
 unfold Gives execOp
 simp only [ho,hx,Instr.loadAt,Instr.sureAddr,Sem.run_bind,Sem.run_pure,Result.andThen_ok,loadVar,ha,Bool.false_eq_true,if_false,run_load,hc]
 exact ⟨trivial,Gr.refl _⟩
end
end Sy
end
section
section
theorem kR {α:Sort _} {a b:α} (h:a=b:=by kernel_rfl):a=b:=h
theorem kL {a b:Nat} (h:Nat.ble a b=true:=by kernel_rfl):a≤b:=Nat.le_of_ble_eq_true h
theorem kF {α:Sort _} {β:α→Sort _} {f g:(x:α)→β x} (h:∀ x,f x=g x:=by intro _; kernel_rfl) (x:α):f x=g x:=h x
end
end
section
namespace Sy
open Go.RowKit
section
variable {P:Program} {w0:Base} {n:Nat} {Q:Exit→Act→World→Prop} {F:Slots} {L:Blocks} {ops:Array Oper} {o:Oper} {l:List Oper}
theorem qP {v:Value} (h:∀ w,(execOp (evF F) o).run P w=.ok (.value v) w:=by intro _; kernel_rfl):Quiet P w0 F L o v:=Quiet.pure h
theorem qF {v:Value} (f:FuncId) (args:Array Value) (h:∀ w,Calls P f args w λe w'=>e=.returned v∧Below w.heap.size w w') (he:∀ w,(execOp (evF F) o).run P w=.ok (.enter f args) w:=by intro _; kernel_rfl):Quiet P w0 F L o v:=Quiet.call f args he h
theorem qG {v:Value} (f:FuncId) (args:Array Value) (h:∀ w,St w0 w L→Calls P f args w (Gets w v)) (he:∀ w,(execOp (evF F) o).run P w=.ok (.enter f args) w:=by intro _; kernel_rfl):Quiet P w0 F L o v:=Quiet.callS f args he h
theorem qL {x:Operand} {d:TypeDesc} {v:Value} (i g f k:Nat) (t ty:TypeId) (cs:Array Value) (ho:o.op=.load ty x) (hu:P.underlying ty=some d) (hx:evF F x=.pointer (some ⟨g,f,none⟩):=by kernel_rfl)
  (hL:L[i]? = some (g,t,cs):=by kernel_rfl) (hd:d.isRow=true:=by rfl) (hi:(P.info? ty).map (·.size)=some k:=by kernel_rfl) (hv:Value.agg ((cs.toList.drop f).take k).toArray=v:=by kernel_rfl) (hk:Nat.ble (f+k) cs.size=true:=by kernel_rfl):Quiet P w0 F L o v :=
 Quiet.load i g f k t ty cs d x ho hx hL hu hd hi v hv (Nat.le_of_ble_eq_true hk)
theorem qC {x:Operand} {d:TypeDesc} {v:Value} (i g f:Nat) (t ty:TypeId) (cs:Array Value) (ho:o.op=.load ty x) (hu:P.underlying ty=some d) (hx:evF F x=.pointer (some ⟨g,f,none⟩):=by kernel_rfl)
  (hL:L[i]? = some (g,t,cs):=by kernel_rfl) (hd:d.isRow=false:=by rfl) (hv:cs[f]? = some v:=by kernel_rfl):Quiet P w0 F L o v :=
 Quiet.cell i g f t ty cs d x ho hx hL hu hd v hv
theorem sS (v:Value) (hq:Quiet P w0 F L o v) (h:wpS P w0 n ops Q (putF F o.dst v) L l) (hg:good ops n F o=true:=by kernel_rfl):wpS P w0 n ops Q F L (o::l):=step hg v hq h
theorem sN (h:wpS P w0 n ops Q (putF F o.dst undef) L l) (hg:wantedF ops F o=some false:=by kernel_rfl) (hd:fits n o.dst=true:=by kernel_rfl):wpS P w0 n ops Q F L (o::l):=pass hg hd h
theorem sM (t:TypeId) (cs:Array Value) (h:∀ g,wpS P w0 n ops Q (putF F o.dst (ptr g)) (L++[(g,t,cs)]) l) (hg:good ops n F o=true:=by kernel_rfl) (hm:∀ w,(execOp (evF F) o).run P w=.ok (.value (ptr w.heap.size)) (w.alloc (.cells cs t)):=by intro _; kernel_rfl):wpS P w0 n ops Q F L (o::l):=make hg t cs ptr hm h
theorem sW (i g:Nat) (t:TypeId) (cs cs':Array Value) (hm:Writes P F o g t cs cs') (h:wpS P w0 n ops Q (putF F o.dst undef) (L.set i (g,t,cs')) l) (hg:good ops n F o=true:=by kernel_rfl) (hL:L[i]? = some (g,t,cs):=by kernel_rfl):wpS P w0 n ops Q F L (o::l):=write hg i g t cs cs' hL hm h
theorem wS {x y:Operand} (f:Nat) {g:Nat} {t:TypeId} {cs cs':Array Value} (ty:TypeId) (cells:Array Value) (ho:o.op=.store ty x y) (hx:evF F x=.pointer (some ⟨g,f,none⟩):=by kernel_rfl) (hy:evF F y=.agg cells:=by kernel_rfl)
  (hi:(P.info? ty).map (·.size)=some cells.size:=by kernel_rfl) (hk:Nat.ble (f+cells.size) cs.size=true:=by kernel_rfl) (h1:cells.all (·.oneCell')=true:=by kernel_rfl) (hcs:setAll cs f cells.toList=cs':=by kernel_rfl):Writes P F o g t cs cs' :=
 Writes.store f ty cells x y ho hx hy hi (Nat.le_of_ble_eq_true hk) h1 hcs
theorem wO {x y:Operand} (f:Nat) {g:Nat} {t:TypeId} {cs cs':Array Value} (ty:TypeId) (v:Value) (ho:o.op=.store ty x y) (hx:evF F x=.pointer (some ⟨g,f,none⟩):=by kernel_rfl) (hy:evF F y=v:=by kernel_rfl)
  (hi:(P.info? ty).map (·.size)=some 1:=by kernel_rfl) (hv:v.cells=#[v]:=by rfl) (h1:v.oneCell'=true:=by rfl) (hk:Nat.ble (f+1) cs.size=true:=by kernel_rfl) (hcs:cs.setIfInBounds f v=cs':=by kernel_rfl):Writes P F o g t cs cs' :=
 Writes.one f ty v x y ho hx hy hi hv h1 (Nat.le_of_ble_eq_true hk) hcs
variable {ex:Nat→Bool} {fuel:Nat} {listed:Array Bool}
theorem sD (i:Nat) {oi:Oper} (hi0:ops.toList[i]? = some oi) (v:Value) (hq:Quiet P w0 F L oi v) (h:wpD P w0 n ops Q ex (putF F oi.dst v) L fuel (listed.setIfInBounds i true)) (hc:canTake .any ops listed ex i=true:=by kernel_rfl)
  (hg:good ops n F oi=true:=by kernel_rfl) (hQ:∀ c v a w,Q (.panic c) (a.put oi.dst v) w→Q (.panic c) a w:=by exact λ_ _ _ _ h=>h):wpD P w0 n ops Q ex F L (fuel+1) listed:=stepD i hi0 hc hQ hg v hq h
theorem sQ (i:Nat) {oi:Oper} (hi0:ops.toList[i]? = some oi) (h:wpD P w0 n ops Q ex (putF F oi.dst undef) L fuel (listed.setIfInBounds i true)) (hc:canTake .any ops listed ex i=true:=by kernel_rfl)
  (hg:wantedF ops F oi=some false:=by kernel_rfl) (hd:fits n oi.dst=true:=by kernel_rfl) (hQ:∀ c v a w,Q (.panic c) (a.put oi.dst v) w→Q (.panic c) a w:=by exact λ_ _ _ _ h=>h):wpD P w0 n ops Q ex F L (fuel+1) listed:=passD i hi0 hc hQ hg hd h
theorem sO (i:Nat) {oi:Oper} (hi0:ops.toList[i]? = some oi) (t:TypeId) (cs:Array Value) (h:∀ g,wpD P w0 n ops Q ex (putF F oi.dst (ptr g)) (L++[(g,t,cs)]) fuel (listed.setIfInBounds i true)) (hr:Region.ready .any ops listed=[i]:=by kernel_rfl) (hg:good ops n F oi=true:=by kernel_rfl)
  (hm:∀ w,(execOp (evF F) oi).run P w=.ok (.value (ptr w.heap.size)) (w.alloc (.cells cs t)):=by intro _; kernel_rfl):wpD P w0 n ops Q ex F L (fuel+1) listed:=makeD i hi0 hr hg t cs ptr hm h
theorem sX (k:Nat) {oi:Oper} (hi0:ops.toList[k]? = some oi) (i g:Nat) (t:TypeId) (cs cs':Array Value) (hm:Writes P F oi g t cs cs') (h:wpD P w0 n ops Q ex (putF F oi.dst undef) (L.set i (g,t,cs')) fuel (listed.setIfInBounds k true))
  (hr:Region.ready .any ops listed=[k]:=by kernel_rfl) (hex:ex k=true:=by rfl) (hg:good ops n F oi=true:=by kernel_rfl) (hL:L[i]? = some (g,t,cs):=by kernel_rfl):wpD P w0 n ops Q ex F L (fuel+1) listed:=writeD k hi0 hr hex hg i g t cs cs' hL hm h
theorem sE (h:X w0 n Q F L .normal) (hr:Region.ready .any ops listed=[]:=by kernel_rfl):wpD P w0 n ops Q ex F L fuel listed:=doneD hr h
theorem sT {c:Operand} {x y:Code} (h:wpC P w0 n Q F L x) (hi:inF F c=true:=by kernel_rfl) (hc:evF F c=.bool true:=by kernel_rfl):wpC P w0 n Q F L (.cond c x y):=cond_t hi hc h
theorem sU {c:Operand} {x y:Code} (h:wpC P w0 n Q F L y) (hi:inF F c=true:=by kernel_rfl) (hc:evF F c=.bool false:=by kernel_rfl):wpC P w0 n Q F L (.cond c x y):=cond_f hi hc h
theorem sC {i:Nat} {y:Code} (h:wpS P w0 n ops (Exit.then (y.wpIn w0.fence w0.room P Q) Q) F L ops.toList) (hf:w0.fence=Fence.wide:=by rfl):wpC P w0 n Q F L (.seq (.region i ops false) y):=seq (region h hf)
theorem sB {i:Nat} {y:Code} (h:wpS P w0 n ops (Exit.then (y.wpIn w0.fence w0.room P Q) Q) F L ops.toList) (hf:w0.fence=Fence.wide:=by rfl):X w0 n (Exit.then ((Code.seq (.region i ops false) y).wpIn w0.fence w0.room P Q) Q) F L .normal:=then_ (sC h hf)
theorem sA {i:Nat} {y:Code} {ops0:Array Oper} (h:wpS P w0 n ops (Exit.then (y.wpIn w0.fence w0.room P Q) Q) F L ops.toList) (hf:w0.fence=Fence.wide:=by rfl):wpS P w0 n ops0 (Exit.then ((Code.seq (.region i ops false) y).wpIn w0.fence w0.room P Q) Q) F L []:=nil (sB h hf)
theorem sP (v:Value) (h:wpS P w0 n ops Q (putF F o.dst v) L l) (hp:∀ w,(execOp (evF F) o).run P w=.ok (.value v) w:=by intro _; kernel_rfl) (hg:good ops n F o=true:=by kernel_rfl):wpS P w0 n ops Q F L (o::l):=step hg v (Quiet.pure hp) h
theorem sZ (i:Nat) {oi:Oper} (hi0:ops.toList[i]? = some oi) (v:Value) (h:wpD P w0 n ops Q ex (putF F oi.dst v) L fuel (listed.setIfInBounds i true)) (hp:∀ w,(execOp (evF F) oi).run P w=.ok (.value v) w:=by intro _; kernel_rfl) (hc:canTake .any ops listed ex i=true:=by kernel_rfl)
  (hg:good ops n F oi=true:=by kernel_rfl) (hQ:∀ c v a w,Q (.panic c) (a.put oi.dst v) w→Q (.panic c) a w:=by exact λ_ _ _ _ h=>h):wpD P w0 n ops Q ex F L (fuel+1) listed:=stepD i hi0 hc hQ hg v (Quiet.pure hp) h
theorem sR {i:Nat} {y:Code} (ex:Nat→Bool) (h:wpD P w0 n ops (Exit.then (y.wpIn w0.fence w0.room P Q) Q) ex F L ops.size (Array.replicate ops.size false)) (hm:P.follows .mixedOrders=true:=by kernel_rfl) (hf:w0.fence=Fence.wide:=by rfl):X w0 n (Exit.then ((Code.seq (.region i ops true) y).wpIn w0.fence w0.room P Q) Q) F L .normal:=then_ (seq (regionD ex hm h hf))
theorem sH {i:Nat} {y:Code} {ops0:Array Oper} (ex:Nat→Bool) (h:wpD P w0 n ops (Exit.then (y.wpIn w0.fence w0.room P Q) Q) ex F L ops.size (Array.replicate ops.size false)) (hm:P.follows .mixedOrders=true:=by kernel_rfl) (hf:w0.fence=Fence.wide:=by rfl):wpS P w0 n ops0 (Exit.then ((Code.seq (.region i ops true) y).wpIn w0.fence w0.room P Q) Q) F L []:=nil (sR ex h hm hf)
theorem sG {y:Code} {ops0:Array Oper} (h:wpC P w0 n Q F L y):wpS P w0 n ops0 (Exit.then (y.wpIn w0.fence w0.room P Q) Q) F L []:=nil (then_ h)
theorem sI {y:Code} (h:wpC P w0 n Q F L y) (hr:Region.ready .any ops listed=[]:=by kernel_rfl):wpD P w0 n ops (Exit.then (y.wpIn w0.fence w0.room P Q) Q) ex F L fuel listed:=doneD hr (then_ h)
theorem rC {w1:World} {fn:Func} {z:Tmp} {ty:TypeId} {d:TypeDesc} {v:Value} (t:TypeId) (g i:Nat) (cs:Array Value) (hr:fn.results=#[.cell z ty]) (h3:P.underlying ty=some d) (h1:F.lookup z=some (.pointer (some ⟨g,0,none⟩)):=by kernel_rfl) (h2:L[i]? = some (g,t,cs):=by kernel_rfl) (h4:d.isRow=true:=by rfl)
  (h5:(P.info? ty).map (·.size)=some cs.size:=by kernel_rfl) (h6:v=.agg cs:=by kernel_rfl):X (Base.of w1) n (bodyPost P fn (Gets w1 v)) F L .ret:=ret1 hr (.inl (Res.cell (ty':=t) g i cs d h1 h2 h3 h4 h5 h6))
theorem rV {w1:World} {fn:Func} {z:Tmp} (v:Value) (hr:fn.results=#[.tmp z]) (h:F.lookup z=some v:=by kernel_rfl):X (Base.of w1) n (bodyPost P fn (Gets w1 v)) F L .ret:=ret1 hr (.inl h)
end
end Sy
end
section
namespace Cu
open Go.RowKit
theorem lK {n:Nat} (h:n<K4:=by first | assumption | exact lt4 _ | decide +kernel):n<K4:=h
end Cu
end
section
namespace Cu
open Go.RowKit Sy
set_option maxRecDepth 100000
set_option maxHeartbeats 4000000
theorem eql_fe (w:World) (F:Slots) (o:Oper) (x y:Operand) (n m:Nat) {yt:TypeId} (ho:o.op=.binOp .eql 50 x y yt) (hx:evF F x=fv n) (hy:evF F y=fv m) (hn:n<K4) (hm:m<K4):(execOp (evF F) o).run Tryz.prog w=.ok (.value (.bool (decide (n=m)))) w:=by
 have h1:=run_eqGuard_fv .eql x y n m w
 have h2:=run_eql_fv w n m hn hm
 unfold execOp
 simp only [ho,hx,hy,Sem.run_bind,h1,h2,Result.andThen_ok,Sem.run_pure]
theorem eql_pt (w:World) (F:Slots) (o:Oper) (x y:Operand) (a b:Nat) (i:Bool) (c d:Nat) (j:Bool) {yt:TypeId} (ho:o.op=.binOp .eql 52 x y yt) (hx:evF F x=pv a b i) (hy:evF F y=pv c d j) (ha:a<K4) (hb:b<K4) (hc:c<K4) (hd:d<K4):(execOp (evF F) o).run Tryz.prog w=.ok (.value (.bool (sameB a b i c d j))) w:=by
 have h1:=run_eqGuard_pv .eql x y a b i c d j w
 have h2:=run_eql_pv w a b i c d j ha hb hc hd
 unfold execOp
 simp only [ho,hx,hy,Sem.run_bind,h1,h2,Result.andThen_ok,Sem.run_pure]
theorem zero_c (w:World)  : Calls Tryz.prog 194 #[] w (Gets w (pv 0 0 true)):=by
 refine Sy.enter (args:=[]) Tryz.func194 rfl kL ?_
 refine sC ?_
 refine sM 52 (pcs 0 0 false) (λg0=>?_)
 refine sA ?_
 refine sP (pv 0 0 true)<|sW 0 g0 52 (pcs 0 0 false) (pcs 0 0 true) (wS 0 52 (pcs 0 0 true) rfl) ?_
 refine sG<|Sy.ret ?_
 exact rC (v:=pv 0 0 true) 52 g0 0 (pcs 0 0 true) rfl Tryz.underlying52
def gx:Fp:=⟨55066263022277343669578718895168534326250603453777594175500187360389116729240,by decide +kernel⟩
def gy:Fp:=⟨32670510020758816978083085130507043184471273380659243275938904335757337482424,by decide +kernel⟩
def bP:Pt:=some (gx,gy)
theorem bP_on:Ec.On bP:=by
 show gy*gy=gx*gx*gx+7
 decide +kernel
theorem base_c (w:World)  : Calls Tryz.prog 105 #[] w (Gets w (ptv bP)):=by
 refine Sy.enter (args:=[]) Tryz.func105 rfl kL ?_
 refine sC ?_
 refine sM 52 (pcs 0 0 false) (λg0=>?_)
 refine sA ?_
 refine sP (fv 55066263022277343669578718895168534326250603453777594175500187360389116729240)<|sP (fv 32670510020758816978083085130507043184471273380659243275938904335757337482424)<|sP (pv 55066263022277343669578718895168534326250603453777594175500187360389116729240 32670510020758816978083085130507043184471273380659243275938904335757337482424 false)<|sW 0 g0 52 (pcs 0 0 false) (pcs 55066263022277343669578718895168534326250603453777594175500187360389116729240 32670510020758816978083085130507043184471273380659243275938904335757337482424 false) (wS 0 52 (pcs 55066263022277343669578718895168534326250603453777594175500187360389116729240 32670510020758816978083085130507043184471273380659243275938904335757337482424 false) rfl) ?_
 refine sG<|Sy.ret ?_
 rw [show (ptv bP:Value)=pv 55066263022277343669578718895168534326250603453777594175500187360389116729240 32670510020758816978083085130507043184471273380659243275938904335757337482424 false from by kernel_rfl]
 exact rC (v:=pv 55066263022277343669578718895168534326250603453777594175500187360389116729240 32670510020758816978083085130507043184471273380659243275938904335757337482424 false) 52 g0 0 (pcs 55066263022277343669578718895168534326250603453777594175500187360389116729240 32670510020758816978083085130507043184471273380659243275938904335757337482424 false) rfl Tryz.underlying52
theorem square_c (w:World) (x:Fp):Calls Tryz.prog 205 #[fv x.val] w (Gets w (fv (x*x*x+7).val)):=by
 refine Sy.enter (args:=[fv x.val]) Tryz.func205 rfl kL ?_
 refine sC ?_
 refine sM 50 (fcs x.val) (λg0=>?_)
 refine sM 50 (fcs 0) (λg1=>?_)
 refine sH (λj=>j == 7) ?_
 refine sD 0 rfl (fv x.val) (qL 0 g0 0 4 50 50 (fcs x.val) rfl Tryz.underlying50)<|sD 1 rfl (fv x.val) (qL 0 g0 0 4 50 50 (fcs x.val) rfl Tryz.underlying50) ?_
 obtain ⟨z1,hz1⟩:∃ z:Fp,z=x*x:=⟨_,rfl⟩
 refine sD 2 rfl (fv z1.val) (qF 197 #[fv x.val,fv x.val] (by rw [hz1]; exact mul_c x x))<|sD 3 rfl (fv x.val) (qL 0 g0 0 4 50 50 (fcs x.val) rfl Tryz.underlying50) ?_
 obtain ⟨z2,hz2⟩:∃ z:Fp,z=z1*x:=⟨_,rfl⟩
 refine sD 4 rfl (fv z2.val) (qF 197 #[fv z1.val,fv x.val] (by rw [hz2]; exact mul_c z1 x)) ?_
 obtain ⟨z3,hz3⟩:∃ z:Fp,z=(nat 7 (by decide +kernel):Fp):=⟨_,rfl⟩
 refine sD 5 rfl (fv z3.val) (qF 218 #[.int .u64 7] (by rw [hz3]; exact of_c 7 (by decide +kernel) (by decide))) ?_
 obtain ⟨z4,hz4⟩:∃ z:Fp,z=z2+z3:=⟨_,rfl⟩
 refine sD 6 rfl (fv z4.val) (qF 221 #[fv z2.val,fv z3.val] (by rw [hz4]; exact add_c z2 z3))<|sX 7 rfl 1 g1 50 (fcs 0) (fcs z4.val) (wS 0 50 (fcs z4.val) rfl) ?_
 refine sI ?_
 refine Sy.ret ?_
 rw [show (fv (x*x*x+7).val:Value)=fv z4.val from by rw [hz4,hz3,hz2,hz1]; rfl]
 exact rC (v:=fv z4.val) 50 g1 1 (fcs z4.val) rfl Tryz.underlying50
theorem rightB_inf (x y:Nat):sameB x y true 0 0 true=rightB x y true:=by
 unfold sameB rightB
 simp
theorem fp_of {x z:Nat} (h1:z=x%pM) (h2:true=decide (z=x)):∃ u:Fp,x=u.val:=by
 have h3:z=x:=of_decide_eq_true h2.symm
 exact ⟨⟨x,by rw [← h3,h1]; exact mod_lt_p x⟩,rfl⟩
theorem not_fp {x z:Nat} (h1:z=x%pM) (h2:false=decide (z=x)):¬ x<pM:=λh=>by
 rw [h1,Nat.mod_eq_of_lt h] at h2
 simp at h2
theorem rb_x {x:Nat} (h:¬ x<pM) (y:Nat):rightB x y false=false:=by unfold rightB; simp [h]
theorem rb_y {y:Nat} (h:¬ y<pM) (x:Nat):rightB x y false=false:=by unfold rightB; simp [h]
theorem rb_xy (x y:Fp):rightB x.val y.val false=decide ((y*y).val=(x*x*x+7).val):=by
 unfold rightB
 simp only [Bool.false_eq_true,if_false,x.isLt,y.isLt,decide_true,Bool.true_and]
 rfl
theorem right_b (w:World) (x y:Nat) (i:Bool) (hx:x<K4) (hy:y<K4):Calls Tryz.prog 156 #[pv x y i] w (Gets w (.bool (rightB x y i))):=by
 refine Sy.enter (args:=[pv x y i]) Tryz.func156 rfl kL ?_
 refine sC ?_
 refine sM 52 (pcs x y i) (λg0=>?_)
 refine sP (.bool false) ?_
 refine sG<|Sy.seq<|sC ?_
 refine sP (.pointer (some ⟨g0,8,none⟩))<|sS (.bool i) (qC 0 g0 8 52 4 (pcs x y i) rfl Tryz.underlying4) ?_
 refine sG ?_
 cases i
 ·refine sU<|Sy.skip ?_
  refine sR (λj=>false) ?_
  refine sZ 0 rfl (.pointer (some ⟨g0,0,none⟩))<|sD 1 rfl (fv x) (qL 0 g0 0 4 52 50 (pcs x y false) rfl Tryz.underlying50) ?_
  obtain ⟨z1,hz1⟩:∃ z:Nat,z=x%pM:=⟨_,rfl⟩
  have lz1:z1<K4:=by rw [hz1]; exact mod_lt x
  refine sD 2 rfl (fv z1) (qF 204 #[fv x] (λw=>by rw [hz1]; exact norm_any w x (by first | assumption | exact lt4 _)))<|sZ 3 rfl (.pointer (some ⟨g0,0,none⟩))<|sD 4 rfl (fv x) (qL 0 g0 0 4 52 50 (pcs x y false) rfl Tryz.underlying50) ?_
  obtain ⟨b1,hb1⟩:∃ z:Bool,z=decide (z1=x):=⟨_,rfl⟩
  refine sD 5 rfl (.bool b1) (Quiet.pure (λw=>by rw [hb1]; exact eql_fe w _ _ _ _ _ _ rfl rfl rfl lK lK))<|sZ 6 rfl (.bool b1) ?_
  cases b1
  ·refine sQ 7 rfl<|sQ 8 rfl<|sQ 9 rfl<|sQ 10 rfl<|sQ 11 rfl<|sQ 12 rfl<|sZ 13 rfl (.bool false)<|sZ 14 rfl (.bool false) ?_
   refine sE ?_
   refine sR (λj=>false) ?_
   refine sZ 0 rfl (.bool false)<|sZ 1 rfl (.bool false)<|sQ 2 rfl<|sQ 3 rfl<|sQ 4 rfl<|sQ 5 rfl<|sQ 6 rfl<|sQ 7 rfl ?_
   refine sQ 8 rfl<|sQ 9 rfl<|sQ 10 rfl<|sZ 11 rfl (.bool false)<|sZ 12 rfl (.bool false) ?_
   refine sI ?_
   refine Sy.ret ?_
   rw [show (.bool (rightB x y false):Value)=.bool false from by rw [rb_x (not_fp hz1 hb1)]]
   exact rV (.bool false) rfl
  ·obtain ⟨ux,rfl⟩:=fp_of hz1 hb1
   refine sZ 7 rfl (.pointer (some ⟨g0,4,none⟩))<|sD 8 rfl (fv y) (qL 0 g0 4 4 52 50 (pcs ux.val y false) rfl Tryz.underlying50) ?_
   obtain ⟨z2,hz2⟩:∃ z:Nat,z=y%pM:=⟨_,rfl⟩
   have lz2:z2<K4:=by rw [hz2]; exact mod_lt y
   refine sD 9 rfl (fv z2) (qF 204 #[fv y] (λw=>by rw [hz2]; exact norm_any w y (by first | assumption | exact lt4 _)))<|sZ 10 rfl (.pointer (some ⟨g0,4,none⟩))<|sD 11 rfl (fv y) (qL 0 g0 4 4 52 50 (pcs ux.val y false) rfl Tryz.underlying50) ?_
   obtain ⟨b2,hb2⟩:∃ z:Bool,z=decide (z2=y):=⟨_,rfl⟩
   refine sD 12 rfl (.bool b2) (Quiet.pure (λw=>by rw [hb2]; exact eql_fe w _ _ _ _ _ _ rfl rfl rfl lK lK))<|sZ 13 rfl (.bool b2)<|sZ 14 rfl (.bool b2) ?_
   refine sE ?_
   refine sR (λj=>false) ?_
   refine sZ 0 rfl (.bool b2)<|sZ 1 rfl (.bool b2) ?_
   cases b2
   ·refine sQ 2 rfl<|sQ 3 rfl<|sQ 4 rfl<|sQ 5 rfl<|sQ 6 rfl<|sQ 7 rfl<|sQ 8 rfl<|sQ 9 rfl ?_
    refine sQ 10 rfl<|sZ 11 rfl (.bool false)<|sZ 12 rfl (.bool false) ?_
    refine sI ?_
    refine Sy.ret ?_
    rw [show (.bool (rightB ux.val y false):Value)=.bool false from by rw [rb_y (not_fp hz2 hb2)]]
    exact rV (.bool false) rfl
   ·obtain ⟨uy,rfl⟩:=fp_of hz2 hb2
    refine sZ 2 rfl (.pointer (some ⟨g0,4,none⟩))<|sD 3 rfl (fv uy.val) (qL 0 g0 4 4 52 50 (pcs ux.val uy.val false) rfl Tryz.underlying50)<|sZ 4 rfl (.pointer (some ⟨g0,4,none⟩))<|sD 5 rfl (fv uy.val) (qL 0 g0 4 4 52 50 (pcs ux.val uy.val false) rfl Tryz.underlying50) ?_
    obtain ⟨z3,hz3⟩:∃ z:Fp,z=uy*uy:=⟨_,rfl⟩
    refine sD 6 rfl (fv z3.val) (qF 197 #[fv uy.val,fv uy.val] (by rw [hz3]; exact mul_c uy uy))<|sZ 7 rfl (.pointer (some ⟨g0,0,none⟩))<|sD 8 rfl (fv ux.val) (qL 0 g0 0 4 52 50 (pcs ux.val uy.val false) rfl Tryz.underlying50) ?_
    obtain ⟨z4,hz4⟩:∃ z:Fp,z=ux*ux*ux+7:=⟨_,rfl⟩
    refine sD 9 rfl (fv z4.val) (qF 205 #[fv ux.val] (by rw [hz4]; exact λw=>square_c w ux)) ?_
    obtain ⟨b3,hb3⟩:∃ z:Bool,z=decide (z3.val=z4.val):=⟨_,rfl⟩
    refine sD 10 rfl (.bool b3) (Quiet.pure (λw=>by rw [hb3]; exact eql_fe w _ _ _ _ _ _ rfl rfl rfl lK lK))<|sZ 11 rfl (.bool b3)<|sZ 12 rfl (.bool b3) ?_
    refine sI ?_
    refine Sy.ret ?_
    rw [show (.bool (rightB ux.val uy.val false):Value)=.bool b3 from by rw [hb3,rb_xy]; simp only [hz3,hz4]]
    exact rV (.bool b3) rfl
 ·refine sT<|Sy.seq ?_
  refine Sy.regionD (λj=>false) kR ?_
  refine sD 0 rfl (pv x y true) (qL 0 g0 0 9 52 52 (pcs x y true) rfl Tryz.underlying52)<|sD 1 rfl (pv 0 0 true) (qF 194 #[] (zero_c)) ?_
  obtain ⟨b4,hb4⟩:∃ z:Bool,z=sameB x y true 0 0 true:=⟨_,rfl⟩
  refine sD 2 rfl (.bool b4) (Quiet.pure (λw=>by rw [hb4]; exact eql_pt w _ _ _ _ _ _ _ _ _ _ rfl rfl rfl lK lK lK lK))<|sZ 3 rfl (.bool b4) ?_
  refine sI ?_
  refine Sy.ret<|Sy.then_ret ?_
  rw [show (.bool (rightB x y true):Value)=.bool b4 from by rw [hb4,rightB_inf]]
  exact rV (.bool b4) rfl
theorem right_c (w:World) (x y:Nat) (i:Bool) (hx:x<K4) (hy:y<K4):Calls Tryz.prog 193 #[pv x y i] w (Gets w (ptv (dec x y i))):=by
 refine Sy.enter (args:=[pv x y i]) Tryz.func193 rfl kL ?_
 refine sC ?_
 refine sM 52 (pcs x y i) (λg0=>?_)
 refine sM 52 (pcs 0 0 false) (λg1=>?_)
 refine sG<|Sy.seq<|sC ?_
 refine sS (pv x y i) (qL 0 g0 0 9 52 52 (pcs x y i) rfl Tryz.underlying52) ?_
 obtain ⟨b1,hb1⟩:∃ z:Bool,z=rightB x y i:=⟨_,rfl⟩
 refine sS (.bool b1) (qF 156 #[pv x y i] (by rw [hb1]; exact λw=>right_b w x y i lK lK)) ?_
 cases b1
 ·refine sP (.bool true) ?_
  refine sG<|sT<|sC ?_
  refine sS (pv 0 0 true) (qF 194 #[] (zero_c))<|sW 1 g1 52 (pcs 0 0 false) (pcs 0 0 true) (wS 0 52 (pcs 0 0 true) rfl) ?_
  refine sG<|Sy.ret<|Sy.then_ret ?_
  rw [show (ptv (dec x y i):Value)=pv 0 0 true from ptv_wrong x y i hb1.symm]
  exact rC (v:=pv 0 0 true) 52 g1 1 (pcs 0 0 true) rfl Tryz.underlying52
 ·refine sP (.bool false) ?_
  refine sG<|sU<|Sy.skip<|sB ?_
  refine sS (pv x y i) (qL 0 g0 0 9 52 52 (pcs x y i) rfl Tryz.underlying52)<|sW 1 g1 52 (pcs 0 0 false) (pcs x y i) (wS 0 52 (pcs x y i) rfl) ?_
  refine sG<|Sy.ret ?_
  rw [show (ptv (dec x y i):Value)=pv x y i from ptv_right x y i hb1.symm]
  exact rC (v:=pv x y i) 52 g1 1 (pcs x y i) rfl Tryz.underlying52
end Cu
end
section
namespace Cu
open Go.RowKit Sy
set_option maxRecDepth 100000
set_option maxHeartbeats 4000000
theorem eql_pt_ne (w:World) (F:Slots) (o:Oper) (x y:Operand) (a b:Nat) (i:Bool) (c d:Nat) (j:Bool) {yt:TypeId} (ho:o.op=.binOp .eql 52 x y yt) (hx:evF F x=pv a b i) (hy:evF F y=pv c d j) (ha:a<K4) (hb:b<K4) (hc:c<K4) (hd:d<K4) (hij:i≠j):(execOp (evF F) o).run Tryz.prog w=.ok (.value (.bool false)) w:=by
 have h:=eql_pt w F o x y a b i c d j ho hx hy ha hb hc hd
 have e:sameB a b i c d j=false:=by
  unfold sameB
  simp [hij]
 rwa [e] at h
end Cu
end
section
namespace Ec
variable {n:Nat} [NeZero n] {inv:Fin n→Fin n}
structure Jac (n:Nat) where
 x:Fin n
 y:Fin n
 z:Fin n
def Rep (a:Jac n):Pt n→Prop
 | none=>a.z=0
 | some (X,Y)=>a.z≠0∧a.x=X*(a.z*a.z)∧a.y=Y*(a.z*a.z*a.z)
theorem Fld.ne_mul (H:Fld n inv) {a b:Fin n} (ha:a≠0) (hb:b≠0):a*b≠0:=λh=>by
 rcases H.zero h with k | k
 ·exact ha k
 ·exact hb k
theorem tw (H:Fld n inv) {P:Pt n} {a s:Jac n} {u q:Fin n} (hP:On P) (h:Rep a P) (hu:u=a.x*a.x*3) (hz:s.z=a.y*a.z*2) (hq:q=a.x*(a.y*a.y)*4) (hx:s.x=u*u - (q+q)) (hy:s.y=u*(q - s.x) - a.y*a.y*(a.y*a.y)*8):Rep s (add inv P P):=by
 rcases P with _ | ⟨X,Y⟩
 ·show s.z=0
  have h:a.z=0:=h
  rw [hz,h]; clear hz hu hq hx hy; grobner
 ·obtain ⟨h0,h1,h2⟩:=h
  have hY:=H.noTwo X Y hP
  have hYY:Y+Y≠0:=λk=>hY (H.two _ k)
  have hn:¬ (X=X∧Y+Y=0):=λk=>hYY k.2
  obtain ⟨l,hl⟩:∃ l,l=slp inv X Y X Y:=⟨_,rfl⟩
  have hl2:l*(Y+Y)=X*X*3:=by
   have hi:=H.one _ hYY
   rw [hl]; unfold slp; rw [if_pos rfl]
   clear hz hu hq hx hy h1 h2 hl
   grobner
  have ea:add inv (some (X,Y)) (some (X,Y))=some (x3 l X X,y3 l X Y X):=by rw [hl]; exact if_neg hn
  rw [ea]
  obtain ⟨ax,ay,z⟩:=a
  obtain ⟨sx,sy,sz⟩:=s
  simp only at h0 h1 h2 hu hz hq hx hy ⊢
  have e1:sz=Y*(z*z*z*z)*2:=by rw [hz,h2]; clear hu hq hx hy h1 h2 hl hl2 hz; grobner
  have e2:u=l*sz:=by
   rw [hu,h1,e1]
   have:X*(z*z)*(X*(z*z))*3=X*X*3*(z*z*z*z):=by clear hu hq hx hy h1 h2 hl hl2 hz e1; grobner
   rw [this, ← hl2]
   clear hu hq hx hy h1 h2 hl hl2 hz e1 this; grobner
  have e3:q=X*(sz*sz):=by rw [hq,h1,h2,e1]; clear hu hq hx hy h1 h2 hl hl2 hz e1 e2; grobner
  have e4:ay*ay*(ay*ay)*8=Y*(sz*sz*sz):=by rw [h2,e1]; clear hu hq hx hy h1 h2 hl hl2 hz e1 e2 e3; grobner
  have e5:sx=x3 l X X*(sz*sz):=by rw [hx,e2,e3]; unfold x3; clear hu hq hx hy h1 h2 hl hl2 hz e1 e2 e3 e4; grobner
  refine ⟨?_,e5,?_⟩
  ·rw [e1]
   have h4:=H.ne_mul (H.ne_mul (H.ne_mul h0 h0) h0) h0
   intro k
   refine H.ne_mul hYY h4 ?_
   rw [← k]
   clear hu hq hx hy h1 h2 hl hl2 hz e1 e2 e3 e4 e5 k; grobner
  ·rw [hy,e4,e2,e3,e5]
   unfold y3
   clear hu hq hx hy h1 h2 hl hl2 hz e1 e2 e3 e4 e5; grobner
theorem ad (H:Fld n inv) {X1 Y1 X2 Y2:Fin n} {s:Jac n} {Z u v c r:Fin n} (h1:Y1*Y1=X1*X1*X1+7) (h2:Y2*Y2=X2*X2*X2+7) (hZ:Z≠0) (hu:u=X1*(Z*Z)) (hv:v=Y1*(Z*Z*Z)) (hc:c=X2*(Z*Z) - u) (hr:r=Y2*(Z*Z*Z) - v)
  (hn:¬ (c=0∧r=0)) (hx:s.x=r*r - c*c*c - (u*(c*c)+u*(c*c))) (hy:s.y=r*(u*(c*c) - s.x) - v*(c*c*c)) (hz:s.z=Z*c):Rep s (add inv (some (X1,Y1)) (some (X2,Y2))):=by
 obtain ⟨sx,sy,sz⟩:=s
 simp only at hx hy hz ⊢
 have ec:c=(X2 - X1)*(Z*Z):=by rw [hc,hu]; clear hc hu hv hr hx hy hz h1 h2; grobner
 have er:r=(Y2 - Y1)*(Z*Z*Z):=by rw [hr,hv]; clear hc hu hv hr hx hy hz h1 h2; grobner
 by_cases hX:X1=X2
 ·subst hX
  have c0:c=0:=by rw [ec]; clear ec hc hu hv hr hx hy hz h1 h2 er hn; grobner
  have hY:Y1≠Y2:=λe=>hn ⟨c0,by rw [er,e]; clear ec hc hu hv hr hx hy hz h1 h2 er hn c0; grobner⟩
  have hs:Y1+Y2=0:=Classical.byContradiction λt=>off H h1 h2 (λq=>hY q.2) (λq=>t q.2) rfl
  have ea:add inv (some (X1,Y1)) (some (X1,Y2))=none:=if_pos ⟨rfl,hs⟩
  rw [ea]
  show sz=0
  rw [hz,c0]; clear ec hc hu hv hr hx hy hz h1 h2 er hn c0 hs; grobner
 ·have hd:X2 - X1≠0:=λe=>hX (by clear ec hc hu hv hr hx hy hz h1 h2 er hn; grobner)
  have hneg:¬ (X1=X2∧Y1+Y2=0):=λk=>hX k.1
  obtain ⟨l,hl⟩:∃ l,l=slp inv X1 Y1 X2 Y2:=⟨_,rfl⟩
  have hl2:l*(X2 - X1)=Y2 - Y1:=by
   have hi:=H.one _ hd
   rw [hl]; unfold slp; rw [if_neg hX]
   clear ec hc hu hv hr hx hy hz h1 h2 er hn hl
   grobner
  simp only [add]
  rw [if_neg hneg, ← hl]
  have e1:sz=(X2 - X1)*(Z*Z*Z):=by rw [hz,ec]; clear ec hc hu hv hr hx hy hz h1 h2 er hn hl hl2; grobner
  have e2:r=l*sz:=by
   rw [er,e1, ← hl2]
   clear ec hc hu hv hr hx hy hz h1 h2 er hn hl hl2 e1; grobner
  have e3:u*(c*c)=X1*(sz*sz):=by rw [hu,ec,e1]; clear ec hc hu hv hr hx hy hz h1 h2 er hn hl hl2 e1 e2; grobner
  have e4:c*c*c=(X2 - X1)*(sz*sz):=by rw [ec,e1]; clear ec hc hu hv hr hx hy hz h1 h2 er hn hl hl2 e1 e2 e3; grobner
  have e6:v*(c*c*c)=Y1*(sz*sz*sz):=by rw [hv,ec,e1]; clear ec hc hu hv hr hx hy hz h1 h2 er hn hl hl2 e1 e2 e3 e4; grobner
  have e5:sx=x3 l X1 X2*(sz*sz):=by rw [hx,e2,e3,e4]; unfold x3; clear ec hc hu hv hr hx hy hz h1 h2 er hn hl hl2 e1 e2 e3 e4 e6; grobner
  refine ⟨?_,e5,?_⟩
  ·rw [e1]; exact H.ne_mul hd (H.ne_mul (H.ne_mul hZ hZ) hZ)
  ·rw [hy,e2,e3,e6,e5]
   unfold y3
   clear ec hc hu hv hr hx hy hz h1 h2 er hn hl hl2 e1 e2 e3 e4 e5 e6; grobner
theorem rep_point (H:Fld n inv) {a:Jac n} {P:Pt n} (h:Rep a P):(a.z=0∧P=none)∨(a.z≠0∧P=some (a.x*(inv a.z*inv a.z),a.y*(inv a.z*inv a.z*inv a.z))):=by
 rcases P with _ | ⟨X,Y⟩
 ·exact .inl ⟨h,rfl⟩
 ·obtain ⟨h0,h1,h2⟩:=h
  have hi:=H.one _ h0
  refine .inr ⟨h0,?_⟩
  rw [h1,h2]
  obtain ⟨i,hI⟩:∃ i,i=inv a.z:=⟨_,rfl⟩
  rw [← hI] at hi ⊢
  have f1:X*(a.z*a.z)*(i*i)=X:=by
   have:X*(a.z*a.z)*(i*i)=X*(a.z*i)*(a.z*i):=by clear hi hI h1 h2; grobner
   rw [this,hi]; clear hi hI h1 h2 this; grobner
  have f2:Y*(a.z*a.z*a.z)*(i*i*i)=Y:=by
   have:Y*(a.z*a.z*a.z)*(i*i*i)=Y*(a.z*i)*(a.z*i)*(a.z*i):=by clear hi hI h1 h2 f1; grobner
   rw [this,hi]; clear hi hI h1 h2 this f1; grobner
  rw [f1,f2]
end Ec
end
section
namespace Cu
open Go.RowKit Sy
abbrev J:=Ec.Jac pM
def tcs (x y z:Nat):Array Value:=(fws x++(fws y++fws z)).toArray
def tv (x y z:Nat):Value:=.agg (tcs x y z)
def jv (a:J):Value:=tv a.x.val a.y.val a.z.val
def dblJ (a:J):J :=
 ⟨a.x*a.x*3*(a.x*a.x*3) - (a.x*(a.y*a.y)*4+a.x*(a.y*a.y)*4),
  a.x*a.x*3*(a.x*(a.y*a.y)*4 - (a.x*a.x*3*(a.x*a.x*3) - (a.x*(a.y*a.y)*4+a.x*(a.y*a.y)*4))) - a.y*a.y*(a.y*a.y)*8,a.y*a.z*2⟩
theorem dblJ_rep {a:J} {P:Pt} (hP:Ec.On P) (h:Ec.Rep a P):Ec.Rep (dblJ a) (Ec.add finv P P):=Ec.tw fld hP h rfl rfl rfl rfl rfl
def uJ (a b:J):Fp:=a.x*(b.z*b.z)
def vJ (a b:J):Fp:=a.y*(b.z*b.z*b.z)
def cJ (a b:J):Fp:=b.x*(a.z*a.z) - uJ a b
def rJ (a b:J):Fp:=b.y*(a.z*a.z*a.z) - vJ a b
def sxJ (a b:J):Fp:=rJ a b*rJ a b - cJ a b*cJ a b*cJ a b - (uJ a b*(cJ a b*cJ a b)+uJ a b*(cJ a b*cJ a b))
def syJ (a b:J):Fp:=rJ a b*(uJ a b*(cJ a b*cJ a b) - sxJ a b) - vJ a b*(cJ a b*cJ a b*cJ a b)
def szJ (a b:J):Fp:=a.z*b.z*cJ a b
def addJ (a b:J):J:=if a.z=0 then b else if b.z=0 then a else if cJ a b=0∧rJ a b=0 then dblJ a else ⟨sxJ a b,syJ a b,szJ a b⟩
theorem addJ_1 {a b:J} (h:a.z=0):addJ a b=b:=if_pos h
theorem addJ_2 {a b:J} (h:a.z≠0) (k:b.z=0):addJ a b=a:=by unfold addJ; rw [if_neg h,if_pos k]
theorem addJ_3 {a b:J} (h:a.z≠0) (k:b.z≠0) (c:cJ a b=0) (r:rJ a b=0):addJ a b=dblJ a:=by unfold addJ; rw [if_neg h,if_neg k,if_pos ⟨c,r⟩]
theorem addJ_4 {a b:J} (h:a.z≠0) (k:b.z≠0) (c:¬ (cJ a b=0∧rJ a b=0)):addJ a b=⟨sxJ a b,syJ a b,szJ a b⟩:=by unfold addJ; rw [if_neg h,if_neg k,if_neg c]
theorem addJ_rep {a b:J} {P Q:Pt} (hP:Ec.On P) (hQ:Ec.On Q) (h:Ec.Rep a P) (k:Ec.Rep b Q):Ec.Rep (addJ a b) (Ec.add finv P Q):=by
 rcases P with _ | ⟨X1,Y1⟩
 ·rw [addJ_1 h,Ec.zero_add]; exact k
 rcases Q with _ | ⟨X2,Y2⟩
 ·rw [addJ_2 h.1 k]; exact h
 obtain ⟨h0,h1,h2⟩:=h
 obtain ⟨k0,k1,k2⟩:=k
 have hZ:a.z*b.z≠0:=fld.ne_mul h0 k0
 have eu:uJ a b=X1*(a.z*b.z*(a.z*b.z)):=by unfold uJ; rw [h1]; clear h1 h2 k1 k2 h0 k0 hZ hP hQ; grobner
 have ev:vJ a b=Y1*(a.z*b.z*(a.z*b.z)*(a.z*b.z)):=by unfold vJ; rw [h2]; clear h1 h2 k1 k2 h0 k0 hZ hP hQ eu; grobner
 have ec:cJ a b=X2*(a.z*b.z*(a.z*b.z)) - uJ a b:=by unfold cJ; rw [k1]; clear h1 h2 k1 k2 h0 k0 hZ hP hQ eu ev; grobner
 have er:rJ a b=Y2*(a.z*b.z*(a.z*b.z)*(a.z*b.z)) - vJ a b:=by unfold rJ; rw [k2]; clear h1 h2 k1 k2 h0 k0 hZ hP hQ eu ev ec; grobner
 by_cases hc:cJ a b=0∧rJ a b=0
 ·rw [addJ_3 h0 k0 hc.1 hc.2]
  have g1:(X2 - X1)*(a.z*b.z*(a.z*b.z))=0:=by rw [← hc.1,ec,eu]; clear h1 h2 k1 k2 h0 k0 hZ hP hQ eu ev ec er hc; grobner
  have g2:(Y2 - Y1)*(a.z*b.z*(a.z*b.z)*(a.z*b.z))=0:=by rw [← hc.2,er,ev]; clear h1 h2 k1 k2 h0 k0 hZ hP hQ eu ev ec er hc g1; grobner
  have e1:X2=X1:=by
   rcases fld.zero g1 with q | q
   ·clear h1 h2 k1 k2 h0 k0 hZ hP hQ eu ev ec er hc g1 g2; grobner
   ·exact absurd q (fld.ne_mul hZ hZ)
  have e2:Y2=Y1:=by
   rcases fld.zero g2 with q | q
   ·clear h1 h2 k1 k2 h0 k0 hZ hP hQ eu ev ec er hc g1 g2; grobner
   ·exact absurd q (fld.ne_mul (fld.ne_mul hZ hZ) hZ)
  subst e1 e2
  exact dblJ_rep hP ⟨h0,h1,h2⟩
 ·rw [addJ_4 h0 k0 hc]
  exact Ec.ad fld (u:=uJ a b) (v:=vJ a b) (c:=cJ a b) (r:=rJ a b) hP hQ hZ eu ev ec er hc rfl rfl rfl
end Cu
end
section
namespace Cu
open Go.RowKit Sy
set_option maxRecDepth 100000
set_option maxHeartbeats 4000000
theorem twice_c (w:World) (a:Fp):Calls Tryz.prog 243 #[fv a.val] w (Gets w (fv (a+a).val)):=by
 refine Sy.enter (args:=[fv a.val]) Tryz.func243 rfl kL ?_
 refine sC ?_
 refine sM 50 (fcs a.val) (λg0=>?_)
 refine sM 50 (fcs 0) (λg1=>?_)
 refine sA ?_
 refine sS (fv a.val) (qL 0 g0 0 4 50 50 (fcs a.val) rfl Tryz.underlying50)<|sS (fv a.val) (qL 0 g0 0 4 50 50 (fcs a.val) rfl Tryz.underlying50) ?_
 obtain ⟨z1,hz1⟩:∃ z:Fp,z=a+a:=⟨_,rfl⟩
 refine sS (fv z1.val) (qF 221 #[fv a.val,fv a.val] (by rw [hz1]; exact add_c a a))<|sW 1 g1 50 (fcs 0) (fcs z1.val) (wS 0 50 (fcs z1.val) rfl) ?_
 refine sG<|Sy.ret ?_
 rw [show (fv (a+a).val:Value)=fv z1.val from by rw [hz1]]
 exact rC (v:=fv z1.val) 50 g1 1 (fcs z1.val) rfl Tryz.underlying50
theorem double_c (w:World) (a:J):Calls Tryz.prog 220 #[tv a.x.val a.y.val a.z.val] w (Gets w (tv (dblJ a).x.val (dblJ a).y.val (dblJ a).z.val)):=by
 refine Sy.enter (args:=[tv a.x.val a.y.val a.z.val]) Tryz.func220 rfl kL ?_
 refine sC ?_
 refine sM 217 (tcs a.x.val a.y.val a.z.val) (λg0=>?_)
 refine sM 217 (tcs 0 0 0) (λg1=>?_)
 refine sA ?_
 refine sP (.pointer (some ⟨g0,0,none⟩))<|sS (fv a.x.val) (qL 0 g0 0 4 217 50 (tcs a.x.val a.y.val a.z.val) rfl Tryz.underlying50)<|sP (.pointer (some ⟨g0,0,none⟩))<|sS (fv a.x.val) (qL 0 g0 0 4 217 50 (tcs a.x.val a.y.val a.z.val) rfl Tryz.underlying50) ?_
 obtain ⟨z1,hz1⟩:∃ z:Fp,z=a.x*a.x:=⟨_,rfl⟩
 refine sS (fv z1.val) (qF 197 #[fv a.x.val,fv a.x.val] (by rw [hz1]; exact mul_c a.x a.x)) ?_
 refine sM 50 (fcs 0) (λg2=>?_)
 refine sW 2 g2 50 (fcs 0) (fcs z1.val) (wS 0 50 (fcs z1.val) rfl) ?_
 refine sH (λj=>j == 6) ?_
 refine sD 0 rfl (fv z1.val) (qL 2 g2 0 4 50 50 (fcs z1.val) rfl Tryz.underlying50)<|sD 1 rfl (fv z1.val) (qL 2 g2 0 4 50 50 (fcs z1.val) rfl Tryz.underlying50) ?_
 obtain ⟨z2,hz2⟩:∃ z:Fp,z=z1+z1:=⟨_,rfl⟩
 refine sD 2 rfl (fv z2.val) (qF 221 #[fv z1.val,fv z1.val] (by rw [hz2]; exact add_c z1 z1))<|sD 3 rfl (fv z1.val) (qL 2 g2 0 4 50 50 (fcs z1.val) rfl Tryz.underlying50) ?_
 obtain ⟨z3,hz3⟩:∃ z:Fp,z=z2+z1:=⟨_,rfl⟩
 refine sD 4 rfl (fv z3.val) (qF 221 #[fv z2.val,fv z1.val] (by rw [hz3]; exact add_c z2 z1)) ?_
 refine sO 5 rfl 50 (fcs 0) (λg3=>?_)
 refine sX 6 rfl 3 g3 50 (fcs 0) (fcs z3.val) (wS 0 50 (fcs z3.val) rfl) ?_
 refine sE ?_
 refine sB ?_
 refine sP (.pointer (some ⟨g0,4,none⟩))<|sS (fv a.y.val) (qL 0 g0 4 4 217 50 (tcs a.x.val a.y.val a.z.val) rfl Tryz.underlying50)<|sP (.pointer (some ⟨g0,4,none⟩))<|sS (fv a.y.val) (qL 0 g0 4 4 217 50 (tcs a.x.val a.y.val a.z.val) rfl Tryz.underlying50) ?_
 obtain ⟨z4,hz4⟩:∃ z:Fp,z=a.y*a.y:=⟨_,rfl⟩
 refine sS (fv z4.val) (qF 197 #[fv a.y.val,fv a.y.val] (by rw [hz4]; exact mul_c a.y a.y)) ?_
 obtain ⟨z5,hz5⟩:∃ z:Fp,z=z4+z4:=⟨_,rfl⟩
 refine sS (fv z5.val) (qF 243 #[fv z4.val] (λw=>by rw [hz5]; exact twice_c w z4)) ?_
 refine sM 50 (fcs 0) (λg4=>?_)
 refine sW 4 g4 50 (fcs 0) (fcs z5.val) (wS 0 50 (fcs z5.val) rfl) ?_
 refine sA ?_
 refine sP (.pointer (some ⟨g0,0,none⟩))<|sS (fv a.x.val) (qL 0 g0 0 4 217 50 (tcs a.x.val a.y.val a.z.val) rfl Tryz.underlying50)<|sS (fv z5.val) (qL 4 g4 0 4 50 50 (fcs z5.val) rfl Tryz.underlying50) ?_
 obtain ⟨z6,hz6⟩:∃ z:Fp,z=a.x*z5:=⟨_,rfl⟩
 refine sS (fv z6.val) (qF 197 #[fv a.x.val,fv z5.val] (by rw [hz6]; exact mul_c a.x z5)) ?_
 obtain ⟨z7,hz7⟩:∃ z:Fp,z=z6+z6:=⟨_,rfl⟩
 refine sS (fv z7.val) (qF 243 #[fv z6.val] (λw=>by rw [hz7]; exact twice_c w z6)) ?_
 refine sM 50 (fcs 0) (λg5=>?_)
 refine sW 5 g5 50 (fcs 0) (fcs z7.val) (wS 0 50 (fcs z7.val) rfl) ?_
 refine sA ?_
 refine sM 217 (tcs 0 0 0) (λg6=>?_)
 refine sH (λj=>j == 7) ?_
 refine sD 0 rfl (fv z3.val) (qL 3 g3 0 4 50 50 (fcs z3.val) rfl Tryz.underlying50)<|sD 1 rfl (fv z3.val) (qL 3 g3 0 4 50 50 (fcs z3.val) rfl Tryz.underlying50) ?_
 obtain ⟨z8,hz8⟩:∃ z:Fp,z=z3*z3:=⟨_,rfl⟩
 refine sD 2 rfl (fv z8.val) (qF 197 #[fv z3.val,fv z3.val] (by rw [hz8]; exact mul_c z3 z3))<|sD 3 rfl (fv z7.val) (qL 5 g5 0 4 50 50 (fcs z7.val) rfl Tryz.underlying50) ?_
 obtain ⟨z9,hz9⟩:∃ z:Fp,z=z7+z7:=⟨_,rfl⟩
 refine sD 4 rfl (fv z9.val) (qF 243 #[fv z7.val] (λw=>by rw [hz9]; exact twice_c w z7)) ?_
 obtain ⟨z10,hz10⟩:∃ z:Fp,z=z8 - z9:=⟨_,rfl⟩
 refine sD 5 rfl (fv z10.val) (qF 196 #[fv z8.val,fv z9.val] (by rw [hz10]; exact sub_c z8 z9))<|sZ 6 rfl (.pointer (some ⟨g6,0,none⟩))<|sX 7 rfl 6 g6 217 (tcs 0 0 0) (tcs z10.val 0 0) (wS 0 50 (fcs z10.val) rfl) ?_
 refine sE ?_
 refine sR (λj=>j == 12) ?_
 refine sD 0 rfl (fv z3.val) (qL 3 g3 0 4 50 50 (fcs z3.val) rfl Tryz.underlying50)<|sD 1 rfl (fv z7.val) (qL 5 g5 0 4 50 50 (fcs z7.val) rfl Tryz.underlying50)<|sZ 2 rfl (.pointer (some ⟨g6,0,none⟩))<|sD 3 rfl (fv z10.val) (qL 6 g6 0 4 217 50 (tcs z10.val 0 0) rfl Tryz.underlying50) ?_
 obtain ⟨z11,hz11⟩:∃ z:Fp,z=z7 - z10:=⟨_,rfl⟩
 refine sD 4 rfl (fv z11.val) (qF 196 #[fv z7.val,fv z10.val] (by rw [hz11]; exact sub_c z7 z10)) ?_
 obtain ⟨z12,hz12⟩:∃ z:Fp,z=z3*z11:=⟨_,rfl⟩
 refine sD 5 rfl (fv z12.val) (qF 197 #[fv z3.val,fv z11.val] (by rw [hz12]; exact mul_c z3 z11))<|sD 6 rfl (fv z5.val) (qL 4 g4 0 4 50 50 (fcs z5.val) rfl Tryz.underlying50)<|sD 7 rfl (fv z5.val) (qL 4 g4 0 4 50 50 (fcs z5.val) rfl Tryz.underlying50) ?_
 obtain ⟨z13,hz13⟩:∃ z:Fp,z=z5*z5:=⟨_,rfl⟩
 refine sD 8 rfl (fv z13.val) (qF 197 #[fv z5.val,fv z5.val] (by rw [hz13]; exact mul_c z5 z5)) ?_
 obtain ⟨z14,hz14⟩:∃ z:Fp,z=z13+z13:=⟨_,rfl⟩
 refine sD 9 rfl (fv z14.val) (qF 243 #[fv z13.val] (λw=>by rw [hz14]; exact twice_c w z13)) ?_
 obtain ⟨z15,hz15⟩:∃ z:Fp,z=z12 - z14:=⟨_,rfl⟩
 refine sD 10 rfl (fv z15.val) (qF 196 #[fv z12.val,fv z14.val] (by rw [hz15]; exact sub_c z12 z14))<|sZ 11 rfl (.pointer (some ⟨g6,4,none⟩))<|sX 12 rfl 6 g6 217 (tcs z10.val 0 0) (tcs z10.val z15.val 0) (wS 4 50 (fcs z15.val) rfl) ?_
 refine sE ?_
 refine sB ?_
 refine sP (.pointer (some ⟨g0,4,none⟩))<|sS (fv a.y.val) (qL 0 g0 4 4 217 50 (tcs a.x.val a.y.val a.z.val) rfl Tryz.underlying50)<|sP (.pointer (some ⟨g0,8,none⟩))<|sS (fv a.z.val) (qL 0 g0 8 4 217 50 (tcs a.x.val a.y.val a.z.val) rfl Tryz.underlying50) ?_
 obtain ⟨z16,hz16⟩:∃ z:Fp,z=a.y*a.z:=⟨_,rfl⟩
 refine sS (fv z16.val) (qF 197 #[fv a.y.val,fv a.z.val] (by rw [hz16]; exact mul_c a.y a.z)) ?_
 obtain ⟨z17,hz17⟩:∃ z:Fp,z=z16+z16:=⟨_,rfl⟩
 refine sS (fv z17.val) (qF 243 #[fv z16.val] (λw=>by rw [hz17]; exact twice_c w z16))<|sP (.pointer (some ⟨g6,8,none⟩))<|sW 6 g6 217 (tcs z10.val z15.val 0) (tcs z10.val z15.val z17.val) (wS 8 50 (fcs z17.val) rfl) ?_
 refine sA ?_
 refine sS (tv z10.val z15.val z17.val) (qL 6 g6 0 12 217 217 (tcs z10.val z15.val z17.val) rfl Tryz.underlying217)<|sW 1 g1 217 (tcs 0 0 0) (tcs z10.val z15.val z17.val) (wS 0 217 (tcs z10.val z15.val z17.val) rfl) ?_
 refine sG<|Sy.ret ?_
 rw [show (tv (dblJ a).x.val (dblJ a).y.val (dblJ a).z.val:Value)=tv z10.val z15.val z17.val from by
   have k0:(dblJ a).x=z10:=by
    simp only [dblJ]
    grobner
   have k1:(dblJ a).y=z15:=by
    simp only [dblJ]
    grobner
   have k2:(dblJ a).z=z17:=by
    simp only [dblJ]
    grobner
   rw [k0,k1,k2]]
 exact rC (v:=tv z10.val z15.val z17.val) 217 g1 1 (tcs z10.val z15.val z17.val) rfl Tryz.underlying217
theorem widened_c (w:World) (a:J) (t:Fp):Calls Tryz.prog 219 #[tv a.x.val a.y.val a.z.val,fv t.val] w (Gets w (.tuple #[fv (a.x*(t*t)).val,fv (a.y*(t*t*t)).val])):=by
 refine Sy.enter (args:=[tv a.x.val a.y.val a.z.val,fv t.val]) Tryz.func219 rfl kL ?_
 refine sC ?_
 refine sM 217 (tcs a.x.val a.y.val a.z.val) (λg0=>?_)
 refine sM 50 (fcs t.val) (λg1=>?_)
 refine sM 50 (fcs 0) (λg2=>?_)
 refine sM 50 (fcs 0) (λg3=>?_)
 refine sA ?_
 refine sS (fv t.val) (qL 1 g1 0 4 50 50 (fcs t.val) rfl Tryz.underlying50)<|sS (fv t.val) (qL 1 g1 0 4 50 50 (fcs t.val) rfl Tryz.underlying50) ?_
 obtain ⟨z1,hz1⟩:∃ z:Fp,z=t*t:=⟨_,rfl⟩
 refine sS (fv z1.val) (qF 197 #[fv t.val,fv t.val] (by rw [hz1]; exact mul_c t t)) ?_
 refine sM 50 (fcs 0) (λg4=>?_)
 refine sW 4 g4 50 (fcs 0) (fcs z1.val) (wS 0 50 (fcs z1.val) rfl) ?_
 refine sH (λj=>j == 10 || j == 11) ?_
 refine sZ 0 rfl (.pointer (some ⟨g0,0,none⟩))<|sD 1 rfl (fv a.x.val) (qL 0 g0 0 4 217 50 (tcs a.x.val a.y.val a.z.val) rfl Tryz.underlying50)<|sD 2 rfl (fv z1.val) (qL 4 g4 0 4 50 50 (fcs z1.val) rfl Tryz.underlying50) ?_
 obtain ⟨z2,hz2⟩:∃ z:Fp,z=a.x*z1:=⟨_,rfl⟩
 refine sD 3 rfl (fv z2.val) (qF 197 #[fv a.x.val,fv z1.val] (by rw [hz2]; exact mul_c a.x z1)) ?_
 refine Sy.stepDB 4 [5,9,10,11] rfl kR (λ_ _ _ _ h=>h) kR (.pointer (some ⟨g0,4,none⟩)) qP ?_
 refine Sy.stepDB 5 [9,10,11] rfl kR (λ_ _ _ _ h=>h) kR (fv a.y.val) (qL 0 g0 4 4 217 50 (tcs a.x.val a.y.val a.z.val) rfl Tryz.underlying50) ?_
 refine Sy.stepDB 6 [8,9,10,11] rfl kR (λ_ _ _ _ h=>h) kR (fv z1.val) (qL 4 g4 0 4 50 50 (fcs z1.val) rfl Tryz.underlying50) ?_
 refine Sy.stepDB 7 [8,9,10,11] rfl kR (λ_ _ _ _ h=>h) kR (fv t.val) (qL 1 g1 0 4 50 50 (fcs t.val) rfl Tryz.underlying50) ?_
 obtain ⟨z3,hz3⟩:∃ z:Fp,z=z1*t:=⟨_,rfl⟩
 refine Sy.stepDB 8 [9,10,11] rfl kR (λ_ _ _ _ h=>h) kR (fv z3.val) (qF 197 #[fv z1.val,fv t.val] (by rw [hz3]; exact mul_c z1 t)) ?_
 obtain ⟨z4,hz4⟩:∃ z:Fp,z=a.y*z3:=⟨_,rfl⟩
 refine sD 9 rfl (fv z4.val) (qF 197 #[fv a.y.val,fv z3.val] (by rw [hz4]; exact mul_c a.y z3))<|sX 10 rfl 2 g2 50 (fcs 0) (fcs z2.val) (wS 0 50 (fcs z2.val) rfl)<|sX 11 rfl 3 g3 50 (fcs 0) (fcs z4.val) (wS 0 50 (fcs z4.val) rfl) ?_
 refine sI ?_
 refine Sy.ret ?_
 rw [show (.tuple #[fv (a.x*(t*t)).val,fv (a.y*(t*t*t)).val]:Value)=.tuple #[fv z2.val,fv z4.val] from by rw [hz4,hz3,hz2,hz1]]
 exact Sy.ret2 (v:=fv z2.val) (u:=fv z4.val) rfl (.inl (Res.cell (ty':=50) g2 2 (fcs z2.val) _ kR kR Tryz.underlying50 rfl kR kR)) (.inl (Res.cell (ty':=50) g3 3 (fcs z4.val) _ kR kR Tryz.underlying50 rfl kR kR))
end Cu
end
section
namespace Sy
open Go.RowKit
theorem St.swap {w0:Base} {w:World} {L:Blocks} {x y:Nat×TypeId×Array Value} (h:St w0 w (L++[y]++[x])):St w0 w (L++[x]++[y]):=by
 have hp:(L++[y]++[x]).Perm (L++[x]++[y]):=by
  rw [List.append_assoc,List.append_assoc]
  exact List.Perm.append_left L (List.Perm.swap x y [])
 exact ⟨h.below,λg t cs hm=>h.blk g t cs (hp.symm.subset hm),(hp.map (·.1)).nodup h.apart,h.size,h.non⟩
theorem Fr.swap {ds:List Deferred} {a:Act} {n:Nat} {F:Slots} {i j:Nat} {u v:Value} (hij:(i == j)=false) (h:Fr ds a n ((i,u)::(j,v)::F)):Fr ds a n ((j,v)::(i,u)::F):=h.less λk x hk=>by
 have hne:i≠j:=by simpa using hij
 simp only [List.lookup_cons] at hk ⊢
 by_cases e1:k=i
 ·subst e1
  have e2:(k == j)=false:=by simpa using hne
  rw [e2] at hk
  simpa using hk
 ·have e1':(k == i)=false:=by simpa using e1
  rw [e1'] at hk ⊢
  exact hk
section
variable {P:Program} {w0:Base} {n:Nat} {Q:Exit→Act→World→Prop} {F:Slots} {L:Blocks} {ops:Array Oper} {ex:Nat→Bool} {fuel:Nat} {listed:Array Bool}
theorem makeDuo (i j:Nat) {oi oj:Oper} (hi0:ops.toList[i]? = some oi) (hj0:ops.toList[j]? = some oj) (hr:Region.ready .any ops listed=[i,j]) (hri:Region.ready .any ops (listed.setIfInBounds i true)=[j]) (hrj:Region.ready .any ops (listed.setIfInBounds j true)=[i])
  (di dj:Nat) (hdi:oi.dst=some di) (hdj:oj.dst=some dj) (hne:(di == dj)=false) (hij:i≠j)
  (hgi:good ops n F oi=true) (hgj:good ops n F oj=true) (hgi':∀ v,good ops n (putF F (some dj) v) oi=true) (hgj':∀ v,good ops n (putF F (some di) v) oj=true)
  (ti tj:TypeId) (ci cj:Array Value) (vi vj:Nat→Value) (hmi:∀ F',Makes P F' oi ti ci vi) (hmj:∀ F',Makes P F' oj tj cj vj)
  (h:∀ gi gj,wpD P w0 n ops Q ex ((dj,vj gj)::(di,vi gi)::F) (L++[(gi,ti,ci)]++[(gj,tj,cj)]) fuel ((listed.setIfInBounds i true).setIfInBounds j true)):wpD P w0 n ops Q ex F L (fuel+1+1) listed:=λa w ha hw=>by
 have fi:fits n (some di)=true:=hdi ▸ (good_spec hgi).2.2.1
 have fj:fits n (some dj)=true:=hdj ▸ (good_spec hgj).2.2.1
 refine wpAnyG_duo i j hi0 hj0 hr (ha.wanted (good_spec hgi).1) (ha.wanted (good_spec hgj).1) (λw1 h1 K hK=>?_) (λw1 h1 K hK=>?_)
 ·unfold Oper.wp
  rw [good_exec hgi ha,hmi F w1]
  refine hK _ _ (λ_=>gr_alloc w1 _) ?_
  rw [hdi]
  have ha1:=ha.put fi (vi w1.heap.size)
  have hw1:=(hw.gr h1).add (gr_alloc w1 (.cells ci ti)) (Nat.le_refl _) (Blk.new w1 ti ci)
  refine wpAnyG_sole j hj0 hri (ha1.wanted (good_spec (hgj' _)).1) (λw2 h2 K2 hK2=>?_)
  unfold Oper.wp
  rw [good_exec (hgj' _) ha1,hmj _ w2]
  refine hK2 _ _ (λ_=>gr_alloc w2 _) ?_
  rw [hdj]
  exact h w1.heap.size w2.heap.size _ _ (ha1.put fj _) ((hw1.gr h2).add (gr_alloc w2 (.cells cj tj)) (Nat.le_refl _) (Blk.new w2 tj cj))
 ·unfold Oper.wp
  rw [good_exec hgj ha,hmj F w1]
  refine hK _ _ (λ_=>gr_alloc w1 _) ?_
  rw [hdj]
  have ha1:=ha.put fj (vj w1.heap.size)
  have hw1:=(hw.gr h1).add (gr_alloc w1 (.cells cj tj)) (Nat.le_refl _) (Blk.new w1 tj cj)
  refine wpAnyG_sole i hi0 hrj (ha1.wanted (good_spec (hgi' _)).1) (λw2 h2 K2 hK2=>?_)
  unfold Oper.wp
  rw [good_exec (hgi' _) ha1,hmi _ w2]
  refine hK2 _ _ (λ_=>gr_alloc w2 _) ?_
  rw [hdi,Array.setIfInBounds_comm _ _ (Ne.symm hij)]
  exact h w2.heap.size w1.heap.size _ _ (Fr.swap hne (ha1.put fi _)) (St.swap ((hw1.gr h2).add (gr_alloc w2 (.cells ci ti)) (Nat.le_refl _) (Blk.new w2 ti ci)))
def wpO (P:Program) (w0:Base) (n:Nat) (ops:Array Oper) (Q:Exit→Act→World→Prop) (ex:Nat→Bool) (F:Slots) (L:Blocks) (fuel:Nat) (listed:Array Bool) (i:Nat):Prop :=
 ∃ oi,ops[i]? = some oi∧wantedF ops F oi=some true∧∀ a w,Fr w0.ds a n F→St w0 w L→∀ w1,Gr w w1→∀ K:Act→World→Prop,(∀ a' w',(ex i=false→Gr w1 w')→wpAnyG P .any ops Q ex fuel (listed.setIfInBounds i true) a' w'→K a' w')→oi.wp P a w1 K Q
theorem anyOf (l:List Nat) (hr:Region.ready .any ops listed=l) (hl:l≠[]) (h:∀ i∈l,wpO P w0 n ops Q ex F L fuel listed i):wpD P w0 n ops Q ex F L (fuel+1) listed:=λa w ha hw w1 hw1 =>
 ⟨λh0=>(hl (hr.symm.trans h0)).elim,λm hm=>by
  rw [hr] at hm
  obtain ⟨oi,ho,hg,hk⟩:=h m hm
  refine wpOp_step ho (λK' hK=>?_)
  rw [if_pos (ha.wanted hg)]
  exact hk a w ha hw w1 hw1 K' (λa' w' h1 h2=>hK a' w' ⟨h1,h2⟩)⟩
theorem each1 {p:Nat→Prop} {i:Nat} (hi:p i):∀ k∈[i],p k:=λk hk=>by rw [List.mem_singleton.1 hk]; exact hi
theorem oneQuiet {i:Nat} {oi:Oper} (hi0:ops.toList[i]? = some oi) (hg:good ops n F oi=true) (v:Value) (hq:Quiet P w0 F L oi v) (h:wpD P w0 n ops Q ex (putF F oi.dst v) L fuel (listed.setIfInBounds i true)):wpO P w0 n ops Q ex F L fuel listed i :=
 ⟨oi,by simpa using hi0,(good_spec hg).1,λa w ha hw w1 h1 K hK=>by
  have hw1:=hw.gr h1
  have h0:=hq w1 hw1
  unfold Gives at h0
  unfold Oper.wp
  rw [good_exec hg ha]
  have last:∀ w2,Gr w1 w2→wpAnyG P .any ops Q ex fuel (listed.setIfInBounds i true) (a.put oi.dst v) w2:=λw2 h2=>h _ _ (ha.put (good_spec hg).2.2.1 v) (hw1.gr h2)
  generalize (execOp (evF F) oi).run P w1=r at *
  cases r with
  | ok x w' =>
   cases x <;> simp only [Oper.upon] at h0 ⊢
   case value u=>rw [h0.1]; exact hK _ _ (λ_=>h0.2) (last _ h0.2)
   case skip=>rw [← h0.1]; exact hK _ _ (λ_=>h0.2) (last _ h0.2)
   case enter f args =>
    refine Calls.mono h0 λe w'' he=>?_
    rw [he.1]
    exact hK _ _ (λ_=>he.2) (last _ he.2)
  | halt x w'=>cases x <;> exact h0.elim⟩
end
end Sy
end
section
namespace Cu
open Go.RowKit Sy
set_option maxHeartbeats 4000000 in
set_option maxRecDepth 100000 in
theorem addJ_c (w:World) (a b:J):Calls Tryz.prog 182 #[tv a.x.val a.y.val a.z.val,tv b.x.val b.y.val b.z.val] w (Gets w (tv (addJ a b).x.val (addJ a b).y.val (addJ a b).z.val)):=by
 refine Sy.enter (args:=[tv a.x.val a.y.val a.z.val,tv b.x.val b.y.val b.z.val]) Tryz.func182 rfl kL ?_
 refine sC ?_
 refine sM 217 (tcs a.x.val a.y.val a.z.val) (λg0=>?_)
 refine sM 217 (tcs b.x.val b.y.val b.z.val) (λg1=>?_)
 refine sM 217 (tcs 0 0 0) (λg2=>?_)
 refine sG<|Sy.seq<|Sy.seq ?_
 refine Sy.regionD (λj=>false) kR ?_
 refine sZ 0 rfl (.pointer (some ⟨g0,8,none⟩))<|sD 1 rfl (fv a.z.val) (qL 0 g0 8 4 217 50 (tcs a.x.val a.y.val a.z.val) rfl Tryz.underlying50) ?_
 obtain ⟨z1,hz1⟩:∃ z:Fp,z=(0:Fp):=⟨_,rfl⟩
 refine sD 2 rfl (fv z1.val) (qF 218 #[.int .u64 0] (λw=>by rw [hz1]; exact of_c 0 (by decide +kernel) (by decide) w)) ?_
 obtain ⟨b1,hb1⟩:∃ z:Bool,z=decide (a.z.val=z1.val):=⟨_,rfl⟩
 refine sD 3 rfl (.bool b1) (Quiet.pure (λw=>by rw [hb1]; exact eql_fe w _ _ _ _ _ _ rfl rfl rfl lK lK)) ?_
 refine sI ?_
 cases b1
 ·have eb1:a.z≠0:=λe=>of_decide_eq_false hb1.symm (by rw [e,hz1])
  refine sU<|Sy.skip<|Sy.then_<|Sy.seq<|Sy.seq ?_
  refine Sy.regionD (λj=>false) kR ?_
  refine sZ 0 rfl (.pointer (some ⟨g1,8,none⟩))<|sD 1 rfl (fv b.z.val) (qL 1 g1 8 4 217 50 (tcs b.x.val b.y.val b.z.val) rfl Tryz.underlying50) ?_
  obtain ⟨z2,hz2⟩:∃ z:Fp,z=(0:Fp):=⟨_,rfl⟩
  refine sD 2 rfl (fv z2.val) (qF 218 #[.int .u64 0] (λw=>by rw [hz2]; exact of_c 0 (by decide +kernel) (by decide) w)) ?_
  obtain ⟨b2,hb2⟩:∃ z:Bool,z=decide (b.z.val=z2.val):=⟨_,rfl⟩
  refine sD 3 rfl (.bool b2) (Quiet.pure (λw=>by rw [hb2]; exact eql_fe w _ _ _ _ _ _ rfl rfl rfl lK lK)) ?_
  refine sI ?_
  cases b2
  ·have eb2:b.z≠0:=λe=>of_decide_eq_false hb2.symm (by rw [e,hz2])
   refine sU<|Sy.skip<|sB ?_
   refine sS (tv a.x.val a.y.val a.z.val) (qL 0 g0 0 12 217 217 (tcs a.x.val a.y.val a.z.val) rfl Tryz.underlying217)<|sP (.pointer (some ⟨g1,8,none⟩))<|sS (fv b.z.val) (qL 1 g1 8 4 217 50 (tcs b.x.val b.y.val b.z.val) rfl Tryz.underlying50) ?_
   obtain ⟨z3,hz3⟩:∃ z:Fp,z=uJ a b:=⟨_,rfl⟩
   obtain ⟨z4,hz4⟩:∃ z:Fp,z=vJ a b:=⟨_,rfl⟩
   refine sS (.tuple #[fv z3.val,fv z4.val]) (qF 219 #[tv a.x.val a.y.val a.z.val,fv b.z.val] (λw=>by rw [hz3,hz4]; exact widened_c w a b.z))<|sP (.tuple #[fv z3.val,fv z4.val])<|sP (fv z3.val)<|sP (fv z4.val) ?_
   refine sM 50 (fcs 0) (λg3=>?_)
   refine sM 50 (fcs 0) (λg4=>?_)
   refine sW 3 g3 50 (fcs 0) (fcs z3.val) (wS 0 50 (fcs z3.val) rfl)<|sW 4 g4 50 (fcs 0) (fcs z4.val) (wS 0 50 (fcs z4.val) rfl) ?_
   refine sA ?_
   refine sS (tv b.x.val b.y.val b.z.val) (qL 1 g1 0 12 217 217 (tcs b.x.val b.y.val b.z.val) rfl Tryz.underlying217)<|sP (.pointer (some ⟨g0,8,none⟩))<|sS (fv a.z.val) (qL 0 g0 8 4 217 50 (tcs a.x.val a.y.val a.z.val) rfl Tryz.underlying50) ?_
   obtain ⟨z5,hz5⟩:∃ z:Fp,z=uJ b a:=⟨_,rfl⟩
   obtain ⟨z6,hz6⟩:∃ z:Fp,z=vJ b a:=⟨_,rfl⟩
   refine sS (.tuple #[fv z5.val,fv z6.val]) (qF 219 #[tv b.x.val b.y.val b.z.val,fv a.z.val] (λw=>by rw [hz5,hz6]; exact widened_c w b a.z))<|sP (.tuple #[fv z5.val,fv z6.val])<|sP (fv z5.val)<|sP (fv z6.val) ?_
   refine sM 50 (fcs 0) (λg5=>?_)
   refine sM 50 (fcs 0) (λg6=>?_)
   refine sW 5 g5 50 (fcs 0) (fcs z5.val) (wS 0 50 (fcs z5.val) rfl)<|sW 6 g6 50 (fcs 0) (fcs z6.val) (wS 0 50 (fcs z6.val) rfl) ?_
   refine sH (λj=>j == 8 || j == 9) ?_
   refine sD 0 rfl (fv z5.val) (qL 5 g5 0 4 50 50 (fcs z5.val) rfl Tryz.underlying50)<|sD 1 rfl (fv z3.val) (qL 3 g3 0 4 50 50 (fcs z3.val) rfl Tryz.underlying50) ?_
   obtain ⟨z7,hz7⟩:∃ z:Fp,z=z5 - z3:=⟨_,rfl⟩
   refine sD 2 rfl (fv z7.val) (qF 196 #[fv z5.val,fv z3.val] (by rw [hz7]; exact sub_c z5 z3)) ?_
   refine Sy.stepDB 3 [5,8,9] rfl kR (λ_ _ _ _ h=>h) kR (fv z6.val) (qL 6 g6 0 4 50 50 (fcs z6.val) rfl Tryz.underlying50) ?_
   refine Sy.stepDB 4 [5,8,9] rfl kR (λ_ _ _ _ h=>h) kR (fv z4.val) (qL 4 g4 0 4 50 50 (fcs z4.val) rfl Tryz.underlying50) ?_
   obtain ⟨z8,hz8⟩:∃ z:Fp,z=z6 - z4:=⟨_,rfl⟩
   refine sD 5 rfl (fv z8.val) (qF 196 #[fv z6.val,fv z4.val] (by rw [hz8]; exact sub_c z6 z4)) ?_
   refine Sy.makeDuo 6 7 rfl rfl kR kR kR 9 10 rfl rfl rfl (by decide) kR kR kF kF 50 50 (fcs 0) (fcs 0) ptr ptr (λ_ _=>by kernel_rfl) (λ_ _=>by kernel_rfl) (λg7 g8=>?_)
   refine sX 8 rfl 7 g7 50 (fcs 0) (fcs z7.val) (wS 0 50 (fcs z7.val) rfl)<|sX 9 rfl 8 g8 50 (fcs 0) (fcs z8.val) (wS 0 50 (fcs z8.val) rfl) ?_
   refine sI ?_
   refine Sy.seq<|Sy.seq ?_
   refine Sy.regionD (λj=>false) kR ?_
   refine sD 0 rfl (fv z7.val) (qL 7 g7 0 4 50 50 (fcs z7.val) rfl Tryz.underlying50) ?_
   obtain ⟨z9,hz9⟩:∃ z:Fp,z=(0:Fp):=⟨_,rfl⟩
   refine sD 1 rfl (fv z9.val) (qF 218 #[.int .u64 0] (λw=>by rw [hz9]; exact of_c 0 (by decide +kernel) (by decide) w)) ?_
   obtain ⟨b3,hb3⟩:∃ z:Bool,z=decide (z7.val=z9.val):=⟨_,rfl⟩
   refine sD 2 rfl (.bool b3) (Quiet.pure (λw=>by rw [hb3]; exact eql_fe w _ _ _ _ _ _ rfl rfl rfl lK lK))<|sZ 3 rfl (.bool b3) ?_
   cases b3
   ·have eb3:z7≠0:=λe=>of_decide_eq_false hb3.symm (by rw [e,hz9])
    refine sQ 4 rfl<|sQ 5 rfl<|sQ 6 rfl<|sZ 7 rfl (.bool false) ?_
    refine sI ?_
    refine sU<|Sy.skip<|sB ?_
    refine sS (fv z7.val) (qL 7 g7 0 4 50 50 (fcs z7.val) rfl Tryz.underlying50)<|sS (fv z7.val) (qL 7 g7 0 4 50 50 (fcs z7.val) rfl Tryz.underlying50) ?_
    obtain ⟨z10,hz10⟩:∃ z:Fp,z=z7*z7:=⟨_,rfl⟩
    refine sS (fv z10.val) (qF 197 #[fv z7.val,fv z7.val] (by rw [hz10]; exact mul_c z7 z7)) ?_
    refine sM 50 (fcs 0) (λg9=>?_)
    refine sW 9 g9 50 (fcs 0) (fcs z10.val) (wS 0 50 (fcs z10.val) rfl) ?_
    refine sA ?_
    refine sS (fv z10.val) (qL 9 g9 0 4 50 50 (fcs z10.val) rfl Tryz.underlying50)<|sS (fv z7.val) (qL 7 g7 0 4 50 50 (fcs z7.val) rfl Tryz.underlying50) ?_
    obtain ⟨z11,hz11⟩:∃ z:Fp,z=z10*z7:=⟨_,rfl⟩
    refine sS (fv z11.val) (qF 197 #[fv z10.val,fv z7.val] (by rw [hz11]; exact mul_c z10 z7)) ?_
    refine sM 50 (fcs 0) (λg10=>?_)
    refine sW 10 g10 50 (fcs 0) (fcs z11.val) (wS 0 50 (fcs z11.val) rfl) ?_
    refine sA ?_
    refine sS (fv z3.val) (qL 3 g3 0 4 50 50 (fcs z3.val) rfl Tryz.underlying50)<|sS (fv z10.val) (qL 9 g9 0 4 50 50 (fcs z10.val) rfl Tryz.underlying50) ?_
    obtain ⟨z12,hz12⟩:∃ z:Fp,z=z3*z10:=⟨_,rfl⟩
    refine sS (fv z12.val) (qF 197 #[fv z3.val,fv z10.val] (by rw [hz12]; exact mul_c z3 z10))<|sW 3 g3 50 (fcs z3.val) (fcs z12.val) (wS 0 50 (fcs z12.val) rfl) ?_
    refine sA ?_
    refine sM 217 (tcs 0 0 0) (λg11=>?_)
    refine sH (λj=>j == 10) ?_
    refine sD 0 rfl (fv z8.val) (qL 8 g8 0 4 50 50 (fcs z8.val) rfl Tryz.underlying50)<|sD 1 rfl (fv z8.val) (qL 8 g8 0 4 50 50 (fcs z8.val) rfl Tryz.underlying50) ?_
    obtain ⟨z13,hz13⟩:∃ z:Fp,z=z8*z8:=⟨_,rfl⟩
    refine sD 2 rfl (fv z13.val) (qF 197 #[fv z8.val,fv z8.val] (by rw [hz13]; exact mul_c z8 z8))<|sD 3 rfl (fv z11.val) (qL 10 g10 0 4 50 50 (fcs z11.val) rfl Tryz.underlying50) ?_
    obtain ⟨z14,hz14⟩:∃ z:Fp,z=z13 - z11:=⟨_,rfl⟩
    refine sD 4 rfl (fv z14.val) (qF 196 #[fv z13.val,fv z11.val] (by rw [hz14]; exact sub_c z13 z11))<|sD 5 rfl (fv z12.val) (qL 3 g3 0 4 50 50 (fcs z12.val) rfl Tryz.underlying50)<|sD 6 rfl (fv z12.val) (qL 3 g3 0 4 50 50 (fcs z12.val) rfl Tryz.underlying50) ?_
    obtain ⟨z15,hz15⟩:∃ z:Fp,z=z12+z12:=⟨_,rfl⟩
    refine sD 7 rfl (fv z15.val) (qF 221 #[fv z12.val,fv z12.val] (by rw [hz15]; exact add_c z12 z12)) ?_
    obtain ⟨z16,hz16⟩:∃ z:Fp,z=z14 - z15:=⟨_,rfl⟩
    refine sD 8 rfl (fv z16.val) (qF 196 #[fv z14.val,fv z15.val] (by rw [hz16]; exact sub_c z14 z15))<|sZ 9 rfl (.pointer (some ⟨g11,0,none⟩))<|sX 10 rfl 11 g11 217 (tcs 0 0 0) (tcs z16.val 0 0) (wS 0 50 (fcs z16.val) rfl) ?_
    refine sE ?_
    refine sR (λj=>j == 11) ?_
    refine sD 0 rfl (fv z8.val) (qL 8 g8 0 4 50 50 (fcs z8.val) rfl Tryz.underlying50)<|sD 1 rfl (fv z12.val) (qL 3 g3 0 4 50 50 (fcs z12.val) rfl Tryz.underlying50)<|sZ 2 rfl (.pointer (some ⟨g11,0,none⟩))<|sD 3 rfl (fv z16.val) (qL 11 g11 0 4 217 50 (tcs z16.val 0 0) rfl Tryz.underlying50) ?_
    obtain ⟨z17,hz17⟩:∃ z:Fp,z=z12 - z16:=⟨_,rfl⟩
    refine sD 4 rfl (fv z17.val) (qF 196 #[fv z12.val,fv z16.val] (by rw [hz17]; exact sub_c z12 z16)) ?_
    obtain ⟨z18,hz18⟩:∃ z:Fp,z=z8*z17:=⟨_,rfl⟩
    refine sD 5 rfl (fv z18.val) (qF 197 #[fv z8.val,fv z17.val] (by rw [hz18]; exact mul_c z8 z17))<|sD 6 rfl (fv z4.val) (qL 4 g4 0 4 50 50 (fcs z4.val) rfl Tryz.underlying50)<|sD 7 rfl (fv z11.val) (qL 10 g10 0 4 50 50 (fcs z11.val) rfl Tryz.underlying50) ?_
    obtain ⟨z19,hz19⟩:∃ z:Fp,z=z4*z11:=⟨_,rfl⟩
    refine sD 8 rfl (fv z19.val) (qF 197 #[fv z4.val,fv z11.val] (by rw [hz19]; exact mul_c z4 z11)) ?_
    obtain ⟨z20,hz20⟩:∃ z:Fp,z=z18 - z19:=⟨_,rfl⟩
    refine sD 9 rfl (fv z20.val) (qF 196 #[fv z18.val,fv z19.val] (by rw [hz20]; exact sub_c z18 z19))<|sZ 10 rfl (.pointer (some ⟨g11,4,none⟩))<|sX 11 rfl 11 g11 217 (tcs z16.val 0 0) (tcs z16.val z20.val 0) (wS 4 50 (fcs z20.val) rfl) ?_
    refine sE ?_
    refine sR (λj=>j == 8) ?_
    refine sZ 0 rfl (.pointer (some ⟨g0,8,none⟩))<|sD 1 rfl (fv a.z.val) (qL 0 g0 8 4 217 50 (tcs a.x.val a.y.val a.z.val) rfl Tryz.underlying50)<|sZ 2 rfl (.pointer (some ⟨g1,8,none⟩))<|sD 3 rfl (fv b.z.val) (qL 1 g1 8 4 217 50 (tcs b.x.val b.y.val b.z.val) rfl Tryz.underlying50) ?_
    obtain ⟨z21,hz21⟩:∃ z:Fp,z=a.z*b.z:=⟨_,rfl⟩
    refine sD 4 rfl (fv z21.val) (qF 197 #[fv a.z.val,fv b.z.val] (by rw [hz21]; exact mul_c a.z b.z))<|sD 5 rfl (fv z7.val) (qL 7 g7 0 4 50 50 (fcs z7.val) rfl Tryz.underlying50) ?_
    obtain ⟨z22,hz22⟩:∃ z:Fp,z=z21*z7:=⟨_,rfl⟩
    refine sD 6 rfl (fv z22.val) (qF 197 #[fv z21.val,fv z7.val] (by rw [hz22]; exact mul_c z21 z7))<|sZ 7 rfl (.pointer (some ⟨g11,8,none⟩))<|sX 8 rfl 11 g11 217 (tcs z16.val z20.val 0) (tcs z16.val z20.val z22.val) (wS 8 50 (fcs z22.val) rfl) ?_
    refine sE ?_
    refine sB ?_
    refine sS (tv z16.val z20.val z22.val) (qL 11 g11 0 12 217 217 (tcs z16.val z20.val z22.val) rfl Tryz.underlying217)<|sW 2 g2 217 (tcs 0 0 0) (tcs z16.val z20.val z22.val) (wS 0 217 (tcs z16.val z20.val z22.val) rfl) ?_
    refine sG<|Sy.ret ?_
    rw [show (tv (addJ a b).x.val (addJ a b).y.val (addJ a b).z.val:Value)=tv z16.val z20.val z22.val from by
     rw [addJ_4 eb1 eb2 (λk=>eb3 (by rw [hz7,hz3,hz5]; exact k.1))]
     simp only [hz22,hz21,hz20,hz19,hz18,hz17,hz16,hz15,hz14,hz13,hz12,hz11,hz10,hz8,hz7,hz6,hz5,hz4,hz3]
     rfl]
    exact rC (v:=tv z16.val z20.val z22.val) 217 g2 2 (tcs z16.val z20.val z22.val) rfl Tryz.underlying217
   ·have eb3:z7=0:=(Fin.ext (of_decide_eq_true hb3.symm)).trans hz9
    refine sD 4 rfl (fv z8.val) (qL 8 g8 0 4 50 50 (fcs z8.val) rfl Tryz.underlying50) ?_
    obtain ⟨z23,hz23⟩:∃ z:Fp,z=(0:Fp):=⟨_,rfl⟩
    refine sD 5 rfl (fv z23.val) (qF 218 #[.int .u64 0] (λw=>by rw [hz23]; exact of_c 0 (by decide +kernel) (by decide) w)) ?_
    obtain ⟨b4,hb4⟩:∃ z:Bool,z=decide (z8.val=z23.val):=⟨_,rfl⟩
    refine sD 6 rfl (.bool b4) (Quiet.pure (λw=>by rw [hb4]; exact eql_fe w _ _ _ _ _ _ rfl rfl rfl lK lK))<|sZ 7 rfl (.bool b4) ?_
    refine sI ?_
    cases b4
    ·have eb4:z8≠0:=λe=>of_decide_eq_false hb4.symm (by rw [e,hz23])
     refine sU<|Sy.skip<|sB ?_
     refine sS (fv z7.val) (qL 7 g7 0 4 50 50 (fcs z7.val) rfl Tryz.underlying50)<|sS (fv z7.val) (qL 7 g7 0 4 50 50 (fcs z7.val) rfl Tryz.underlying50) ?_
     obtain ⟨z24,hz24⟩:∃ z:Fp,z=z7*z7:=⟨_,rfl⟩
     refine sS (fv z24.val) (qF 197 #[fv z7.val,fv z7.val] (by rw [hz24]; exact mul_c z7 z7)) ?_
     refine sM 50 (fcs 0) (λg12=>?_)
     refine sW 9 g12 50 (fcs 0) (fcs z24.val) (wS 0 50 (fcs z24.val) rfl) ?_
     refine sA ?_
     refine sS (fv z24.val) (qL 9 g12 0 4 50 50 (fcs z24.val) rfl Tryz.underlying50)<|sS (fv z7.val) (qL 7 g7 0 4 50 50 (fcs z7.val) rfl Tryz.underlying50) ?_
     obtain ⟨z25,hz25⟩:∃ z:Fp,z=z24*z7:=⟨_,rfl⟩
     refine sS (fv z25.val) (qF 197 #[fv z24.val,fv z7.val] (by rw [hz25]; exact mul_c z24 z7)) ?_
     refine sM 50 (fcs 0) (λg13=>?_)
     refine sW 10 g13 50 (fcs 0) (fcs z25.val) (wS 0 50 (fcs z25.val) rfl) ?_
     refine sA ?_
     refine sS (fv z3.val) (qL 3 g3 0 4 50 50 (fcs z3.val) rfl Tryz.underlying50)<|sS (fv z24.val) (qL 9 g12 0 4 50 50 (fcs z24.val) rfl Tryz.underlying50) ?_
     obtain ⟨z26,hz26⟩:∃ z:Fp,z=z3*z24:=⟨_,rfl⟩
     refine sS (fv z26.val) (qF 197 #[fv z3.val,fv z24.val] (by rw [hz26]; exact mul_c z3 z24))<|sW 3 g3 50 (fcs z3.val) (fcs z26.val) (wS 0 50 (fcs z26.val) rfl) ?_
     refine sA ?_
     refine sM 217 (tcs 0 0 0) (λg14=>?_)
     refine sH (λj=>j == 10) ?_
     refine sD 0 rfl (fv z8.val) (qL 8 g8 0 4 50 50 (fcs z8.val) rfl Tryz.underlying50)<|sD 1 rfl (fv z8.val) (qL 8 g8 0 4 50 50 (fcs z8.val) rfl Tryz.underlying50) ?_
     obtain ⟨z27,hz27⟩:∃ z:Fp,z=z8*z8:=⟨_,rfl⟩
     refine sD 2 rfl (fv z27.val) (qF 197 #[fv z8.val,fv z8.val] (by rw [hz27]; exact mul_c z8 z8))<|sD 3 rfl (fv z25.val) (qL 10 g13 0 4 50 50 (fcs z25.val) rfl Tryz.underlying50) ?_
     obtain ⟨z28,hz28⟩:∃ z:Fp,z=z27 - z25:=⟨_,rfl⟩
     refine sD 4 rfl (fv z28.val) (qF 196 #[fv z27.val,fv z25.val] (by rw [hz28]; exact sub_c z27 z25))<|sD 5 rfl (fv z26.val) (qL 3 g3 0 4 50 50 (fcs z26.val) rfl Tryz.underlying50)<|sD 6 rfl (fv z26.val) (qL 3 g3 0 4 50 50 (fcs z26.val) rfl Tryz.underlying50) ?_
     obtain ⟨z29,hz29⟩:∃ z:Fp,z=z26+z26:=⟨_,rfl⟩
     refine sD 7 rfl (fv z29.val) (qF 221 #[fv z26.val,fv z26.val] (by rw [hz29]; exact add_c z26 z26)) ?_
     obtain ⟨z30,hz30⟩:∃ z:Fp,z=z28 - z29:=⟨_,rfl⟩
     refine sD 8 rfl (fv z30.val) (qF 196 #[fv z28.val,fv z29.val] (by rw [hz30]; exact sub_c z28 z29))<|sZ 9 rfl (.pointer (some ⟨g14,0,none⟩))<|sX 10 rfl 11 g14 217 (tcs 0 0 0) (tcs z30.val 0 0) (wS 0 50 (fcs z30.val) rfl) ?_
     refine sE ?_
     refine sR (λj=>j == 11) ?_
     refine sD 0 rfl (fv z8.val) (qL 8 g8 0 4 50 50 (fcs z8.val) rfl Tryz.underlying50)<|sD 1 rfl (fv z26.val) (qL 3 g3 0 4 50 50 (fcs z26.val) rfl Tryz.underlying50)<|sZ 2 rfl (.pointer (some ⟨g14,0,none⟩))<|sD 3 rfl (fv z30.val) (qL 11 g14 0 4 217 50 (tcs z30.val 0 0) rfl Tryz.underlying50) ?_
     obtain ⟨z31,hz31⟩:∃ z:Fp,z=z26 - z30:=⟨_,rfl⟩
     refine sD 4 rfl (fv z31.val) (qF 196 #[fv z26.val,fv z30.val] (by rw [hz31]; exact sub_c z26 z30)) ?_
     obtain ⟨z32,hz32⟩:∃ z:Fp,z=z8*z31:=⟨_,rfl⟩
     refine sD 5 rfl (fv z32.val) (qF 197 #[fv z8.val,fv z31.val] (by rw [hz32]; exact mul_c z8 z31))<|sD 6 rfl (fv z4.val) (qL 4 g4 0 4 50 50 (fcs z4.val) rfl Tryz.underlying50)<|sD 7 rfl (fv z25.val) (qL 10 g13 0 4 50 50 (fcs z25.val) rfl Tryz.underlying50) ?_
     obtain ⟨z33,hz33⟩:∃ z:Fp,z=z4*z25:=⟨_,rfl⟩
     refine sD 8 rfl (fv z33.val) (qF 197 #[fv z4.val,fv z25.val] (by rw [hz33]; exact mul_c z4 z25)) ?_
     obtain ⟨z34,hz34⟩:∃ z:Fp,z=z32 - z33:=⟨_,rfl⟩
     refine sD 9 rfl (fv z34.val) (qF 196 #[fv z32.val,fv z33.val] (by rw [hz34]; exact sub_c z32 z33))<|sZ 10 rfl (.pointer (some ⟨g14,4,none⟩))<|sX 11 rfl 11 g14 217 (tcs z30.val 0 0) (tcs z30.val z34.val 0) (wS 4 50 (fcs z34.val) rfl) ?_
     refine sE ?_
     refine sR (λj=>j == 8) ?_
     refine sZ 0 rfl (.pointer (some ⟨g0,8,none⟩))<|sD 1 rfl (fv a.z.val) (qL 0 g0 8 4 217 50 (tcs a.x.val a.y.val a.z.val) rfl Tryz.underlying50)<|sZ 2 rfl (.pointer (some ⟨g1,8,none⟩))<|sD 3 rfl (fv b.z.val) (qL 1 g1 8 4 217 50 (tcs b.x.val b.y.val b.z.val) rfl Tryz.underlying50) ?_
     obtain ⟨z35,hz35⟩:∃ z:Fp,z=a.z*b.z:=⟨_,rfl⟩
     refine sD 4 rfl (fv z35.val) (qF 197 #[fv a.z.val,fv b.z.val] (by rw [hz35]; exact mul_c a.z b.z))<|sD 5 rfl (fv z7.val) (qL 7 g7 0 4 50 50 (fcs z7.val) rfl Tryz.underlying50) ?_
     obtain ⟨z36,hz36⟩:∃ z:Fp,z=z35*z7:=⟨_,rfl⟩
     refine sD 6 rfl (fv z36.val) (qF 197 #[fv z35.val,fv z7.val] (by rw [hz36]; exact mul_c z35 z7))<|sZ 7 rfl (.pointer (some ⟨g14,8,none⟩))<|sX 8 rfl 11 g14 217 (tcs z30.val z34.val 0) (tcs z30.val z34.val z36.val) (wS 8 50 (fcs z36.val) rfl) ?_
     refine sE ?_
     refine sB ?_
     refine sS (tv z30.val z34.val z36.val) (qL 11 g14 0 12 217 217 (tcs z30.val z34.val z36.val) rfl Tryz.underlying217)<|sW 2 g2 217 (tcs 0 0 0) (tcs z30.val z34.val z36.val) (wS 0 217 (tcs z30.val z34.val z36.val) rfl) ?_
     refine sG<|Sy.ret ?_
     rw [show (tv (addJ a b).x.val (addJ a b).y.val (addJ a b).z.val:Value)=tv z30.val z34.val z36.val from by
      rw [addJ_4 eb1 eb2 (λk=>eb4 (by rw [hz8,hz4,hz6]; exact k.2))]
      simp only [hz36,hz35,hz34,hz33,hz32,hz31,hz30,hz29,hz28,hz27,hz26,hz25,hz24,hz8,hz7,hz6,hz5,hz4,hz3]
      rfl]
     exact rC (v:=tv z30.val z34.val z36.val) 217 g2 2 (tcs z30.val z34.val z36.val) rfl Tryz.underlying217
    ·have eb4:z8=0:=(Fin.ext (of_decide_eq_true hb4.symm)).trans hz23
     refine sT<|sC ?_
     refine sS (tv a.x.val a.y.val a.z.val) (qL 0 g0 0 12 217 217 (tcs a.x.val a.y.val a.z.val) rfl Tryz.underlying217)<|sS (tv ((dblJ a).x.val) ((dblJ a).y.val) ((dblJ a).z.val)) (qF 220 #[tv a.x.val a.y.val a.z.val] (λw=>double_c w a))<|sW 2 g2 217 (tcs 0 0 0) (tcs ((dblJ a).x.val) ((dblJ a).y.val) ((dblJ a).z.val)) (wS 0 217 (tcs ((dblJ a).x.val) ((dblJ a).y.val) ((dblJ a).z.val)) rfl) ?_
     refine sG<|Sy.ret<|Sy.then_ret ?_
     rw [show (tv (addJ a b).x.val (addJ a b).y.val (addJ a b).z.val:Value)=tv ((dblJ a).x.val) ((dblJ a).y.val) ((dblJ a).z.val) from by rw [addJ_3 eb1 eb2 (by rw [← eb3,hz7,hz3,hz5]; rfl) (by rw [← eb4,hz8,hz4,hz6]; rfl)]]
     exact rC (v:=tv ((dblJ a).x.val) ((dblJ a).y.val) ((dblJ a).z.val)) 217 g2 2 (tcs ((dblJ a).x.val) ((dblJ a).y.val) ((dblJ a).z.val)) rfl Tryz.underlying217
  ·have eb2:b.z=0:=(Fin.ext (of_decide_eq_true hb2.symm)).trans hz2
   refine sT<|sC ?_
   refine sS (tv a.x.val a.y.val a.z.val) (qL 0 g0 0 12 217 217 (tcs a.x.val a.y.val a.z.val) rfl Tryz.underlying217)<|sW 2 g2 217 (tcs 0 0 0) (tcs a.x.val a.y.val a.z.val) (wS 0 217 (tcs a.x.val a.y.val a.z.val) rfl) ?_
   refine sG<|Sy.ret<|Sy.then_ret ?_
   rw [show (tv (addJ a b).x.val (addJ a b).y.val (addJ a b).z.val:Value)=tv a.x.val a.y.val a.z.val from by rw [addJ_2 eb1 eb2]]
   exact rC (v:=tv a.x.val a.y.val a.z.val) 217 g2 2 (tcs a.x.val a.y.val a.z.val) rfl Tryz.underlying217
 ·have eb1:a.z=0:=(Fin.ext (of_decide_eq_true hb1.symm)).trans hz1
  refine sT<|sC ?_
  refine sS (tv b.x.val b.y.val b.z.val) (qL 1 g1 0 12 217 217 (tcs b.x.val b.y.val b.z.val) rfl Tryz.underlying217)<|sW 2 g2 217 (tcs 0 0 0) (tcs b.x.val b.y.val b.z.val) (wS 0 217 (tcs b.x.val b.y.val b.z.val) rfl) ?_
  refine sG<|Sy.ret<|Sy.then_ret ?_
  rw [show (tv (addJ a b).x.val (addJ a b).y.val (addJ a b).z.val:Value)=tv b.x.val b.y.val b.z.val from by rw [addJ_1 eb1]]
  exact rC (v:=tv b.x.val b.y.val b.z.val) 217 g2 2 (tcs b.x.val b.y.val b.z.val) rfl Tryz.underlying217
end Cu
end
section
namespace Cu
open Go.RowKit Sy
set_option maxRecDepth 100000
set_option maxHeartbeats 4000000
def threeJ:Pt→J
 | none=>⟨0,0,0⟩
 | some (x,y)=>⟨x,y,1⟩
theorem threeJ_rep:∀ P:Pt,Ec.Rep (threeJ P) P
 | none=>rfl
 | some (x,y)=>by
  refine ⟨(by decide +kernel:(1:Fp)≠0),?_,?_⟩
  ·show x=x*(1*1)
   grobner
  ·show y=y*(1*1*1)
   grobner
def ptJ (a:J):Pt:=if a.z=0 then none else some (a.x*(finv a.z*finv a.z),a.y*(finv a.z*finv a.z*finv a.z))
theorem ptJ_rep {a:J} {P:Pt} (h:Ec.Rep a P):ptJ a=P:=by
 rcases Ec.rep_point fld h with ⟨h1,h2⟩ | ⟨h1,h2⟩
 ·unfold ptJ; rw [if_pos h1,h2]
 ·unfold ptJ; rw [if_neg h1,h2]
theorem three_n (w:World)  : Calls Tryz.prog 244 #[pv 0 0 true] w (Gets w (tv 0 0 0)):=by
 refine Sy.enter (args:=[pv 0 0 true]) Tryz.func244 rfl kL ?_
 refine sC ?_
 refine sM 52 (pcs 0 0 true) (λg0=>?_)
 refine sM 217 (tcs 0 0 0) (λg1=>?_)
 refine sG<|Sy.seq<|Sy.seq ?_
 refine Sy.regionD (λj=>false) kR ?_
 refine sD 0 rfl (pv 0 0 true) (qL 0 g0 0 9 52 52 (pcs 0 0 true) rfl Tryz.underlying52)<|sD 1 rfl (pv 0 0 true) (qF 194 #[] (zero_c))<|sD 2 rfl (.bool true) (Quiet.pure (λw=>eql_pt w _ _ _ _ 0 0 true 0 0 true rfl rfl rfl (by decide) (by decide) (by decide) (by decide))) ?_
 refine sI ?_
 refine sT<|sC ?_
 refine sP (tv 0 0 0)<|sW 1 g1 217 (tcs 0 0 0) (tcs 0 0 0) (wS 0 217 (tcs 0 0 0) rfl) ?_
 refine sG<|Sy.ret<|Sy.then_ret ?_
 exact rC (v:=tv 0 0 0) 217 g1 1 (tcs 0 0 0) rfl Tryz.underlying217
theorem three_s (w:World) (u v:Fp):Calls Tryz.prog 244 #[pv u.val v.val false] w (Gets w (tv u.val v.val (1:Fp).val)):=by
 refine Sy.enter (args:=[pv u.val v.val false]) Tryz.func244 rfl kL ?_
 refine sC ?_
 refine sM 52 (pcs u.val v.val false) (λg0=>?_)
 refine sM 217 (tcs 0 0 0) (λg1=>?_)
 refine sG<|Sy.seq<|Sy.seq ?_
 refine Sy.regionD (λj=>false) kR ?_
 refine sD 0 rfl (pv u.val v.val false) (qL 0 g0 0 9 52 52 (pcs u.val v.val false) rfl Tryz.underlying52)<|sD 1 rfl (pv 0 0 true) (qF 194 #[] (zero_c))<|sD 2 rfl (.bool false) (Quiet.pure (λw=>eql_pt_ne w _ _ _ _ _ _ _ _ _ _ rfl rfl rfl lK lK lK lK (by decide))) ?_
 refine sI ?_
 refine sU<|Sy.skip ?_
 refine sR (λj=>j == 6) ?_
 refine sZ 0 rfl (.pointer (some ⟨g0,0,none⟩))<|sD 1 rfl (fv u.val) (qL 0 g0 0 4 52 50 (pcs u.val v.val false) rfl Tryz.underlying50)<|sZ 2 rfl (.pointer (some ⟨g0,4,none⟩))<|sD 3 rfl (fv v.val) (qL 0 g0 4 4 52 50 (pcs u.val v.val false) rfl Tryz.underlying50) ?_
 obtain ⟨z1,hz1⟩:∃ z:Fp,z=(1:Fp):=⟨_,rfl⟩
 refine sD 4 rfl (fv z1.val) (qF 218 #[.int .u64 1] (λw=>by rw [hz1]; exact of_c 1 (by decide +kernel) (by decide) w))<|sZ 5 rfl (tv u.val v.val z1.val)<|sX 6 rfl 1 g1 217 (tcs 0 0 0) (tcs u.val v.val z1.val) (wS 0 217 (tcs u.val v.val z1.val) rfl) ?_
 refine sI ?_
 refine Sy.ret ?_
 rw [show (tv u.val v.val (1:Fp).val:Value)=tv u.val v.val z1.val from by rw [hz1]]
 exact rC (v:=tv u.val v.val z1.val) 217 g1 1 (tcs u.val v.val z1.val) rfl Tryz.underlying217
theorem three_c (w:World) (P:Pt):Calls Tryz.prog 244 #[ptv P] w (Gets w (jv (threeJ P))):=by
 rcases P with _ | ⟨u,v⟩
 ·exact three_n w
 ·exact three_s w u v
theorem point_c (w:World) (a:J):Calls Tryz.prog 184 #[tv a.x.val a.y.val a.z.val] w (Gets w (ptv (ptJ a))):=by
 refine Sy.enter (args:=[tv a.x.val a.y.val a.z.val]) Tryz.func184 rfl kL ?_
 refine sC ?_
 refine sM 217 (tcs a.x.val a.y.val a.z.val) (λg0=>?_)
 refine sM 52 (pcs 0 0 false) (λg1=>?_)
 refine sG<|Sy.seq<|Sy.seq ?_
 refine Sy.regionD (λj=>false) kR ?_
 refine sZ 0 rfl (.pointer (some ⟨g0,8,none⟩))<|sD 1 rfl (fv a.z.val) (qL 0 g0 8 4 217 50 (tcs a.x.val a.y.val a.z.val) rfl Tryz.underlying50) ?_
 obtain ⟨z1,hz1⟩:∃ z:Fp,z=(0:Fp):=⟨_,rfl⟩
 refine sD 2 rfl (fv z1.val) (qF 218 #[.int .u64 0] (λw=>by rw [hz1]; exact of_c 0 (by decide +kernel) (by decide) w)) ?_
 obtain ⟨b1,hb1⟩:∃ z:Bool,z=decide (a.z.val=z1.val):=⟨_,rfl⟩
 refine sD 3 rfl (.bool b1) (Quiet.pure (λw=>by rw [hb1]; exact eql_fe w _ _ _ _ _ _ rfl rfl rfl lK lK)) ?_
 refine sI ?_
 cases b1
 ·have eb1:a.z≠0:=λe=>of_decide_eq_false hb1.symm (by rw [e,hz1])
  refine sU<|Sy.skip<|sB ?_
  refine sP (.pointer (some ⟨g0,8,none⟩))<|sS (fv a.z.val) (qL 0 g0 8 4 217 50 (tcs a.x.val a.y.val a.z.val) rfl Tryz.underlying50) ?_
  obtain ⟨z2,hz2⟩:∃ z:Fp,z=finv a.z:=⟨_,rfl⟩
  refine sS (fv z2.val) (qF 225 #[fv a.z.val] (by rw [hz2]; exact inv_c a.z)) ?_
  refine sM 50 (fcs 0) (λg2=>?_)
  refine sW 2 g2 50 (fcs 0) (fcs z2.val) (wS 0 50 (fcs z2.val) rfl) ?_
  refine sA ?_
  refine sS (fv z2.val) (qL 2 g2 0 4 50 50 (fcs z2.val) rfl Tryz.underlying50)<|sS (fv z2.val) (qL 2 g2 0 4 50 50 (fcs z2.val) rfl Tryz.underlying50) ?_
  obtain ⟨z3,hz3⟩:∃ z:Fp,z=z2*z2:=⟨_,rfl⟩
  refine sS (fv z3.val) (qF 197 #[fv z2.val,fv z2.val] (by rw [hz3]; exact mul_c z2 z2)) ?_
  refine sM 50 (fcs 0) (λg3=>?_)
  refine sW 3 g3 50 (fcs 0) (fcs z3.val) (wS 0 50 (fcs z3.val) rfl) ?_
  refine sH (λj=>j == 11) ?_
  refine sZ 0 rfl (.pointer (some ⟨g0,0,none⟩))<|sD 1 rfl (fv a.x.val) (qL 0 g0 0 4 217 50 (tcs a.x.val a.y.val a.z.val) rfl Tryz.underlying50)<|sD 2 rfl (fv z3.val) (qL 3 g3 0 4 50 50 (fcs z3.val) rfl Tryz.underlying50) ?_
  obtain ⟨z4,hz4⟩:∃ z:Fp,z=a.x*z3:=⟨_,rfl⟩
  refine sD 3 rfl (fv z4.val) (qF 197 #[fv a.x.val,fv z3.val] (by rw [hz4]; exact mul_c a.x z3))<|sZ 4 rfl (.pointer (some ⟨g0,4,none⟩))<|sD 5 rfl (fv a.y.val) (qL 0 g0 4 4 217 50 (tcs a.x.val a.y.val a.z.val) rfl Tryz.underlying50)<|sD 6 rfl (fv z3.val) (qL 3 g3 0 4 50 50 (fcs z3.val) rfl Tryz.underlying50)<|sD 7 rfl (fv z2.val) (qL 2 g2 0 4 50 50 (fcs z2.val) rfl Tryz.underlying50) ?_
  obtain ⟨z5,hz5⟩:∃ z:Fp,z=z3*z2:=⟨_,rfl⟩
  refine sD 8 rfl (fv z5.val) (qF 197 #[fv z3.val,fv z2.val] (by rw [hz5]; exact mul_c z3 z2)) ?_
  obtain ⟨z6,hz6⟩:∃ z:Fp,z=a.y*z5:=⟨_,rfl⟩
  refine sD 9 rfl (fv z6.val) (qF 197 #[fv a.y.val,fv z5.val] (by rw [hz6]; exact mul_c a.y z5))<|sZ 10 rfl (pv z4.val z6.val false)<|sX 11 rfl 1 g1 52 (pcs 0 0 false) (pcs z4.val z6.val false) (wS 0 52 (pcs z4.val z6.val false) rfl) ?_
  refine sI ?_
  refine Sy.ret ?_
  rw [show (ptv (ptJ a):Value)=pv z4.val z6.val false from by unfold ptJ; rw [if_neg eb1]; unfold ptv; simp only [hz6,hz5,hz4,hz3,hz2]]
  exact rC (v:=pv z4.val z6.val false) 52 g1 1 (pcs z4.val z6.val false) rfl Tryz.underlying52
 ·have eb1:a.z=0:=(Fin.ext (of_decide_eq_true hb1.symm)).trans hz1
  refine sT<|sC ?_
  refine sS (pv 0 0 true) (qF 194 #[] (zero_c))<|sW 1 g1 52 (pcs 0 0 false) (pcs 0 0 true) (wS 0 52 (pcs 0 0 true) rfl) ?_
  refine sG<|Sy.ret<|Sy.then_ret ?_
  rw [show (ptv (ptJ a):Value)=pv 0 0 true from by unfold ptJ; rw [if_pos eb1]; rfl]
  exact rC (v:=pv 0 0 true) 52 g1 1 (pcs 0 0 true) rfl Tryz.underlying52
end Cu
end
section
section
open Go.RowKit Go.Lib
def modV:Value:=.agg #[.int .u64 18446744069414583343,.int .u64 18446744073709551615,.int .u64 18446744073709551615,.int .u64 18446744073709551615,.int .u64 4294968273,.int .u64 0,.int .u64 0]
theorem fv_P:fv 115792089237316195423570985008687907853269984665640564039457584007908834671663=.agg #[.int .u64 18446744069414583343,.int .u64 18446744073709551615,.int .u64 18446744073709551615,.int .u64 18446744073709551615]:=rfl
theorem refP_any (w:World):Calls Tryz.prog 67 #[] w λe w'=>e=.returned modV∧Below w.heap.size w w':=by
 go_enter Tryz.func67,Tryz.ntmps67
 go_wp2
 exact bodyPost_ret (results_cell_row rfl _ _ w.heap.size _ _ (0,0) _ rfl (heap_alloc_new w _) Tryz.underlying102 rfl (by kernel_rfl)) rfl ⟨rfl,(Below.refl _ _).alloc (Nat.le_refl _) _⟩
theorem refOf_any (w:World) (n:Nat) (hn:n<(2^256)):Calls Tryz.prog 62 #[fv n] w λe w'=>e=.returned (fv n)∧Below w.heap.size w w':=by
 obtain ⟨a,b,c,d,fn⟩:=words_fv n hn
 rw [fn]
 clear fn
 go_enter Tryz.func62,Tryz.ntmps62
 go_wp2
 exact bodyPost_ret (results_cell_row rfl _ _ (w.heap.size+1) _ _ (0,0) _ rfl (heap_alloc2_new w _ _) Tryz.underlying98 rfl (by kernel_rfl)) rfl ⟨rfl,below_alloc2 w _ _⟩
theorem refFe_any (w:World) (n:Nat) (hn:n<(2^256)):Calls Tryz.prog 125 #[fv n] w λe w'=>e=.returned (fv n)∧Below w.heap.size w w':=by
 obtain ⟨a,b,c,d,fn⟩:=words_fv n hn
 rw [fn]
 clear fn
 go_enter Tryz.func125,Tryz.ntmps125
 go_wp2
 exact bodyPost_ret (results_cell_row rfl _ _ (w.heap.size+1) _ _ (0,0) _ rfl (heap_alloc2_new w _ _) Tryz.underlying50 rfl (by kernel_rfl)) rfl ⟨rfl,below_alloc2 w _ _⟩
set_option maxHeartbeats 8000000 in
set_option maxRecDepth 100000 in
theorem below_at {v1 v2:Value} (w:World) (x y:Nat) (h1:fv x=v1) (h2:fv y=v2) (hx:x<(2^256)) (hy:y<(2^256)):Calls Tryz.prog 119 #[v1,v2] w λe w'=>e=.returned (.bool (decide (x<y)))∧Below w.heap.size w w':=by
 subst h1 h2
 obtain ⟨x0,x1,x2,x3,a0,a1,a2,a3,ex,fx⟩:=words_of x hx
 obtain ⟨y0,y1,y2,y3,b0,b1,b2,b3,ey,fy⟩:=words_of y hy
 obtain ⟨r,hr⟩:∃ r,r=decide (x<y):=⟨_,rfl⟩
 have t3:x3≠y3→r=decide ((x3:Int)<(y3:Int)):=λh=>by rw [hr]; congr 1; simp only [eq_iff_iff]; omega
 have t2:x3=y3→x2≠y2→r=decide ((x2:Int)<(y2:Int)):=λ_ h=>by rw [hr]; congr 1; simp only [eq_iff_iff]; omega
 have t1:x3=y3→x2=y2→x1≠y1→r=decide ((x1:Int)<(y1:Int)):=λ_ _ h=>by rw [hr]; congr 1; simp only [eq_iff_iff]; omega
 have t0:x3=y3→x2=y2→x1=y1→x0≠y0→r=decide ((x0:Int)<(y0:Int)):=λ_ _ _ h=>by rw [hr]; congr 1; simp only [eq_iff_iff]; omega
 have te:x3=y3→x2=y2→x1=y1→x0=y0→r=false:=λ_ _ _ _=>by rw [hr]; simp only [decide_eq_false_iff_not]; omega
 have HT:=Lib.hid (And.intro t3 (And.intro t2 (And.intro t1 (And.intro t0 te))))
 rw [fx,fy, ← hr]
 clear fx fy ex ey hx hy a0 a1 a2 a3 b0 b1 b2 b3 hr t3 t2 t1 t0 te
 go_enter Tryz.func119,Tryz.ntmps119
 go_wp2_with fail
 go_loopw [5] (λi wr=>Below w.heap.size w wr∧Blk wr w.heap.size 98 #[.int .u64 (x0:Int),.int .u64 (x1:Int),.int .u64 (x2:Int),.int .u64 (x3:Int)]∧Blk wr (w.heap.size+1) 98 #[.int .u64 (y0:Int),.int .u64 (y1:Int),.int .u64 (y2:Int),.int .u64 (y3:Int)]∧Hid ((i=.int .i64 3)∨(i=.int .i64 2∧x3=y3)∨(i=.int .i64 1∧x3=y3∧x2=y2)∨(i=.int .i64 0∧x3=y3∧x2=y2∧x1=y1)∨(i=.int .i64 (-1)∧x3=y3∧x2=y2∧x1=y1∧x0=y0))) (λi _=>(intOf i+1).toNat)
 case atStart=>exact ⟨below_alloc2 w _ _,(Blk.new w _ _).alloc _,blk_new2 w _ _ _,Lib.hid (.inl rfl)⟩
 case round =>
  obtain ⟨hb,BX,BY,HI⟩:=hrel
  have lX:=BX.lt
  have lY:=BY.lt
  have qx0:wr.cell? ⟨w.heap.size,0,none⟩=some (.int .u64 (x0:Int)):=BX.cell 0
  have qy0:wr.cell? ⟨w.heap.size+1,0,none⟩=some (.int .u64 (y0:Int)):=BY.cell 0
  have qx1:wr.cell? ⟨w.heap.size,1,none⟩=some (.int .u64 (x1:Int)):=BX.cell 1
  have qy1:wr.cell? ⟨w.heap.size+1,1,none⟩=some (.int .u64 (y1:Int)):=BY.cell 1
  have qx2:wr.cell? ⟨w.heap.size,2,none⟩=some (.int .u64 (x2:Int)):=BX.cell 2
  have qy2:wr.cell? ⟨w.heap.size+1,2,none⟩=some (.int .u64 (y2:Int)):=BY.cell 2
  have qx3:wr.cell? ⟨w.heap.size,3,none⟩=some (.int .u64 (x3:Int)):=BX.cell 3
  have qy3:wr.cell? ⟨w.heap.size+1,3,none⟩=some (.int .u64 (y3:Int)):=BY.cell 3
  rcases HI.out with rfl | ⟨rfl,E⟩ | ⟨rfl,E⟩ | ⟨rfl,E⟩ | ⟨rfl,E⟩
  ·have hk:Hid (True):=Lib.hid trivial
   clear HI
   obtain ⟨b,hbd⟩:∃ b,b=decide (x3≠y3):=⟨_,rfl⟩
   have hbb:(!((x3:Int) == (y3:Int)))=b:=by
    rw [hbd]
    by_cases h:x3=y3 <;> simp [h] <;> omega
   have HB:=Lib.hid hbd
   clear hbd
   go_wp2
   refine wp_region_G (λ_=>false) (by kernel_rfl) ?_
   try simp only [Act.put]
   refine tk 0 rfl ?_
   try simp only [Act.put,aA,aZ,aS]
   refine tk 1 rfl ?_
   try simp only [Act.put,aA,aZ,aS]
   refine tkw 2 rfl (YieldsG.pure (v:=.int .u64 (x3:Int)) (by rfl) (λw9 h9=>by have hz:=(Below.cell (p:=⟨w.heap.size,3,none⟩) h9 lX).trans qx3; go_simp; first | done | simp [hz])) ?_
   try simp only [Act.put,aA,aZ,aS]
   refine tk 3 rfl ?_
   try simp only [Act.put,aA,aZ,aS]
   refine tk 4 rfl ?_
   try simp only [Act.put,aA,aZ,aS]
   refine tkw 5 rfl (YieldsG.pure (v:=.int .u64 (y3:Int)) (by rfl) (λw9 h9=>by have hz:=(Below.cell (p:=⟨w.heap.size+1,3,none⟩) h9 lY).trans qy3; go_simp; first | done | simp [hz])) ?_
   try simp only [Act.put,aA,aZ,aS]
   refine tkw 6 rfl (YieldsG.pure (v:=.bool b) (by rfl) (λw9 h9=>by go_simp; congr 3; all_goals (rw [HB.out]; all_goals (by_cases h:x3=y3 <;> simp [h] <;> omega)))) ?_
   try simp only [Act.put,aA,aZ,aS]
   refine wpAnyG_done (by kernel_rfl) (λu hu=>?_)
   have hbu:=Below.gr hb hu
   have BXu:=Gr.blk hu BX
   have BYu:=Gr.blk hu BY
   cases b
   ·have hxy:x3=y3:=by
     have:=HB.out
     simpa using this
    have HXY:=Lib.hid hxy
    clear hxy
    go_wp2
    exact ⟨⟨hbu,BXu,BYu,Lib.hid (.inr (.inl ⟨rfl,HXY.out⟩))⟩,by decide⟩
   ·have hxy:x3≠y3:=by
     have:=HB.out
     simpa using this
    have hr2:=Lib.hid (HT.out.1 hxy)
    have lXu:=BXu.lt
    have lYu:=BYu.lt
    have px:u.cell? ⟨w.heap.size,3,none⟩=some (.int .u64 (x3:Int)):=BXu.cell 3
    have py:u.cell? ⟨w.heap.size+1,3,none⟩=some (.int .u64 (y3:Int)):=BYu.cell 3
    clear hxy hk HT
    go_wp2
    refine wp_region_G (λ_=>false) (by kernel_rfl) ?_
    try simp only [Act.put]
    refine tk 0 rfl ?_
    try simp only [Act.put,aA,aZ,aS]
    refine tk 1 rfl ?_
    try simp only [Act.put,aA,aZ,aS]
    refine tkw 2 rfl (YieldsG.pure (v:=.int .u64 (x3:Int)) (by rfl) (λw9 h9=>by have hz:=(Below.cell (p:=⟨w.heap.size,3,none⟩) h9 lXu).trans px; go_simp; first | done | simp [hz])) ?_
    try simp only [Act.put,aA,aZ,aS]
    refine tk 3 rfl ?_
    try simp only [Act.put,aA,aZ,aS]
    refine tk 4 rfl ?_
    try simp only [Act.put,aA,aZ,aS]
    refine tkw 5 rfl (YieldsG.pure (v:=.int .u64 (y3:Int)) (by rfl) (λw9 h9=>by have hz:=(Below.cell (p:=⟨w.heap.size+1,3,none⟩) h9 lYu).trans py; go_simp; first | done | simp [hz])) ?_
    try simp only [Act.put,aA,aZ,aS]
    refine tkw 6 rfl (YieldsG.pure (v:=.bool r) (by rfl) (λw9 h9=>by go_simp; congr 3; rw [hr2.out]; all_goals (apply decide_eq_decide.2; omega))) ?_
    try simp only [Act.put,aA,aZ,aS]
    refine tk 7 rfl ?_
    try simp only [Act.put,aA,aZ,aS]
    refine wpAnyG_done (by kernel_rfl) (λu2 hu2=>?_)
    go_wp2
    go_ret
    exact ⟨rfl,Below.gr hbu hu2⟩
  ·have hk:Hid (x3=y3):=Lib.hid E
   clear HI E
   obtain ⟨b,hbd⟩:∃ b,b=decide (x2≠y2):=⟨_,rfl⟩
   have hbb:(!((x2:Int) == (y2:Int)))=b:=by
    rw [hbd]
    by_cases h:x2=y2 <;> simp [h] <;> omega
   have HB:=Lib.hid hbd
   clear hbd
   go_wp2
   refine wp_region_G (λ_=>false) (by kernel_rfl) ?_
   try simp only [Act.put]
   refine tk 0 rfl ?_
   try simp only [Act.put,aA,aZ,aS]
   refine tk 1 rfl ?_
   try simp only [Act.put,aA,aZ,aS]
   refine tkw 2 rfl (YieldsG.pure (v:=.int .u64 (x2:Int)) (by rfl) (λw9 h9=>by have hz:=(Below.cell (p:=⟨w.heap.size,2,none⟩) h9 lX).trans qx2; go_simp; first | done | simp [hz])) ?_
   try simp only [Act.put,aA,aZ,aS]
   refine tk 3 rfl ?_
   try simp only [Act.put,aA,aZ,aS]
   refine tk 4 rfl ?_
   try simp only [Act.put,aA,aZ,aS]
   refine tkw 5 rfl (YieldsG.pure (v:=.int .u64 (y2:Int)) (by rfl) (λw9 h9=>by have hz:=(Below.cell (p:=⟨w.heap.size+1,2,none⟩) h9 lY).trans qy2; go_simp; first | done | simp [hz])) ?_
   try simp only [Act.put,aA,aZ,aS]
   refine tkw 6 rfl (YieldsG.pure (v:=.bool b) (by rfl) (λw9 h9=>by go_simp; congr 3; all_goals (rw [HB.out]; all_goals (by_cases h:x2=y2 <;> simp [h] <;> omega)))) ?_
   try simp only [Act.put,aA,aZ,aS]
   refine wpAnyG_done (by kernel_rfl) (λu hu=>?_)
   have hbu:=Below.gr hb hu
   have BXu:=Gr.blk hu BX
   have BYu:=Gr.blk hu BY
   cases b
   ·have hxy:x2=y2:=by
     have:=HB.out
     simpa using this
    have HXY:=Lib.hid hxy
    clear hxy
    go_wp2
    exact ⟨⟨hbu,BXu,BYu,Lib.hid (.inr (.inr (.inl ⟨rfl,hk.out,HXY.out⟩)))⟩,by decide⟩
   ·have hxy:x2≠y2:=by
     have:=HB.out
     simpa using this
    have hr2:=Lib.hid (HT.out.2.1 hk.out hxy)
    have lXu:=BXu.lt
    have lYu:=BYu.lt
    have px:u.cell? ⟨w.heap.size,2,none⟩=some (.int .u64 (x2:Int)):=BXu.cell 2
    have py:u.cell? ⟨w.heap.size+1,2,none⟩=some (.int .u64 (y2:Int)):=BYu.cell 2
    clear hxy hk HT
    go_wp2
    refine wp_region_G (λ_=>false) (by kernel_rfl) ?_
    try simp only [Act.put]
    refine tk 0 rfl ?_
    try simp only [Act.put,aA,aZ,aS]
    refine tk 1 rfl ?_
    try simp only [Act.put,aA,aZ,aS]
    refine tkw 2 rfl (YieldsG.pure (v:=.int .u64 (x2:Int)) (by rfl) (λw9 h9=>by have hz:=(Below.cell (p:=⟨w.heap.size,2,none⟩) h9 lXu).trans px; go_simp; first | done | simp [hz])) ?_
    try simp only [Act.put,aA,aZ,aS]
    refine tk 3 rfl ?_
    try simp only [Act.put,aA,aZ,aS]
    refine tk 4 rfl ?_
    try simp only [Act.put,aA,aZ,aS]
    refine tkw 5 rfl (YieldsG.pure (v:=.int .u64 (y2:Int)) (by rfl) (λw9 h9=>by have hz:=(Below.cell (p:=⟨w.heap.size+1,2,none⟩) h9 lYu).trans py; go_simp; first | done | simp [hz])) ?_
    try simp only [Act.put,aA,aZ,aS]
    refine tkw 6 rfl (YieldsG.pure (v:=.bool r) (by rfl) (λw9 h9=>by go_simp; congr 3; rw [hr2.out]; all_goals (apply decide_eq_decide.2; omega))) ?_
    try simp only [Act.put,aA,aZ,aS]
    refine tk 7 rfl ?_
    try simp only [Act.put,aA,aZ,aS]
    refine wpAnyG_done (by kernel_rfl) (λu2 hu2=>?_)
    go_wp2
    go_ret
    exact ⟨rfl,Below.gr hbu hu2⟩
  ·have hk:Hid (x3=y3∧x2=y2):=Lib.hid E
   clear HI E
   obtain ⟨b,hbd⟩:∃ b,b=decide (x1≠y1):=⟨_,rfl⟩
   have hbb:(!((x1:Int) == (y1:Int)))=b:=by
    rw [hbd]
    by_cases h:x1=y1 <;> simp [h] <;> omega
   have HB:=Lib.hid hbd
   clear hbd
   go_wp2
   refine wp_region_G (λ_=>false) (by kernel_rfl) ?_
   try simp only [Act.put]
   refine tk 0 rfl ?_
   try simp only [Act.put,aA,aZ,aS]
   refine tk 1 rfl ?_
   try simp only [Act.put,aA,aZ,aS]
   refine tkw 2 rfl (YieldsG.pure (v:=.int .u64 (x1:Int)) (by rfl) (λw9 h9=>by have hz:=(Below.cell (p:=⟨w.heap.size,1,none⟩) h9 lX).trans qx1; go_simp; first | done | simp [hz])) ?_
   try simp only [Act.put,aA,aZ,aS]
   refine tk 3 rfl ?_
   try simp only [Act.put,aA,aZ,aS]
   refine tk 4 rfl ?_
   try simp only [Act.put,aA,aZ,aS]
   refine tkw 5 rfl (YieldsG.pure (v:=.int .u64 (y1:Int)) (by rfl) (λw9 h9=>by have hz:=(Below.cell (p:=⟨w.heap.size+1,1,none⟩) h9 lY).trans qy1; go_simp; first | done | simp [hz])) ?_
   try simp only [Act.put,aA,aZ,aS]
   refine tkw 6 rfl (YieldsG.pure (v:=.bool b) (by rfl) (λw9 h9=>by go_simp; congr 3; all_goals (rw [HB.out]; all_goals (by_cases h:x1=y1 <;> simp [h] <;> omega)))) ?_
   try simp only [Act.put,aA,aZ,aS]
   refine wpAnyG_done (by kernel_rfl) (λu hu=>?_)
   have hbu:=Below.gr hb hu
   have BXu:=Gr.blk hu BX
   have BYu:=Gr.blk hu BY
   cases b
   ·have hxy:x1=y1:=by
     have:=HB.out
     simpa using this
    have HXY:=Lib.hid hxy
    clear hxy
    go_wp2
    exact ⟨⟨hbu,BXu,BYu,Lib.hid (.inr (.inr (.inr (.inl ⟨rfl,hk.out.1,hk.out.2,HXY.out⟩))))⟩,by decide⟩
   ·have hxy:x1≠y1:=by
     have:=HB.out
     simpa using this
    have hr2:=Lib.hid (HT.out.2.2.1 hk.out.1 hk.out.2 hxy)
    have lXu:=BXu.lt
    have lYu:=BYu.lt
    have px:u.cell? ⟨w.heap.size,1,none⟩=some (.int .u64 (x1:Int)):=BXu.cell 1
    have py:u.cell? ⟨w.heap.size+1,1,none⟩=some (.int .u64 (y1:Int)):=BYu.cell 1
    clear hxy hk HT
    go_wp2
    refine wp_region_G (λ_=>false) (by kernel_rfl) ?_
    try simp only [Act.put]
    refine tk 0 rfl ?_
    try simp only [Act.put,aA,aZ,aS]
    refine tk 1 rfl ?_
    try simp only [Act.put,aA,aZ,aS]
    refine tkw 2 rfl (YieldsG.pure (v:=.int .u64 (x1:Int)) (by rfl) (λw9 h9=>by have hz:=(Below.cell (p:=⟨w.heap.size,1,none⟩) h9 lXu).trans px; go_simp; first | done | simp [hz])) ?_
    try simp only [Act.put,aA,aZ,aS]
    refine tk 3 rfl ?_
    try simp only [Act.put,aA,aZ,aS]
    refine tk 4 rfl ?_
    try simp only [Act.put,aA,aZ,aS]
    refine tkw 5 rfl (YieldsG.pure (v:=.int .u64 (y1:Int)) (by rfl) (λw9 h9=>by have hz:=(Below.cell (p:=⟨w.heap.size+1,1,none⟩) h9 lYu).trans py; go_simp; first | done | simp [hz])) ?_
    try simp only [Act.put,aA,aZ,aS]
    refine tkw 6 rfl (YieldsG.pure (v:=.bool r) (by rfl) (λw9 h9=>by go_simp; congr 3; rw [hr2.out]; all_goals (apply decide_eq_decide.2; omega))) ?_
    try simp only [Act.put,aA,aZ,aS]
    refine tk 7 rfl ?_
    try simp only [Act.put,aA,aZ,aS]
    refine wpAnyG_done (by kernel_rfl) (λu2 hu2=>?_)
    go_wp2
    go_ret
    exact ⟨rfl,Below.gr hbu hu2⟩
  ·have hk:Hid (x3=y3∧x2=y2∧x1=y1):=Lib.hid E
   clear HI E
   obtain ⟨b,hbd⟩:∃ b,b=decide (x0≠y0):=⟨_,rfl⟩
   have hbb:(!((x0:Int) == (y0:Int)))=b:=by
    rw [hbd]
    by_cases h:x0=y0 <;> simp [h] <;> omega
   have HB:=Lib.hid hbd
   clear hbd
   go_wp2
   refine wp_region_G (λ_=>false) (by kernel_rfl) ?_
   try simp only [Act.put]
   refine tk 0 rfl ?_
   try simp only [Act.put,aA,aZ,aS]
   refine tk 1 rfl ?_
   try simp only [Act.put,aA,aZ,aS]
   refine tkw 2 rfl (YieldsG.pure (v:=.int .u64 (x0:Int)) (by rfl) (λw9 h9=>by have hz:=(Below.cell (p:=⟨w.heap.size,0,none⟩) h9 lX).trans qx0; go_simp; first | done | simp [hz])) ?_
   try simp only [Act.put,aA,aZ,aS]
   refine tk 3 rfl ?_
   try simp only [Act.put,aA,aZ,aS]
   refine tk 4 rfl ?_
   try simp only [Act.put,aA,aZ,aS]
   refine tkw 5 rfl (YieldsG.pure (v:=.int .u64 (y0:Int)) (by rfl) (λw9 h9=>by have hz:=(Below.cell (p:=⟨w.heap.size+1,0,none⟩) h9 lY).trans qy0; go_simp; first | done | simp [hz])) ?_
   try simp only [Act.put,aA,aZ,aS]
   refine tkw 6 rfl (YieldsG.pure (v:=.bool b) (by rfl) (λw9 h9=>by go_simp; congr 3; all_goals (rw [HB.out]; all_goals (by_cases h:x0=y0 <;> simp [h] <;> omega)))) ?_
   try simp only [Act.put,aA,aZ,aS]
   refine wpAnyG_done (by kernel_rfl) (λu hu=>?_)
   have hbu:=Below.gr hb hu
   have BXu:=Gr.blk hu BX
   have BYu:=Gr.blk hu BY
   cases b
   ·have hxy:x0=y0:=by
     have:=HB.out
     simpa using this
    have HXY:=Lib.hid hxy
    clear hxy
    go_wp2
    exact ⟨⟨hbu,BXu,BYu,Lib.hid (.inr (.inr (.inr (.inr ⟨rfl,hk.out.1,hk.out.2.1,hk.out.2.2,HXY.out⟩))))⟩,by decide⟩
   ·have hxy:x0≠y0:=by
     have:=HB.out
     simpa using this
    have hr2:=Lib.hid (HT.out.2.2.2.1 hk.out.1 hk.out.2.1 hk.out.2.2 hxy)
    have lXu:=BXu.lt
    have lYu:=BYu.lt
    have px:u.cell? ⟨w.heap.size,0,none⟩=some (.int .u64 (x0:Int)):=BXu.cell 0
    have py:u.cell? ⟨w.heap.size+1,0,none⟩=some (.int .u64 (y0:Int)):=BYu.cell 0
    clear hxy hk HT
    go_wp2
    refine wp_region_G (λ_=>false) (by kernel_rfl) ?_
    try simp only [Act.put]
    refine tk 0 rfl ?_
    try simp only [Act.put,aA,aZ,aS]
    refine tk 1 rfl ?_
    try simp only [Act.put,aA,aZ,aS]
    refine tkw 2 rfl (YieldsG.pure (v:=.int .u64 (x0:Int)) (by rfl) (λw9 h9=>by have hz:=(Below.cell (p:=⟨w.heap.size,0,none⟩) h9 lXu).trans px; go_simp; first | done | simp [hz])) ?_
    try simp only [Act.put,aA,aZ,aS]
    refine tk 3 rfl ?_
    try simp only [Act.put,aA,aZ,aS]
    refine tk 4 rfl ?_
    try simp only [Act.put,aA,aZ,aS]
    refine tkw 5 rfl (YieldsG.pure (v:=.int .u64 (y0:Int)) (by rfl) (λw9 h9=>by have hz:=(Below.cell (p:=⟨w.heap.size+1,0,none⟩) h9 lYu).trans py; go_simp; first | done | simp [hz])) ?_
    try simp only [Act.put,aA,aZ,aS]
    refine tkw 6 rfl (YieldsG.pure (v:=.bool r) (by rfl) (λw9 h9=>by go_simp; congr 3; rw [hr2.out]; all_goals (apply decide_eq_decide.2; omega))) ?_
    try simp only [Act.put,aA,aZ,aS]
    refine tk 7 rfl ?_
    try simp only [Act.put,aA,aZ,aS]
    refine wpAnyG_done (by kernel_rfl) (λu2 hu2=>?_)
    go_wp2
    go_ret
    exact ⟨rfl,Below.gr hbu hu2⟩
  ·have HR:Hid (r=false):=Lib.hid (HT.out.2.2.2.2 E.1 E.2.1 E.2.2.1 E.2.2.2)
   clear HI E
   go_wp2
   go_ret
   exact ⟨by rw [HR.out]; rfl,hb⟩
end
end
section
section
open Go.RowKit Go.Lib
set_option maxHeartbeats 8000000 in
set_option maxRecDepth 100000 in
theorem minusR_at {v1 v2:Value} (w:World) (x y s k:Nat) (h1:fv x=v1) (h2:fv y=v2) (hx:x<(2^256)) (hy:y<(2^256)) (hs:s<(2^256)) (he:s+y=x+(2^256)*k):Calls Tryz.prog 120 #[v1,v2] w λe w'=>e=.returned (fv s)∧Below w.heap.size w w':=by
 subst h1 h2
 obtain ⟨x0,x1,x2,x3,a0,a1,a2,a3,ex,fx⟩:=words_of x hx
 obtain ⟨y0,y1,y2,y3,b0,b1,b2,b3,ey,fy⟩:=words_of y hy
 obtain ⟨s0,c0,d0,k0,e0,r0⟩:=sub0_ex x0 y0 a0 b0
 obtain ⟨s1,c1,d1,k1,e1,r1⟩:=subc_ex x1 y1 c0 a1 b1 k0
 obtain ⟨s2,c2,d2,k2,e2,r2⟩:=subc_ex x2 y2 c1 a2 b2 k1
 obtain ⟨s3,c3,d3,k3,e3,r3⟩:=subc_ex x3 y3 c2 a3 b3 k2
 have fin:s0+18446744073709551616*s1+340282366920938463463374607431768211456*s2+6277101735386680763835789423207666416102355444464034512896*s3=s:=by omega
 have hfs:=fv_mk s0 s1 s2 s3 d0 d1 d2 d3
 rw [fin] at hfs
 have Fd:=Lib.hid hfs
 rw [fx,fy]
 clear fx fy ex ey hx hy hs he a0 a1 a2 a3 b0 b1 b2 b3 d0 d1 d2 d3 k0 k1 k2 k3 e0 e1 e2 e3 fin hfs
 go_enter Tryz.func120,Tryz.ntmps120
 go_wp2_with fail
 go_loopw [5,6] (λbo i wr=>Below w.heap.size w wr∧Blk wr (w.heap.size+1) 98 #[.int .u64 (y0:Int),.int .u64 (y1:Int),.int .u64 (y2:Int),.int .u64 (y3:Int)]∧Blk wr (w.heap.size+2) 98 #[.int .u64 0,.int .u64 0,.int .u64 0,.int .u64 0]∧Hid ((i=.int .i64 0∧bo=.int .u64 0∧Blk wr w.heap.size 98 #[.int .u64 (x0:Int),.int .u64 (x1:Int),.int .u64 (x2:Int),.int .u64 (x3:Int)])∨(i=.int .i64 1∧bo=.int .u64 (c0:Int)∧Blk wr w.heap.size 98 #[.int .u64 (s0:Int),.int .u64 (x1:Int),.int .u64 (x2:Int),.int .u64 (x3:Int)])∨(i=.int .i64 2∧bo=.int .u64 (c1:Int)∧Blk wr w.heap.size 98 #[.int .u64 (s0:Int),.int .u64 (s1:Int),.int .u64 (x2:Int),.int .u64 (x3:Int)])∨(i=.int .i64 3∧bo=.int .u64 (c2:Int)∧Blk wr w.heap.size 98 #[.int .u64 (s0:Int),.int .u64 (s1:Int),.int .u64 (s2:Int),.int .u64 (x3:Int)])∨(i=.int .i64 4∧bo=.int .u64 (c3:Int)∧Blk wr w.heap.size 98 #[.int .u64 (s0:Int),.int .u64 (s1:Int),.int .u64 (s2:Int),.int .u64 (s3:Int)]))) (λ_ i _=>4 - (intOf i).toNat)
 case atStart=>exact ⟨below_alloc3 w _ _ _,(blk_new2 w _ _ _).alloc _,blk_new3 w _ _ _ _,Lib.hid (.inl ⟨rfl,rfl,((Blk.new w _ _).alloc _).alloc _⟩)⟩
 case round =>
  obtain ⟨hb,BY,BR,HI⟩:=hrel
  have lY:=BY.lt
  have lX:w.heap.size<wr.heap.size:=by omega
  have hsz:w.heap.size+2<wr.heap.size:=BR.lt
  rcases HI.out with ⟨rfl,rfl,BX⟩ | ⟨rfl,rfl,BX⟩ | ⟨rfl,rfl,BX⟩ | ⟨rfl,rfl,BX⟩ | ⟨rfl,rfl,BX⟩
  ·clear HI
   have px:wr.cell? ⟨w.heap.size,0,none⟩=some (.int .u64 (x0:Int)):=BX.cell 0
   have py:wr.cell? ⟨w.heap.size+1,0,none⟩=some (.int .u64 (y0:Int)):=BY.cell 0
   go_wp2
   refine wp_region_G (λ_=>false) (by kernel_rfl) ?_
   try simp only [Act.put]
   refine tk 0 rfl ?_
   try simp only [Act.put,aA,aZ,aS]
   refine tk 1 rfl ?_
   try simp only [Act.put,aA,aZ,aS]
   refine tkw 2 rfl (YieldsG.pure (v:=.int .u64 (x0:Int)) (by rfl) (λw9 h9=>by have hz:=(Below.cell (p:=⟨w.heap.size,0,none⟩) h9 lX).trans px; go_simp; first | done | simp [hz])) ?_
   try simp only [Act.put,aA,aZ,aS]
   refine tk 3 rfl ?_
   try simp only [Act.put,aA,aZ,aS]
   refine tk 4 rfl ?_
   try simp only [Act.put,aA,aZ,aS]
   refine tkw 5 rfl (YieldsG.pure (v:=.int .u64 (y0:Int)) (by rfl) (λw9 h9=>by have hz:=(Below.cell (p:=⟨w.heap.size+1,0,none⟩) h9 lY).trans py; go_simp; first | done | simp [hz])) ?_
   try simp only [Act.put,aA,aZ,aS]
   refine tk 6 rfl ?_
   try simp only [Act.put,aA,aZ,aS]
   refine tkw 7 rfl (YieldsG.pure (v:=.tuple #[.int .u64 (s0:Int),.int .u64 (c0:Int)]) (by rfl) (λw9 h9=>by go_simp)) ?_
   try simp only [Act.put,aA,aZ,aS]
   refine tk 8 rfl ?_
   try simp only [Act.put,aA,aZ,aS]
   refine tk 9 rfl ?_
   try simp only [Act.put,aA,aZ,aS]
   refine tk 10 rfl ?_
   try simp only [Act.put,aA,aZ,aS]
   refine tk 11 rfl ?_
   try simp only [Act.put,aA,aZ,aS]
   refine tk 12 rfl ?_
   try simp only [Act.put,aA,aZ,aS]
   refine wpAnyG_done (by kernel_rfl) (λu hu=>?_)
   have BXu:=Gr.blk hu BX
   have BYu:=Gr.blk hu BY
   have BRu:=Gr.blk hu BR
   have hbu:=Below.gr hb hu
   have pc:u.cell? ⟨w.heap.size,0,none⟩=some (.int .u64 (x0:Int)):=BXu.cell 0
   have pf:=BXu.frozen 0
   go_wp2
   refine ⟨⟨hbu.setCell (Nat.le_refl _) _,BYu.far (by show w.heap.size+1≠w.heap.size; omega) _,BRu.far (by show w.heap.size+2≠w.heap.size; omega) _,Lib.hid (.inr (.inl (⟨rfl,rfl,BXu.set_ 0 _⟩)))⟩,by decide⟩
  ·clear HI
   have px:wr.cell? ⟨w.heap.size,1,none⟩=some (.int .u64 (x1:Int)):=BX.cell 1
   have py:wr.cell? ⟨w.heap.size+1,1,none⟩=some (.int .u64 (y1:Int)):=BY.cell 1
   go_wp2
   refine wp_region_G (λ_=>false) (by kernel_rfl) ?_
   try simp only [Act.put]
   refine tk 0 rfl ?_
   try simp only [Act.put,aA,aZ,aS]
   refine tk 1 rfl ?_
   try simp only [Act.put,aA,aZ,aS]
   refine tkw 2 rfl (YieldsG.pure (v:=.int .u64 (x1:Int)) (by rfl) (λw9 h9=>by have hz:=(Below.cell (p:=⟨w.heap.size,1,none⟩) h9 lX).trans px; go_simp; first | done | simp [hz])) ?_
   try simp only [Act.put,aA,aZ,aS]
   refine tk 3 rfl ?_
   try simp only [Act.put,aA,aZ,aS]
   refine tk 4 rfl ?_
   try simp only [Act.put,aA,aZ,aS]
   refine tkw 5 rfl (YieldsG.pure (v:=.int .u64 (y1:Int)) (by rfl) (λw9 h9=>by have hz:=(Below.cell (p:=⟨w.heap.size+1,1,none⟩) h9 lY).trans py; go_simp; first | done | simp [hz])) ?_
   try simp only [Act.put,aA,aZ,aS]
   refine tk 6 rfl ?_
   try simp only [Act.put,aA,aZ,aS]
   refine tkw 7 rfl (YieldsG.pure (v:=.tuple #[.int .u64 (s1:Int),.int .u64 (c1:Int)]) (by rfl) (λw9 h9=>by go_simp)) ?_
   try simp only [Act.put,aA,aZ,aS]
   refine tk 8 rfl ?_
   try simp only [Act.put,aA,aZ,aS]
   refine tk 9 rfl ?_
   try simp only [Act.put,aA,aZ,aS]
   refine tk 10 rfl ?_
   try simp only [Act.put,aA,aZ,aS]
   refine tk 11 rfl ?_
   try simp only [Act.put,aA,aZ,aS]
   refine tk 12 rfl ?_
   try simp only [Act.put,aA,aZ,aS]
   refine wpAnyG_done (by kernel_rfl) (λu hu=>?_)
   have BXu:=Gr.blk hu BX
   have BYu:=Gr.blk hu BY
   have BRu:=Gr.blk hu BR
   have hbu:=Below.gr hb hu
   have pc:u.cell? ⟨w.heap.size,1,none⟩=some (.int .u64 (x1:Int)):=BXu.cell 1
   have pf:=BXu.frozen 1
   go_wp2
   refine ⟨⟨hbu.setCell (Nat.le_refl _) _,BYu.far (by show w.heap.size+1≠w.heap.size; omega) _,BRu.far (by show w.heap.size+2≠w.heap.size; omega) _,Lib.hid (.inr (.inr (.inl (⟨rfl,rfl,BXu.set_ 1 _⟩))))⟩,by decide⟩
  ·clear HI
   have px:wr.cell? ⟨w.heap.size,2,none⟩=some (.int .u64 (x2:Int)):=BX.cell 2
   have py:wr.cell? ⟨w.heap.size+1,2,none⟩=some (.int .u64 (y2:Int)):=BY.cell 2
   go_wp2
   refine wp_region_G (λ_=>false) (by kernel_rfl) ?_
   try simp only [Act.put]
   refine tk 0 rfl ?_
   try simp only [Act.put,aA,aZ,aS]
   refine tk 1 rfl ?_
   try simp only [Act.put,aA,aZ,aS]
   refine tkw 2 rfl (YieldsG.pure (v:=.int .u64 (x2:Int)) (by rfl) (λw9 h9=>by have hz:=(Below.cell (p:=⟨w.heap.size,2,none⟩) h9 lX).trans px; go_simp; first | done | simp [hz])) ?_
   try simp only [Act.put,aA,aZ,aS]
   refine tk 3 rfl ?_
   try simp only [Act.put,aA,aZ,aS]
   refine tk 4 rfl ?_
   try simp only [Act.put,aA,aZ,aS]
   refine tkw 5 rfl (YieldsG.pure (v:=.int .u64 (y2:Int)) (by rfl) (λw9 h9=>by have hz:=(Below.cell (p:=⟨w.heap.size+1,2,none⟩) h9 lY).trans py; go_simp; first | done | simp [hz])) ?_
   try simp only [Act.put,aA,aZ,aS]
   refine tk 6 rfl ?_
   try simp only [Act.put,aA,aZ,aS]
   refine tkw 7 rfl (YieldsG.pure (v:=.tuple #[.int .u64 (s2:Int),.int .u64 (c2:Int)]) (by rfl) (λw9 h9=>by go_simp)) ?_
   try simp only [Act.put,aA,aZ,aS]
   refine tk 8 rfl ?_
   try simp only [Act.put,aA,aZ,aS]
   refine tk 9 rfl ?_
   try simp only [Act.put,aA,aZ,aS]
   refine tk 10 rfl ?_
   try simp only [Act.put,aA,aZ,aS]
   refine tk 11 rfl ?_
   try simp only [Act.put,aA,aZ,aS]
   refine tk 12 rfl ?_
   try simp only [Act.put,aA,aZ,aS]
   refine wpAnyG_done (by kernel_rfl) (λu hu=>?_)
   have BXu:=Gr.blk hu BX
   have BYu:=Gr.blk hu BY
   have BRu:=Gr.blk hu BR
   have hbu:=Below.gr hb hu
   have pc:u.cell? ⟨w.heap.size,2,none⟩=some (.int .u64 (x2:Int)):=BXu.cell 2
   have pf:=BXu.frozen 2
   go_wp2
   refine ⟨⟨hbu.setCell (Nat.le_refl _) _,BYu.far (by show w.heap.size+1≠w.heap.size; omega) _,BRu.far (by show w.heap.size+2≠w.heap.size; omega) _,Lib.hid (.inr (.inr (.inr (.inl (⟨rfl,rfl,BXu.set_ 2 _⟩)))))⟩,by decide⟩
  ·clear HI
   have px:wr.cell? ⟨w.heap.size,3,none⟩=some (.int .u64 (x3:Int)):=BX.cell 3
   have py:wr.cell? ⟨w.heap.size+1,3,none⟩=some (.int .u64 (y3:Int)):=BY.cell 3
   go_wp2
   refine wp_region_G (λ_=>false) (by kernel_rfl) ?_
   try simp only [Act.put]
   refine tk 0 rfl ?_
   try simp only [Act.put,aA,aZ,aS]
   refine tk 1 rfl ?_
   try simp only [Act.put,aA,aZ,aS]
   refine tkw 2 rfl (YieldsG.pure (v:=.int .u64 (x3:Int)) (by rfl) (λw9 h9=>by have hz:=(Below.cell (p:=⟨w.heap.size,3,none⟩) h9 lX).trans px; go_simp; first | done | simp [hz])) ?_
   try simp only [Act.put,aA,aZ,aS]
   refine tk 3 rfl ?_
   try simp only [Act.put,aA,aZ,aS]
   refine tk 4 rfl ?_
   try simp only [Act.put,aA,aZ,aS]
   refine tkw 5 rfl (YieldsG.pure (v:=.int .u64 (y3:Int)) (by rfl) (λw9 h9=>by have hz:=(Below.cell (p:=⟨w.heap.size+1,3,none⟩) h9 lY).trans py; go_simp; first | done | simp [hz])) ?_
   try simp only [Act.put,aA,aZ,aS]
   refine tk 6 rfl ?_
   try simp only [Act.put,aA,aZ,aS]
   refine tkw 7 rfl (YieldsG.pure (v:=.tuple #[.int .u64 (s3:Int),.int .u64 (c3:Int)]) (by rfl) (λw9 h9=>by go_simp)) ?_
   try simp only [Act.put,aA,aZ,aS]
   refine tk 8 rfl ?_
   try simp only [Act.put,aA,aZ,aS]
   refine tk 9 rfl ?_
   try simp only [Act.put,aA,aZ,aS]
   refine tk 10 rfl ?_
   try simp only [Act.put,aA,aZ,aS]
   refine tk 11 rfl ?_
   try simp only [Act.put,aA,aZ,aS]
   refine tk 12 rfl ?_
   try simp only [Act.put,aA,aZ,aS]
   refine wpAnyG_done (by kernel_rfl) (λu hu=>?_)
   have BXu:=Gr.blk hu BX
   have BYu:=Gr.blk hu BY
   have BRu:=Gr.blk hu BR
   have hbu:=Below.gr hb hu
   have pc:u.cell? ⟨w.heap.size,3,none⟩=some (.int .u64 (x3:Int)):=BXu.cell 3
   have pf:=BXu.frozen 3
   go_wp2
   refine ⟨⟨hbu.setCell (Nat.le_refl _) _,BYu.far (by show w.heap.size+1≠w.heap.size; omega) _,BRu.far (by show w.heap.size+2≠w.heap.size; omega) _,Lib.hid (.inr (.inr (.inr (.inr (⟨rfl,rfl,BXu.set_ 3 _⟩)))))⟩,by decide⟩
  ·clear HI
   have BS:=BX.eq_ (fcs_words Fd.out.symm).symm
   go_wp2_with (first | ((with_reducible refine here_load (d:=some 28) ?_); refine wpList_load_fv rfl _ _ rfl (w.heap.size) rfl (s) _ _ _ (BS) (fv_fcs s) Tryz.underlying98 rfl (by kernel_rfl) ?_) | ((with_reducible refine here_store ?_); refine wpList_store_blk rfl _ _ _ rfl (w.heap.size+2) (fcs (s)) rfl rfl _ _ (BR) (by kernel_rfl) (by rfl) (fcs_one _) ?_; intro w9 hL9 hB9 hK9))
   exact bodyPost_ret (results_cell_row rfl _ _ (w.heap.size+2) _ _ (0,0) _ rfl hL9 Tryz.underlying98 rfl (by kernel_rfl)) rfl ⟨rfl,hb.trans (hB9 _ (by omega))⟩
theorem mod_range {w:World} {g:Nat} {t:TypeId} {a b c d:Value} {r:List Value} (h:Blk w g t (a::b::c::d::r).toArray):w.rangeAt g 0 [a,b,c,d]:=λj v hj=>by
 rw [Nat.zero_add,h.cell]
 match j,hj with
 | 0,hj=>simpa using hj
 | 1,hj=>simpa using hj
 | 2,hj=>simpa using hj
 | 3,hj=>simpa using hj
 | j+4,hj=>simp at hj
theorem wpList_load_part {P:Program} {ops:Array Oper} {rest:List Oper} {o:Oper} {a:Act} {w:World} {Q:Exit→Act→World→Prop} (hgd:o.guard=none) (ty:TypeId) (x:Operand) (ho:o.op=.load ty x)
  (g:Nat) (hx:a.eval x=.pointer (some ⟨g,0,none⟩)) (n:Nat) (cs:List Value) (d:TypeDesc) (hr:w.rangeAt g 0 cs) (hf:fv n=.agg cs.toArray)
  (hu:P.underlying ty=some d) (hd:d.isRow=true) (hi:(P.info? ty).map (·.size)=some cs.length)
  (h:wpList P ops Q rest (a.put o.dst (fv n)) w):wpList P ops Q (o::rest) a w :=
 wpList_plain hgd λK hK=>by
  have hl:=run_loadVar_mid (P:=P) w g 0 ty cs d hr hu hd hi
  unfold Oper.wp execOp
  simp only [ho,hx,Instr.loadAt,Instr.sureAddr,Sem.run_bind,Sem.run_pure,Result.andThen_ok,hl]
  rw [← hf]
  exact hK _ _ h
set_option maxHeartbeats 2000000 in
set_option maxRecDepth 100000 in
theorem normR_any (w:World) (x:Nat) (hx:x<(2^256)):Calls Tryz.prog 59 #[modV,fv x] w λe w'=>e=.returned (fv (x%pM))∧Below w.heap.size w w':=by
 obtain ⟨z,hz⟩:∃ z,z=x%pM:=⟨_,rfl⟩
 obtain ⟨p,hp⟩:∃ p,p=115792089237316195423570985008687907853269984665640564039457584007908834671663:=⟨_,rfl⟩
 have hpl:p<(2^256):=by omega
 obtain ⟨b,hb⟩:∃ b,b=decide (x<p):=⟨_,rfl⟩
 have cb:∀ w,Calls Tryz.prog 119 #[fv x,fv p] w λe w'=>e=.returned (.bool b)∧Below w.heap.size w w':=by
  intro w; rw [hb]; exact below_at w x p rfl rfl hx hpl
 have t1:b=true→z=x:=λh=>by
  rw [hb] at h
  rw [hz]
  exact Nat.mod_eq_of_lt (by rw [pM_eq, ← hp]; simpa using h)
 have cm:b=false→∀ w,Calls Tryz.prog 120 #[fv x,fv p] w λe w'=>e=.returned (fv z)∧Below w.heap.size w w':=λh w=>by
  rw [hb] at h
  have hle:¬ x<p:=by simpa using h
  have hzx:z+p=x:=by rw [hz,red_once x hx,if_neg (by omega)]; omega
  exact minusR_at w x p z 0 rfl rfl hx hpl (by omega) (by omega)
 have hpc:fv p=.agg #[.int .u64 18446744069414583343,.int .u64 18446744073709551615,.int .u64 18446744073709551615,.int .u64 18446744073709551615]:=by rw [hp]; exact fv_P
 obtain ⟨x0,x1,x2,x3,fx⟩:=words_fv x hx
 have FX:=Lib.hid fx
 have FP:=Lib.hid hpc
 rw [fx, ← hz]
 unfold modV
 clear fx hpc hx hz hp hpl hb
 go_enter Tryz.func59,Tryz.ntmps59
 go_wp2_with (first | ((with_reducible refine here_load (d:=some 6) ?_); refine wpList_load_fv rfl _ _ rfl (w.heap.size+1) rfl (x) _ _ _ ((blk_new2 w _ _ _).alloc _) (FX.out) Tryz.underlying98 rfl (by kernel_rfl) ?_) | ((with_reducible refine here_load (d:=some 8) ?_); refine wpList_load_part rfl _ _ rfl w.heap.size rfl p [.int .u64 18446744069414583343,.int .u64 18446744073709551615,.int .u64 18446744073709551615,.int .u64 18446744073709551615] _ (mod_range (((Blk.new w _ _).alloc _).alloc _)) FP.out Tryz.underlying98 rfl (by kernel_rfl) ?_))
 refine (cb _).mono ?_
 rintro e w1 ⟨rfl,k1⟩
 have BM:Blk w1 w.heap.size 102 _:=Gr.blk k1 (((Blk.new w _ _).alloc _).alloc _)
 have BX:Blk w1 (w.heap.size+1) 98 _:=Gr.blk k1 ((blk_new2 w _ _ _).alloc _)
 have BR:Blk w1 (w.heap.size+2) 98 _:=Gr.blk k1 (blk_new3 w _ _ _ _)
 have hB:=Below.gr (below_alloc3 w _ _ _) k1
 clear k1 cb
 cases b
 ·have cmm:=cm rfl
  clear cm t1
  go_wp2_with (first | ((with_reducible refine here_load (d:=some 12) ?_); refine wpList_load_fv rfl _ _ rfl (w.heap.size+1) rfl (x) _ _ _ (BX) (FX.out) Tryz.underlying98 rfl (by kernel_rfl) ?_) | ((with_reducible refine here_load (d:=some 14) ?_); refine wpList_load_part rfl _ _ rfl w.heap.size rfl p [.int .u64 18446744069414583343,.int .u64 18446744073709551615,.int .u64 18446744073709551615,.int .u64 18446744073709551615] _ (mod_range (BM)) FP.out Tryz.underlying98 rfl (by kernel_rfl) ?_))
  refine (cmm _).mono ?_
  rintro e w2 ⟨rfl,k2⟩
  have BR2:=Gr.blk k2 BR
  have hB2:=Below.gr hB k2
  clear k2 cmm
  go_wp2_with (first | ((with_reducible refine here_store ?_); refine wpList_store_blk rfl _ _ _ rfl (w.heap.size+2) (fcs (z)) rfl rfl _ _ (BR2) (by kernel_rfl) (by rfl) (fcs_one _) ?_; intro w9 hL9 hB9 hK9))
  exact bodyPost_ret (results_cell_row rfl _ _ (w.heap.size+2) _ _ (0,0) _ rfl hL9 Tryz.underlying98 rfl (by kernel_rfl)) rfl ⟨rfl,hB2.trans (hB9 _ (by omega))⟩
 ·have HZX:=Lib.hid (t1 rfl)
  clear t1 cm
  go_wp2_with (first | ((with_reducible refine here_load (d:=some 11) ?_); refine wpList_load_fv rfl _ _ rfl (w.heap.size+1) rfl (x) _ _ _ (BX) (FX.out) Tryz.underlying98 rfl (by kernel_rfl) ?_) | ((with_reducible refine here_store ?_); refine wpList_store_blk rfl _ _ _ rfl (w.heap.size+2) (fcs (x)) rfl rfl _ _ (BR) (by kernel_rfl) (by rfl) (fcs_one _) ?_; intro w9 hL9 hB9 hK9))
  exact bodyPost_ret (results_cell_row rfl _ _ (w.heap.size+2) _ _ (0,0) _ rfl hL9 Tryz.underlying98 rfl (by kernel_rfl)) rfl ⟨by rw [HZX.out]; rfl,hB.trans (hB9 _ (by omega))⟩
end
end
section
namespace Sy
open Go.RowKit
section
variable {P:Program} {w0:Base} {n:Nat} {Q:Exit→Act→World→Prop} {F:Slots} {L:Blocks} {ops:Array Oper} {o:Oper} {l:List Oper} {ex:Nat→Bool} {fuel:Nat} {listed:Array Bool}
def WritesV (P:Program) (w0:Base) (F:Slots) (L:Blocks) (o:Oper) (g:Nat) (t:TypeId) (cs':Array Value) (v:Value):Prop :=
 ∀ w,St w0 w L→∃ w',(execOp (evF F) o).run P w=.ok (.value v) w'∧w.grownBy w' (some g)∧Blk w' g t cs'
theorem writeVD (k:Nat) {oi:Oper} (hi0:ops.toList[k]? = some oi) (hr:Region.ready .any ops listed=[k]) (hex:ex k=true) (hg:good ops n F oi=true) (i g:Nat) (t:TypeId) (cs cs':Array Value) (v:Value) (hL:L[i]? = some (g,t,cs)) (hm:WritesV P w0 F L oi g t cs' v)
  (h:wpD P w0 n ops Q ex (putF F oi.dst v) (L.set i (g,t,cs')) fuel (listed.setIfInBounds k true)):wpD P w0 n ops Q ex F L (fuel+1) listed:=λa w ha hw =>
 wpAnyG_sole k hi0 hr (ha.wanted (good_spec hg).1) λw1 h1 K hK=>by
  obtain ⟨w',e1,e2,e3⟩:=hm w1 (hw.gr h1)
  unfold Oper.wp
  rw [good_exec hg ha,e1]
  exact hK _ _ (λe=>by rw [hex] at e; cases e) (h _ _ (ha.put (good_spec hg).2.2.1 _) ((hw.gr h1).set hL e2 e3))
theorem WritesV.copy (d s:Operand) (dT sT e:TypeId) (ho:o.op=.call { callee:=.builtin .copy,args:=#[d,s],argTypes:=#[dT,sT] }) (hu:P.underlying dT=some (.slice e)) (hsz:(P.info? e).map (·.size)=some 1)
  (i g f dl dc:Nat) (t:TypeId) (cs cs':Array Value) (hL:L[i]? = some (g,t,cs)) (hd:evF F d=.slice (some ⟨g,f,none⟩) dl dc)
  (j gx fx sl sc:Nat) (tx:TypeId) (cx:Array Value) (hLx:L[j]? = some (gx,tx,cx)) (hs:evF F s=.slice (some ⟨gx,fx,none⟩) sl sc)
  (news:List Value) (hnews:(cx.toList.drop fx).take (Nat.min sl dl)=news) (hn:news.length=Nat.min sl dl) (h1:∀ u∈news,u.oneCell'=true) (hfit:f+news.length≤cs.size) (hcs:setAll cs f news=cs'):WritesV P w0 F L o g t cs' (goInt news.length):=λw hw=>by
 have hb:=hw.get hL
 have hbx:=hw.get hLx
 have hth:=hb.there f news.length hfit
 have hr:=run_copy_cells (P:=P) w dT sT o.type e g f dl dc ⟨gx,fx,none⟩ sl sc news hu hsz hn (λq u hq=>by
  rw [addr_off,hbx.cell]
  rw [← hnews] at hq
  have hlt:q<Nat.min sl dl:=by
   have h:=(List.getElem?_eq_some_iff.1 hq).1
   rw [List.length_take] at h
   exact Nat.lt_of_lt_of_le h (Nat.min_le_left _ _)
  rw [List.getElem?_take_of_lt hlt,List.getElem?_drop] at hq
  simpa using hq) (λq hq=>(hth q hq).1) (λq hq=>(hth q hq).2) h1
 refine ⟨_,?_,only_setCells news f w (World.grownBy.refl w (some g)),hcs ▸ Blk.setCells news f w cs hb⟩
 unfold execOp
 simp only [ho,resolve,invoke,builtin,Sem.run_bind,Sem.run_pure,Result.andThen_ok,List.map_toArray,List.map_cons,List.map_nil,hs,hd,hr]
theorem all_one (l:List Value) (h:l.all (·.oneCell')=true):∀ u∈l,u.oneCell'=true:=λu hu=>List.all_eq_true.1 h u hu
end
end Sy
end
end Go.Proofs.YtlooclodlpcglaaGreatDoor
