/-
  Texts of ours.
-/
import Derived.Test.YtgemfpnlnipfnabGreatDoorBV1
set_option linter.unusedVariables false
set_option linter.unusedSimpArgs false
set_option maxRecDepth 100000
set_option maxHeartbeats 40000000
namespace Go.Proofs.YtgemfpnlnipfnabGreatDoor
section
section
open Go.RowKit Go.Lib
def sqI (x:Nat):Nat→Nat
 | 0=>x
 | n+1=>mulP (sqI x n) (sqI x n)
theorem S1 (x n:Nat) (hx:x<(2^256)):sqI x n<(2^256):=by
 cases n with
 | zero=>exact hx
 | succ n=>exact HJ _ _
theorem Tq (x y:Nat):mulP x y%pM=x*y%pM:=by unfold mulP; rw [Nat.mod_mod]
theorem QU {a x y i j:Nat} (hx:x%pM=a ^ i%pM) (hy:y%pM=a ^ j%pM):mulP x y%pM=a ^ (i+j)%pM:=by
 rw [Tq,Nat.mul_mod,hx,hy, ← Nat.mul_mod, ← Nat.pow_add]
theorem Iv {a x i:Nat} (hx:x%pM=a ^ i%pM):∀ n,sqI x n%pM=a ^ (i*2 ^ n)%pM
 | 0=>by rw [Nat.pow_zero,Nat.mul_one]; exact hx
 | n+1=>by
  rw [sqI,QU (Iv hx n) (Iv hx n),Nat.pow_succ]
  congr 2
  rw [← Nat.mul_assoc,Nat.mul_two]
def jn (x d y:Nat):Nat:=mulP (sqI x d) y
theorem Dn (x d y:Nat):jn x d y<(2^256):=HJ _ _
theorem Cn {a x y i j d:Nat} (hx:x%pM=a ^ i%pM) (hy:y%pM=a ^ j%pM):jn x d y%pM=a ^ (i*2 ^ d+j)%pM:=QU (Iv hx d) hy
theorem JR (w:World) (x d:Nat) (hx:x<(2^256)) (hd:d≤1000):Calls Tryz.prog 241 #[fv x,.int .i64 (d:Int)] w λe w'=>e=.returned (fv (sqI x d))∧Below w.heap.size w w':=by
 obtain ⟨x0,x1,x2,x3,fx⟩:=Ae x hx
 have FX:=Lib.hid fx
 have HX:=Lib.hid hx
 have HD:=Lib.hid hd
 have hd':(d:Int)≤1000:=om
 rw [fx]
 clear fx hx hd
 go_enter Tryz.func241,Tryz.ntmps241
 go_wp2_with fail
 go_loopw [6] (λi wr=>∃ k v:Nat,k≤d∧i=.int .i64 (k:Int)∧Hid (v=sqI x k)∧Below w.heap.size w wr∧Blk wr w.heap.size 35 (fcs v)∧Blk wr (w.heap.size+1) 35 #[.int .u64 0,.int .u64 0,.int .u64 0,.int .u64 0]) (λi _=>d - (intOf i).toNat)
 case atStart=>exact ⟨0,x,Nat.zero_le _,rfl,Lib.hid U,Ad w _ _,Blk.eq_ ((Blk.new w _ _).alloc _) (Bc FX.out).symm,AZ w _ _ _⟩
 case round =>
  obtain ⟨k,v,hk,rfl,HV,hb,hB,hR⟩:=hrel
  have HL:Hid (v<(2^256)):=Lib.hid (by rw [HV.out]; exact S1 x k HX.out)
  by_cases hlt:k<d
  ·have p1:(k:Int)<(d:Int):=om
   go_wp2_with (first | ((with_reducible refine AD (d:=some 8) ?_); refine AB U _ _ U w.heap.size rfl v _ _ _ hB (AU v) AN U kZ ?_) | ((with_reducible refine AD (d:=some 9) ?_); refine AB U _ _ U w.heap.size rfl v _ _ _ hB (AU v) AN U kZ ?_))
   refine (mulF_any _ v v HL.out HL.out).mono ?_
   rintro e w1 ⟨rfl,hb1⟩
   obtain ⟨z,hz⟩:=xE (mulP v v)
   have HZ:=Lib.hid hz
   rw [← hz]
   clear hz
   have hB1:=Gr.blk hb1 hB
   have hR1:=Gr.blk hb1 hR
   have hbb:=Below.gr hb hb1
   clear hb hb1 hB hR
   go_wp2_with ((with_reducible refine AE ?_); refine AA U _ _ _ U w.heap.size (fcs z) U U _ _ hB1 kZ (by rfl) (AG _) ?_; intro w2 hL2 hB2 hK2; have hR2:=hK2 _ om _ _ hR1)
   go_roundw
   case rel=>exact ⟨k+1,z,by omega,by simp <;> rfl,Lib.hid (by rw [HZ.out,HV.out]; rfl),hbb.trans (hB2 _ om),hL2,hR2⟩
   case measure=>simp [intOf]; omega
  ·have p1:¬ (k:Int)<(d:Int):=om
   obtain rfl:k=d:=om
   go_wp2_with (first | ((with_reducible refine AD (d:=some 12) ?_); refine AB U _ _ U w.heap.size rfl v _ _ _ hB (AU v) AN U kZ ?_) | ((with_reducible refine AE ?_); refine AA U _ _ _ U (w.heap.size+1) (fcs v) U U _ _ hR kZ (by rfl) (AG _) ?_; intro w2 hL2 hB2 hK2))
   exact bodyPost_ret (results_cell_row U _ _ (w.heap.size+1) _ _ (0,0) _ U hL2 AN U kZ) rfl ⟨by rw [HV.out]; rfl,hb.trans (hB2 _ om)⟩
end
end
section
section
open Go.RowKit Go.Lib
theorem Im {P:Program} {fn:Func} {p q r:Tmp} {ty:TypeId} (h:fn.results=#[.cell p ty,.cell q ty,.cell r ty]) (tmps:Array Value) (w:World) (g g2 g3:Nat) (t t2 t3:TypeId) (cs cs2 cs3:Array Value) (d:TypeDesc)
  (hp:tmps.getD p undef=pT g 0) (hg:Blk w g t cs) (hq:tmps.getD q undef=pT g2 0) (hg2:Blk w g2 t2 cs2) (hr:tmps.getD r undef=pT g3 0) (hg3:Blk w g3 t3 cs3)
  (hu:P.underlying ty=some d) (hd:(match d with | .struct _ | .array _ _=>true | _=>false)=true) (hi:(P.info? ty).map (·.size)=some cs.size) (hi2:(P.info? ty).map (·.size)=some cs2.size) (hi3:(P.info? ty).map (·.size)=some cs3.size) :
  (results fn tmps).run P w=.ok (.tuple #[.agg cs,.agg cs2,.agg cs3]) w:=by
 have hp':tmps[p]?.getD undef=pT g 0:=by simpa using hp
 have hq':tmps[q]?.getD undef=pT g2 0:=by simpa using hq
 have hr':tmps[r]?.getD undef=pT g3 0:=by simpa using hr
 simp [results,h,hp',hq',hr',asAddr,run_loadVar_row w g t ty cs (0,0) d hg hu hd hi,run_loadVar_row w g2 t2 ty cs2 (0,0) d hg2 hu hd hi2,run_loadVar_row w g3 t3 ty cs3 (0,0) d hg3 hu hd hi3,Result.andThen]
theorem T6 (w:World) (x d y:Nat) (hx:x<(2^256)) (hy:y<(2^256)) (hd:d≤1000):Calls Tryz.prog 228 #[fv x,.int .i64 (d:Int),fv y] w λe w'=>e=.returned (fv (jn x d y))∧Below w.heap.size w w':=by
 obtain ⟨s,hs⟩:=xE (sqI x d)
 obtain ⟨z,hz⟩:=xE (mulP s y)
 have hsl:s<(2^256):=by rw [hs]; exact S1 x d hx
 have HZ:=Lib.hid (And.intro hs (And.intro hz (And.intro hsl (And.intro hx (And.intro hy hd)))))
 rw [show jn x d y=z by rw [hz,hs]; rfl]
 obtain ⟨x0,x1,x2,x3,fx⟩:=Ae x hx
 obtain ⟨y0,y1,y2,y3,fy⟩:=Ae y hy
 have FX:=Lib.hid fx
 have FY:=Lib.hid fy
 rw [fx,fy]
 clear fx fy hx hy hs hz hsl hd
 go_enter Tryz.func228,Tryz.ntmps228
 go_wp2
 refine AJ (λj=>j == 5) kZ ?_
 try simp only [Act.put]
 refine tkw 0 U (YieldsG.loadF (by rfl) _ _ U w.heap.size rfl x _ _ (((Blk.new w _ _).alloc _).alloc _) FX.out AN U kZ) ?_
 try simp only [aPS]
 refine tk 1 U ?_
 try simp only [aPS]
 refine tkw 2 U (YieldsG.call (v:=fv s) (by rfl) 241 _ (λw9=>by go_simp; try rfl) (λw9 h9=>HZ.out.1 ▸ JR w9 x d HZ.out.2.2.2.1 HZ.out.2.2.2.2.2)) ?_
 try simp only [aPS]
 refine tkw 3 U (YieldsG.loadF (by rfl) _ _ U (w.heap.size+1) rfl y _ _ ((AZ w _ _ _).alloc _) FY.out AN U kZ) ?_
 try simp only [aPS]
 refine tkw 4 U (YieldsG.call (v:=fv z) (by rfl) 150 _ (λw9=>by go_simp; try rfl) (λw9 h9=>HZ.out.2.1 ▸ mulF_any w9 s y HZ.out.2.2.1 HZ.out.2.2.2.2.1)) ?_
 try simp only [aPS]
 refine BU 5 U kZ (by rfl) _ _ _ U (w.heap.size+2) (fcs z) U U _ _ (Ax w _ _ _ _) kZ (by rfl) (AG _) rfl (λw6 h6 w7 hB7 hL7=>?_)
 try simp only [Act.put]
 refine AH kZ (λw8 h8=>?_)
 have hfin:=Gr.blk h8 hL7
 have hb9:=(Below.gr (Ac w _ _ _) h6).trans ((hB7 _ om).trans (Below.mono h8 (by have:=hL7.lt; omega)))
 go_wp2
 exact bodyPost_ret (results_cell_row U _ _ (w.heap.size+2) _ _ (0,0) _ U hfin AN U kZ) rfl ⟨rfl,hb9⟩
theorem CA (w:World) (x d y z:Nat) (di:Int) (hdi:di=(d:Int)) (hz:z=jn x d y) (hx:x<(2^256)) (hy:y<(2^256)) (hd:d≤1000):Calls Tryz.prog 228 #[fv x,.int .i64 di,fv y] w λe w'=>e=.returned (fv z)∧Below w.heap.size w w':=by
 subst hdi hz
 exact T6 w x d y hx hy hd
theorem Fs (x:Nat):x%pM=x ^ 1%pM:=by rw [Nat.pow_one]
def Jj (x:Nat):Nat:=jn x 1 x
theorem Lz (x:Nat):Jj x<(2^256):=Dn _ _ _
def SE:Nat:=1*2 ^ 1+1
theorem G6 (x:Nat):Jj x%pM=x ^ SE%pM:=by
 unfold Jj SE
 exact Cn (Fs x) (Fs x)
def Fq (x:Nat):Nat:=jn (Jj x) 1 x
theorem RU (x:Nat):Fq x<(2^256):=Dn _ _ _
def IJ:Nat:=SE*2 ^ 1+1
theorem E5 (x:Nat):Fq x%pM=x ^ IJ%pM:=by
 unfold Fq IJ
 exact Cn (G6 x) (Fs x)
def TR (x:Nat):Nat:=jn (Fq x) 3 (Fq x)
theorem Vm (x:Nat):TR x<(2^256):=Dn _ _ _
def Yt:Nat:=IJ*2 ^ 3+IJ
theorem TQ (x:Nat):TR x%pM=x ^ Yt%pM:=by
 unfold TR Yt
 exact Cn (E5 x) (E5 x)
def NG (x:Nat):Nat:=jn (TR x) 3 (Fq x)
theorem TT (x:Nat):NG x<(2^256):=Dn _ _ _
def US:Nat:=Yt*2 ^ 3+IJ
theorem RV (x:Nat):NG x%pM=x ^ US%pM:=by
 unfold NG US
 exact Cn (TQ x) (E5 x)
def GI (x:Nat):Nat:=jn (NG x) 2 (Jj x)
theorem Ol (x:Nat):GI x<(2^256):=Dn _ _ _
def I6:Nat:=US*2 ^ 2+SE
theorem Ia (x:Nat):GI x%pM=x ^ I6%pM:=by
 unfold GI I6
 exact Cn (RV x) (G6 x)
def GV (x:Nat):Nat:=jn (GI x) 11 (GI x)
theorem Jk (x:Nat):GV x<(2^256):=Dn _ _ _
def LN:Nat:=I6*2 ^ 11+I6
theorem GH (x:Nat):GV x%pM=x ^ LN%pM:=by
 unfold GV LN
 exact Cn (Ia x) (Ia x)
def Om (x:Nat):Nat:=jn (GV x) 22 (GV x)
theorem Vp (x:Nat):Om x<(2^256):=Dn _ _ _
def UT:Nat:=LN*2 ^ 22+LN
theorem Jm (x:Nat):Om x%pM=x ^ UT%pM:=by
 unfold Om UT
 exact Cn (GH x) (GH x)
def rM1 (x:Nat):Nat:=jn (Om x) 44 (Om x)
theorem YL (x:Nat):rM1 x<(2^256):=Dn _ _ _
def eM1:Nat:=UT*2 ^ 44+UT
theorem QK (x:Nat):rM1 x%pM=x ^ eM1%pM:=by
 unfold rM1 eM1
 exact Cn (Jm x) (Jm x)
def rM2 (x:Nat):Nat:=jn (rM1 x) 88 (rM1 x)
theorem YK (x:Nat):rM2 x<(2^256):=Dn _ _ _
def eM2:Nat:=eM1*2 ^ 88+eM1
theorem Vo (x:Nat):rM2 x%pM=x ^ eM2%pM:=by
 unfold rM2 eM2
 exact Cn (QK x) (QK x)
def rM3 (x:Nat):Nat:=jn (rM2 x) 44 (Om x)
theorem YJ (x:Nat):rM3 x<(2^256):=Dn _ _ _
def eM3:Nat:=eM2*2 ^ 44+UT
theorem Vn (x:Nat):rM3 x%pM=x ^ eM3%pM:=by
 unfold rM3 eM3
 exact Cn (Vo x) (Jm x)
def IZ (x:Nat):Nat:=jn (rM3 x) 3 (Fq x)
theorem Jl (x:Nat):IZ x<(2^256):=Dn _ _ _
def Qg:Nat:=eM3*2 ^ 3+IJ
theorem Kz (x:Nat):IZ x%pM=x ^ Qg%pM:=by
 unfold IZ Qg
 exact Cn (Vn x) (E5 x)
theorem NA (w:World) (x:Nat) (hx:x<(2^256)):Calls Tryz.prog 227 #[fv x] w λe w'=>e=.returned (.tuple #[fv (Jj x),fv (GV x),fv (IZ x)])∧Below w.heap.size w w':=by
 obtain ⟨ztwo,hztwo⟩:=xE (Jj x)
 obtain ⟨zthree,hzthree⟩:=xE (Fq x)
 obtain ⟨zsix,hzsix⟩:=xE (TR x)
 obtain ⟨znine,hznine⟩:=xE (NG x)
 obtain ⟨zeleven,hzeleven⟩:=xE (GI x)
 obtain ⟨zsome,hzsome⟩:=xE (GV x)
 obtain ⟨zdbl,hzdbl⟩:=xE (Om x)
 obtain ⟨zm1,hzm1⟩:=xE (rM1 x)
 obtain ⟨zm2,hzm2⟩:=xE (rM2 x)
 obtain ⟨zm3,hzm3⟩:=xE (rM3 x)
 obtain ⟨zmost,hzmost⟩:=xE (IZ x)
 rw [← hztwo, ← hzsome, ← hzmost]
 have HX:=Lib.hid hx
 have HZtwo:Hid (ztwo=jn x 1 x∧ztwo<(2^256)):=Lib.hid ⟨by rw [hztwo]; rfl,by rw [hztwo]; exact Lz x⟩
 have HZthree:Hid (zthree=jn ztwo 1 x∧zthree<(2^256)):=Lib.hid ⟨by rw [hzthree,hztwo]; rfl,by rw [hzthree]; exact RU x⟩
 have HZsix:Hid (zsix=jn zthree 3 zthree∧zsix<(2^256)):=Lib.hid ⟨by rw [hzsix,hzthree]; rfl,by rw [hzsix]; exact Vm x⟩
 have HZnine:Hid (znine=jn zsix 3 zthree∧znine<(2^256)):=Lib.hid ⟨by rw [hznine,hzsix,hzthree]; rfl,by rw [hznine]; exact TT x⟩
 have HZeleven:Hid (zeleven=jn znine 2 ztwo∧zeleven<(2^256)):=Lib.hid ⟨by rw [hzeleven,hznine,hztwo]; rfl,by rw [hzeleven]; exact Ol x⟩
 have HZsome:Hid (zsome=jn zeleven 11 zeleven∧zsome<(2^256)):=Lib.hid ⟨by rw [hzsome,hzeleven]; rfl,by rw [hzsome]; exact Jk x⟩
 have HZdbl:Hid (zdbl=jn zsome 22 zsome∧zdbl<(2^256)):=Lib.hid ⟨by rw [hzdbl,hzsome]; rfl,by rw [hzdbl]; exact Vp x⟩
 have HZm1:Hid (zm1=jn zdbl 44 zdbl∧zm1<(2^256)):=Lib.hid ⟨by rw [hzm1,hzdbl]; rfl,by rw [hzm1]; exact YL x⟩
 have HZm2:Hid (zm2=jn zm1 88 zm1∧zm2<(2^256)):=Lib.hid ⟨by rw [hzm2,hzm1]; rfl,by rw [hzm2]; exact YK x⟩
 have HZm3:Hid (zm3=jn zm2 44 zdbl∧zm3<(2^256)):=Lib.hid ⟨by rw [hzm3,hzm2,hzdbl]; rfl,by rw [hzm3]; exact YJ x⟩
 have HZmost:Hid (zmost=jn zm3 3 zthree∧zmost<(2^256)):=Lib.hid ⟨by rw [hzmost,hzm3,hzthree]; rfl,by rw [hzmost]; exact Jl x⟩
 clear hztwo hzthree hzsix hznine hzeleven hzsome hzdbl hzm1 hzm2 hzm3 hzmost
 obtain ⟨x0,x1,x2,x3,fx⟩:=Ae x hx
 have FX:=Lib.hid fx
 rw [fx]
 clear fx hx
 go_enter Tryz.func227,Tryz.ntmps227
 go_wp2_with (first | ((with_reducible refine AD (d:=some 10) ?_); refine AB U _ _ U w.heap.size rfl x _ _ _ (Blk.eq_ ((((Blk.new w _ _).alloc _).alloc _).alloc _) (Bc FX.out).symm) (AU x) AN U kZ ?_) | ((with_reducible refine AD (d:=some 11) ?_); refine AB U _ _ U w.heap.size rfl x _ _ _ (Blk.eq_ ((((Blk.new w _ _).alloc _).alloc _).alloc _) (Bc FX.out).symm) (AU x) AN U kZ ?_))
 refine (CA _ x 1 x ztwo 1 U HZtwo.out.1 HX.out HX.out om).mono ?_
 rintro e w10 ⟨rfl,hb⟩
 have B0_a:Blk w10 (w.heap.size) 35 _:=Gr.blk hb (Blk.eq_ ((((Blk.new w _ _).alloc _).alloc _).alloc _) (Bc FX.out).symm)
 have l0_a:=B0_a.lt
 have B0_t2:Blk w10 (w.heap.size+1) 35 _:=Gr.blk hb (((AZ w _ _ _).alloc _).alloc _)
 have l0_t2:=B0_t2.lt
 have B0_t3:Blk w10 (w.heap.size+2) 35 _:=Gr.blk hb ((Ax w _ _ _ _).alloc _)
 have l0_t3:=B0_t3.lt
 have B0_t4:Blk w10 (w.heap.size+3) 35 _:=Gr.blk hb (Hq w _ _ _ _ _)
 have l0_t4:=B0_t4.lt
 have hB0:=Below.gr ((Ac w _ _ _).alloc (by simp <;> omega) _) hb
 have sz0:=hB0.size
 clear hb
 go_wp2_with (first | ((with_reducible refine AE ?_); refine AA U _ _ _ U (w.heap.size+1) (fcs ztwo) U U _ _ B0_t2 kZ (by rfl) (AG _) ?_; intro v11 hL1 hq1 hK1; have C1_a:=hK1 _ om _ _ (B0_a); have C1_t3:=hK1 _ om _ _ (B0_t3); have C1_t4:=hK1 _ om _ _ (B0_t4); have hC1:=(hB0).trans (hq1 _ om)) | ((with_reducible refine AD (d:=some 13) ?_); refine AB U _ _ U (w.heap.size+1) rfl ztwo _ _ _ hL1 (AU ztwo) AN U kZ ?_) | ((with_reducible refine AD (d:=some 14) ?_); refine AB U _ _ U w.heap.size rfl x _ _ _ C1_a (AU x) AN U kZ ?_))
 refine (CA _ ztwo 1 x zthree 1 U HZthree.out.1 HZtwo.out.2 HX.out om).mono ?_
 rintro e w11 ⟨rfl,hb⟩
 have B1_a:Blk w11 (w.heap.size) 35 _:=Gr.blk hb (C1_a)
 have l1_a:=B1_a.lt
 have B1_t3:Blk w11 (w.heap.size+2) 35 _:=Gr.blk hb (C1_t3)
 have l1_t3:=B1_t3.lt
 have B1_t4:Blk w11 (w.heap.size+3) 35 _:=Gr.blk hb (C1_t4)
 have l1_t4:=B1_t4.lt
 have B1_t2:Blk w11 (w.heap.size+1) 35 _:=Gr.blk hb (hL1)
 have l1_t2:=B1_t2.lt
 have hB1:=Below.gr (hC1) hb
 have sz1:=hB1.size
 clear hb
 go_wp2_with (first | ((with_reducible refine AE ?_); refine AA U _ _ _ U w11.heap.size (fcs zthree) U U _ _ (Blk.new w11 _ _) kZ (by rfl) (AG _) ?_; intro v12 hL2 hq2 hK2; have C2_a:=hK2 _ om _ _ ((B1_a).alloc _); have C2_t3:=hK2 _ om _ _ ((B1_t3).alloc _); have C2_t4:=hK2 _ om _ _ ((B1_t4).alloc _); have C2_t2:=hK2 _ om _ _ ((B1_t2).alloc _); have hC2:=(((hB1).alloc om _)).trans (hq2 _ om)) | ((with_reducible refine AD (d:=some 16) ?_); refine AB U _ _ U w11.heap.size rfl zthree _ _ _ hL2 (AU zthree) AN U kZ ?_) | ((with_reducible refine AD (d:=some 17) ?_); refine AB U _ _ U w11.heap.size rfl zthree _ _ _ hL2 (AU zthree) AN U kZ ?_))
 refine (CA _ zthree 3 zthree zsix 3 U HZsix.out.1 HZthree.out.2 HZthree.out.2 om).mono ?_
 rintro e w12 ⟨rfl,hb⟩
 have B2_a:Blk w12 (w.heap.size) 35 _:=Gr.blk hb (C2_a)
 have l2_a:=B2_a.lt
 have B2_t3:Blk w12 (w.heap.size+2) 35 _:=Gr.blk hb (C2_t3)
 have l2_t3:=B2_t3.lt
 have B2_t4:Blk w12 (w.heap.size+3) 35 _:=Gr.blk hb (C2_t4)
 have l2_t4:=B2_t4.lt
 have B2_t2:Blk w12 (w.heap.size+1) 35 _:=Gr.blk hb (C2_t2)
 have l2_t2:=B2_t2.lt
 have B2_three:Blk w12 (w11.heap.size) 35 _:=Gr.blk hb (hL2)
 have l2_three:=B2_three.lt
 have hB2:=Below.gr (hC2) hb
 have sz2:=hB2.size
 clear hb
 go_wp2_with (first | ((with_reducible refine AE ?_); refine AA U _ _ _ U w12.heap.size (fcs zsix) U U _ _ (Blk.new w12 _ _) kZ (by rfl) (AG _) ?_; intro v13 hL3 hq3 hK3; have C3_a:=hK3 _ om _ _ ((B2_a).alloc _); have C3_t3:=hK3 _ om _ _ ((B2_t3).alloc _); have C3_t4:=hK3 _ om _ _ ((B2_t4).alloc _); have C3_t2:=hK3 _ om _ _ ((B2_t2).alloc _); have C3_three:=hK3 _ om _ _ ((B2_three).alloc _); have hC3:=(((hB2).alloc om _)).trans (hq3 _ om)) | ((with_reducible refine AD (d:=some 19) ?_); refine AB U _ _ U w12.heap.size rfl zsix _ _ _ hL3 (AU zsix) AN U kZ ?_) | ((with_reducible refine AD (d:=some 20) ?_); refine AB U _ _ U w11.heap.size rfl zthree _ _ _ C3_three (AU zthree) AN U kZ ?_))
 refine (CA _ zsix 3 zthree znine 3 U HZnine.out.1 HZsix.out.2 HZthree.out.2 om).mono ?_
 rintro e w13 ⟨rfl,hb⟩
 have B3_a:Blk w13 (w.heap.size) 35 _:=Gr.blk hb (C3_a)
 have l3_a:=B3_a.lt
 have B3_t3:Blk w13 (w.heap.size+2) 35 _:=Gr.blk hb (C3_t3)
 have l3_t3:=B3_t3.lt
 have B3_t4:Blk w13 (w.heap.size+3) 35 _:=Gr.blk hb (C3_t4)
 have l3_t4:=B3_t4.lt
 have B3_t2:Blk w13 (w.heap.size+1) 35 _:=Gr.blk hb (C3_t2)
 have l3_t2:=B3_t2.lt
 have B3_three:Blk w13 (w11.heap.size) 35 _:=Gr.blk hb (C3_three)
 have l3_three:=B3_three.lt
 have B3_six:Blk w13 (w12.heap.size) 35 _:=Gr.blk hb (hL3)
 have l3_six:=B3_six.lt
 have hB3:=Below.gr (hC3) hb
 have sz3:=hB3.size
 clear hb
 go_wp2_with (first | ((with_reducible refine AE ?_); refine AA U _ _ _ U w13.heap.size (fcs znine) U U _ _ (Blk.new w13 _ _) kZ (by rfl) (AG _) ?_; intro v14 hL4 hq4 hK4; have C4_a:=hK4 _ om _ _ ((B3_a).alloc _); have C4_t3:=hK4 _ om _ _ ((B3_t3).alloc _); have C4_t4:=hK4 _ om _ _ ((B3_t4).alloc _); have C4_t2:=hK4 _ om _ _ ((B3_t2).alloc _); have C4_three:=hK4 _ om _ _ ((B3_three).alloc _); have C4_six:=hK4 _ om _ _ ((B3_six).alloc _); have hC4:=(((hB3).alloc om _)).trans (hq4 _ om)) | ((with_reducible refine AD (d:=some 22) ?_); refine AB U _ _ U w13.heap.size rfl znine _ _ _ hL4 (AU znine) AN U kZ ?_) | ((with_reducible refine AD (d:=some 23) ?_); refine AB U _ _ U (w.heap.size+1) rfl ztwo _ _ _ C4_t2 (AU ztwo) AN U kZ ?_))
 refine (CA _ znine 2 ztwo zeleven 2 U HZeleven.out.1 HZnine.out.2 HZtwo.out.2 om).mono ?_
 rintro e w14 ⟨rfl,hb⟩
 have B4_a:Blk w14 (w.heap.size) 35 _:=Gr.blk hb (C4_a)
 have l4_a:=B4_a.lt
 have B4_t3:Blk w14 (w.heap.size+2) 35 _:=Gr.blk hb (C4_t3)
 have l4_t3:=B4_t3.lt
 have B4_t4:Blk w14 (w.heap.size+3) 35 _:=Gr.blk hb (C4_t4)
 have l4_t4:=B4_t4.lt
 have B4_t2:Blk w14 (w.heap.size+1) 35 _:=Gr.blk hb (C4_t2)
 have l4_t2:=B4_t2.lt
 have B4_three:Blk w14 (w11.heap.size) 35 _:=Gr.blk hb (C4_three)
 have l4_three:=B4_three.lt
 have B4_six:Blk w14 (w12.heap.size) 35 _:=Gr.blk hb (C4_six)
 have l4_six:=B4_six.lt
 have B4_nine:Blk w14 (w13.heap.size) 35 _:=Gr.blk hb (hL4)
 have l4_nine:=B4_nine.lt
 have hB4:=Below.gr (hC4) hb
 have sz4:=hB4.size
 clear hb
 go_wp2_with (first | ((with_reducible refine AE ?_); refine AA U _ _ _ U w14.heap.size (fcs zeleven) U U _ _ (Blk.new w14 _ _) kZ (by rfl) (AG _) ?_; intro v15 hL5 hq5 hK5; have C5_a:=hK5 _ om _ _ ((B4_a).alloc _); have C5_t3:=hK5 _ om _ _ ((B4_t3).alloc _); have C5_t4:=hK5 _ om _ _ ((B4_t4).alloc _); have C5_t2:=hK5 _ om _ _ ((B4_t2).alloc _); have C5_three:=hK5 _ om _ _ ((B4_three).alloc _); have C5_six:=hK5 _ om _ _ ((B4_six).alloc _); have C5_nine:=hK5 _ om _ _ ((B4_nine).alloc _); have hC5:=(((hB4).alloc om _)).trans (hq5 _ om)) | ((with_reducible refine AD (d:=some 25) ?_); refine AB U _ _ U w14.heap.size rfl zeleven _ _ _ hL5 (AU zeleven) AN U kZ ?_) | ((with_reducible refine AD (d:=some 26) ?_); refine AB U _ _ U w14.heap.size rfl zeleven _ _ _ hL5 (AU zeleven) AN U kZ ?_))
 refine (CA _ zeleven 11 zeleven zsome 11 U HZsome.out.1 HZeleven.out.2 HZeleven.out.2 om).mono ?_
 rintro e w15 ⟨rfl,hb⟩
 have B5_a:Blk w15 (w.heap.size) 35 _:=Gr.blk hb (C5_a)
 have l5_a:=B5_a.lt
 have B5_t3:Blk w15 (w.heap.size+2) 35 _:=Gr.blk hb (C5_t3)
 have l5_t3:=B5_t3.lt
 have B5_t4:Blk w15 (w.heap.size+3) 35 _:=Gr.blk hb (C5_t4)
 have l5_t4:=B5_t4.lt
 have B5_t2:Blk w15 (w.heap.size+1) 35 _:=Gr.blk hb (C5_t2)
 have l5_t2:=B5_t2.lt
 have B5_three:Blk w15 (w11.heap.size) 35 _:=Gr.blk hb (C5_three)
 have l5_three:=B5_three.lt
 have B5_six:Blk w15 (w12.heap.size) 35 _:=Gr.blk hb (C5_six)
 have l5_six:=B5_six.lt
 have B5_nine:Blk w15 (w13.heap.size) 35 _:=Gr.blk hb (C5_nine)
 have l5_nine:=B5_nine.lt
 have B5_eleven:Blk w15 (w14.heap.size) 35 _:=Gr.blk hb (hL5)
 have l5_eleven:=B5_eleven.lt
 have hB5:=Below.gr (hC5) hb
 have sz5:=hB5.size
 clear hb
 go_wp2_with (first | ((with_reducible refine AE ?_); refine AA U _ _ _ U (w.heap.size+2) (fcs zsome) U U _ _ B5_t3 kZ (by rfl) (AG _) ?_; intro v16 hL6 hq6 hK6; have C6_a:=hK6 _ om _ _ (B5_a); have C6_t4:=hK6 _ om _ _ (B5_t4); have C6_t2:=hK6 _ om _ _ (B5_t2); have C6_three:=hK6 _ om _ _ (B5_three); have C6_six:=hK6 _ om _ _ (B5_six); have C6_nine:=hK6 _ om _ _ (B5_nine); have C6_eleven:=hK6 _ om _ _ (B5_eleven); have hC6:=(hB5).trans (hq6 _ om)) | ((with_reducible refine AD (d:=some 28) ?_); refine AB U _ _ U (w.heap.size+2) rfl zsome _ _ _ hL6 (AU zsome) AN U kZ ?_) | ((with_reducible refine AD (d:=some 29) ?_); refine AB U _ _ U (w.heap.size+2) rfl zsome _ _ _ hL6 (AU zsome) AN U kZ ?_))
 refine (CA _ zsome 22 zsome zdbl 22 U HZdbl.out.1 HZsome.out.2 HZsome.out.2 om).mono ?_
 rintro e w16 ⟨rfl,hb⟩
 have B6_a:Blk w16 (w.heap.size) 35 _:=Gr.blk hb (C6_a)
 have l6_a:=B6_a.lt
 have B6_t4:Blk w16 (w.heap.size+3) 35 _:=Gr.blk hb (C6_t4)
 have l6_t4:=B6_t4.lt
 have B6_t2:Blk w16 (w.heap.size+1) 35 _:=Gr.blk hb (C6_t2)
 have l6_t2:=B6_t2.lt
 have B6_three:Blk w16 (w11.heap.size) 35 _:=Gr.blk hb (C6_three)
 have l6_three:=B6_three.lt
 have B6_six:Blk w16 (w12.heap.size) 35 _:=Gr.blk hb (C6_six)
 have l6_six:=B6_six.lt
 have B6_nine:Blk w16 (w13.heap.size) 35 _:=Gr.blk hb (C6_nine)
 have l6_nine:=B6_nine.lt
 have B6_eleven:Blk w16 (w14.heap.size) 35 _:=Gr.blk hb (C6_eleven)
 have l6_eleven:=B6_eleven.lt
 have B6_t3:Blk w16 (w.heap.size+2) 35 _:=Gr.blk hb (hL6)
 have l6_t3:=B6_t3.lt
 have hB6:=Below.gr (hC6) hb
 have sz6:=hB6.size
 clear hb
 go_wp2_with (first | ((with_reducible refine AE ?_); refine AA U _ _ _ U w16.heap.size (fcs zdbl) U U _ _ (Blk.new w16 _ _) kZ (by rfl) (AG _) ?_; intro v17 hL7 hq7 hK7; have C7_a:=hK7 _ om _ _ ((B6_a).alloc _); have C7_t4:=hK7 _ om _ _ ((B6_t4).alloc _); have C7_t2:=hK7 _ om _ _ ((B6_t2).alloc _); have C7_three:=hK7 _ om _ _ ((B6_three).alloc _); have C7_six:=hK7 _ om _ _ ((B6_six).alloc _); have C7_nine:=hK7 _ om _ _ ((B6_nine).alloc _); have C7_eleven:=hK7 _ om _ _ ((B6_eleven).alloc _); have C7_t3:=hK7 _ om _ _ ((B6_t3).alloc _); have hC7:=(((hB6).alloc om _)).trans (hq7 _ om)) | ((with_reducible refine AD (d:=some 31) ?_); refine AB U _ _ U w16.heap.size rfl zdbl _ _ _ hL7 (AU zdbl) AN U kZ ?_) | ((with_reducible refine AD (d:=some 32) ?_); refine AB U _ _ U w16.heap.size rfl zdbl _ _ _ hL7 (AU zdbl) AN U kZ ?_))
 refine (CA _ zdbl 44 zdbl zm1 44 U HZm1.out.1 HZdbl.out.2 HZdbl.out.2 om).mono ?_
 rintro e w17 ⟨rfl,hb⟩
 have B7_a:Blk w17 (w.heap.size) 35 _:=Gr.blk hb (C7_a)
 have l7_a:=B7_a.lt
 have B7_t4:Blk w17 (w.heap.size+3) 35 _:=Gr.blk hb (C7_t4)
 have l7_t4:=B7_t4.lt
 have B7_t2:Blk w17 (w.heap.size+1) 35 _:=Gr.blk hb (C7_t2)
 have l7_t2:=B7_t2.lt
 have B7_three:Blk w17 (w11.heap.size) 35 _:=Gr.blk hb (C7_three)
 have l7_three:=B7_three.lt
 have B7_six:Blk w17 (w12.heap.size) 35 _:=Gr.blk hb (C7_six)
 have l7_six:=B7_six.lt
 have B7_nine:Blk w17 (w13.heap.size) 35 _:=Gr.blk hb (C7_nine)
 have l7_nine:=B7_nine.lt
 have B7_eleven:Blk w17 (w14.heap.size) 35 _:=Gr.blk hb (C7_eleven)
 have l7_eleven:=B7_eleven.lt
 have B7_t3:Blk w17 (w.heap.size+2) 35 _:=Gr.blk hb (C7_t3)
 have l7_t3:=B7_t3.lt
 have B7_dbl:Blk w17 (w16.heap.size) 35 _:=Gr.blk hb (hL7)
 have l7_dbl:=B7_dbl.lt
 have hB7:=Below.gr (hC7) hb
 have sz7:=hB7.size
 clear hb
 go_wp2_with (first | ((with_reducible refine AE ?_); refine AA U _ _ _ U (w.heap.size+3) (fcs zm1) U U _ _ B7_t4 kZ (by rfl) (AG _) ?_; intro v18 hL8 hq8 hK8; have C8_a:=hK8 _ om _ _ (B7_a); have C8_t2:=hK8 _ om _ _ (B7_t2); have C8_three:=hK8 _ om _ _ (B7_three); have C8_six:=hK8 _ om _ _ (B7_six); have C8_nine:=hK8 _ om _ _ (B7_nine); have C8_eleven:=hK8 _ om _ _ (B7_eleven); have C8_t3:=hK8 _ om _ _ (B7_t3); have C8_dbl:=hK8 _ om _ _ (B7_dbl); have hC8:=(hB7).trans (hq8 _ om)) | ((with_reducible refine AD (d:=some 34) ?_); refine AB U _ _ U (w.heap.size+3) rfl zm1 _ _ _ hL8 (AU zm1) AN U kZ ?_) | ((with_reducible refine AD (d:=some 35) ?_); refine AB U _ _ U (w.heap.size+3) rfl zm1 _ _ _ hL8 (AU zm1) AN U kZ ?_))
 refine (CA _ zm1 88 zm1 zm2 88 U HZm2.out.1 HZm1.out.2 HZm1.out.2 om).mono ?_
 rintro e w18 ⟨rfl,hb⟩
 have B8_a:Blk w18 (w.heap.size) 35 _:=Gr.blk hb (C8_a)
 have l8_a:=B8_a.lt
 have B8_t2:Blk w18 (w.heap.size+1) 35 _:=Gr.blk hb (C8_t2)
 have l8_t2:=B8_t2.lt
 have B8_three:Blk w18 (w11.heap.size) 35 _:=Gr.blk hb (C8_three)
 have l8_three:=B8_three.lt
 have B8_six:Blk w18 (w12.heap.size) 35 _:=Gr.blk hb (C8_six)
 have l8_six:=B8_six.lt
 have B8_nine:Blk w18 (w13.heap.size) 35 _:=Gr.blk hb (C8_nine)
 have l8_nine:=B8_nine.lt
 have B8_eleven:Blk w18 (w14.heap.size) 35 _:=Gr.blk hb (C8_eleven)
 have l8_eleven:=B8_eleven.lt
 have B8_t3:Blk w18 (w.heap.size+2) 35 _:=Gr.blk hb (C8_t3)
 have l8_t3:=B8_t3.lt
 have B8_dbl:Blk w18 (w16.heap.size) 35 _:=Gr.blk hb (C8_dbl)
 have l8_dbl:=B8_dbl.lt
 have B8_t4:Blk w18 (w.heap.size+3) 35 _:=Gr.blk hb (hL8)
 have l8_t4:=B8_t4.lt
 have hB8:=Below.gr (hC8) hb
 have sz8:=hB8.size
 clear hb
 go_wp2_with (first | ((with_reducible refine AE ?_); refine AA U _ _ _ U (w.heap.size+3) (fcs zm2) U U _ _ B8_t4 kZ (by rfl) (AG _) ?_; intro v19 hL9 hq9 hK9; have C9_a:=hK9 _ om _ _ (B8_a); have C9_t2:=hK9 _ om _ _ (B8_t2); have C9_three:=hK9 _ om _ _ (B8_three); have C9_six:=hK9 _ om _ _ (B8_six); have C9_nine:=hK9 _ om _ _ (B8_nine); have C9_eleven:=hK9 _ om _ _ (B8_eleven); have C9_t3:=hK9 _ om _ _ (B8_t3); have C9_dbl:=hK9 _ om _ _ (B8_dbl); have hC9:=(hB8).trans (hq9 _ om)) | ((with_reducible refine AD (d:=some 37) ?_); refine AB U _ _ U (w.heap.size+3) rfl zm2 _ _ _ hL9 (AU zm2) AN U kZ ?_) | ((with_reducible refine AD (d:=some 38) ?_); refine AB U _ _ U w16.heap.size rfl zdbl _ _ _ C9_dbl (AU zdbl) AN U kZ ?_))
 refine (CA _ zm2 44 zdbl zm3 44 U HZm3.out.1 HZm2.out.2 HZdbl.out.2 om).mono ?_
 rintro e w19 ⟨rfl,hb⟩
 have B9_a:Blk w19 (w.heap.size) 35 _:=Gr.blk hb (C9_a)
 have l9_a:=B9_a.lt
 have B9_t2:Blk w19 (w.heap.size+1) 35 _:=Gr.blk hb (C9_t2)
 have l9_t2:=B9_t2.lt
 have B9_three:Blk w19 (w11.heap.size) 35 _:=Gr.blk hb (C9_three)
 have l9_three:=B9_three.lt
 have B9_six:Blk w19 (w12.heap.size) 35 _:=Gr.blk hb (C9_six)
 have l9_six:=B9_six.lt
 have B9_nine:Blk w19 (w13.heap.size) 35 _:=Gr.blk hb (C9_nine)
 have l9_nine:=B9_nine.lt
 have B9_eleven:Blk w19 (w14.heap.size) 35 _:=Gr.blk hb (C9_eleven)
 have l9_eleven:=B9_eleven.lt
 have B9_t3:Blk w19 (w.heap.size+2) 35 _:=Gr.blk hb (C9_t3)
 have l9_t3:=B9_t3.lt
 have B9_dbl:Blk w19 (w16.heap.size) 35 _:=Gr.blk hb (C9_dbl)
 have l9_dbl:=B9_dbl.lt
 have B9_t4:Blk w19 (w.heap.size+3) 35 _:=Gr.blk hb (hL9)
 have l9_t4:=B9_t4.lt
 have hB9:=Below.gr (hC9) hb
 have sz9:=hB9.size
 clear hb
 go_wp2_with (first | ((with_reducible refine AE ?_); refine AA U _ _ _ U (w.heap.size+3) (fcs zm3) U U _ _ B9_t4 kZ (by rfl) (AG _) ?_; intro v20 hL10 hq10 hK10; have C10_a:=hK10 _ om _ _ (B9_a); have C10_t2:=hK10 _ om _ _ (B9_t2); have C10_three:=hK10 _ om _ _ (B9_three); have C10_six:=hK10 _ om _ _ (B9_six); have C10_nine:=hK10 _ om _ _ (B9_nine); have C10_eleven:=hK10 _ om _ _ (B9_eleven); have C10_t3:=hK10 _ om _ _ (B9_t3); have C10_dbl:=hK10 _ om _ _ (B9_dbl); have hC10:=(hB9).trans (hq10 _ om)) | ((with_reducible refine AD (d:=some 40) ?_); refine AB U _ _ U (w.heap.size+3) rfl zm3 _ _ _ hL10 (AU zm3) AN U kZ ?_) | ((with_reducible refine AD (d:=some 41) ?_); refine AB U _ _ U w11.heap.size rfl zthree _ _ _ C10_three (AU zthree) AN U kZ ?_))
 refine (CA _ zm3 3 zthree zmost 3 U HZmost.out.1 HZm3.out.2 HZthree.out.2 om).mono ?_
 rintro e w20 ⟨rfl,hb⟩
 have B10_a:Blk w20 (w.heap.size) 35 _:=Gr.blk hb (C10_a)
 have l10_a:=B10_a.lt
 have B10_t2:Blk w20 (w.heap.size+1) 35 _:=Gr.blk hb (C10_t2)
 have l10_t2:=B10_t2.lt
 have B10_three:Blk w20 (w11.heap.size) 35 _:=Gr.blk hb (C10_three)
 have l10_three:=B10_three.lt
 have B10_six:Blk w20 (w12.heap.size) 35 _:=Gr.blk hb (C10_six)
 have l10_six:=B10_six.lt
 have B10_nine:Blk w20 (w13.heap.size) 35 _:=Gr.blk hb (C10_nine)
 have l10_nine:=B10_nine.lt
 have B10_eleven:Blk w20 (w14.heap.size) 35 _:=Gr.blk hb (C10_eleven)
 have l10_eleven:=B10_eleven.lt
 have B10_t3:Blk w20 (w.heap.size+2) 35 _:=Gr.blk hb (C10_t3)
 have l10_t3:=B10_t3.lt
 have B10_dbl:Blk w20 (w16.heap.size) 35 _:=Gr.blk hb (C10_dbl)
 have l10_dbl:=B10_dbl.lt
 have B10_t4:Blk w20 (w.heap.size+3) 35 _:=Gr.blk hb (hL10)
 have l10_t4:=B10_t4.lt
 have hB10:=Below.gr (hC10) hb
 have sz10:=hB10.size
 clear hb
 go_wp2_with ((with_reducible refine AE ?_); refine AA U _ _ _ U (w.heap.size+3) (fcs zmost) U U _ _ B10_t4 kZ (by rfl) (AG _) ?_; intro v21 hL11 hq11 hK11; have C11_a:=hK11 _ om _ _ (B10_a); have C11_t2:=hK11 _ om _ _ (B10_t2); have C11_three:=hK11 _ om _ _ (B10_three); have C11_six:=hK11 _ om _ _ (B10_six); have C11_nine:=hK11 _ om _ _ (B10_nine); have C11_eleven:=hK11 _ om _ _ (B10_eleven); have C11_t3:=hK11 _ om _ _ (B10_t3); have C11_dbl:=hK11 _ om _ _ (B10_dbl); have hC11:=(hB10).trans (hq11 _ om))
 refine AJ (λ_=>false) kZ ?_
 try simp only [Act.put]
 refine tkw 0 U (YieldsG.loadF (by rfl) _ _ U (w.heap.size+1) rfl ztwo _ _ C11_t2 (AU _) AN U kZ) ?_
 try simp only [aPS]
 refine tkw 1 U (YieldsG.loadF (by rfl) _ _ U (w.heap.size+2) rfl zsome _ _ C11_t3 (AU _) AN U kZ) ?_
 try simp only [aPS]
 refine tkw 2 U (YieldsG.loadF (by rfl) _ _ U (w.heap.size+3) rfl zmost _ _ hL11 (AU _) AN U kZ) ?_
 try simp only [aPS]
 refine tkw 3 U (YieldsG.again (by rfl) _ _ _ U (w.heap.size+1) (fcs ztwo) U U _ C11_t2 kZ (AG _)) ?_
 try simp only [Act.put]
 refine tkw 4 U (YieldsG.again (by rfl) _ _ _ U (w.heap.size+2) (fcs zsome) U U _ C11_t3 kZ (AG _)) ?_
 try simp only [Act.put]
 refine tkw 5 U (YieldsG.again (by rfl) _ _ _ U (w.heap.size+3) (fcs zmost) U U _ hL11 kZ (AG _)) ?_
 try simp only [Act.put]
 refine AH kZ (λu hu=>?_)
 have hbz:=Below.gr (hC11) hu
 have Et2:=Gr.blk hu C11_t2
 have Et3:=Gr.blk hu C11_t3
 have Et4:=Gr.blk hu hL11
 go_wp2
 exact bodyPost_ret (Im U _ _ (w.heap.size+1) (w.heap.size+2) (w.heap.size+3) _ _ _ _ _ _ _ U Et2 U Et3 U Et4 AN U kZ kZ kZ) rfl ⟨rfl,hbz⟩
end
end
section
section
open Go.RowKit Go.Lib
theorem GY:∀ (xs ys:List Nat),xs.length=ys.length→((List.range xs.length).all λi=>xs.getD i 0 == ys.getD i 0)=(xs == ys)
 | [],[],_=>rfl
 | x::xs,y::ys,h=>by
  have ih:=GY xs ys (by simpa using h)
  rw [List.length_cons,List.range_succ_eq_map,List.all_cons,List.all_map]
  simp only [List.getD_cons_zero,Function.comp_def,List.getD_cons_succ,ih]
  simp [List.cons_beq_cons]
 | [],_::_,h=>by simp at h
 | _::_,[],h=>by simp at h
theorem Ch {P:Program} (w:World) (d:Nat) (t e:TypeId) (n:Nat) (ht:P.underlying t=some (.array n e)) (he:P.underlying e=some (.int .u64)) (hsz:∀ w,(sizeOf e).run P w=.ok 1 w)
  (xs ys:List Nat) (hx:xs.length=n) (hy:ys.length=n) :
  (Op.equalIn (d+2) t (.agg (xs.map qv).toArray) (.agg (ys.map qv).toArray)).run P w=.ok (xs == ys) w:=by
 rw [← GY xs ys (hx.trans hy.symm),hx,List.range_eq_range',Op.equalIn]
 simp only [Sem.run_bind,run_underlying ht,Result.andThen_ok,hsz,Std.Legacy.Range.forIn_eq_forIn_range',Std.Legacy.Range.size,Nat.sub_zero,Nat.add_sub_cancel,Nat.div_one]
 have hl:∀ i∈List.range' 0 n 1,i<n:=λi hi=>by simpa using (List.mem_range'_1.1 hi).2
 generalize List.range' 0 n 1=l at hl ⊢
 induction l with
 | nil=>simp
 | cons i l ih =>
  have hi:i<n:=hl i (by simp)
  have px:(part e (xs.map qv).toArray (i*1)).run P w=.ok (qv (xs.getD i 0)) w:=by
   simp [part,isAgg,run_underlying he,List.getD,List.getElem?_eq_getElem (show i<xs.length by omega)]
  have py:(part e (ys.map qv).toArray (i*1)).run P w=.ok (qv (ys.getD i 0)) w:=by
   simp [part,isAgg,run_underlying he,List.getD,List.getElem?_eq_getElem (show i<ys.length by omega)]
  have pe:(Op.equalIn (d+1) e (qv (xs.getD i 0)) (qv (ys.getD i 0))).run P w=.ok (xs.getD i 0 == ys.getD i 0) w:=by
   rw [qv,qv,run_equalIn_int w d e .u64 .u64 _ _ he]
   congr 1
   rw [Bool.eq_iff_iff]
   simp
   omega
  simp only [List.forIn_cons,Sem.run_bind,px,py,pe,Result.andThen_ok,List.all_cons]
  cases hb:(xs.getD i 0 == ys.getD i 0)
  ·simp
  ·simp only [Bool.not_true,Bool.false_eq_true,if_false,Sem.run_pure,Result.andThen_ok,Bool.true_and]
   exact ih λj hj=>hl j (by simp [hj])
def wl (n:Nat):List Nat:=[n%18446744073709551616,n / 18446744073709551616%18446744073709551616,n / 340282366920938463463374607431768211456%18446744073709551616,n / 6277101735386680763835789423207666416102355444464034512896%18446744073709551616]
theorem Do (n:Nat):fv n=.agg ((wl n).map qv).toArray:=rfl
theorem Xm {n m:Nat} (hn:n<(2^256)) (hm:m<(2^256)) (h:wl n=wl m):n=m:=by
 unfold wl at h
 simp only [List.cons.injEq,and_true] at h
 obtain ⟨h0,h1,h2,h3⟩:=h
 omega
theorem LZ {n m:Nat} (hn:n<(2^256)) (hm:m<(2^256)):(wl n == wl m)=decide (n=m):=by
 by_cases h:n=m
 ·subst h; simp
 ·have:wl n≠wl m:=λe=>h (Xm hn hm e)
  simp [h,this]
theorem Bw (W:World) (n m:Nat) (hn:n<(2^256)) (hm:m<(2^256)):(Op.equalIn 10000 35 (fv n) (fv m)).run Tryz.prog W=.ok (decide (n=m)) W:=by
 rw [Do,Do]
 have h:=Ch W 9998 35 24 4 AN B2 (λW=>kZ) (wl n) (wl m) rfl U
 rw [LZ hn hm] at h
 exact h
theorem run_eql_fv (W:World) (n m:Nat) (hn:n<(2^256)) (hm:m<(2^256)):(binOp .eql 35 (fv n) (fv m)).run Tryz.prog W=.ok (.bool (decide (n=m))) W:=by
 have h:=Bw W n m hn hm
 rw [Do,Do] at h ⊢
 rw [run_eql_struct,h]
 rfl
theorem run_neq_fv (W:World) (n m:Nat) (hn:n<(2^256)) (hm:m<(2^256)):(binOp .neq 35 (fv n) (fv m)).run Tryz.prog W=.ok (.bool (decide (n≠m))) W:=by
 have h:=Bw W n m hn hm
 rw [Do,Do] at h ⊢
 rw [run_neq_struct,h]
 by_cases e:n=m <;> simp [e]
theorem run_eqGuard_fv (op:BinOp) (x y:Operand) (n m:Nat) (W:World):(eqGuard op 35 x y (fv n) (fv m)).run Tryz.prog W=.ok () W:=by
 rw [AU,AU]
 go_simp
theorem XD (n:Nat) (hn:n<18446744073709551616):bits .and .u64 (n:Int) 1=((n%2:Nat):Int):=by
 have h:=bits_and_u64_nat n 1 hn om
 have e:n &&& 1=n%2:=Nat.and_two_pow_sub_one_eq_mod n 1
 rw [e] at h
 exact h
theorem QS (w:World) (x:Nat) (hx:x<(2^256)):Calls Tryz.prog 183 #[fv x] w λe w'=>e=.returned (.bool (decide (x%pM%2=1)))∧Below w.heap.size w w':=by
 obtain ⟨z,hz⟩:=xE (x%pM)
 have hzl:z<(2^256):=by rw [hz]; exact mod_lt x
 obtain ⟨z0,z1,z2,z3,a0,a1,a2,a3,ez,fz⟩:=Aw z hzl
 obtain ⟨o,ho⟩:=xE (z%2)
 have h1:bits .and .u64 (z0:Int) 1=(o:Int):=by rw [XD z0 a0,ho]; congr 1; omega
 have hN:∀ w,Calls Tryz.prog 229 #[fv x] w λe w'=>e=.returned (.agg #[.int .u64 z0,.int .u64 z1,.int .u64 z2,.int .u64 z3])∧Below w.heap.size w w':=by
  intro w; rw [← fz,hz]; exact norm_any w x hx
 obtain ⟨x0,x1,x2,x3,fx⟩:=Ae x hx
 rw [fx] at hN ⊢
 rw [← hz, ← ho]
 have hol:o<2:=om
 obtain ⟨b,hb⟩:=xE (decide (o=1))
 have hob:((o:Int) == 1)=b:=by
  rw [hb]
  rcases (show o=0∨o=1 by omega) with rfl|rfl <;> rfl
 rw [← hb]
 clear fx hx hz hzl ez fz ho a0 a1 a2 a3 hb hol
 have hI:∀ W,(Instr.index 35 (.agg #[.int .u64 z0,.int .u64 z1,.int .u64 z2,.int .u64 z3]) (.int .i64 0)).run Tryz.prog W=.ok (.int .u64 (z0:Int)) W:=λW=>by kernel_rfl
 go_enter Tryz.func183,Tryz.ntmps183
 go_wp2_with fail
 refine (hN _).mono ?_
 rintro e w1 ⟨rfl,hb1⟩
 go_wp2
 go_ret
 exact ⟨rfl,Below.gr ((Below.refl _ _).alloc (Nat.le_refl _) _) hb1⟩
end
end
section
section
open Go.RowKit Go.Lib
def rZ1 (x:Nat):Nat:=jn (IZ x) 23 (GV x)
def rZ2 (x:Nat):Nat:=jn (rZ1 x) 6 (Jj x)
def Bh (x:Nat):Nat:=sqI (rZ2 x) 2
theorem NF (x:Nat):Bh x<(2^256):=HJ _ _
theorem DW (x:Nat):Bh x%pM=Bh x:=by
 have h:Bh x=sqI (rZ2 x) 1*sqI (rZ2 x) 1%pM:=rfl
 rw [h,Nat.mod_mod]
def UR:Nat:=((Qg*2 ^ 23+LN)*2 ^ 6+SE)*2 ^ 2
theorem Kv (x:Nat):Bh x%pM=x ^ UR%pM:=by
 unfold Bh UR
 exact Iv (Cn (Cn (Kz x) (GH x)) (G6 x)) 2
def B3 (x:Nat):Nat×Bool:=if mulP (Bh x) (Bh x)≠x%pM then (0,false) else if Bh x%pM%2=1 then (negP (Bh x),true) else (Bh x,true)
theorem M4 (w:World) (x:Nat) (hx:x<(2^256)):Calls Tryz.prog 223 #[fv x] w λe w'=>e=.returned (.tuple #[fv (B3 x).1,.bool (B3 x).2])∧Below w.heap.size w w':=by
 obtain ⟨z2,hz2⟩:=xE (Jj x)
 obtain ⟨zs,hzs⟩:=xE (GV x)
 obtain ⟨zm,hzm⟩:=xE (IZ x)
 obtain ⟨y1,hy1⟩:=xE (rZ1 x)
 obtain ⟨y2,hy2⟩:=xE (rZ2 x)
 obtain ⟨r,hr⟩:=xE (Bh x)
 obtain ⟨m,hm⟩:=xE (mulP r r)
 obtain ⟨n,hn⟩:=xE (x%pM)
 obtain ⟨g,hg⟩:=xE (negP r)
 have hrl:r<(2^256):=by rw [hr]; exact NF x
 have hml:m<(2^256):=by rw [hm]; exact HJ _ _
 have hnl:n<(2^256):=by rw [hn]; exact mod_lt x
 have cR:∀ w,Calls Tryz.prog 227 #[fv x] w λe w'=>e=.returned (.tuple #[fv z2,fv zs,fv zm])∧Below w.heap.size w w':=by
  intro w; rw [hz2,hzs,hzm]; exact NA w x hx
 have c1:=λw=>CA w zm 23 zs y1 23 U (by rw [hzm,hzs,hy1]; rfl) (by rw [hzm]; exact Jl x) (by rw [hzs]; exact Jk x) om
 have c2:=λw=>CA w y1 6 z2 y2 6 U (by rw [hy1,hz2,hy2]; rfl) (by rw [hy1]; exact Dn _ _ _) (by rw [hz2]; exact Lz x) om
 have c3:∀ w,Calls Tryz.prog 241 #[fv y2,.int .i64 2] w λe w'=>e=.returned (fv r)∧Below w.heap.size w w':=by
  intro w; rw [hr,Bh, ← hy2]; exact JR w y2 2 (by rw [hy2]; exact Dn _ _ _) om
 have cm:∀ w,Calls Tryz.prog 150 #[fv r,fv r] w λe w'=>e=.returned (fv m)∧Below w.heap.size w w':=by
  intro w; rw [hm]; exact mulF_any w r r hrl hrl
 have cn:∀ w,Calls Tryz.prog 229 #[fv x] w λe w'=>e=.returned (fv n)∧Below w.heap.size w w':=by
  intro w; rw [hn]; exact norm_any w x hx
 obtain ⟨o,ho⟩:=xE (decide (r%pM%2=1))
 have co:∀ w,Calls Tryz.prog 183 #[fv r] w λe w'=>e=.returned (.bool o)∧Below w.heap.size w w':=by
  intro w; rw [ho]; exact QS w r hrl
 have cg:∀ w,Calls Tryz.prog 151 #[fv r] w λe w'=>e=.returned (fv g)∧Below w.heap.size w w':=by
  intro w; rw [hg]; exact G' w r hrl
 obtain ⟨b,hb⟩:=xE (decide (m≠n))
 have eb:∀ W,(binOp .neq 35 (fv m) (fv n)).run Tryz.prog W=.ok (.bool b) W:=λW=>by rw [hb]; exact run_neq_fv W m n hml hnl
 have hS:B3 x=if b=true then (0,false) else if o=true then (g,true) else (r,true):=by
  unfold B3
  rw [← hr, ← hm, ← hn, ← hg,hb,ho]
  by_cases h1:m=n <;> by_cases h2:r%pM%2=1 <;> simp [h1,h2]
 obtain ⟨x0,x1,x2,x3,fx⟩:=Ae x hx
 have FX:=Lib.hid fx
 rw [fx] at cR ⊢
 rw [hS]
 clear fx hx hz2 hzs hzm hy1 hy2 hr hm hn hg hrl hml hnl ho hb hS
 go_enter Tryz.func223,Tryz.ntmps223
 go_wp2_with fail
 refine (cR _).mono ?_
 rintro e w10 ⟨rfl,hb⟩
 have B0_a:Blk w10 (w.heap.size) 35 _:=Gr.blk hb (Blk.eq_ ((Blk.new w _ _).alloc _) (Bc FX.out).symm)
 have l0_a:=B0_a.lt
 have B0_t2:Blk w10 (w.heap.size+1) 35 _:=Gr.blk hb (AZ w _ _ _)
 have l0_t2:=B0_t2.lt
 have hB0:=Below.gr (Ad w _ _) hb
 have sz0:=hB0.size
 clear hb
 go_wp2_with (first | ((with_reducible refine AE ?_); refine AA U _ _ _ U w10.heap.size (fcs z2) U U _ _ (((Blk.new w10 _ _).alloc _).alloc _) kZ (by rfl) (AG _) ?_; intro v11t4 hLt4 hqt4 hKt4; have Ct4_a:=hKt4 _ om _ _ ((((B0_a).alloc _).alloc _).alloc _); have Ct4_t2:=hKt4 _ om _ _ ((((B0_t2).alloc _).alloc _).alloc _); have Ct4_t5:=hKt4 _ om _ _ ((AZ w10 _ _ _).alloc _); have Ct4_t6:=hKt4 _ om _ _ (Ax w10 _ _ _ _); have hCt4:=((((hB0).alloc om _).alloc (by simp <;> omega) _).alloc (by simp <;> omega) _).trans (hqt4 _ om)) | ((with_reducible refine AE ?_); refine AA U _ _ _ U (w10.heap.size+1) (fcs zs) U U _ _ Ct4_t5 kZ (by rfl) (AG _) ?_; intro v11t5 hLt5 hqt5 hKt5; have Ct5_a:=hKt5 _ om _ _ (Ct4_a); have Ct5_t2:=hKt5 _ om _ _ (Ct4_t2); have Ct5_t6:=hKt5 _ om _ _ (Ct4_t6); have Ct5_t4:=hKt5 _ om _ _ (hLt4); have hCt5:=(hCt4).trans (hqt5 _ om)) | ((with_reducible refine AE ?_); refine AA U _ _ _ U (w10.heap.size+2) (fcs zm) U U _ _ Ct5_t6 kZ (by rfl) (AG _) ?_; intro v11t6 hLt6 hqt6 hKt6; have Ct6_a:=hKt6 _ om _ _ (Ct5_a); have Ct6_t2:=hKt6 _ om _ _ (Ct5_t2); have Ct6_t4:=hKt6 _ om _ _ (Ct5_t4); have Ct6_t5:=hKt6 _ om _ _ (hLt5); have hCt6:=(hCt5).trans (hqt6 _ om)) | ((with_reducible refine AD (d:=some 14) ?_); refine AB U _ _ U (w10.heap.size+2) rfl zm _ _ _ hLt6 (AU zm) AN U kZ ?_) | ((with_reducible refine AD (d:=some 15) ?_); refine AB U _ _ U (w10.heap.size+1) rfl zs _ _ _ Ct6_t5 (AU zs) AN U kZ ?_))
 refine (c1 _).mono ?_
 rintro e w11 ⟨rfl,hb⟩
 have B1_a:Blk w11 (w.heap.size) 35 _:=Gr.blk hb (Ct6_a)
 have l1_a:=B1_a.lt
 have B1_t2:Blk w11 (w.heap.size+1) 35 _:=Gr.blk hb (Ct6_t2)
 have l1_t2:=B1_t2.lt
 have B1_t4:Blk w11 (w10.heap.size) 35 _:=Gr.blk hb (Ct6_t4)
 have l1_t4:=B1_t4.lt
 have B1_t5:Blk w11 (w10.heap.size+1) 35 _:=Gr.blk hb (Ct6_t5)
 have l1_t5:=B1_t5.lt
 have B1_t6:Blk w11 (w10.heap.size+2) 35 _:=Gr.blk hb (hLt6)
 have l1_t6:=B1_t6.lt
 have hB1:=Below.gr (hCt6) hb
 have sz1:=hB1.size
 clear hb
 go_wp2_with (first | ((with_reducible refine AE ?_); refine AA U _ _ _ U w11.heap.size (fcs y1) U U _ _ (Blk.new w11 _ _) kZ (by rfl) (AG _) ?_; intro v12 hL2 hq2 hK2; have C2_a:=hK2 _ om _ _ ((B1_a).alloc _); have C2_t2:=hK2 _ om _ _ ((B1_t2).alloc _); have C2_t4:=hK2 _ om _ _ ((B1_t4).alloc _); have C2_t5:=hK2 _ om _ _ ((B1_t5).alloc _); have C2_t6:=hK2 _ om _ _ ((B1_t6).alloc _); have hC2:=(((hB1).alloc om _)).trans (hq2 _ om)) | ((with_reducible refine AD (d:=some 17) ?_); refine AB U _ _ U w11.heap.size rfl y1 _ _ _ hL2 (AU y1) AN U kZ ?_) | ((with_reducible refine AD (d:=some 18) ?_); refine AB U _ _ U w10.heap.size rfl z2 _ _ _ C2_t4 (AU z2) AN U kZ ?_))
 refine (c2 _).mono ?_
 rintro e w12 ⟨rfl,hb⟩
 have B2_a:Blk w12 (w.heap.size) 35 _:=Gr.blk hb (C2_a)
 have l2_a:=B2_a.lt
 have B2_t2:Blk w12 (w.heap.size+1) 35 _:=Gr.blk hb (C2_t2)
 have l2_t2:=B2_t2.lt
 have B2_t4:Blk w12 (w10.heap.size) 35 _:=Gr.blk hb (C2_t4)
 have l2_t4:=B2_t4.lt
 have B2_t5:Blk w12 (w10.heap.size+1) 35 _:=Gr.blk hb (C2_t5)
 have l2_t5:=B2_t5.lt
 have B2_t6:Blk w12 (w10.heap.size+2) 35 _:=Gr.blk hb (C2_t6)
 have l2_t6:=B2_t6.lt
 have B2_t7:Blk w12 (w11.heap.size) 35 _:=Gr.blk hb (hL2)
 have l2_t7:=B2_t7.lt
 have hB2:=Below.gr (hC2) hb
 have sz2:=hB2.size
 clear hb
 go_wp2_with (first | ((with_reducible refine AE ?_); refine AA U _ _ _ U w11.heap.size (fcs y2) U U _ _ B2_t7 kZ (by rfl) (AG _) ?_; intro v13 hL3 hq3 hK3; have C3_a:=hK3 _ om _ _ (B2_a); have C3_t2:=hK3 _ om _ _ (B2_t2); have C3_t4:=hK3 _ om _ _ (B2_t4); have C3_t5:=hK3 _ om _ _ (B2_t5); have C3_t6:=hK3 _ om _ _ (B2_t6); have hC3:=(hB2).trans (hq3 _ om)) | ((with_reducible refine AD (d:=some 20) ?_); refine AB U _ _ U w11.heap.size rfl y2 _ _ _ hL3 (AU y2) AN U kZ ?_))
 refine (c3 _).mono ?_
 rintro e w13 ⟨rfl,hb⟩
 have B3_a:Blk w13 (w.heap.size) 35 _:=Gr.blk hb (C3_a)
 have l3_a:=B3_a.lt
 have B3_t2:Blk w13 (w.heap.size+1) 35 _:=Gr.blk hb (C3_t2)
 have l3_t2:=B3_t2.lt
 have B3_t4:Blk w13 (w10.heap.size) 35 _:=Gr.blk hb (C3_t4)
 have l3_t4:=B3_t4.lt
 have B3_t5:Blk w13 (w10.heap.size+1) 35 _:=Gr.blk hb (C3_t5)
 have l3_t5:=B3_t5.lt
 have B3_t6:Blk w13 (w10.heap.size+2) 35 _:=Gr.blk hb (C3_t6)
 have l3_t6:=B3_t6.lt
 have B3_t7:Blk w13 (w11.heap.size) 35 _:=Gr.blk hb (hL3)
 have l3_t7:=B3_t7.lt
 have hB3:=Below.gr (hC3) hb
 have sz3:=hB3.size
 clear hb
 go_wp2_with ((with_reducible refine AE ?_); refine AA U _ _ _ U w11.heap.size (fcs r) U U _ _ B3_t7 kZ (by rfl) (AG _) ?_; intro v14 hL4 hq4 hK4; have C4_a:=hK4 _ om _ _ (B3_a); have C4_t2:=hK4 _ om _ _ (B3_t2); have C4_t4:=hK4 _ om _ _ (B3_t4); have C4_t5:=hK4 _ om _ _ (B3_t5); have C4_t6:=hK4 _ om _ _ (B3_t6); have hC4:=(hB3).trans (hq4 _ om))
 refine AJ (λ_=>false) kZ ?_
 try simp only [Act.put]
 refine tkw 0 U (YieldsG.loadF (by rfl) _ _ U w11.heap.size rfl r _ _ hL4 (AU _) AN U kZ) ?_
 try simp only [aPS]
 refine tkw 1 U (YieldsG.loadF (by rfl) _ _ U w11.heap.size rfl r _ _ hL4 (AU _) AN U kZ) ?_
 try simp only [aPS]
 refine tkw 2 U (YieldsG.call (v:=fv m) (by rfl) 150 _ (λw9=>by go_simp; try rfl) (λw9 h9=>cm w9)) ?_
 try simp only [aPS]
 refine tkw 3 U (YieldsG.loadF (by rfl) _ _ U w.heap.size rfl x _ _ C4_a (AU _) AN U kZ) ?_
 try simp only [aPS]
 refine tkw 4 U (YieldsG.call (v:=fv n) (by rfl) 229 _ (λw9=>by go_simp; try rfl) (λw9 h9=>cn w9)) ?_
 try simp only [aPS]
 refine tkw 5 U (YieldsG.pure (v:=.bool b) (by rfl) (λw9 h9=>by go_simp; rw [run_eqGuard_fv]; simp only [Result.andThen_ok])) ?_
 try simp only [aPS]
 refine AH kZ (λu hu=>?_)
 have hbu:=Below.gr (hC4) hu
 have Et2:=Gr.blk hu C4_t2
 have lt2:=Et2.lt
 have Et7:=Gr.blk hu hL4
 have lt7:=Et7.lt
 clear eb cm cn c1 c2 c3 cR
 cases b
 ·skip
  go_wp2_with ((with_reducible refine AD (d:=some 29) ?_); refine AB U _ _ U w11.heap.size rfl r _ _ _ Et7 (AU r) AN U kZ ?_)
  refine (co _).mono ?_
  rintro e w30 ⟨rfl,hb⟩
  have B20_t2:Blk w30 (w.heap.size+1) 35 _:=Gr.blk hb (Et2)
  have l20_t2:=B20_t2.lt
  have B20_t7:Blk w30 (w11.heap.size) 35 _:=Gr.blk hb (Et7)
  have l20_t7:=B20_t7.lt
  have hB20:=Below.gr (hbu) hb
  have sz20:=hB20.size
  clear hb
  cases o
  ·skip
   go_wp2_with (first | ((with_reducible refine AD (d:=some 33) ?_); refine AB U _ _ U w11.heap.size rfl r _ _ _ B20_t7 (AU r) AN U kZ ?_) | ((with_reducible refine AE ?_); refine AA U _ _ _ U (w.heap.size+1) (fcs r) U U _ _ B20_t2 kZ (by rfl) (AG _) ?_; intro v31 hL21 hq21 hK21; have C21_t7:=hK21 _ om _ _ (B20_t7); have hC21:=(hB20).trans (hq21 _ om)))
   exact bodyPost_ret (A9 U _ _ (w.heap.size+1) _ _ _ _ U hL21 U AN U kZ) rfl ⟨rfl,hC21⟩
  ·skip
   go_wp2_with ((with_reducible refine AD (d:=some 31) ?_); refine AB U _ _ U w11.heap.size rfl r _ _ _ B20_t7 (AU r) AN U kZ ?_)
   refine (cg _).mono ?_
   rintro e w31 ⟨rfl,hb⟩
   have B21_t2:Blk w31 (w.heap.size+1) 35 _:=Gr.blk hb (B20_t2)
   have l21_t2:=B21_t2.lt
   have B21_t7:Blk w31 (w11.heap.size) 35 _:=Gr.blk hb (B20_t7)
   have l21_t7:=B21_t7.lt
   have hB21:=Below.gr (hB20) hb
   have sz21:=hB21.size
   clear hb
   go_wp2_with (first | ((with_reducible refine AE ?_); refine AA U _ _ _ U w11.heap.size (fcs g) U U _ _ B21_t7 kZ (by rfl) (AG _) ?_; intro v32 hL22 hq22 hK22; have C22_t2:=hK22 _ om _ _ (B21_t2); have hC22:=(hB21).trans (hq22 _ om)) | ((with_reducible refine AD (d:=some 33) ?_); refine AB U _ _ U w11.heap.size rfl g _ _ _ hL22 (AU g) AN U kZ ?_) | ((with_reducible refine AE ?_); refine AA U _ _ _ U (w.heap.size+1) (fcs g) U U _ _ C22_t2 kZ (by rfl) (AG _) ?_; intro vz hLz hqz hKz))
   exact bodyPost_ret (A9 U _ _ (w.heap.size+1) _ _ _ _ U hLz U AN U kZ) rfl ⟨rfl,(hC22).trans (hqz _ om)⟩
 ·skip
  go_wp2_with ((with_reducible refine AE ?_); refine AA U _ _ _ U (w.heap.size+1) _ U U _ _ Et2 kZ (by rfl) (by simp [Value.oneCell']) ?_; intro vz hLz hqz hKz)
  exact bodyPost_ret (A9 U _ _ (w.heap.size+1) _ _ _ _ U hLz U AN U kZ) rfl ⟨rfl,hbu.trans (hqz _ om)⟩
end
end
section
section
open Go.RowKit Go.Lib
def iZ2 (x:Nat):Nat:=jn (rZ1 x) 5 x
def iZ3 (x:Nat):Nat:=jn (iZ2 x) 3 (Jj x)
def KV (x:Nat):Nat:=jn (iZ3 x) 2 x
theorem Nf (x:Nat):KV x%pM=KV x:=by
 have h:KV x=sqI (iZ3 x) 2*x%pM:=rfl
 rw [h,Nat.mod_mod]
def Wp:Nat:=(((Qg*2 ^ 23+LN)*2 ^ 5+1)*2 ^ 3+SE)*2 ^ 2+1
theorem Wo:Wp=115792089237316195423570985008687907853269984665640564039457584007908834671663 - 2:=by decide +kernel
theorem Ng (x:Nat):KV x%pM=x ^ Wp%pM:=by
 unfold KV Wp
 exact Cn (Cn (Cn (Cn (Kz x) (GH x)) (Fs x)) (G6 x)) (Fs x)
theorem WZ (w:World) (x:Nat) (hx:x<(2^256)):Calls Tryz.prog 181 #[fv x] w λe w'=>e=.returned (fv (KV x))∧Below w.heap.size w w':=by
 obtain ⟨z2,hz2⟩:=xE (Jj x)
 obtain ⟨zs,hzs⟩:=xE (GV x)
 obtain ⟨zm,hzm⟩:=xE (IZ x)
 obtain ⟨y1,hy1⟩:=xE (rZ1 x)
 obtain ⟨y2,hy2⟩:=xE (iZ2 x)
 obtain ⟨y3,hy3⟩:=xE (iZ3 x)
 obtain ⟨y4,hy4⟩:=xE (KV x)
 have cR:∀ w,Calls Tryz.prog 227 #[fv x] w λe w'=>e=.returned (.tuple #[fv z2,fv zs,fv zm])∧Below w.heap.size w w':=by
  intro w; rw [hz2,hzs,hzm]; exact NA w x hx
 have c1:=λw=>CA w zm 23 zs y1 23 U (by rw [hzm,hzs,hy1]; rfl) (by rw [hzm]; exact Jl x) (by rw [hzs]; exact Jk x) om
 have c2:=λw=>CA w y1 5 x y2 5 U (by rw [hy1,hy2]; rfl) (by rw [hy1]; exact Dn _ _ _) hx om
 have c3:=λw=>CA w y2 3 z2 y3 3 U (by rw [hy2,hz2,hy3]; rfl) (by rw [hy2]; exact Dn _ _ _) (by rw [hz2]; exact Lz x) om
 have c4:=λw=>CA w y3 2 x y4 2 U (by rw [hy3,hy4]; rfl) (by rw [hy3]; exact Dn _ _ _) hx om
 rw [← hy4]
 obtain ⟨x0,x1,x2,x3,fx⟩:=Ae x hx
 have FX:=Lib.hid fx
 rw [fx] at cR ⊢
 clear fx hx hz2 hzs hzm hy1 hy2 hy3 hy4
 go_enter Tryz.func181,Tryz.ntmps181
 go_wp2_with fail
 refine (cR _).mono ?_
 rintro e w10 ⟨rfl,hb⟩
 have B0_a:Blk w10 (w.heap.size) 35 _:=Gr.blk hb (Blk.eq_ ((Blk.new w _ _).alloc _) (Bc FX.out).symm)
 have l0_a:=B0_a.lt
 have B0_t2:Blk w10 (w.heap.size+1) 35 _:=Gr.blk hb (AZ w _ _ _)
 have l0_t2:=B0_t2.lt
 have hB0:=Below.gr (Ad w _ _) hb
 have sz0:=hB0.size
 clear hb
 go_wp2_with (first | ((with_reducible refine AE ?_); refine AA U _ _ _ U w10.heap.size (fcs z2) U U _ _ (((Blk.new w10 _ _).alloc _).alloc _) kZ (by rfl) (AG _) ?_; intro v11t3 hLt3 hqt3 hKt3; have Ct3_a:=hKt3 _ om _ _ ((((B0_a).alloc _).alloc _).alloc _); have Ct3_t2:=hKt3 _ om _ _ ((((B0_t2).alloc _).alloc _).alloc _); have Ct3_t4:=hKt3 _ om _ _ ((AZ w10 _ _ _).alloc _); have Ct3_t5:=hKt3 _ om _ _ (Ax w10 _ _ _ _); have hCt3:=((((hB0).alloc om _).alloc (by simp <;> omega) _).alloc (by simp <;> omega) _).trans (hqt3 _ om)) | ((with_reducible refine AE ?_); refine AA U _ _ _ U (w10.heap.size+1) (fcs zs) U U _ _ Ct3_t4 kZ (by rfl) (AG _) ?_; intro v11t4 hLt4 hqt4 hKt4; have Ct4_a:=hKt4 _ om _ _ (Ct3_a); have Ct4_t2:=hKt4 _ om _ _ (Ct3_t2); have Ct4_t5:=hKt4 _ om _ _ (Ct3_t5); have Ct4_t3:=hKt4 _ om _ _ (hLt3); have hCt4:=(hCt3).trans (hqt4 _ om)) | ((with_reducible refine AE ?_); refine AA U _ _ _ U (w10.heap.size+2) (fcs zm) U U _ _ Ct4_t5 kZ (by rfl) (AG _) ?_; intro v11t5 hLt5 hqt5 hKt5; have Ct5_a:=hKt5 _ om _ _ (Ct4_a); have Ct5_t2:=hKt5 _ om _ _ (Ct4_t2); have Ct5_t3:=hKt5 _ om _ _ (Ct4_t3); have Ct5_t4:=hKt5 _ om _ _ (hLt4); have hCt5:=(hCt4).trans (hqt5 _ om)) | ((with_reducible refine AD (d:=some 13) ?_); refine AB U _ _ U (w10.heap.size+2) rfl zm _ _ _ hLt5 (AU zm) AN U kZ ?_) | ((with_reducible refine AD (d:=some 14) ?_); refine AB U _ _ U (w10.heap.size+1) rfl zs _ _ _ Ct5_t4 (AU zs) AN U kZ ?_))
 refine (c1 _).mono ?_
 rintro e w11 ⟨rfl,hb⟩
 have B1_a:Blk w11 (w.heap.size) 35 _:=Gr.blk hb (Ct5_a)
 have l1_a:=B1_a.lt
 have B1_t2:Blk w11 (w.heap.size+1) 35 _:=Gr.blk hb (Ct5_t2)
 have l1_t2:=B1_t2.lt
 have B1_t3:Blk w11 (w10.heap.size) 35 _:=Gr.blk hb (Ct5_t3)
 have l1_t3:=B1_t3.lt
 have B1_t4:Blk w11 (w10.heap.size+1) 35 _:=Gr.blk hb (Ct5_t4)
 have l1_t4:=B1_t4.lt
 have B1_t5:Blk w11 (w10.heap.size+2) 35 _:=Gr.blk hb (hLt5)
 have l1_t5:=B1_t5.lt
 have hB1:=Below.gr (hCt5) hb
 have sz1:=hB1.size
 clear hb
 go_wp2_with (first | ((with_reducible refine AE ?_); refine AA U _ _ _ U w11.heap.size (fcs y1) U U _ _ (Blk.new w11 _ _) kZ (by rfl) (AG _) ?_; intro v12 hL2 hq2 hK2; have C2_a:=hK2 _ om _ _ ((B1_a).alloc _); have C2_t2:=hK2 _ om _ _ ((B1_t2).alloc _); have C2_t3:=hK2 _ om _ _ ((B1_t3).alloc _); have C2_t4:=hK2 _ om _ _ ((B1_t4).alloc _); have C2_t5:=hK2 _ om _ _ ((B1_t5).alloc _); have hC2:=(((hB1).alloc om _)).trans (hq2 _ om)) | ((with_reducible refine AD (d:=some 16) ?_); refine AB U _ _ U w11.heap.size rfl y1 _ _ _ hL2 (AU y1) AN U kZ ?_) | ((with_reducible refine AD (d:=some 17) ?_); refine AB U _ _ U w.heap.size rfl x _ _ _ C2_a (AU x) AN U kZ ?_))
 refine (c2 _).mono ?_
 rintro e w12 ⟨rfl,hb⟩
 have B2_a:Blk w12 (w.heap.size) 35 _:=Gr.blk hb (C2_a)
 have l2_a:=B2_a.lt
 have B2_t2:Blk w12 (w.heap.size+1) 35 _:=Gr.blk hb (C2_t2)
 have l2_t2:=B2_t2.lt
 have B2_t3:Blk w12 (w10.heap.size) 35 _:=Gr.blk hb (C2_t3)
 have l2_t3:=B2_t3.lt
 have B2_t4:Blk w12 (w10.heap.size+1) 35 _:=Gr.blk hb (C2_t4)
 have l2_t4:=B2_t4.lt
 have B2_t5:Blk w12 (w10.heap.size+2) 35 _:=Gr.blk hb (C2_t5)
 have l2_t5:=B2_t5.lt
 have B2_t6:Blk w12 (w11.heap.size) 35 _:=Gr.blk hb (hL2)
 have l2_t6:=B2_t6.lt
 have hB2:=Below.gr (hC2) hb
 have sz2:=hB2.size
 clear hb
 go_wp2_with (first | ((with_reducible refine AE ?_); refine AA U _ _ _ U w11.heap.size (fcs y2) U U _ _ B2_t6 kZ (by rfl) (AG _) ?_; intro v13 hL3 hq3 hK3; have C3_a:=hK3 _ om _ _ (B2_a); have C3_t2:=hK3 _ om _ _ (B2_t2); have C3_t3:=hK3 _ om _ _ (B2_t3); have C3_t4:=hK3 _ om _ _ (B2_t4); have C3_t5:=hK3 _ om _ _ (B2_t5); have hC3:=(hB2).trans (hq3 _ om)) | ((with_reducible refine AD (d:=some 19) ?_); refine AB U _ _ U w11.heap.size rfl y2 _ _ _ hL3 (AU y2) AN U kZ ?_) | ((with_reducible refine AD (d:=some 20) ?_); refine AB U _ _ U w10.heap.size rfl z2 _ _ _ C3_t3 (AU z2) AN U kZ ?_))
 refine (c3 _).mono ?_
 rintro e w13 ⟨rfl,hb⟩
 have B3_a:Blk w13 (w.heap.size) 35 _:=Gr.blk hb (C3_a)
 have l3_a:=B3_a.lt
 have B3_t2:Blk w13 (w.heap.size+1) 35 _:=Gr.blk hb (C3_t2)
 have l3_t2:=B3_t2.lt
 have B3_t3:Blk w13 (w10.heap.size) 35 _:=Gr.blk hb (C3_t3)
 have l3_t3:=B3_t3.lt
 have B3_t4:Blk w13 (w10.heap.size+1) 35 _:=Gr.blk hb (C3_t4)
 have l3_t4:=B3_t4.lt
 have B3_t5:Blk w13 (w10.heap.size+2) 35 _:=Gr.blk hb (C3_t5)
 have l3_t5:=B3_t5.lt
 have B3_t6:Blk w13 (w11.heap.size) 35 _:=Gr.blk hb (hL3)
 have l3_t6:=B3_t6.lt
 have hB3:=Below.gr (hC3) hb
 have sz3:=hB3.size
 clear hb
 go_wp2_with (first | ((with_reducible refine AE ?_); refine AA U _ _ _ U w11.heap.size (fcs y3) U U _ _ B3_t6 kZ (by rfl) (AG _) ?_; intro v14 hL4 hq4 hK4; have C4_a:=hK4 _ om _ _ (B3_a); have C4_t2:=hK4 _ om _ _ (B3_t2); have C4_t3:=hK4 _ om _ _ (B3_t3); have C4_t4:=hK4 _ om _ _ (B3_t4); have C4_t5:=hK4 _ om _ _ (B3_t5); have hC4:=(hB3).trans (hq4 _ om)) | ((with_reducible refine AD (d:=some 22) ?_); refine AB U _ _ U w11.heap.size rfl y3 _ _ _ hL4 (AU y3) AN U kZ ?_) | ((with_reducible refine AD (d:=some 23) ?_); refine AB U _ _ U w.heap.size rfl x _ _ _ C4_a (AU x) AN U kZ ?_))
 refine (c4 _).mono ?_
 rintro e w14 ⟨rfl,hb⟩
 have B4_a:Blk w14 (w.heap.size) 35 _:=Gr.blk hb (C4_a)
 have l4_a:=B4_a.lt
 have B4_t2:Blk w14 (w.heap.size+1) 35 _:=Gr.blk hb (C4_t2)
 have l4_t2:=B4_t2.lt
 have B4_t3:Blk w14 (w10.heap.size) 35 _:=Gr.blk hb (C4_t3)
 have l4_t3:=B4_t3.lt
 have B4_t4:Blk w14 (w10.heap.size+1) 35 _:=Gr.blk hb (C4_t4)
 have l4_t4:=B4_t4.lt
 have B4_t5:Blk w14 (w10.heap.size+2) 35 _:=Gr.blk hb (C4_t5)
 have l4_t5:=B4_t5.lt
 have B4_t6:Blk w14 (w11.heap.size) 35 _:=Gr.blk hb (hL4)
 have l4_t6:=B4_t6.lt
 have hB4:=Below.gr (hC4) hb
 have sz4:=hB4.size
 clear hb
 go_wp2_with ((with_reducible refine AE ?_); refine AA U _ _ _ U (w.heap.size+1) (fcs y4) U U _ _ B4_t2 kZ (by rfl) (AG _) ?_; intro v15 hL5 hq5 hK5; have C5_a:=hK5 _ om _ _ (B4_a); have C5_t3:=hK5 _ om _ _ (B4_t3); have C5_t4:=hK5 _ om _ _ (B4_t4); have C5_t5:=hK5 _ om _ _ (B4_t5); have C5_t6:=hK5 _ om _ _ (B4_t6); have hC5:=(hB4).trans (hq5 _ om))
 exact bodyPost_ret (results_cell_row U _ _ (w.heap.size+1) _ _ (0,0) _ U hL5 AN U kZ) rfl ⟨rfl,hC5⟩
end
end
section
namespace Cu
open Go.RowKit Sy
instance npM:NeZero pM:=⟨by unfold pM; decide⟩
abbrev Fp:=Fin pM
theorem Zu:pM<(2^256):=by rw [Er]; decide
theorem lt4 (a:Fp):a.val<(2^256):=Nat.lt_trans a.isLt Zu
def AR (a:Fp):Fp:=⟨KV a.val,by rw [← Nf]; exact mod_lt_p _⟩
def nat (k:Nat) (h:k<pM):Fp:=⟨k,h⟩
theorem Pz (a b:Fp):subP a.val b.val=(a - b).val:=by
 have hb:=b.isLt
 show (a.val+(pM - b.val%pM))%pM=((pM - b.val)+a.val)%pM
 rw [Nat.mod_eq_of_lt hb,Nat.add_comm]
theorem P1 (a:Fp):negP a.val=(-a).val:=by
 have hb:=a.isLt
 show (pM - a.val%pM)%pM=(pM - a.val)%pM
 rw [Nat.mod_eq_of_lt hb]
theorem BZ (a b:Fp) (w:World):Calls Tryz.prog 150 #[fv a.val,fv b.val] w (Gets w (fv (a*b).val)):=mulF_any w a.val b.val (lt4 a) (lt4 b)
theorem KN (a b:Fp) (w:World):Calls Tryz.prog 177 #[fv a.val,fv b.val] w (Gets w (fv (a+b).val)):=E0 w a.val b.val (lt4 a) (lt4 b)
theorem DD (a b:Fp) (w:World):Calls Tryz.prog 149 #[fv a.val,fv b.val] w (Gets w (fv (a - b).val)):=by rw [← Pz]; exact subF_any w a.val b.val (lt4 a) (lt4 b)
theorem Xa (a:Fp) (w:World):Calls Tryz.prog 151 #[fv a.val] w (Gets w (fv (-a).val)):=by rw [← P1]; exact G' w a.val (lt4 a)
theorem T9 (a:Fp) (w:World):Calls Tryz.prog 181 #[fv a.val] w (Gets w (fv (AR a).val)):=WZ w a.val (lt4 a)
theorem NP (k:Nat) (h:k<pM) (hk:k<18446744073709551616) (w:World):Calls Tryz.prog 174 #[.int .u64 (k:Int)] w (Gets w (fv (nat k h).val)):=of_any w k hk
theorem WY (p q a:Nat) (hp:Nt.Pr p) (hq:q+1=p - 1) (h:a%p≠0):a*(a ^ q%p)%p=1:=by
 rw [Nat.mul_mod_mod, ← Nat.pow_succ',show q.succ=p - 1 from hq]
 exact Nt.flt hp a h
theorem UK (a:Fp) (h:a≠0):a*AR a=1:=by
 have hp:Nt.Pr pM:=Nt.pr_p
 have ha:a.val%pM≠0:=by
  rw [Nat.mod_eq_of_lt a.isLt]
  exact λe=>h (Fin.ext e)
 obtain ⟨q,hq⟩:=xE Wp
 have hq1:q+1=pM - 1:=by rw [hq]; decide +kernel
 have e1:=Ng a.val
 rw [← hq] at e1
 have e2:=WY pM q a.val hp hq1 ha
 rw [← e1,Nat.mul_mod_mod] at e2
 exact Fin.ext e2
theorem Uc (p q r x:Nat) (hp:Nt.Pr p) (hq:p - 1=3*q) (h3:x ^ 3%p=r) (hx:x%p≠0):r ^ q%p=1:=by
 have:=Nt.flt hp x hx
 rw [hq,Nat.pow_mul,Nat.pow_mod,h3] at this
 exact this
def Li:Nat:=38597363079105398474523661669562635951089994888546854679819194669302944890554
theorem Q7:pM - 1=3*Li:=by decide +kernel
theorem V9:(pM - 7) ^ Li%pM≠1:=by
 rw [← Nt.pow_is 256 pM (pM - 7) Li (by decide +kernel) (by decide +kernel)]
 decide +kernel
theorem L8 (x y:Fp) (h:y*y=x*x*x+7):y≠0:=by
 rintro rfl
 have hx:x≠0:=by
  rintro rfl
  have:=congrArg Fin.val h
  exact absurd this (by decide +kernel)
 have ha:x.val%pM≠0:=by
  rw [Nat.mod_eq_of_lt x.isLt]
  exact λe=>hx (Fin.ext e)
 have h3:x.val ^ 3%pM=pM - 7:=by
  have h4:x*x*x=⟨pM - 7,by decide +kernel⟩:=by
   have e7:(⟨pM - 7,by decide +kernel⟩:Fp) = -7:=by decide +kernel
   rw [e7]
   clear ha hx
   grobner
  have h5:=congrArg Fin.val h4
  have h6:(x*x*x).val=x.val ^ 3%pM:=by
   show x.val*x.val%pM*x.val%pM=x.val ^ 3%pM
   rw [Nat.mod_mul_mod,show x.val ^ 3=x.val*x.val*x.val by rw [Nat.pow_succ,Nat.pow_succ,Nat.pow_one]]
  rw [← h6,h5]
 exact V9 (Uc pM Li _ x.val Nt.pr_p Q7 h3 ha)
theorem Oc (p k:Nat) (ho:p%2=1) (h:k<p) (h2:(k+k)%p=0):k=0:=by
 rcases Nat.lt_or_ge (k+k) p with hl | hl
 ·rw [Nat.mod_eq_of_lt hl] at h2
  omega
 ·rw [Nat.mod_eq_sub_mod hl,Nat.mod_eq_of_lt om] at h2
  omega
theorem fld:Ec.Fld pM AR where
 one:=UK
 two x h:=Fin.ext (Oc pM x.val (by decide +kernel) x.isLt (congrArg Fin.val h))
 noTwo:=L8
end Cu
end
section
namespace Nm
open Go.RowKit Go.Lib
theorem Bw (W:World) (n m:Nat) (hn:n<(2^256)) (hm:m<(2^256)):(Op.equalIn 10000 87 (fv n) (fv m)).run Tryz.prog W=.ok (decide (n=m)) W:=by
 rw [Do,Do]
 have h:=Ch W 9998 87 24 4 AM B2 (λW=>kZ) (wl n) (wl m) rfl U
 rw [LZ hn hm] at h
 exact h
theorem run_eql_fv (W:World) (n m:Nat) (hn:n<(2^256)) (hm:m<(2^256)):(binOp .eql 87 (fv n) (fv m)).run Tryz.prog W=.ok (.bool (decide (n=m))) W:=by
 have h:=Bw W n m hn hm
 rw [Do,Do] at h ⊢
 rw [run_eql_struct,h]
 rfl
theorem run_neq_fv (W:World) (n m:Nat) (hn:n<(2^256)) (hm:m<(2^256)):(binOp .neq 87 (fv n) (fv m)).run Tryz.prog W=.ok (.bool (decide (n≠m))) W:=by
 have h:=Bw W n m hn hm
 rw [Do,Do] at h ⊢
 rw [run_neq_struct,h]
 by_cases e:n=m <;> simp [e]
theorem run_eqGuard_fv (op:BinOp) (x y:Operand) (n m:Nat) (W:World):(eqGuard op 87 x y (fv n) (fv m)).run Tryz.prog W=.ok () W:=by
 rw [AU,AU]
 go_simp
end Nm
end
section
namespace Cu
open Go.RowKit Sy
abbrev Pt:=Ec.Pt pM
abbrev K4:Nat:=(2^256)
def fws (n:Nat):List Value:=[qv (n%18446744073709551616),qv (n / 18446744073709551616%18446744073709551616),qv (n / 340282366920938463463374607431768211456%18446744073709551616),qv (n / 6277101735386680763835789423207666416102355444464034512896%18446744073709551616)]
theorem Yr (n:Nat):fv n=.agg (fws n).toArray:=rfl
def pcs (x y:Nat) (i:Bool):Array Value:=(fws x++(fws y++[Value.bool i])).toArray
def pv (x y:Nat) (i:Bool):Value:=.agg (pcs x y i)
def A6 (x y:Nat) (i:Bool):Bool:=if i then (decide (x=0) && decide (y=0)) else decide (x<pM) && decide (y<pM) && decide (y*y%pM=(x*x%pM*x%pM+7)%pM)
def dec (x y:Nat) (i:Bool):Pt:=if h:i=false∧x<pM∧y<pM∧y*y%pM=(x*x%pM*x%pM+7)%pM then some (⟨x,h.2.1⟩,⟨y,h.2.2.1⟩) else none
def ptv:Pt→Value
 | none=>pv 0 0 true
 | some (x,y)=>pv x.val y.val false
theorem C8 (x y:Nat) (i:Bool):Ec.On (dec x y i):=by
 unfold dec
 split
 ·rename_i h
  show (_:Fp)*_=_*_*_+7
  refine Fin.ext ?_
  exact h.2.2.2
 ·trivial
theorem GQ (x y:Fp) (h:y*y=x*x*x+7):dec x.val y.val false=some (x,y):=by
 unfold dec
 rw [dif_pos ⟨rfl,x.isLt,y.isLt,congrArg Fin.val h⟩]
theorem Qi (x y:Nat):dec x y true=none:=by
 unfold dec
 rw [dif_neg (by simp)]
theorem Ny:dec 0 0 true=none:=Qi 0 0
theorem SH (x y:Nat) (h:A6 x y false=true):∃ (hx:x<pM) (hy:y<pM),dec x y false=some (⟨x,hx⟩,⟨y,hy⟩):=by
 unfold A6 at h
 simp only [Bool.false_eq_true,if_false,Bool.and_eq_true,decide_eq_true_eq] at h
 refine ⟨h.1.1,h.1.2,?_⟩
 unfold dec
 rw [dif_pos ⟨rfl,h.1.1,h.1.2,h.2⟩]
theorem SG (x y:Nat) (i:Bool) (h:A6 x y i=false):dec x y i=none:=by
 unfold A6 at h
 unfold dec
 rw [dif_neg]
 rintro ⟨rfl,h1,h2,h3⟩
 simp [h1,h2,h3] at h
theorem K5 (x y:Nat) (i:Bool) (h:A6 x y i=true):ptv (dec x y i)=pv x y i:=by
 cases i
 ·obtain ⟨hx,hy,e⟩:=SH x y h
  rw [e]; rfl
 ·unfold A6 at h
  simp only [if_true,Bool.and_eq_true,decide_eq_true_eq] at h
  rw [Qi,h.1,h.2]; rfl
theorem K3 (x y:Nat) (i:Bool) (h:A6 x y i=false):ptv (dec x y i)=pv 0 0 true:=by rw [SG x y i h]; rfl
theorem L2 (P:Pt) (h:Ec.On P):∃ x y i,x<K4∧y<K4∧ptv P=pv x y i∧dec x y i=P∧A6 x y i=true:=by
 rcases P with _ | ⟨x,y⟩
 ·exact ⟨0,0,true,by decide,by decide,rfl,Ny,rfl⟩
 ·refine ⟨x.val,y.val,false,lt4 x,lt4 y,rfl,GQ x y h,?_⟩
  unfold A6
  rw [if_neg (by simp)]
  simp only [Bool.and_eq_true,decide_eq_true_eq]
  exact ⟨⟨x.isLt,y.isLt⟩,congrArg Fin.val h⟩
theorem Iz (cs:Array Value) (o:Nat) (W:World):(part 35 cs o).run Tryz.prog W=.ok (.agg (cs.extract o (o+4))) W:=by
 have h1:=Tryz.isAgg35
 have h2:=Tryz.sizeOf35
 simp [part,h1,h2,go_sem]
theorem K7 (cs:Array Value) (o:Nat) (b:Bool) (hb:cs[o]? = some (.bool b)) (W:World):(part 4 cs o).run Tryz.prog W=.ok (.bool b) W:=by
 have h1:=Tryz.isAgg4
 simp [part,h1,hb,go_sem]
theorem XY (x y:Nat) (i:Bool):(pcs x y i).extract 0 (0+4)=fcs x:=rfl
theorem XX (x y:Nat) (i:Bool):(pcs x y i).extract 4 (4+4)=fcs y:=rfl
theorem XZ (x y:Nat) (i:Bool):(pcs x y i)[8]? = some (.bool i):=rfl
theorem LK (W:World) (n m:Nat) (hn:n<K4) (hm:m<K4):(Op.equalIn 9999 35 (.agg (fcs n)) (.agg (fcs m))).run Tryz.prog W=.ok (decide (n=m)) W:=by
 have h:=Ch W 9997 35 24 4 AN B2 (λW=>kZ) (wl n) (wl m) rfl U
 rw [LZ hn hm] at h
 exact h
theorem Nv (W:World) (a b:Bool):(Op.equalIn 9999 4 (.bool a) (.bool b)).run Tryz.prog W=.ok (a == b) W:=by
 cases a <;> cases b <;> kernel_rfl
def CH (x y:Nat) (i:Bool) (u v:Nat) (j:Bool):Bool:=decide (x=u) && (decide (y=v) && (i == j))
theorem JY (W:World) (x y:Nat) (i:Bool) (u v:Nat) (j:Bool) (hx:x<K4) (hy:y<K4) (hu:u<K4) (hv:v<K4) :
  (binOp .eql 37 (pv x y i) (pv u v j)).run Tryz.prog W=.ok (.bool (CH x y i u v j)) W:=by
 have hS:Tryz.prog.underlying 37=some (.struct (Tryz.prog.fieldsOf 37)):=kZ
 have hpp:Tryz.prog.stoodInHeld 37=false:=kZ
 unfold pv
 rw [run_eql_struct,show (10000:Nat)=9999+1 from rfl,run_equalIn_struct W 9999 37 _ _ hS hpp]
 simp only [Program.fieldsOf,AX]
 have a1:∀ W,(part 35 (pcs x y i) 0).run Tryz.prog W=.ok (.agg (fcs x)) W:=λW=>by rw [Iz,XY]
 have a2:∀ W,(part 35 (pcs u v j) 0).run Tryz.prog W=.ok (.agg (fcs u)) W:=λW=>by rw [Iz,XY]
 have a3:∀ W,(part 35 (pcs x y i) 4).run Tryz.prog W=.ok (.agg (fcs y)) W:=λW=>by rw [Iz,XX]
 have a4:∀ W,(part 35 (pcs u v j) 4).run Tryz.prog W=.ok (.agg (fcs v)) W:=λW=>by rw [Iz,XX]
 have a5:∀ W,(part 4 (pcs x y i) 8).run Tryz.prog W=.ok (.bool i) W:=λW=>K7 _ 8 i (XZ x y i) W
 have a6:∀ W,(part 4 (pcs u v j) 8).run Tryz.prog W=.ok (.bool j) W:=λW=>K7 _ 8 j (XZ u v j) W
 have e1:∀ W,_:=λW=>LK W x u hx hu
 have e2:∀ W,_:=λW=>LK W y v hy hv
 have e3:∀ W,_:=λW=>Nv W i j
 unfold CH
 generalize decide (x=u)=b1 at *
 generalize decide (y=v)=b2 at *
 generalize (i == j)=b3 at *
 cases b1 <;> cases b2 <;> cases b3 <;> simp [Op.eqFields,a1,a2,a3,a4,a5,a6,e1,e2,e3,Sem.run_bind,Sem.run_ite]
theorem Fk (op:BinOp) (x y:Operand) (a b:Nat) (i:Bool) (u v:Nat) (j:Bool) (W:World):(eqGuard op 37 x y (pv a b i) (pv u v j)).run Tryz.prog W=.ok () W:=by
 unfold pv
 go_simp
end Cu
end
section
namespace Cu
open Go.ChangeShapes Go.WideShapes Go.ChangeAt Go.RowKit Go.Deep
theorem OS {H:Type} {enc:TypeId×Value→H} {P:Program} {W:World} {b:Nat} {sp:Nat→Bool} {held:Bool} {fuel:Nat} {t q:TypeId} {c0 c1 c2 c3:Value} {x:DataW H×List MemPlace} (ht:P.underlying t=some (.array 4 q)) (hq:P.underlying q=some (.int .u64)) (hcq:P.cellsOf q=1)
  (hf:DataW.trod enc P W b sp held fuel t [c0,c1,c2,c3]=some x):∃ n:Nat,n<K4∧[c0,c1,c2,c3]=fws n:=by
 obtain ⟨y0,y1,y2,y3,m,_,g0,g1,g2,g3⟩:=trod_array4 ht hcq hf
 obtain ⟨z0,e0,_,w0⟩:=DataW.trod_int hq g0
 obtain ⟨z1,e1,_,w1⟩:=DataW.trod_int hq g1
 obtain ⟨z2,e2,_,w2⟩:=DataW.trod_int hq g2
 obtain ⟨z3,e3,_,w3⟩:=DataW.trod_int hq g3
 obtain ⟨a,rfl,ha⟩:=JK w0
 obtain ⟨b,rfl,hb⟩:=JK w1
 obtain ⟨c,rfl,hc⟩:=JK w2
 obtain ⟨e,rfl,he⟩:=JK w3
 simp only [List.cons.injEq,and_true] at e0 e1 e2 e3
 subst e0 e1 e2 e3
 refine ⟨_,LH a b c e ha hb hc he,?_⟩
 have h:=DM a b c e ha hb hc he
 rw [Yr] at h
 injection h with h
 exact congrArg Array.toList h
end Cu
end
section
namespace Sy
open Go.RowKit
theorem St.setNew {w0:Base} {w w':World} {L:AC} (h:St w0 w L) (hg:Gr w w') {i g:Nat} {t:TypeId} {cs:Array Value} (hi:i<L.length) (hn:w.heap.size≤g) (hb:Blk w' g t cs):St w0 w' (L.set i (g,t,cs)):=by
 have h':=h.gr hg
 refine ⟨h'.below,λg1 t1 c1 hm=>?_,?_,h'.size,h'.non⟩
 ·rcases List.mem_or_eq_of_mem_set hm with hm | e
  ·exact ⟨(h.blk g1 t1 c1 hm).1,hg.blk (h.blk g1 t1 c1 hm).2⟩
  ·obtain ⟨rfl,rfl,rfl⟩:g1=g∧t1=t∧c1=cs:=by simpa using e
   exact ⟨Nat.le_trans h.below.size hn,hb⟩
 ·rw [List.map_set]
  have hlt:∀ x∈L.map (·.1),x<g:=λx hx=>by
   obtain ⟨⟨g1,t1,c1⟩,hm,rfl⟩:=List.mem_map.1 hx
   exact Nat.lt_of_lt_of_le (h.blk g1 t1 c1 hm).2.lt hn
  have hp:=h.apart
  generalize L.map (·.1)=l at hlt hp
  clear h hb hi
  induction l generalizing i with
  | nil=>exact List.Pairwise.nil
  | cons x l ih =>
   obtain ⟨h1,h2⟩:=List.nodup_cons.1 hp
   cases i with
   | zero =>
    refine List.nodup_cons.2 ⟨λhm=>?_,h2⟩
    have:=hlt g (List.mem_cons_of_mem _ hm)
    omega
   | succ i =>
    refine List.nodup_cons.2 ⟨λhm=>?_,ih (λy hy=>hlt y (List.mem_cons_of_mem _ hy)) h2⟩
    rcases List.mem_or_eq_of_mem_set hm with hm | e
    ·exact h1 hm
    ·have:=hlt x (List.mem_cons_self ..)
     omega
theorem Bm (b f q:Nat):(⟨b,f,none⟩:Addr).add q=⟨b,f+q,none⟩:=by unfold Addr.add; split <;> simp_all
section
variable {P:Program} {w0:Base} {n:Nat} {Q:Exit→Act→World→Prop} {F:AO} {L:AC} {ops:Array Oper} {o:Oper} {l:List Oper}
theorem Quiet.callS {v:Value} (f:FuncId) (args:Array Value) (he:∀ w,(execOp (evF F) o).run P w=.ok (.enter f args) w)
  (h:∀ w,St w0 w L→Calls P f args w (Gets w v)):Quiet P w0 F L o v:=λw hw=>by
 unfold Dq; rw [he w]; exact h w hw
theorem Writes.one (f:Nat) {g:Nat} {t:TypeId} {cs cs':Array Value} (ty:TypeId) (v:Value) (x y:Operand) (ho:o.op=.store ty x y) (hx:evF F x=pT g f) (hy:evF F y=v)
  (hi:(P.info? ty).map (·.size)=some 1) (hv:v.cells=#[v]) (h1:v.oneCell'=true) (hk:f<cs.size) (hcs:cs.setIfInBounds f v=cs'):Writes P F o g t cs cs' :=
 λw hb=>⟨w.setCell ⟨g,f,none⟩ v,by
  have hth:=hb.there f 1 hk
  have hst:=run_storeCells_cells (P:=P) g f [v] 0 w (λj hj=>by simpa using (hth j hj).1) (λj hj=>by simpa using (hth j hj).2) (λu hu=>by rw [List.mem_singleton.1 hu]; exact h1)
  unfold execOp
  cases hq:P.info? ty with
  | none=>simp [hq] at hi
  | some i =>
   have hs:i.size=1:=by simpa [hq] using hi
   simp only [World.setCells,Nat.add_zero] at hst
   simp [ho,hx,hy,Instr.storeAt,Instr.sureAddr,storeVar,sizeOf,typeInfo,hq,hs,hv,hst,Result.andThen],
  Cs (World.grownBy.refl w (some g)) (.inl U) v,hcs ▸ hb.set_ f v⟩
theorem append (hg:Bv ops n F o=true) (ts e:TypeId) (inf:TypeInfo) (z:Value) (ht:P.underlying ts=some (.slice e)) (hinf:P.info? e=some inf) (hz:inf.zero=some z) (hs1:inf.size=1) (hb1:inf.bytes=1) (hzs:z.cells.size=1)
  (s x:Operand) (ho:o.op=.call { callee:=.builtin .append,args:=#[s,x],argTypes:=#[ts,ts] })
  (i g len cap:Nat) (cs:Array Value) (old:List Value) (hs:evF F s=.slice (pA g) len cap) (hL:L[i]? = some (g,e,cs)) (hold:cs.toList.take len=old) (hlen:old.length=len) (hcap:cs.size=cap) (hmax:cap≤maxLen)
  (j gx fx m c:Nat) (tx:TypeId) (cx:Array Value) (news:List Value) (hx:evF F x=.slice (some ⟨gx,fx,none⟩) m c) (hLx:L[j]? = some (gx,tx,cx)) (hnews:(cx.toList.drop fx).take m=news) (hm:news.length=m) (h1:∀ u∈news,u.oneCell'=true) (hsmall:len+m≤140737488355328)
  (h:∀ (g' cap':Nat) (sp:List Value),sp.length+(len+m)=cap'→cap'≤maxLen→wpS P w0 n ops Q (Bo F o.dst (.slice (some ⟨g',0,none⟩) (len+m) cap')) (L.set i (g',e,(old++(news++sp)).toArray)) l):wpS P w0 n ops Q F L (o::l):=λa w ha hw=>by
 obtain ⟨k1,_,k3,_⟩:=AQ hg
 refine wpList_step λK hK=>?_
 rw [if_pos (ha.wanted k1)]
 have hb:=hw.get hL
 have hbx:=hw.get hLx
 have hle:len≤cap:=by
  have:=congrArg List.length hold
  rw [List.length_take,hlen,Array.length_toList,hcap] at this
  omega
 have hn:∀ q u,news[q]? = some u→w.cell? ((⟨gx,fx,none⟩:Addr).add q)=some u:=λq u hq=>by
  rw [Bm,hbx.cell]
  rw [← hnews] at hq
  have hlt:q<m:=by
   have:=(List.getElem?_eq_some_iff.1 hq).1
   simp at this; omega
  rw [List.getElem?_take_of_lt hlt,List.getElem?_drop] at hq
  simpa using hq
 have hown:w.ownsRow 0 e 1 (.slice (pA g) len cap) len old:=⟨by omega,.inr ⟨g,cap,cs,rfl,Nat.zero_le _,hb,hle,hmax,by omega,by rw [Nat.mul_one]; exact hold⟩⟩
 have KT:∀ v' w',(Builtin.append_ #[ts,ts] o.type #[.slice (pA g) len cap,.slice (some ⟨gx,fx,none⟩) m c]).run P w=.ok v' w'→K (a.put o.dst v') w'→o.wp P a w K Q:=λv' w' hr hk=>by
  unfold Oper.wp
  rw [Ao hg ha]
  unfold execOp
  simp only [ho,resolve,invoke,builtin,Sem.run_bind,Sem.run_pure,Result.andThen_ok,List.map_toArray,List.map_cons,List.map_nil,hs,hx,hr]
  exact hk
 have last:∀ (w':World) (g' cap':Nat) (cur:Array Value),cur.size=cap'→cap'≤maxLen→cur.toList.take (len+m)=old++news→St w0 w' (L.set i (g',e,cur))→K (a.put o.dst (.slice (some ⟨g',0,none⟩) (len+m) cap')) w':=λw' g' cap' cur h2 h3 h4 h5=>by
  have hc:cur=(old++(news++cur.toList.drop (len+m))).toArray:=by
   rw [← List.append_assoc, ← h4,List.take_append_drop]
  rw [hc] at h5
  refine hK _ _ (h g' cap' _ ?_ h3 _ _ (ha.put k3 _) h5)
  have:=congrArg List.length h4
  rw [List.length_take,List.length_append,Array.length_toList,hlen,hm] at this
  rw [List.length_drop,Array.length_toList]
  omega
 rcases Nat.lt_or_ge cap (len+m) with hlt | hge
 ·obtain ⟨v',w',hr,hrow,hgr⟩:=run_append_arg_grows (P:=P) w ts o.type e inf z 1 1 ht hinf hz hs1 hb1 hzs dZ ⟨g,0,none⟩ len cap old om (hown.cells (g:=g) rfl) ⟨gx,fx,none⟩ m c news om hn hlt (by simp only [maxLen]; omega) om
  refine KT v' w' hr ?_
  rcases hrow.2 with ⟨rfl,h0⟩ | ⟨g',cap',cur,rfl,q1,q2,_,q4,q5,q6⟩
  ·omega
  ·exact last w' g' cap' cur om q4 (by rw [Nat.mul_one] at q6; exact q6) (hw.setNew (⟨hgr.os,hgr.tape,hgr.output,hgr.size,λk hk=>hgr.block k hk (by simp)⟩) (List.getElem?_eq_some_iff.1 hL).1 q1 q2)
 ·obtain ⟨w',hr,hrow,hgr⟩:=run_append_own_spare (P:=P) w 0 ts o.type e inf 1 ht hinf hs1 g len cap old hown ⟨gx,fx,none⟩ m c news om hn h1 hge
  refine KT _ w' hr ?_
  rcases hrow.2 with ⟨h0,_⟩ | ⟨g',cap',cur,hv,_,q2,_,q4,q5,q6⟩
  ·cases h0
  ·cases hv
   exact last w' g cap cur om q4 (by rw [Nat.mul_one] at q6; exact q6) (hw.set hL hgr q2)
theorem appendNil (hg:Bv ops n F o=true) (ts e:TypeId) (inf:TypeInfo) (z:Value) (ht:P.underlying ts=some (.slice e)) (hinf:P.info? e=some inf) (hz:inf.zero=some z) (hs1:inf.size=1) (hb1:inf.bytes=1) (hzs:z.cells.size=1)
  (s x:Operand) (ho:o.op=.call { callee:=.builtin .append,args:=#[s,x],argTypes:=#[ts,ts] }) (hs:evF F s=.slice none 0 0)
  (j gx fx m c:Nat) (tx:TypeId) (cx:Array Value) (news:List Value) (hx:evF F x=.slice (some ⟨gx,fx,none⟩) m c) (hLx:L[j]? = some (gx,tx,cx)) (hnews:(cx.toList.drop fx).take m=news) (hm:news.length=m) (hm0:0<m) (h1:∀ u∈news,u.oneCell'=true) (hsmall:m≤140737488355328)
  (h:∀ (g' cap':Nat) (sp:List Value),sp.length+m=cap'→cap'≤maxLen→wpS P w0 n ops Q (Bo F o.dst (.slice (some ⟨g',0,none⟩) m cap')) (L++[(g',e,(news++sp).toArray)]) l):wpS P w0 n ops Q F L (o::l):=λa w ha hw=>by
 obtain ⟨k1,_,k3,_⟩:=AQ hg
 refine wpList_step λK hK=>?_
 rw [if_pos (ha.wanted k1)]
 have hbx:=hw.get hLx
 have hn:∀ q u,news[q]? = some u→w.cell? ((⟨gx,fx,none⟩:Addr).add q)=some u:=λq u hq=>by
  rw [Bm,hbx.cell]
  rw [← hnews] at hq
  have hlt:q<m:=by
   have:=(List.getElem?_eq_some_iff.1 hq).1
   simp at this; omega
  rw [List.getElem?_take_of_lt hlt,List.getElem?_drop] at hq
  simpa using hq
 obtain ⟨v',w',hr,hrow,hgr,hnil⟩:=run_append_own (P:=P) w w.heap.size ts o.type e inf z 1 1 ht hinf hz hs1 hb1 hzs dZ (.slice none 0 0) 0 [] (World.ownsRow_nil w _ e 1) ⟨gx,fx,none⟩ m c news om hn h1 (by simp only [maxLen]; omega) om (Nat.le_refl _)
 rcases hrow.2 with ⟨_,h0⟩ | ⟨g',cap',cur,rfl,q1,q2,_,q4,q5,q6⟩
 ·omega
 have q6':cur.toList.take m=news:=by simpa using q6
 unfold Oper.wp
 rw [Ao hg ha]
 unfold execOp
 simp only [ho,resolve,invoke,builtin,Sem.run_bind,Sem.run_pure,Result.andThen_ok,List.map_toArray,List.map_cons,List.map_nil,hs,hx,hr]
 have hc:cur=(news++cur.toList.drop m).toArray:=by rw [← q6',List.take_append_drop]
 rw [hc] at q2
 rw [Nat.zero_add]
 refine hK _ _ (h g' cap' _ ?_ q4 _ _ (ha.put k3 _) (hw.add (⟨hgr.os,hgr.tape,hgr.output,hgr.size,λk hk=>hgr.block k hk (by simp [Value.ownBlock])⟩) q1 q2))
 have:=congrArg List.length q6'
 rw [List.length_take,hm,Array.length_toList] at this
 rw [List.length_drop,Array.length_toList]
 omega
def wpR (P:Program) (w0:Base) (n:Nat) (c:Code) (Q:Exit→Act→World→Prop) (k:Nat) (F:AO) (L:AC):Prop:=∀ a w,Fr w0.ds a n F→St w0 w L→Code.roundsIn w0.fence w0.room P c Q k a w
theorem loopN {c:Code} (k:Nat) (h:wpR P w0 n c Q k F L):wpC P w0 n Q F L (.loop c):=λa w ha hw=>wpIn_loop_rounds k (h a w ha hw)
theorem round {c:Code} {k:Nat} (h:wpC P w0 n (Exit.then (Code.roundsIn w0.fence w0.room P c Q k) Q) F L c):wpR P w0 n c Q (k+1) F L:=λa w ha hw=>h a w ha hw
theorem again {c:Code} {k:Nat} {R:Exit→Act→World→Prop} (h:wpR P w0 n c Q k F L):X w0 n (Exit.then (Code.roundsIn w0.fence w0.room P c Q k) R) F L .normal:=λa w ha hw=>h a w ha hw
theorem Nb {c:Code} (N:Nat) (I:Nat→Act→World→Prop) (h0:∀ a w,Fr w0.ds a n F→St w0 w L→I 0 a w)
  (hr:∀ i,i≤N→∀ a w,I i a w→c.wpIn w0.fence w0.room P (Exit.then (λa w=>i<N∧I (i+1) a w) Q) a w):wpC P w0 n Q F L (.loop c):=λa w ha hw=>by
 refine wpIn_loop_rounds (N+1) ?_
 have key:∀ k i,i+k=N→∀ a w,I i a w→Code.roundsIn w0.fence w0.room P c Q (k+1) a w:=by
  intro k
  induction k with
  | zero =>
   intro i hi a w h
   refine wpIn_mono (hr i om a w h) λe a w hq=>?_
   cases e <;> first | exact hq | exact absurd hq.1 om
  | succ k ih =>
   intro i hi a w h
   refine wpIn_mono (hr i om a w h) λe a w hq=>?_
   cases e <;> first | exact hq | exact ih (i+1) om a w hq.2
 exact key N 0 om a w (h0 a w ha hw)
theorem J2:∀ (G:AO),(∀ p∈G,F.lookup p.1=some p.2)→∀ i v,G.lookup i=some v→F.lookup i=some v
 | [],_,_,_,h=>by cases h
 | (q,u)::G,hG,i,v,h=>by
  simp only [List.lookup_cons] at h
  by_cases e:i=q
  ·subst e
   simp at h
   subst h
   exact hG (i,u) (List.mem_cons_self ..)
  ·have e':(i == q)=false:=by simpa using e
   rw [e'] at h
   exact J2 G (λp hp=>hG p (List.mem_cons_of_mem _ hp)) i v h
theorem Fr.all {ds:List Deferred} {a:Act} (h:Fr ds a n F) {G:AO} (hG:∀ p∈G,F.lookup p.1=some p.2):Fr ds a n G:=h.less (J2 G hG)
theorem all_nil:∀ p∈([]:AO),F.lookup p.1=some p.2:=λ_ h=>by cases h
theorem all_cons {G:AO} {i:Nat} {v:Value} (h:F.lookup i=some v) (hG:∀ p∈G,F.lookup p.1=some p.2):∀ p∈(i,v)::G,F.lookup p.1=some p.2:=λp hp=>by
 rcases List.mem_cons.1 hp with rfl | hp
 ·exact h
 ·exact hG p hp
theorem ac1 {i0:Nat} {v0:Value} (h0:F.lookup i0=some v0:=by kernel_rfl):∀ p∈[(i0,v0)],F.lookup p.1=some p.2:=all_cons h0 all_nil
theorem ac2 {i0 i1:Nat} {v0 v1:Value} (h0:F.lookup i0=some v0:=by kernel_rfl) (h1:F.lookup i1=some v1:=by kernel_rfl):∀ p∈[(i0,v0),(i1,v1)],F.lookup p.1=some p.2:=all_cons h0 (ac1 h1)
theorem ac3 {i0 i1 i2:Nat} {v0 v1 v2:Value} (h0:F.lookup i0=some v0:=by kernel_rfl) (h1:F.lookup i1=some v1:=by kernel_rfl) (h2:F.lookup i2=some v2:=by kernel_rfl):∀ p∈[(i0,v0),(i1,v1),(i2,v2)],F.lookup p.1=some p.2:=all_cons h0 (ac2 h1 h2)
theorem ac4 {i0 i1 i2 i3:Nat} {v0 v1 v2 v3:Value} (h0:F.lookup i0=some v0:=by kernel_rfl) (h1:F.lookup i1=some v1:=by kernel_rfl) (h2:F.lookup i2=some v2:=by kernel_rfl) (h3:F.lookup i3=some v3:=by kernel_rfl):∀ p∈[(i0,v0),(i1,v1),(i2,v2),(i3,v3)],F.lookup p.1=some p.2:=all_cons h0 (ac3 h1 h2 h3)
theorem ac5 {i0 i1 i2 i3 i4:Nat} {v0 v1 v2 v3 v4:Value} (h0:F.lookup i0=some v0:=by kernel_rfl) (h1:F.lookup i1=some v1:=by kernel_rfl) (h2:F.lookup i2=some v2:=by kernel_rfl) (h3:F.lookup i3=some v3:=by kernel_rfl) (h4:F.lookup i4=some v4:=by kernel_rfl):∀ p∈[(i0,v0),(i1,v1),(i2,v2),(i3,v3),(i4,v4)],F.lookup p.1=some p.2:=all_cons h0 (ac4 h1 h2 h3 h4)
theorem ac6 {i0 i1 i2 i3 i4 i5:Nat} {v0 v1 v2 v3 v4 v5:Value} (h0:F.lookup i0=some v0:=by kernel_rfl) (h1:F.lookup i1=some v1:=by kernel_rfl) (h2:F.lookup i2=some v2:=by kernel_rfl) (h3:F.lookup i3=some v3:=by kernel_rfl) (h4:F.lookup i4=some v4:=by kernel_rfl) (h5:F.lookup i5=some v5:=by kernel_rfl):∀ p∈[(i0,v0),(i1,v1),(i2,v2),(i3,v3),(i4,v4),(i5,v5)],F.lookup p.1=some p.2:=all_cons h0 (ac5 h1 h2 h3 h4 h5)
theorem ac7 {i0 i1 i2 i3 i4 i5 i6:Nat} {v0 v1 v2 v3 v4 v5 v6:Value} (h0:F.lookup i0=some v0:=by kernel_rfl) (h1:F.lookup i1=some v1:=by kernel_rfl) (h2:F.lookup i2=some v2:=by kernel_rfl) (h3:F.lookup i3=some v3:=by kernel_rfl) (h4:F.lookup i4=some v4:=by kernel_rfl) (h5:F.lookup i5=some v5:=by kernel_rfl) (h6:F.lookup i6=some v6:=by kernel_rfl):∀ p∈[(i0,v0),(i1,v1),(i2,v2),(i3,v3),(i4,v4),(i5,v5),(i6,v6)],F.lookup p.1=some p.2:=all_cons h0 (ac6 h1 h2 h3 h4 h5 h6)
theorem ac8 {i0 i1 i2 i3 i4 i5 i6 i7:Nat} {v0 v1 v2 v3 v4 v5 v6 v7:Value} (h0:F.lookup i0=some v0:=by kernel_rfl) (h1:F.lookup i1=some v1:=by kernel_rfl) (h2:F.lookup i2=some v2:=by kernel_rfl) (h3:F.lookup i3=some v3:=by kernel_rfl) (h4:F.lookup i4=some v4:=by kernel_rfl) (h5:F.lookup i5=some v5:=by kernel_rfl) (h6:F.lookup i6=some v6:=by kernel_rfl) (h7:F.lookup i7=some v7:=by kernel_rfl):∀ p∈[(i0,v0),(i1,v1),(i2,v2),(i3,v3),(i4,v4),(i5,v5),(i6,v6),(i7,v7)],F.lookup p.1=some p.2:=all_cons h0 (ac7 h1 h2 h3 h4 h5 h6 h7)
theorem ac9 {i0 i1 i2 i3 i4 i5 i6 i7 i8:Nat} {v0 v1 v2 v3 v4 v5 v6 v7 v8:Value} (h0:F.lookup i0=some v0:=by kernel_rfl) (h1:F.lookup i1=some v1:=by kernel_rfl) (h2:F.lookup i2=some v2:=by kernel_rfl) (h3:F.lookup i3=some v3:=by kernel_rfl) (h4:F.lookup i4=some v4:=by kernel_rfl) (h5:F.lookup i5=some v5:=by kernel_rfl) (h6:F.lookup i6=some v6:=by kernel_rfl) (h7:F.lookup i7=some v7:=by kernel_rfl) (h8:F.lookup i8=some v8:=by kernel_rfl):∀ p∈[(i0,v0),(i1,v1),(i2,v2),(i3,v3),(i4,v4),(i5,v5),(i6,v6),(i7,v7),(i8,v8)],F.lookup p.1=some p.2:=all_cons h0 (ac8 h1 h2 h3 h4 h5 h6 h7 h8)
theorem ZL {i0 i1 i2 i3 i4 i5 i6 i7 i8 i9:Nat} {v0 v1 v2 v3 v4 v5 v6 v7 v8 v9:Value} (h0:F.lookup i0=some v0:=by kernel_rfl) (h1:F.lookup i1=some v1:=by kernel_rfl) (h2:F.lookup i2=some v2:=by kernel_rfl) (h3:F.lookup i3=some v3:=by kernel_rfl) (h4:F.lookup i4=some v4:=by kernel_rfl) (h5:F.lookup i5=some v5:=by kernel_rfl) (h6:F.lookup i6=some v6:=by kernel_rfl) (h7:F.lookup i7=some v7:=by kernel_rfl) (h8:F.lookup i8=some v8:=by kernel_rfl) (h9:F.lookup i9=some v9:=by kernel_rfl):∀ p∈[(i0,v0),(i1,v1),(i2,v2),(i3,v3),(i4,v4),(i5,v5),(i6,v6),(i7,v7),(i8,v8),(i9,v9)],F.lookup p.1=some p.2:=all_cons h0 (ac9 h1 h2 h3 h4 h5 h6 h7 h8 h9)
theorem ZK {i0 i1 i2 i3 i4 i5 i6 i7 i8 i9 i10:Nat} {v0 v1 v2 v3 v4 v5 v6 v7 v8 v9 v10:Value} (h0:F.lookup i0=some v0:=by kernel_rfl) (h1:F.lookup i1=some v1:=by kernel_rfl) (h2:F.lookup i2=some v2:=by kernel_rfl) (h3:F.lookup i3=some v3:=by kernel_rfl) (h4:F.lookup i4=some v4:=by kernel_rfl) (h5:F.lookup i5=some v5:=by kernel_rfl) (h6:F.lookup i6=some v6:=by kernel_rfl) (h7:F.lookup i7=some v7:=by kernel_rfl) (h8:F.lookup i8=some v8:=by kernel_rfl) (h9:F.lookup i9=some v9:=by kernel_rfl) (h10:F.lookup i10=some v10:=by kernel_rfl):∀ p∈[(i0,v0),(i1,v1),(i2,v2),(i3,v3),(i4,v4),(i5,v5),(i6,v6),(i7,v7),(i8,v8),(i9,v9),(i10,v10)],F.lookup p.1=some p.2:=all_cons h0 (ZL h1 h2 h3 h4 h5 h6 h7 h8 h9 h10)
theorem ZJ {i0 i1 i2 i3 i4 i5 i6 i7 i8 i9 i10 i11:Nat} {v0 v1 v2 v3 v4 v5 v6 v7 v8 v9 v10 v11:Value} (h0:F.lookup i0=some v0:=by kernel_rfl) (h1:F.lookup i1=some v1:=by kernel_rfl) (h2:F.lookup i2=some v2:=by kernel_rfl) (h3:F.lookup i3=some v3:=by kernel_rfl) (h4:F.lookup i4=some v4:=by kernel_rfl) (h5:F.lookup i5=some v5:=by kernel_rfl) (h6:F.lookup i6=some v6:=by kernel_rfl) (h7:F.lookup i7=some v7:=by kernel_rfl) (h8:F.lookup i8=some v8:=by kernel_rfl) (h9:F.lookup i9=some v9:=by kernel_rfl) (h10:F.lookup i10=some v10:=by kernel_rfl) (h11:F.lookup i11=some v11:=by kernel_rfl):∀ p∈[(i0,v0),(i1,v1),(i2,v2),(i3,v3),(i4,v4),(i5,v5),(i6,v6),(i7,v7),(i8,v8),(i9,v9),(i10,v10),(i11,v11)],F.lookup p.1=some p.2:=all_cons h0 (ZK h1 h2 h3 h4 h5 h6 h7 h8 h9 h10 h11)
theorem aN {i0 i1 i2 i3 i4 i5 i6 i7 i8 i9 i10 i11 i12:Nat} {v0 v1 v2 v3 v4 v5 v6 v7 v8 v9 v10 v11 v12:Value} (h0:F.lookup i0=some v0:=by kernel_rfl) (h1:F.lookup i1=some v1:=by kernel_rfl) (h2:F.lookup i2=some v2:=by kernel_rfl) (h3:F.lookup i3=some v3:=by kernel_rfl) (h4:F.lookup i4=some v4:=by kernel_rfl) (h5:F.lookup i5=some v5:=by kernel_rfl) (h6:F.lookup i6=some v6:=by kernel_rfl) (h7:F.lookup i7=some v7:=by kernel_rfl) (h8:F.lookup i8=some v8:=by kernel_rfl) (h9:F.lookup i9=some v9:=by kernel_rfl) (h10:F.lookup i10=some v10:=by kernel_rfl) (h11:F.lookup i11=some v11:=by kernel_rfl) (h12:F.lookup i12=some v12:=by kernel_rfl):∀ p∈[(i0,v0),(i1,v1),(i2,v2),(i3,v3),(i4,v4),(i5,v5),(i6,v6),(i7,v7),(i8,v8),(i9,v9),(i10,v10),(i11,v11),(i12,v12)],F.lookup p.1=some p.2:=all_cons h0 (ZJ h1 h2 h3 h4 h5 h6 h7 h8 h9 h10 h11 h12)
def sel:AC→List Bool→AC
 | x::l,true::m=>x::sel l m
 | _::l,false::m=>sel l m
 | _,_=>[]
theorem CP:∀ (l:AC) (m:List Bool),(sel l m).Sublist l
 | [],[]=>List.Sublist.slnil
 | [],_::_=>by simp [sel]
 | _::_,[]=>by simp [sel]
 | _::l,true::m=>(CP l m).cons_cons _
 | _::l,false::m=>(CP l m).cons _
theorem aT {c:Code} {G:AO} {M:AC} (m:List Bool) (hM:sel L m=M) (hF:∀ p∈G,F.lookup p.1=some p.2) (h:wpC P w0 n Q G M c):wpC P w0 n Q F L c:=λa w ha hw=>h a w (ha.all hF) (hM ▸ hw.less (CP L m))
theorem tidyR {c:Code} {k:Nat} {G:AO} {M:AC} (m:List Bool) (hM:sel L m=M) (hF:∀ p∈G,F.lookup p.1=some p.2) (h:wpR P w0 n c Q k G M):wpR P w0 n c Q k F L:=λa w ha hw=>h a w (ha.all hF) (hM ▸ hw.less (CP L m))
theorem Quiet.there (g f k:Nat) (ty:TypeId) (cs:List Value) (d:TypeDesc) (x:Operand) (ho:o.op=.load ty x) (hx:evF F x=pT g f) (hg:g<w0.world.heap.size) (hr:w0.world.rangeAt g f cs)
  (hu:P.underlying ty=some d) (hd:d.isRow=true) (hi:(P.info? ty).map (·.size)=some k) (hk:cs.length=k) (v:Value) (hv:Value.agg cs.toArray=v):Quiet P w0 F L o v:=λw hw=>by
 have hl:=run_loadVar_mid (P:=P) w g f ty cs d (λj u hj=>(Below.cell (p:=⟨g,f+j,none⟩) hw.below hg).trans (hr j u hj)) hu hd (by rw [hi,hk])
 unfold Dq execOp
 simp only [ho,hx,Instr.loadAt,Instr.sureAddr,Sem.run_bind,Sem.run_pure,Result.andThen_ok,hl]
 exact ⟨hv,Gr.refl _⟩
theorem Quiet.thereOne (g f:Nat) (ty:TypeId) (d:TypeDesc) (x:Operand) (ho:o.op=.load ty x) (hx:evF F x=pT g f) (hg:g<w0.world.heap.size) (v:Value) (hr:w0.world.cell? ⟨g,f,none⟩=some v)
  (hu:P.underlying ty=some d) (hd:d.isRow=false):Quiet P w0 F L o v:=λw hw=>by
 have hc:w.cell? ⟨g,f,none⟩=some v:=(Below.cell (p:=⟨g,f,none⟩) hw.below hg).trans hr
 have ha:(isAgg ty).run P w=.ok false w:=by
  cases d <;> first | (cases hd; done) | simp [isAgg,underlying,hu]
 unfold Dq execOp
 simp only [ho,hx,Instr.loadAt,Instr.sureAddr,Sem.run_bind,Sem.run_pure,Result.andThen_ok,loadVar,ha,Bool.false_eq_true,if_false,run_load,hc]
 exact ⟨trivial,Gr.refl _⟩
end
end Sy
end
section
section
theorem kR {α:Sort _} {a b:α} (h:a=b:=by kernel_rfl):a=b:=h
theorem kL {a b:Nat} (h:Nat.ble a b=true:=by kernel_rfl):a≤b:=Nat.le_of_ble_eq_true h
theorem kF {α:Sort _} {β:α→Sort _} {f g:(x:α)→β x} (h:∀ x,f x=g x:=by intro _; kernel_rfl) (x:α):f x=g x:=h x
end
end
section
namespace Sy
open Go.RowKit
section
variable {P:Program} {w0:Base} {n:Nat} {Q:Exit→Act→World→Prop} {F:AO} {L:AC} {ops:Array Oper} {o:Oper} {l:List Oper}
theorem qP {v:Value} (h:∀ w,(execOp (evF F) o).run P w=.ok (.value v) w:=by intro _; kernel_rfl):Quiet P w0 F L o v:=Quiet.pure h
theorem qF {v:Value} (f:FuncId) (args:Array Value) (h:∀ w,Calls P f args w λe w'=>e=.returned v∧Below w.heap.size w w') (he:∀ w,(execOp (evF F) o).run P w=.ok (.enter f args) w:=by intro _; kernel_rfl):Quiet P w0 F L o v:=Quiet.call f args he h
theorem qG {v:Value} (f:FuncId) (args:Array Value) (h:∀ w,St w0 w L→Calls P f args w (Gets w v)) (he:∀ w,(execOp (evF F) o).run P w=.ok (.enter f args) w:=by intro _; kernel_rfl):Quiet P w0 F L o v:=Quiet.callS f args he h
theorem qL {x:Operand} {d:TypeDesc} {v:Value} (i g f k:Nat) (t ty:TypeId) (cs:Array Value) (ho:o.op=.load ty x) (hu:P.underlying ty=some d) (hx:evF F x=pT g f:=by kernel_rfl)
  (hL:L[i]? = some (g,t,cs):=by kernel_rfl) (hd:d.isRow=true:=by rfl) (hi:(P.info? ty).map (·.size)=some k:=by kernel_rfl) (hv:Value.agg ((cs.toList.drop f).take k).toArray=v:=by kernel_rfl) (hk:Nat.ble (f+k) cs.size=true:=by kernel_rfl):Quiet P w0 F L o v :=
 Quiet.load i g f k t ty cs d x ho hx hL hu hd hi v hv (Nat.le_of_ble_eq_true hk)
theorem qC {x:Operand} {d:TypeDesc} {v:Value} (i g f:Nat) (t ty:TypeId) (cs:Array Value) (ho:o.op=.load ty x) (hu:P.underlying ty=some d) (hx:evF F x=pT g f:=by kernel_rfl)
  (hL:L[i]? = some (g,t,cs):=by kernel_rfl) (hd:d.isRow=false:=by rfl) (hv:cs[f]? = some v:=by kernel_rfl):Quiet P w0 F L o v :=
 Quiet.cell i g f t ty cs d x ho hx hL hu hd v hv
theorem sS (v:Value) (hq:Quiet P w0 F L o v) (h:wpS P w0 n ops Q (Bo F o.dst v) L l) (hg:Bv ops n F o=true:=by kernel_rfl):wpS P w0 n ops Q F L (o::l):=KT hg v hq h
theorem sN (h:wpS P w0 n ops Q (Bo F o.dst undef) L l) (hg:C2 ops F o=some false:=by kernel_rfl) (hd:KW n o.dst=true:=by kernel_rfl):wpS P w0 n ops Q F L (o::l):=aX hg hd h
theorem sM (t:TypeId) (cs:Array Value) (h:∀ g,wpS P w0 n ops Q (Bo F o.dst (ptr g)) (L++[(g,t,cs)]) l) (hg:Bv ops n F o=true:=by kernel_rfl) (hm:∀ w,(execOp (evF F) o).run P w=.ok (.value (ptr w.heap.size)) (w.alloc (.cells cs t)):=by intro _; kernel_rfl):wpS P w0 n ops Q F L (o::l):=make hg t cs ptr hm h
theorem sW (i g:Nat) (t:TypeId) (cs cs':Array Value) (hm:Writes P F o g t cs cs') (h:wpS P w0 n ops Q (Bo F o.dst undef) (L.set i (g,t,cs')) l) (hg:Bv ops n F o=true:=by kernel_rfl) (hL:L[i]? = some (g,t,cs):=by kernel_rfl):wpS P w0 n ops Q F L (o::l):=write hg i g t cs cs' hL hm h
theorem wS {x y:Operand} (f:Nat) {g:Nat} {t:TypeId} {cs cs':Array Value} (ty:TypeId) (cells:Array Value) (ho:o.op=.store ty x y) (hx:evF F x=pT g f:=by kernel_rfl) (hy:evF F y=.agg cells:=by kernel_rfl)
  (hi:(P.info? ty).map (·.size)=some cells.size:=by kernel_rfl) (hk:Nat.ble (f+cells.size) cs.size=true:=by kernel_rfl) (h1:cells.all (·.oneCell')=true:=by kernel_rfl) (hcs:BI cs f cells.toList=cs':=by kernel_rfl):Writes P F o g t cs cs' :=
 Writes.store f ty cells x y ho hx hy hi (Nat.le_of_ble_eq_true hk) h1 hcs
theorem wO {x y:Operand} (f:Nat) {g:Nat} {t:TypeId} {cs cs':Array Value} (ty:TypeId) (v:Value) (ho:o.op=.store ty x y) (hx:evF F x=pT g f:=by kernel_rfl) (hy:evF F y=v:=by kernel_rfl)
  (hi:(P.info? ty).map (·.size)=some 1:=by kernel_rfl) (hv:v.cells=#[v]:=by rfl) (h1:v.oneCell'=true:=by rfl) (hk:Nat.ble (f+1) cs.size=true:=by kernel_rfl) (hcs:cs.setIfInBounds f v=cs':=by kernel_rfl):Writes P F o g t cs cs' :=
 Writes.one f ty v x y ho hx hy hi hv h1 (Nat.le_of_ble_eq_true hk) hcs
variable {ex:Nat→Bool} {fuel:Nat} {listed:Array Bool}
theorem sD (i:Nat) {oi:Oper} (hi0:ops.toList[i]? = some oi) (v:Value) (hq:Quiet P w0 F L oi v) (h:wpD P w0 n ops Q ex (Bo F oi.dst v) L fuel (listed.setIfInBounds i true)) (hc:Da .any ops listed ex i=true:=by kernel_rfl)
  (hg:Bv ops n F oi=true:=by kernel_rfl) (hQ:∀ c v a w,Q (.panic c) (a.put oi.dst v) w→Q (.panic c) a w:=by exact λ_ _ _ _ h=>h):wpD P w0 n ops Q ex F L (fuel+1) listed:=Sw i hi0 hc hQ hg v hq h
theorem sQ (i:Nat) {oi:Oper} (hi0:ops.toList[i]? = some oi) (h:wpD P w0 n ops Q ex (Bo F oi.dst undef) L fuel (listed.setIfInBounds i true)) (hc:Da .any ops listed ex i=true:=by kernel_rfl)
  (hg:C2 ops F oi=some false:=by kernel_rfl) (hd:KW n oi.dst=true:=by kernel_rfl) (hQ:∀ c v a w,Q (.panic c) (a.put oi.dst v) w→Q (.panic c) a w:=by exact λ_ _ _ _ h=>h):wpD P w0 n ops Q ex F L (fuel+1) listed:=Zt i hi0 hc hQ hg hd h
theorem sO (i:Nat) {oi:Oper} (hi0:ops.toList[i]? = some oi) (t:TypeId) (cs:Array Value) (h:∀ g,wpD P w0 n ops Q ex (Bo F oi.dst (ptr g)) (L++[(g,t,cs)]) fuel (listed.setIfInBounds i true)) (hr:Region.ready .any ops listed=[i]:=by kernel_rfl) (hg:Bv ops n F oi=true:=by kernel_rfl)
  (hm:∀ w,(execOp (evF F) oi).run P w=.ok (.value (ptr w.heap.size)) (w.alloc (.cells cs t)):=by intro _; kernel_rfl):wpD P w0 n ops Q ex F L (fuel+1) listed:=makeD i hi0 hr hg t cs ptr hm h
theorem sX (k:Nat) {oi:Oper} (hi0:ops.toList[k]? = some oi) (i g:Nat) (t:TypeId) (cs cs':Array Value) (hm:Writes P F oi g t cs cs') (h:wpD P w0 n ops Q ex (Bo F oi.dst undef) (L.set i (g,t,cs')) fuel (listed.setIfInBounds k true))
  (hr:Region.ready .any ops listed=[k]:=by kernel_rfl) (hex:ex k=true:=by rfl) (hg:Bv ops n F oi=true:=by kernel_rfl) (hL:L[i]? = some (g,t,cs):=by kernel_rfl):wpD P w0 n ops Q ex F L (fuel+1) listed:=writeD k hi0 hr hex hg i g t cs cs' hL hm h
theorem sE (h:X w0 n Q F L .normal) (hr:Region.ready .any ops listed=[]:=by kernel_rfl):wpD P w0 n ops Q ex F L fuel listed:=Xf hr h
theorem sT {c:Operand} {x y:Code} (h:wpC P w0 n Q F L x) (hi:inF F c=true:=by kernel_rfl) (hc:evF F c=.bool true:=by kernel_rfl):wpC P w0 n Q F L (.cond c x y):=Yw hi hc h
theorem sU {c:Operand} {x y:Code} (h:wpC P w0 n Q F L y) (hi:inF F c=true:=by kernel_rfl) (hc:evF F c=.bool false:=by kernel_rfl):wpC P w0 n Q F L (.cond c x y):=Yx hi hc h
theorem sC {i:Nat} {y:Code} (h:wpS P w0 n ops (Exit.then (y.wpIn w0.fence w0.room P Q) Q) F L ops.toList) (hf:w0.fence=Fence.wide:=by rfl):wpC P w0 n Q F L (.seq (.region i ops false) y):=seq (region h hf)
theorem sB {i:Nat} {y:Code} (h:wpS P w0 n ops (Exit.then (y.wpIn w0.fence w0.room P Q) Q) F L ops.toList) (hf:w0.fence=Fence.wide:=by rfl):X w0 n (Exit.then ((Code.seq (.region i ops false) y).wpIn w0.fence w0.room P Q) Q) F L .normal:=then_ (sC h hf)
theorem sA {i:Nat} {y:Code} {ops0:Array Oper} (h:wpS P w0 n ops (Exit.then (y.wpIn w0.fence w0.room P Q) Q) F L ops.toList) (hf:w0.fence=Fence.wide:=by rfl):wpS P w0 n ops0 (Exit.then ((Code.seq (.region i ops false) y).wpIn w0.fence w0.room P Q) Q) F L []:=nil (sB h hf)
theorem sP (v:Value) (h:wpS P w0 n ops Q (Bo F o.dst v) L l) (hp:∀ w,(execOp (evF F) o).run P w=.ok (.value v) w:=by intro _; kernel_rfl) (hg:Bv ops n F o=true:=by kernel_rfl):wpS P w0 n ops Q F L (o::l):=KT hg v (Quiet.pure hp) h
theorem sZ (i:Nat) {oi:Oper} (hi0:ops.toList[i]? = some oi) (v:Value) (h:wpD P w0 n ops Q ex (Bo F oi.dst v) L fuel (listed.setIfInBounds i true)) (hp:∀ w,(execOp (evF F) oi).run P w=.ok (.value v) w:=by intro _; kernel_rfl) (hc:Da .any ops listed ex i=true:=by kernel_rfl)
  (hg:Bv ops n F oi=true:=by kernel_rfl) (hQ:∀ c v a w,Q (.panic c) (a.put oi.dst v) w→Q (.panic c) a w:=by exact λ_ _ _ _ h=>h):wpD P w0 n ops Q ex F L (fuel+1) listed:=Sw i hi0 hc hQ hg v (Quiet.pure hp) h
theorem sR {i:Nat} {y:Code} (ex:Nat→Bool) (h:wpD P w0 n ops (Exit.then (y.wpIn w0.fence w0.room P Q) Q) ex F L ops.size (Array.replicate ops.size false)) (hm:P.follows .mixedOrders=true:=by kernel_rfl) (hf:w0.fence=Fence.wide:=by rfl):X w0 n (Exit.then ((Code.seq (.region i ops true) y).wpIn w0.fence w0.room P Q) Q) F L .normal:=then_ (seq (regionD ex hm h hf))
theorem sH {i:Nat} {y:Code} {ops0:Array Oper} (ex:Nat→Bool) (h:wpD P w0 n ops (Exit.then (y.wpIn w0.fence w0.room P Q) Q) ex F L ops.size (Array.replicate ops.size false)) (hm:P.follows .mixedOrders=true:=by kernel_rfl) (hf:w0.fence=Fence.wide:=by rfl):wpS P w0 n ops0 (Exit.then ((Code.seq (.region i ops true) y).wpIn w0.fence w0.room P Q) Q) F L []:=nil (sR ex h hm hf)
theorem sG {y:Code} {ops0:Array Oper} (h:wpC P w0 n Q F L y):wpS P w0 n ops0 (Exit.then (y.wpIn w0.fence w0.room P Q) Q) F L []:=nil (then_ h)
def opV (F:AO):Op→Option Value
 | .move (.tmp t)=>F.lookup t
 | .assign (.tmp t)=>F.lookup t
 | .move (.const v)=>some v
 | .assign (.const v)=>some v
 | .nilCheck (.tmp t)=>match F.lookup t with | some (.pointer (some a))=>some (.pointer (some a)) | _=>none
 | .extract (.tmp t) i=>match F.lookup t with | some (.tuple vs)=>vs[i]? | _=>none
 | _=>none
theorem QQ {v:Value} (h:opV F o.op=some v) (w:World):(execOp (evF F) o).run P w=.ok (.value v) w:=by
 unfold execOp
 generalize o.op=op at h
 unfold opV at h
 split at h
 ·simp [evF,h]
 ·simp [evF,h]
 ·cases h; simp [evF]
 ·cases h; simp [evF]
 ·split at h
  ·rename_i a e
   cases h
   simp [evF,e]
  ·cases h
 ·split at h
  ·rename_i vs e
   simp [evF,e,Instr.extract,h]
  ·cases h
 ·cases h
theorem sp {v:Value} (hl:opV F o.op=some v) (h:wpS P w0 n ops Q (Bo F o.dst v) L l) (hg:Bv ops n F o=true:=by kernel_rfl):wpS P w0 n ops Q F L (o::l):=KT hg v (Quiet.pure (QQ hl)) h
theorem sz (i:Nat) {oi:Oper} (hi0:ops.toList[i]? = some oi) {v:Value} (hl:opV F oi.op=some v) (h:wpD P w0 n ops Q ex (Bo F oi.dst v) L fuel (listed.setIfInBounds i true)) (hc:Da .any ops listed ex i=true:=by kernel_rfl)
  (hg:Bv ops n F oi=true:=by kernel_rfl) (hQ:∀ c v a w,Q (.panic c) (a.put oi.dst v) w→Q (.panic c) a w:=by exact λ_ _ _ _ h=>h):wpD P w0 n ops Q ex F L (fuel+1) listed:=Sw i hi0 hc hQ hg v (Quiet.pure (QQ hl)) h
theorem sI {y:Code} (h:wpC P w0 n Q F L y) (hr:Region.ready .any ops listed=[]:=by kernel_rfl):wpD P w0 n ops (Exit.then (y.wpIn w0.fence w0.room P Q) Q) ex F L fuel listed:=Xf hr (then_ h)
theorem rC {w1:World} {fn:Func} {z:Tmp} {ty:TypeId} {d:TypeDesc} {v:Value} (t:TypeId) (g i:Nat) (cs:Array Value) (hr:fn.results=#[.cell z ty]) (h3:P.underlying ty=some d) (h1:F.lookup z=some (pT g 0):=by kernel_rfl) (h2:L[i]? = some (g,t,cs):=by kernel_rfl) (h4:d.isRow=true:=by rfl)
  (h5:(P.info? ty).map (·.size)=some cs.size:=by kernel_rfl) (h6:v=.agg cs:=by kernel_rfl):X (Base.of w1) n (bodyPost P fn (Gets w1 v)) F L .ret:=ret1 hr (.inl (Res.cell (ty':=t) g i cs d h1 h2 h3 h4 h5 h6))
theorem rV {w1:World} {fn:Func} {z:Tmp} (v:Value) (hr:fn.results=#[.tmp z]) (h:F.lookup z=some v:=by kernel_rfl):X (Base.of w1) n (bodyPost P fn (Gets w1 v)) F L .ret:=ret1 hr (.inl h)
theorem qx {x:Operand} {d:TypeDesc} {v:Value} {g:Nat} {t ty:TypeId} {cs:Array Value} {P:Program} {w0:Base} {F:AO} {L:AC} {o:Oper} (i f k:Nat) (hL:L[i]? = some (g,t,cs)) (ho:o.op=.load ty x) (hu:P.underlying ty=some d) (hv:Value.agg ((cs.toList.drop f).take k).toArray=v) (hk:f+k≤cs.size) (hx:evF F x=pT g f:=by kernel_rfl) (hd:d.isRow=true:=by rfl) (hi:(P.info? ty).map (·.size)=some k:=by kernel_rfl):Quiet P w0 F L o v:=Quiet.load i g f k t ty cs d x ho hx hL hu hd hi v hv hk
theorem qy {x:Operand} {d:TypeDesc} {v:Value} {g:Nat} {t ty:TypeId} {cs:Array Value} {P:Program} {w0:Base} {F:AO} {L:AC} {o:Oper} (i f:Nat) (hL:L[i]? = some (g,t,cs)) (ho:o.op=.load ty x) (hu:P.underlying ty=some d) (hv:cs[f]? = some v) (hx:evF F x=pT g f:=by kernel_rfl) (hd:d.isRow=false:=by rfl):Quiet P w0 F L o v:=Quiet.cell i g f t ty cs d x ho hx hL hu hd v hv
theorem qk {x : Operand} {d : TypeDesc} {v : Value} {g : Nat} {t ty : TypeId} {cs : Array Value} (i f k : Nat) (hL : L[i]? = some (g, t, cs)) (ho : o.op = .load ty x) (hu : P.underlying ty = some d) (hx : evF F x = .pointer (some ⟨g, f, none⟩) := by kernel_rfl)
    (hd : d.isRow = true := by rfl) (hi : (P.info? ty).map (·.size) = some k := by kernel_rfl) (hv : Value.agg ((cs.toList.drop f).take k).toArray = v := by kernel_rfl) (hk : Nat.ble (f + k) cs.size = true := by kernel_rfl) : Quiet P w0 F L o v :=
  Quiet.load i g f k t ty cs d x ho hx hL hu hd hi v hv (Nat.le_of_ble_eq_true hk)
theorem qc {x : Operand} {d : TypeDesc} {v : Value} {g : Nat} {t ty : TypeId} {cs : Array Value} (i f : Nat) (hL : L[i]? = some (g, t, cs)) (ho : o.op = .load ty x) (hu : P.underlying ty = some d) (hx : evF F x = .pointer (some ⟨g, f, none⟩) := by kernel_rfl)
    (hd : d.isRow = false := by rfl) (hv : cs[f]? = some v := by kernel_rfl) : Quiet P w0 F L o v :=
  Quiet.cell i g f t ty cs d x ho hx hL hu hd v hv
theorem qf {v : Value} {f : FuncId} {args : Array Value} (h : ∀ w, Calls P f args w fun e w' => e = .returned v ∧ Below w.heap.size w w') (he : ∀ w, (execOp (evF F) o).run P w = .ok (.enter f args) w := by intro _; kernel_rfl) : Quiet P w0 F L o v := Quiet.call f args he h
theorem qg {v : Value} {f : FuncId} {args : Array Value} (h : ∀ w, St w0 w L → Calls P f args w (Gets w v)) (he : ∀ w, (execOp (evF F) o).run P w = .ok (.enter f args) w := by intro _; kernel_rfl) : Quiet P w0 F L o v := Quiet.callS f args he h
theorem sw {g : Nat} {t : TypeId} {cs : Array Value} (i : Nat) (hL : L[i]? = some (g, t, cs)) (cs' : Array Value) (hm : Writes P F o g t cs cs') (h : wpS P w0 n ops Q (Bo F o.dst undef) (L.set i (g, t, cs')) l) (hg : Bv ops n F o = true := by kernel_rfl) : wpS P w0 n ops Q F L (o :: l) := write hg i g t cs cs' hL hm h
theorem wA {x y : Operand} {g : Nat} {t ty : TypeId} {cs cells : Array Value} (ho : o.op = .store ty x y) (hx : evF F x = .pointer (some ⟨g, 0, none⟩) := by kernel_rfl) (hy : evF F y = .agg cells := by kernel_rfl)
    (hi : (P.info? ty).map (·.size) = some cells.size := by kernel_rfl) (hk : Nat.ble (0 + cells.size) cs.size = true := by kernel_rfl) (h1 : cells.all (·.oneCell') = true := by kernel_rfl) (hcs : BI cs 0 cells.toList = cells := by kernel_rfl) : Writes P F o g t cs cells :=
  Writes.store 0 ty cells x y ho hx hy hi (Nat.le_of_ble_eq_true hk) h1 hcs
theorem wB {x y : Operand} {g : Nat} {t ty : TypeId} {cs cs' : Array Value} (f : Nat) (cells : Array Value) (ho : o.op = .store ty x y) (hx : evF F x = .pointer (some ⟨g, f, none⟩) := by kernel_rfl) (hy : evF F y = .agg cells := by kernel_rfl)
    (hi : (P.info? ty).map (·.size) = some cells.size := by kernel_rfl) (hk : Nat.ble (f + cells.size) cs.size = true := by kernel_rfl) (h1 : cells.all (·.oneCell') = true := by kernel_rfl) (hcs : BI cs f cells.toList = cs' := by kernel_rfl) : Writes P F o g t cs cs' :=
  Writes.store f ty cells x y ho hx hy hi (Nat.le_of_ble_eq_true hk) h1 hcs
theorem sx {g : Nat} {t : TypeId} {cs : Array Value} (k : Nat) {oi : Oper} (hi0 : ops.toList[k]? = some oi) (i : Nat) (hL : L[i]? = some (g, t, cs)) (cs' : Array Value) (hm : Writes P F oi g t cs cs') (h : wpD P w0 n ops Q ex (Bo F oi.dst undef) (L.set i (g, t, cs')) fuel (listed.setIfInBounds k true))
    (hr : Region.ready .any ops listed = [k] := by kernel_rfl) (hex : ex k = true := by rfl) (hg : Bv ops n F oi = true := by kernel_rfl) : wpD P w0 n ops Q ex F L (fuel + 1) listed := writeD k hi0 hr hex hg i g t cs cs' hL hm h
theorem rc {w1 : World} {fn : Func} {z : Tmp} {ty t : TypeId} {d : TypeDesc} {v : Value} {g : Nat} {cs : Array Value} (i : Nat) (h2 : L[i]? = some (g, t, cs)) (hr : fn.results = #[.cell z ty]) (h3 : P.underlying ty = some d) (h1 : F.lookup z = some (.pointer (some ⟨g, 0, none⟩)) := by kernel_rfl) (h4 : d.isRow = true := by rfl)
    (h5 : (P.info? ty).map (·.size) = some cs.size := by kernel_rfl) (h6 : v = .agg cs := by kernel_rfl) : X (Base.of w1) n (bodyPost P fn (Gets w1 v)) F L .ret := ret1 hr (.inl (Res.cell (ty' := t) g i cs d h1 h2 h3 h4 h5 h6))
end
end Sy
end
section
namespace Cu
open Go.RowKit
theorem lK {n:Nat} (h:n<K4:=by first | assumption | exact lt4 _ | decide +kernel):n<K4:=h
end Cu
end
section
namespace Cu
open Go.RowKit Sy
theorem F5 (w:World) (F:AO) (o:Oper) (x y:Operand) (n m:Nat) {yt:TypeId} (ho:o.op=.binOp .eql 35 x y yt) (hx:evF F x=fv n) (hy:evF F y=fv m) (hn:n<K4) (hm:m<K4):(execOp (evF F) o).run Tryz.prog w=.ok (.value (.bool (decide (n=m)))) w:=by
 have h1:=run_eqGuard_fv .eql x y n m w
 have h2:=run_eql_fv w n m hn hm
 unfold execOp
 simp only [ho,hx,hy,Sem.run_bind,h1,h2,Result.andThen_ok,Sem.run_pure]
theorem C7 (w:World) (F:AO) (o:Oper) (x y:Operand) (a b:Nat) (i:Bool) (c d:Nat) (j:Bool) {yt:TypeId} (ho:o.op=.binOp .eql 37 x y yt) (hx:evF F x=pv a b i) (hy:evF F y=pv c d j) (ha:a<K4) (hb:b<K4) (hc:c<K4) (hd:d<K4):(execOp (evF F) o).run Tryz.prog w=.ok (.value (.bool (CH a b i c d j))) w:=by
 have h1:=Fk .eql x y a b i c d j w
 have h2:=JY w a b i c d j ha hb hc hd
 unfold execOp
 simp only [ho,hx,hy,Sem.run_bind,h1,h2,Result.andThen_ok,Sem.run_pure]
theorem CC (w:World)  : AY 147 #[] w (Gets w (pv 0 0 true)):=by
 refine Sy.enter (args:=[]) Tryz.func147 U kL<|sC<|sM 37 (pcs 0 0 false) (λg0=>?_)
 refine sA<|sP (pv 0 0 true)<|sw 0 U (pcs 0 0 true) (wA U)<|sG<|Sy.ret ?_
 exact rc (v:=pv 0 0 true) 0 U U AX
def gx:Fp:=⟨55066263022277343669578718895168534326250603453777594175500187360389116729240,by decide +kernel⟩
def gy:Fp:=⟨32670510020758816978083085130507043184471273380659243275938904335757337482424,by decide +kernel⟩
def bP:Pt:=some (gx,gy)
theorem bP_on:Ec.On bP:=by
 show gy*gy=gx*gx*gx+7
 decide +kernel
theorem KK (w:World)  : AY 55 #[] w (Gets w (ptv bP)):=by
 refine Sy.enter (args:=[]) Tryz.func55 U kL<|sC<|sM 37 (pcs 0 0 false) (λg0=>?_)
 refine sA<|sP (fv 55066263022277343669578718895168534326250603453777594175500187360389116729240)<|sP (fv 32670510020758816978083085130507043184471273380659243275938904335757337482424)<|sP (pv 55066263022277343669578718895168534326250603453777594175500187360389116729240 32670510020758816978083085130507043184471273380659243275938904335757337482424 false)<|sw 0 U (pcs 55066263022277343669578718895168534326250603453777594175500187360389116729240 32670510020758816978083085130507043184471273380659243275938904335757337482424 false) (wA U)<|sG<|Sy.ret ?_
 rw [show (ptv bP:Value)=pv 55066263022277343669578718895168534326250603453777594175500187360389116729240 32670510020758816978083085130507043184471273380659243275938904335757337482424 false from by kernel_rfl]
 exact rc (v:=pv 55066263022277343669578718895168534326250603453777594175500187360389116729240 32670510020758816978083085130507043184471273380659243275938904335757337482424 false) 0 U U AX
theorem JQ (w:World) (x:Fp):AY 224 #[fv x.val] w (Gets w (fv (x*x*x+7).val)):=by
 refine Sy.enter (args:=[fv x.val]) Tryz.func224 U kL<|sC<|sM 35 (fcs x.val) (λg0=>?_)
 refine sM 35 (fcs 0) (λg1=>?_)
 refine sH (λj=>j == 7) ?_
 refine sD 0 U (fv x.val) (qk 0 0 4 U U AN)<|sD 1 U (fv x.val) (qk 0 0 4 U U AN) ?_
 obtain ⟨z1,hz1⟩:∃ z:Fp,z=x*x:=⟨_,rfl⟩
 refine sD 2 U (fv z1.val) (qf (by rw [hz1]; exact BZ x x))<|sD 3 U (fv x.val) (qk 0 0 4 U U AN) ?_
 obtain ⟨z2,hz2⟩:∃ z:Fp,z=z1*x:=⟨_,rfl⟩
 refine sD 4 U (fv z2.val) (qf (by rw [hz2]; exact BZ z1 x)) ?_
 obtain ⟨z3,hz3⟩:∃ z:Fp,z=(nat 7 (by decide +kernel):Fp):=⟨_,rfl⟩
 refine sD 5 U (fv z3.val) (qf (by rw [hz3]; exact NP 7 (by decide +kernel) dZ)) ?_
 obtain ⟨z4,hz4⟩:∃ z:Fp,z=z2+z3:=⟨_,rfl⟩
 refine sD 6 U (fv z4.val) (qf (by rw [hz4]; exact KN z2 z3))<|sx 7 U 1 U (fcs z4.val) (wA U)<|sI<|Sy.ret ?_
 rw [show (fv (x*x*x+7).val:Value)=fv z4.val from by rw [hz4,hz3,hz2,hz1]; rfl]
 exact rc (v:=fv z4.val) 1 U U AN
theorem Gg (x y:Nat):CH x y true 0 0 true=A6 x y true:=by
 unfold CH A6
 simp
theorem Xb {x z:Nat} (h1:z=x%pM) (h2:true=decide (z=x)):∃ u:Fp,x=u.val:=by
 have h3:=dY h2
 exact ⟨⟨x,by rw [← h3,h1]; exact mod_lt_p x⟩,rfl⟩
theorem Th {x z:Nat} (h1:z=x%pM) (h2:false=decide (z=x)):¬ x<pM:=λh=>by
 rw [h1,Nat.mod_eq_of_lt h] at h2
 simp at h2
theorem Zj {x:Nat} (h:¬ x<pM) (y:Nat):A6 x y false=false:=by unfold A6; simp [h]
theorem Zi {y:Nat} (h:¬ y<pM) (x:Nat):A6 x y false=false:=by unfold A6; simp [h]
theorem TO (x y:Fp):A6 x.val y.val false=decide ((y*y).val=(x*x*x+7).val):=by
 unfold A6
 simp only [Bool.false_eq_true,if_false,x.isLt,y.isLt,decide_true,Bool.true_and]
 rfl
theorem Lu (w:World) (x y:Nat) (i:Bool) (hx:x<K4) (hy:y<K4):AY 205 #[pv x y i] w (Gets w (.bool (A6 x y i))):=by
 refine Sy.enter (args:=[pv x y i]) Tryz.func205 U kL<|sC<|sM 37 (pcs x y i) (λg0=>?_)
 refine sp U<|sG<|Sy.seq<|sC<|sP (pT g0 8)<|sS (.bool i) (qc 0 8 U U uy4)<|sG ?_
 cases i
 ·refine sU<|Sy.skip ?_
  refine sR (λj=>false) ?_
  refine sZ 0 U (pT g0 0)<|sD 1 U (fv x) (qk 0 0 4 U U AN) ?_
  obtain ⟨z1,hz1⟩:∃ z:Nat,z=x%pM:=⟨_,rfl⟩
  have lz1:z1<K4:=by rw [hz1]; exact mod_lt x
  refine sD 2 U (fv z1) (qf (λw=>by rw [hz1]; exact norm_any w x (by first | assumption | exact lt4 _)))<|sZ 3 U (pT g0 0)<|sD 4 U (fv x) (qk 0 0 4 U U AN) ?_
  obtain ⟨b1,hb1⟩:=xE (decide (z1=x))
  refine sD 5 U (.bool b1) (Quiet.pure (λw=>by rw [hb1]; exact F5 w _ _ _ _ _ _ U U U lK lK))<|sz 6 U U ?_
  cases b1
  ·refine sQ 7 U<|sQ 8 U<|sQ 9 U<|sQ 10 U<|sQ 11 U<|sQ 12 U<|sZ 13 U (.bool false)<|sz 14 U U ?_
   refine sE<|sR (λj=>false) ?_
   refine sz 0 U U<|sz 1 U U<|sQ 2 U<|sQ 3 U<|sQ 4 U<|sQ 5 U<|sQ 6 U<|sQ 7 U<|sQ 8 U<|sQ 9 U<|sQ 10 U<|sZ 11 U (.bool false)<|sz 12 U U<|sI<|Sy.ret ?_
   rw [show (.bool (A6 x y false):Value)=.bool false from by rw [Zj (Th hz1 hb1)]]
   exact rV (.bool false) rfl
  ·obtain ⟨ux,rfl⟩:=Xb hz1 hb1
   refine sZ 7 U (pT g0 4)<|sD 8 U (fv y) (qk 0 4 4 U U AN) ?_
   obtain ⟨z2,hz2⟩:∃ z:Nat,z=y%pM:=⟨_,rfl⟩
   have lz2:z2<K4:=by rw [hz2]; exact mod_lt y
   refine sD 9 U (fv z2) (qf (λw=>by rw [hz2]; exact norm_any w y (by first | assumption | exact lt4 _)))<|sZ 10 U (pT g0 4)<|sD 11 U (fv y) (qk 0 4 4 U U AN) ?_
   obtain ⟨b2,hb2⟩:=xE (decide (z2=y))
   refine sD 12 U (.bool b2) (Quiet.pure (λw=>by rw [hb2]; exact F5 w _ _ _ _ _ _ U U U lK lK))<|sZ 13 U (.bool b2)<|sz 14 U U<|sE<|sR (λj=>false) ?_
   refine sz 0 U U<|sz 1 U U ?_
   cases b2
   ·refine sQ 2 U<|sQ 3 U<|sQ 4 U<|sQ 5 U<|sQ 6 U<|sQ 7 U<|sQ 8 U<|sQ 9 U ?_
    refine sQ 10 U<|sZ 11 U (.bool false)<|sz 12 U U<|sI<|Sy.ret ?_
    rw [show (.bool (A6 ux.val y false):Value)=.bool false from by rw [Zi (Th hz2 hb2)]]
    exact rV (.bool false) rfl
   ·obtain ⟨uy,rfl⟩:=Xb hz2 hb2
    refine sZ 2 U (pT g0 4)<|sD 3 U (fv uy.val) (qk 0 4 4 U U AN)<|sZ 4 U (pT g0 4)<|sD 5 U (fv uy.val) (qk 0 4 4 U U AN) ?_
    obtain ⟨z3,hz3⟩:∃ z:Fp,z=uy*uy:=⟨_,rfl⟩
    refine sD 6 U (fv z3.val) (qf (by rw [hz3]; exact BZ uy uy))<|sZ 7 U (pT g0 0)<|sD 8 U (fv ux.val) (qk 0 0 4 U U AN) ?_
    obtain ⟨z4,hz4⟩:∃ z:Fp,z=ux*ux*ux+7:=⟨_,rfl⟩
    refine sD 9 U (fv z4.val) (qf (by rw [hz4]; exact λw=>JQ w ux)) ?_
    obtain ⟨b3,hb3⟩:=xE (decide (z3.val=z4.val))
    refine sD 10 U (.bool b3) (Quiet.pure (λw=>by rw [hb3]; exact F5 w _ _ _ _ _ _ U U U lK lK))<|sZ 11 U (.bool b3)<|sz 12 U U<|sI<|Sy.ret ?_
    rw [show (.bool (A6 ux.val uy.val false):Value)=.bool b3 from by rw [hb3,TO]; simp only [hz3,hz4]]
    exact rV (.bool b3) rfl
 ·refine sT<|Sy.seq ?_
  refine Sy.regionD (λj=>false) kR<|sD 0 U (pv x y true) (qk 0 0 9 U U AX)<|sD 1 U (pv 0 0 true) (qf CC) ?_
  obtain ⟨b4,hb4⟩:=xE (CH x y true 0 0 true)
  refine sD 2 U (.bool b4) (Quiet.pure (λw=>by rw [hb4]; exact C7 w _ _ _ _ _ _ _ _ _ _ U U U lK lK lK lK))<|sz 3 U U<|sI<|Sy.ret<|Sy.then_ret ?_
  rw [show (.bool (A6 x y true):Value)=.bool b4 from by rw [hb4,Gg]]
  exact rV (.bool b4) rfl
theorem Cq (w:World) (x y:Nat) (i:Bool) (hx:x<K4) (hy:y<K4):AY 146 #[pv x y i] w (Gets w (ptv (dec x y i))):=by
 refine Sy.enter (args:=[pv x y i]) Tryz.func146 U kL<|sC<|sM 37 (pcs x y i) (λg0=>?_)
 refine sM 37 (pcs 0 0 false) (λg1=>?_)
 refine sG<|Sy.seq<|sC<|sS (pv x y i) (qk 0 0 9 U U AX) ?_
 obtain ⟨b1,hb1⟩:=xE (A6 x y i)
 refine sS (.bool b1) (qf (by rw [hb1]; exact λw=>Lu w x y i lK lK)) ?_
 cases b1
 ·refine sP (.bool true) ?_
  refine sG<|sT<|sC<|sS (pv 0 0 true) (qf CC)<|sw 1 U (pcs 0 0 true) (wA U)<|sG<|Sy.ret<|Sy.then_ret ?_
  rw [show (ptv (dec x y i):Value)=pv 0 0 true from K3 x y i hb1.symm]
  exact rc (v:=pv 0 0 true) 1 U U AX
 ·refine sP (.bool false) ?_
  refine sG<|sU<|Sy.skip<|sB<|sS (pv x y i) (qk 0 0 9 U U AX)<|sw 1 U (pcs x y i) (wA U)<|sG<|Sy.ret ?_
  rw [show (ptv (dec x y i):Value)=pv x y i from K5 x y i hb1.symm]
  exact rc (v:=pv x y i) 1 U U AX
theorem Eu (w:World) (F:AO) (o:Oper) (x y:Operand) (a b:Nat) (i:Bool) (c d:Nat) (j:Bool) {yt:TypeId} (ho:o.op=.binOp .eql 37 x y yt) (hx:evF F x=pv a b i) (hy:evF F y=pv c d j) (ha:a<K4) (hb:b<K4) (hc:c<K4) (hd:d<K4) (hij:i≠j):(execOp (evF F) o).run Tryz.prog w=.ok (.value (.bool false)) w:=by
 have h:=C7 w F o x y a b i c d j ho hx hy ha hb hc hd
 have e:CH a b i c d j=false:=by
  unfold CH
  simp [hij]
 rwa [e] at h
theorem To (w:World) (x y:Nat) (i:Bool) (hx:x<K4) (hy:y<K4) (h:dec x y i=none):AY 92 #[pv x y i] w (Gets w (ptv (Ec.neg none))):=by
 refine Sy.enter (args:=[pv x y i]) Tryz.func92 U kL<|sC<|sM 37 (pcs x y i) (λg0=>?_)
 refine sM 37 (pcs 0 0 false) (λg1=>?_)
 refine sA<|sS (pv x y i) (qk 0 0 9 U U AX)<|sS (pv 0 0 true) (qf (λw=>by have hrr:=Cq w x y i lK lK; rw [h] at hrr; exact hrr))<|sw 0 U (pcs 0 0 true) (wA U)<|sA<|sP (pT g0 4)<|sS (fv 0) (qk 0 4 4 U U AN) ?_
 obtain ⟨z1,hz1⟩:∃ z:Fp,z = -(0:Fp):=⟨_,rfl⟩
 refine sS (fv z1.val) (qf (by rw [hz1]; exact Xa (0:Fp)))<|sP (pT g0 4)<|sw 0 U (pcs 0 z1.val true) (wB 4 (fcs z1.val) rfl)<|sA<|sS (pv 0 z1.val true) (qk 0 0 9 U U AX)<|sw 1 U (pcs 0 z1.val true) (wA U)<|sG<|Sy.ret ?_
 rw [show (ptv (Ec.neg none):Value)=pv 0 z1.val true from by rw [hz1]; kernel_rfl]
 exact rc (v:=pv 0 z1.val true) 1 U U AX
theorem Tn (w:World) (x y:Nat) (i:Bool) (hx:x<K4) (hy:y<K4) (u v:Fp) (h:dec x y i=some (u,v)):AY 92 #[pv x y i] w (Gets w (ptv (Ec.neg (some (u,v))))):=by
 refine Sy.enter (args:=[pv x y i]) Tryz.func92 U kL<|sC<|sM 37 (pcs x y i) (λg0=>?_)
 refine sM 37 (pcs 0 0 false) (λg1=>?_)
 refine sA<|sS (pv x y i) (qk 0 0 9 U U AX)<|sS (pv u.val v.val false) (qf (λw=>by have hrr:=Cq w x y i lK lK; rw [h] at hrr; exact hrr))<|sw 0 U (pcs u.val v.val false) (wA U)<|sA<|sP (pT g0 4)<|sS (fv v.val) (qk 0 4 4 U U AN) ?_
 obtain ⟨z1,hz1⟩:∃ z:Fp,z = -v:=⟨_,rfl⟩
 refine sS (fv z1.val) (qf (by rw [hz1]; exact Xa v))<|sP (pT g0 4)<|sw 0 U (pcs u.val z1.val false) (wB 4 (fcs z1.val) rfl)<|sA<|sS (pv u.val z1.val false) (qk 0 0 9 U U AX)<|sw 1 U (pcs u.val z1.val false) (wA U)<|sG<|Sy.ret ?_
 rw [show (ptv (Ec.neg (some (u,v))):Value)=pv u.val z1.val false from by rw [hz1]; rfl]
 exact rc (v:=pv u.val z1.val false) 1 U U AX
theorem L_ (w:World) (x y:Nat) (i:Bool) (hx:x<K4) (hy:y<K4):Calls Tryz.prog 92 #[pv x y i] w (Gets w (ptv (Ec.neg (dec x y i)))):=by
 rcases h:dec x y i with _ | ⟨u,v⟩
 ·exact To w x y i hx hy h
 ·exact Tn w x y i hx hy u v h
theorem Ya (w:World) (c d:Fp) (h:d*d=c*c*c+7):Calls Tryz.prog 92 #[pv c.val d.val false] w (Gets w (pv c.val (-d).val false)):=by
 have k:=L_ w c.val d.val false (lt4 c) (lt4 d)
 rw [GQ c d h] at k
 exact k
theorem GF (a b c d:Fp):CH a.val b.val false c.val d.val false=decide (a=c∧b=d):=by
 unfold CH
 rw [Bool.eq_iff_iff]
 simp [Fin.ext_iff]
theorem Va (w:World) (u v c d:Fp) (h:u=c→v=d):AY 148 #[pv u.val v.val false,pv c.val d.val false] w (Gets w (fv (Ec.slp AR u v c d).val)):=by
 refine Sy.enter (args:=[pv u.val v.val false,pv c.val d.val false]) Tryz.func148 U kL<|sC<|sM 37 (pcs u.val v.val false) (λg0=>?_)
 refine sM 37 (pcs c.val d.val false) (λg1=>?_)
 refine sM 35 (fcs 0) (λg2=>?_)
 refine sG<|Sy.seq<|sC<|sS (pv u.val v.val false) (qk 0 0 9 U U AX)<|sS (pv c.val d.val false) (qk 1 0 9 U U AX) ?_
 obtain ⟨b1,hb1⟩:=xE (CH u.val v.val false c.val d.val false)
 refine sS (.bool b1) (Quiet.pure (λw=>by rw [hb1]; exact C7 w _ _ _ _ _ _ _ _ _ _ U U U lK lK lK lK))<|sG ?_
 cases b1
 ·refine sU<|Sy.skip ?_
  refine sR (λj=>j == 12) ?_
  refine sZ 0 U (pT g1 4)<|sD 1 U (fv d.val) (qk 1 4 4 U U AN)<|sZ 2 U (pT g0 4)<|sD 3 U (fv v.val) (qk 0 4 4 U U AN) ?_
  obtain ⟨z1,hz1⟩:∃ z:Fp,z=d - v:=⟨_,rfl⟩
  refine sD 4 U (fv z1.val) (qf (by rw [hz1]; exact DD d v))<|sZ 5 U (pT g1 0)<|sD 6 U (fv c.val) (qk 1 0 4 U U AN)<|sZ 7 U (pT g0 0)<|sD 8 U (fv u.val) (qk 0 0 4 U U AN) ?_
  obtain ⟨z2,hz2⟩:∃ z:Fp,z=c - u:=⟨_,rfl⟩
  refine sD 9 U (fv z2.val) (qf (by rw [hz2]; exact DD c u)) ?_
  obtain ⟨z3,hz3⟩:∃ z:Fp,z=AR z2:=⟨_,rfl⟩
  refine sD 10 U (fv z3.val) (qf (by rw [hz3]; exact T9 z2)) ?_
  obtain ⟨z4,hz4⟩:∃ z:Fp,z=z1*z3:=⟨_,rfl⟩
  refine sD 11 U (fv z4.val) (qf (by rw [hz4]; exact BZ z1 z3))<|sx 12 U 2 U (fcs z4.val) (wA U)<|sI<|Sy.ret ?_
  rw [show (fv (Ec.slp AR u v c d).val:Value)=fv z4.val from by
   have e:=GF u v c d
   rw [← hb1] at e
   have e:=of_decide_eq_false e.symm
   refine congrArg (λt:Fp=>fv t.val) ?_
   unfold Ec.slp
   rw [if_neg (λk=>e ⟨k,h k⟩)]
   clear h hb1 e
   grobner]
  exact rc (v:=fv z4.val) 2 U U AN
 ·refine sT<|Sy.seq ?_
  refine Sy.regionD (λj=>j == 8) kR ?_
  obtain ⟨z5,hz5⟩:∃ z:Fp,z=(3:Fp):=⟨_,rfl⟩
  refine sD 0 U (fv z5.val) (qf (λw=>by rw [hz5]; exact NP 3 (by decide +kernel) dZ w))<|sZ 1 U (pT g0 0)<|sD 2 U (fv u.val) (qk 0 0 4 U U AN)<|sZ 3 U (pT g0 0)<|sD 4 U (fv u.val) (qk 0 0 4 U U AN) ?_
  obtain ⟨z6,hz6⟩:∃ z:Fp,z=u*u:=⟨_,rfl⟩
  refine sD 5 U (fv z6.val) (qf (by rw [hz6]; exact BZ u u)) ?_
  obtain ⟨z7,hz7⟩:∃ z:Fp,z=z5*z6:=⟨_,rfl⟩
  refine sD 6 U (fv z7.val) (qf (by rw [hz7]; exact BZ z5 z6))<|sO 7 U 35 (fcs 0) (λg3=>?_)
  refine sx 8 U 3 U (fcs z7.val) (wA U)<|sE<|sR (λj=>j == 8) ?_
  refine sD 0 U (fv z7.val) (qk 3 0 4 U U AN)<|sZ 1 U (pT g0 4)<|sD 2 U (fv v.val) (qk 0 4 4 U U AN)<|sZ 3 U (pT g0 4)<|sD 4 U (fv v.val) (qk 0 4 4 U U AN) ?_
  obtain ⟨z8,hz8⟩:∃ z:Fp,z=v+v:=⟨_,rfl⟩
  refine sD 5 U (fv z8.val) (qf (by rw [hz8]; exact KN v v)) ?_
  obtain ⟨z9,hz9⟩:∃ z:Fp,z=AR z8:=⟨_,rfl⟩
  refine sD 6 U (fv z9.val) (qf (by rw [hz9]; exact T9 z8)) ?_
  obtain ⟨z10,hz10⟩:∃ z:Fp,z=z7*z9:=⟨_,rfl⟩
  refine sD 7 U (fv z10.val) (qf (by rw [hz10]; exact BZ z7 z9))<|sx 8 U 2 U (fcs z10.val) (wA U)<|sI<|Sy.ret<|Sy.then_ret ?_
  rw [show (fv (Ec.slp AR u v c d).val:Value)=fv z10.val from by
   have e:=GF u v c d
   rw [← hb1] at e
   obtain ⟨rfl,rfl⟩:=of_decide_eq_true e.symm
   refine congrArg (λt:Fp=>fv t.val) ?_
   unfold Ec.slp
   rw [if_pos U]
   clear h hb1 e
   grobner]
  exact rc (v:=fv z10.val) 2 U U AN
theorem ZG (w:World) (x y:Nat) (i:Bool) (x2 y2:Nat) (i2:Bool) (hx:x<K4) (hy:y<K4) (hx2:x2<K4) (hy2:y2<K4) (h:dec x y i=none) (k:dec x2 y2 i2=none):AY 91 #[pv x y i,pv x2 y2 i2] w (Gets w (ptv none)):=by
 refine Sy.enter (args:=[pv x y i,pv x2 y2 i2]) Tryz.func91 U kL<|sC<|sM 37 (pcs x y i) (λg0=>?_)
 refine sM 37 (pcs x2 y2 i2) (λg1=>?_)
 refine sM 37 (pcs 0 0 false) (λg2=>?_)
 refine sH (λj=>j == 4 || j == 5)<|sD 0 U (pv x y i) (qk 0 0 9 U U AX)<|sD 1 U (pv 0 0 true) (qf (λw=>by have hrr:=Cq w x y i lK lK; rw [h] at hrr; exact hrr))<|Sy.stepDB 2 [3,4,5] rfl kR (λ_ _ _ _ h=>h) kR (pv x2 y2 i2) (qk 1 0 9 U U AX)<|sD 3 U (pv 0 0 true) (qf (λw=>by have hrr:=Cq w x2 y2 i2 lK lK; rw [k] at hrr; exact hrr))<|sx 4 U 0 U (pcs 0 0 true) (wA U)<|sx 5 U 1 U (pcs 0 0 true) (wA U)<|sI<|Sy.seq<|Sy.block<|Sy.seq<|Sy.regionD (λj=>false) kR<|sD 0 U (pv 0 0 true) (qk 0 0 9 U U AX)<|sD 1 U (pv 0 0 true) (qf CC)<|sD 2 U (.bool true) (Quiet.pure (λw=>C7 w _ _ _ _ 0 0 true 0 0 true U U U dZ dZ dZ dZ))<|sz 3 U U<|sI<|sT<|sC<|sS (pv 0 0 true) (qk 1 0 9 U U AX)<|sw 2 U (pcs 0 0 true) (wA U) ?_
 refine sG<|Sy.ret<|Sy.in_ret<|Sy.then_ret ?_
 rw [show (ptv none:Value)=pv 0 0 true from rfl]
 exact rc (v:=pv 0 0 true) 2 U U AX
theorem ZF (w:World) (x y:Nat) (i:Bool) (x2 y2:Nat) (i2:Bool) (hx:x<K4) (hy:y<K4) (hx2:x2<K4) (hy2:y2<K4) (c d:Fp) (h:dec x y i=none) (k:dec x2 y2 i2=some (c,d)):AY 91 #[pv x y i,pv x2 y2 i2] w (Gets w (ptv (some (c,d)))):=by
 refine Sy.enter (args:=[pv x y i,pv x2 y2 i2]) Tryz.func91 U kL<|sC<|sM 37 (pcs x y i) (λg0=>?_)
 refine sM 37 (pcs x2 y2 i2) (λg1=>?_)
 refine sM 37 (pcs 0 0 false) (λg2=>?_)
 refine sH (λj=>j == 4 || j == 5)<|sD 0 U (pv x y i) (qk 0 0 9 U U AX)<|sD 1 U (pv 0 0 true) (qf (λw=>by have hrr:=Cq w x y i lK lK; rw [h] at hrr; exact hrr))<|Sy.stepDB 2 [3,4,5] rfl kR (λ_ _ _ _ h=>h) kR (pv x2 y2 i2) (qk 1 0 9 U U AX)<|sD 3 U (pv c.val d.val false) (qf (λw=>by have hrr:=Cq w x2 y2 i2 lK lK; rw [k] at hrr; exact hrr))<|sx 4 U 0 U (pcs 0 0 true) (wA U)<|sx 5 U 1 U (pcs c.val d.val false) (wA U)<|sI<|Sy.seq<|Sy.block<|Sy.seq<|Sy.regionD (λj=>false) kR<|sD 0 U (pv 0 0 true) (qk 0 0 9 U U AX)<|sD 1 U (pv 0 0 true) (qf CC)<|sD 2 U (.bool true) (Quiet.pure (λw=>C7 w _ _ _ _ 0 0 true 0 0 true U U U dZ dZ dZ dZ))<|sz 3 U U<|sI<|sT<|sC<|sS (pv c.val d.val false) (qk 1 0 9 U U AX)<|sw 2 U (pcs c.val d.val false) (wA U) ?_
 refine sG<|Sy.ret<|Sy.in_ret<|Sy.then_ret ?_
 rw [show (ptv (some (c,d)):Value)=pv c.val d.val false from rfl]
 exact rc (v:=pv c.val d.val false) 2 U U AX
theorem ZE (w:World) (x y:Nat) (i:Bool) (x2 y2:Nat) (i2:Bool) (hx:x<K4) (hy:y<K4) (hx2:x2<K4) (hy2:y2<K4) (u v:Fp) (h:dec x y i=some (u,v)) (k:dec x2 y2 i2=none):AY 91 #[pv x y i,pv x2 y2 i2] w (Gets w (ptv (some (u,v)))):=by
 refine Sy.enter (args:=[pv x y i,pv x2 y2 i2]) Tryz.func91 U kL<|sC<|sM 37 (pcs x y i) (λg0=>?_)
 refine sM 37 (pcs x2 y2 i2) (λg1=>?_)
 refine sM 37 (pcs 0 0 false) (λg2=>?_)
 refine sH (λj=>j == 4 || j == 5)<|sD 0 U (pv x y i) (qk 0 0 9 U U AX)<|sD 1 U (pv u.val v.val false) (qf (λw=>by have hrr:=Cq w x y i lK lK; rw [h] at hrr; exact hrr))<|Sy.stepDB 2 [3,4,5] rfl kR (λ_ _ _ _ h=>h) kR (pv x2 y2 i2) (qk 1 0 9 U U AX)<|sD 3 U (pv 0 0 true) (qf (λw=>by have hrr:=Cq w x2 y2 i2 lK lK; rw [k] at hrr; exact hrr))<|sx 4 U 0 U (pcs u.val v.val false) (wA U)<|sx 5 U 1 U (pcs 0 0 true) (wA U)<|sI<|Sy.seq<|Sy.block<|Sy.seq<|Sy.regionD (λj=>false) kR<|sD 0 U (pv u.val v.val false) (qk 0 0 9 U U AX)<|sD 1 U (pv 0 0 true) (qf CC)<|sD 2 U (.bool false) (Quiet.pure (λw=>Eu w _ _ _ _ _ _ _ _ _ _ U U U lK lK lK lK dZ))<|sz 3 U U<|sI<|sU<|Sy.seq<|Sy.regionD (λj=>false) kR ?_
 refine sD 0 U (pv 0 0 true) (qk 1 0 9 U U AX)<|sD 1 U (pv 0 0 true) (qf CC)<|sD 2 U (.bool true) (Quiet.pure (λw=>C7 w _ _ _ _ 0 0 true 0 0 true U U U dZ dZ dZ dZ))<|sz 3 U U<|sI<|sT<|sC<|sS (pv u.val v.val false) (qk 0 0 9 U U AX)<|sw 2 U (pcs u.val v.val false) (wA U)<|sG<|Sy.ret<|Sy.in_ret<|Sy.then_ret ?_
 rw [show (ptv (some (u,v)):Value)=pv u.val v.val false from rfl]
 exact rc (v:=pv u.val v.val false) 2 U U AX
theorem ZD (w:World) (x y:Nat) (i:Bool) (x2 y2:Nat) (i2:Bool) (hx:x<K4) (hy:y<K4) (hx2:x2<K4) (hy2:y2<K4) (u v c d:Fp) (h:dec x y i=some (u,v)) (k:dec x2 y2 i2=some (c,d)) (ho:v*v=u*u*u+7) (hk:d*d=c*c*c+7):AY 91 #[pv x y i,pv x2 y2 i2] w (Gets w (ptv (Ec.add AR (some (u,v)) (some (c,d))))):=by
 refine Sy.enter (args:=[pv x y i,pv x2 y2 i2]) Tryz.func91 U kL<|sC<|sM 37 (pcs x y i) (λg0=>?_)
 refine sM 37 (pcs x2 y2 i2) (λg1=>?_)
 refine sM 37 (pcs 0 0 false) (λg2=>?_)
 refine sH (λj=>j == 4 || j == 5)<|sD 0 U (pv x y i) (qk 0 0 9 U U AX)<|sD 1 U (pv u.val v.val false) (qf (λw=>by have hrr:=Cq w x y i lK lK; rw [h] at hrr; exact hrr))<|Sy.stepDB 2 [3,4,5] rfl kR (λ_ _ _ _ h=>h) kR (pv x2 y2 i2) (qk 1 0 9 U U AX)<|sD 3 U (pv c.val d.val false) (qf (λw=>by have hrr:=Cq w x2 y2 i2 lK lK; rw [k] at hrr; exact hrr))<|sx 4 U 0 U (pcs u.val v.val false) (wA U)<|sx 5 U 1 U (pcs c.val d.val false) (wA U)<|sI<|Sy.seq<|Sy.block<|Sy.seq<|Sy.regionD (λj=>false) kR<|sD 0 U (pv u.val v.val false) (qk 0 0 9 U U AX)<|sD 1 U (pv 0 0 true) (qf CC)<|sD 2 U (.bool false) (Quiet.pure (λw=>Eu w _ _ _ _ _ _ _ _ _ _ U U U lK lK lK lK dZ))<|sz 3 U U<|sI<|sU<|Sy.seq<|Sy.regionD (λj=>false) kR ?_
 refine sD 0 U (pv c.val d.val false) (qk 1 0 9 U U AX)<|sD 1 U (pv 0 0 true) (qf CC)<|sD 2 U (.bool false) (Quiet.pure (λw=>Eu w _ _ _ _ _ _ _ _ _ _ U U U lK lK lK lK dZ))<|sz 3 U U<|sI<|sU<|Sy.seq<|Sy.regionD (λj=>false) kR<|sD 0 U (pv u.val v.val false) (qk 0 0 9 U U AX)<|sD 1 U (pv c.val d.val false) (qk 1 0 9 U U AX) ?_
 obtain ⟨z1,hz1⟩:∃ z:Fp,z = -d:=⟨_,rfl⟩
 refine sD 2 U (pv c.val z1.val false) (qf (λw=>by rw [hz1]; exact Ya w c d (by assumption))) ?_
 obtain ⟨b1,hb1⟩:=xE (CH u.val v.val false c.val z1.val false)
 refine sD 3 U (.bool b1) (Quiet.pure (λw=>by rw [hb1]; exact C7 w _ _ _ _ _ _ _ _ _ _ U U U lK lK lK lK))<|sz 4 U U<|sI ?_
 cases b1
 ·have ha:¬ (u=c∧v+d=0):=by
   rintro ⟨e1,e2⟩
   have e:=GF u v c z1
   rw [← hb1] at e
   refine of_decide_eq_false e.symm ⟨e1,?_⟩
   rw [hz1]
   clear e ho hk hz1 h k
   grobner
  have hs:u=c→v=d:=λe=>Classical.byContradiction λe2=>Ec.off fld ho hk (λt=>e2 t.2) ha e
  refine sU<|Sy.skip<|Sy.in_<|sB<|sS (pv u.val v.val false) (qk 0 0 9 U U AX)<|sS (pv c.val d.val false) (qk 1 0 9 U U AX) ?_
  obtain ⟨z2,hz2⟩:∃ z:Fp,z=Ec.slp AR u v c d:=⟨_,rfl⟩
  refine sS (fv z2.val) (qf (by rw [hz2]; exact λw=>Va w u v c d (by assumption)))<|sM 35 (fcs 0) (λg3=>?_)
  refine sw 3 U (fcs z2.val) (wA U)<|sH (λj=>j == 10) ?_
  refine sD 0 U (fv z2.val) (qk 3 0 4 U U AN)<|sD 1 U (fv z2.val) (qk 3 0 4 U U AN) ?_
  obtain ⟨z3,hz3⟩:∃ z:Fp,z=z2*z2:=⟨_,rfl⟩
  refine sD 2 U (fv z3.val) (qf (by rw [hz3]; exact BZ z2 z2))<|sZ 3 U (pT g0 0)<|sD 4 U (fv u.val) (qk 0 0 4 U U AN) ?_
  obtain ⟨z4,hz4⟩:∃ z:Fp,z=z3 - u:=⟨_,rfl⟩
  refine sD 5 U (fv z4.val) (qf (by rw [hz4]; exact DD z3 u))<|sZ 6 U (pT g1 0)<|sD 7 U (fv c.val) (qk 1 0 4 U U AN) ?_
  obtain ⟨z5,hz5⟩:∃ z:Fp,z=z4 - c:=⟨_,rfl⟩
  refine sD 8 U (fv z5.val) (qf (by rw [hz5]; exact DD z4 c))<|sO 9 U 35 (fcs 0) (λg4=>?_)
  refine sx 10 U 4 U (fcs z5.val) (wA U)<|sE<|sR (λj=>j == 10) ?_
  refine sD 0 U (fv z2.val) (qL 3 g3 0 4 35 35 (fcs z2.val) rfl AN)<|sZ 1 U (pT g0 0)<|sD 2 U (fv u.val) (qL 0 g0 0 4 37 35 (pcs u.val v.val false) rfl AN)<|sD 3 U (fv z5.val) (qL 4 g4 0 4 35 35 (fcs z5.val) rfl AN) ?_
  obtain ⟨z6,hz6⟩:∃ z:Fp,z=u - z5:=⟨_,rfl⟩
  refine sD 4 U (fv z6.val) (qf (by rw [hz6]; exact DD u z5)) ?_
  obtain ⟨z7,hz7⟩:∃ z:Fp,z=z2*z6:=⟨_,rfl⟩
  refine sD 5 U (fv z7.val) (qf (by rw [hz7]; exact BZ z2 z6))<|sZ 6 U (pT g0 4)<|sD 7 U (fv v.val) (qL 0 g0 4 4 37 35 (pcs u.val v.val false) rfl AN) ?_
  obtain ⟨z8,hz8⟩:∃ z:Fp,z=z7 - v:=⟨_,rfl⟩
  refine sD 8 U (fv z8.val) (qf (by rw [hz8]; exact DD z7 v))<|sO 9 U 35 (fcs 0) (λg5=>?_)
  refine sX 10 U 5 g5 35 (fcs 0) (fcs z8.val) (wS 0 35 (fcs z8.val) rfl)<|sE<|sB<|sS (fv z5.val) (qL 4 g4 0 4 35 35 (fcs z5.val) rfl AN)<|sS (fv z8.val) (qL 5 g5 0 4 35 35 (fcs z8.val) rfl AN)<|sP (pv z5.val z8.val false)<|sW 2 g2 37 (pcs 0 0 false) (pcs z5.val z8.val false) (wS 0 37 (pcs z5.val z8.val false) rfl)<|sG<|Sy.ret ?_
  rw [show (ptv (Ec.add AR (some (u,v)) (some (c,d))):Value)=pv z5.val z8.val false from by simp only [Ec.add]; rw [if_neg ha, ← hz2]; unfold Ec.y3 Ec.x3 ptv; rw [hz8,hz7,hz6,hz5,hz4,hz3]]
  exact rc (v:=pv z5.val z8.val false) 2 U U AX
 ·have ha:u=c∧v+d=0:=by
   have e:=GF u v c z1
   rw [← hb1] at e
   have e:=of_decide_eq_true e.symm
   refine ⟨e.1,?_⟩
   rw [e.2,hz1]
   clear e ho hk hz1 h k
   grobner
  refine sT<|sC<|sS (pv 0 0 true) (qf CC)<|sW 2 g2 37 (pcs 0 0 false) (pcs 0 0 true) (wS 0 37 (pcs 0 0 true) rfl)<|sG<|Sy.ret<|Sy.in_ret<|Sy.then_ret ?_
  rw [show (ptv (Ec.add AR (some (u,v)) (some (c,d))):Value)=pv 0 0 true from by simp only [Ec.add]; rw [if_pos ha]; rfl]
  exact rc (v:=pv 0 0 true) 2 U U AX
theorem JB (w:World) (x y:Nat) (i:Bool) (x2 y2:Nat) (i2:Bool) (hx:x<K4) (hy:y<K4) (hx2:x2<K4) (hy2:y2<K4):Calls Tryz.prog 91 #[pv x y i,pv x2 y2 i2] w (Gets w (ptv (Ec.add AR (dec x y i) (dec x2 y2 i2)))):=by
 have o1:=C8 x y i
 have o2:=C8 x2 y2 i2
 rcases h:dec x y i with _ | ⟨u,v⟩ <;> rcases k:dec x2 y2 i2 with _ | ⟨c,d⟩
 ·exact ZG w x y i x2 y2 i2 hx hy hx2 hy2 h k
 ·exact ZF w x y i x2 y2 i2 hx hy hx2 hy2 c d h k
 ·exact ZE w x y i x2 y2 i2 hx hy hx2 hy2 u v h k
 ·rw [h] at o1
  rw [k] at o2
  exact ZD w x y i x2 y2 i2 hx hy hx2 hy2 u v c d h k o1 o2
end Cu
end
section
namespace Ec
variable {n:Nat} [NeZero n] {inv:Fin n→Fin n}
structure Jac (n:Nat) where
 x:Fin n
 y:Fin n
 z:Fin n
def Rep (a:Jac n):Pt n→Prop
 | none=>a.z=0
 | some (X,Y)=>a.z≠0∧a.x=X*(a.z*a.z)∧a.y=Y*(a.z*a.z*a.z)
theorem Fld.ne_mul (H:Fld n inv) {a b:Fin n} (ha:a≠0) (hb:b≠0):a*b≠0:=λh=>by
 rcases H.zero h with k | k
 ·exact ha k
 ·exact hb k
theorem tw (H:Fld n inv) {P:Pt n} {a s:Jac n} {u q:Fin n} (hP:On P) (h:Rep a P) (hu:u=a.x*a.x*3) (hz:s.z=a.y*a.z*2) (hq:q=a.x*(a.y*a.y)*4) (hx:s.x=u*u - (q+q)) (hy:s.y=u*(q - s.x) - a.y*a.y*(a.y*a.y)*8):Rep s (add inv P P):=by
 rcases P with _ | ⟨X,Y⟩
 ·show s.z=0
  have h:a.z=0:=h
  rw [hz,h]; clear hz hu hq hx hy; grobner
 ·obtain ⟨h0,h1,h2⟩:=h
  have hY:=H.noTwo X Y hP
  have hYY:Y+Y≠0:=λk=>hY (H.two _ k)
  have hn:¬ (X=X∧Y+Y=0):=λk=>hYY k.2
  obtain ⟨l,hl⟩:=xE (slp inv X Y X Y)
  have hl2:l*(Y+Y)=X*X*3:=by
   have hi:=H.one _ hYY
   rw [hl]; unfold slp; rw [if_pos U]
   clear hz hu hq hx hy h1 h2 hl
   grobner
  have ea:add inv (some (X,Y)) (some (X,Y))=some (x3 l X X,y3 l X Y X):=by rw [hl]; exact if_neg hn
  rw [ea]
  obtain ⟨ax,ay,z⟩:=a
  obtain ⟨sx,sy,sz⟩:=s
  simp only at h0 h1 h2 hu hz hq hx hy ⊢
  have e1:sz=Y*(z*z*z*z)*2:=by rw [hz,h2]; clear hu hq hx hy h1 h2 hl hl2 hz; grobner
  have e2:u=l*sz:=by
   rw [hu,h1,e1]
   have:X*(z*z)*(X*(z*z))*3=X*X*3*(z*z*z*z):=by clear hu hq hx hy h1 h2 hl hl2 hz e1; grobner
   rw [this, ← hl2]
   clear hu hq hx hy h1 h2 hl hl2 hz e1 this; grobner
  have e3:q=X*(sz*sz):=by rw [hq,h1,h2,e1]; clear hu hq hx hy h1 h2 hl hl2 hz e1 e2; grobner
  have e4:ay*ay*(ay*ay)*8=Y*(sz*sz*sz):=by rw [h2,e1]; clear hu hq hx hy h1 h2 hl hl2 hz e1 e2 e3; grobner
  have e5:sx=x3 l X X*(sz*sz):=by rw [hx,e2,e3]; unfold x3; clear hu hq hx hy h1 h2 hl hl2 hz e1 e2 e3 e4; grobner
  refine ⟨?_,e5,?_⟩
  ·rw [e1]
   have h4:=H.ne_mul (H.ne_mul (H.ne_mul h0 h0) h0) h0
   intro k
   refine H.ne_mul hYY h4 ?_
   rw [← k]
   clear hu hq hx hy h1 h2 hl hl2 hz e1 e2 e3 e4 e5 k; grobner
  ·rw [hy,e4,e2,e3,e5]
   unfold y3
   clear hu hq hx hy h1 h2 hl hl2 hz e1 e2 e3 e4 e5; grobner
theorem ad (H:Fld n inv) {X1 Y1 X2 Y2:Fin n} {s:Jac n} {Z u v c r:Fin n} (h1:Y1*Y1=X1*X1*X1+7) (h2:Y2*Y2=X2*X2*X2+7) (hZ:Z≠0) (hu:u=X1*(Z*Z)) (hv:v=Y1*(Z*Z*Z)) (hc:c=X2*(Z*Z) - u) (hr:r=Y2*(Z*Z*Z) - v)
  (hn:¬ (c=0∧r=0)) (hx:s.x=r*r - c*c*c - (u*(c*c)+u*(c*c))) (hy:s.y=r*(u*(c*c) - s.x) - v*(c*c*c)) (hz:s.z=Z*c):Rep s (add inv (some (X1,Y1)) (some (X2,Y2))):=by
 obtain ⟨sx,sy,sz⟩:=s
 simp only at hx hy hz ⊢
 have ec:c=(X2 - X1)*(Z*Z):=by rw [hc,hu]; clear hc hu hv hr hx hy hz h1 h2; grobner
 have er:r=(Y2 - Y1)*(Z*Z*Z):=by rw [hr,hv]; clear hc hu hv hr hx hy hz h1 h2; grobner
 by_cases hX:X1=X2
 ·subst hX
  have c0:c=0:=by rw [ec]; clear ec hc hu hv hr hx hy hz h1 h2 er hn; grobner
  have hY:Y1≠Y2:=λe=>hn ⟨c0,by rw [er,e]; clear ec hc hu hv hr hx hy hz h1 h2 er hn c0; grobner⟩
  have hs:Y1+Y2=0:=Classical.byContradiction λt=>off H h1 h2 (λq=>hY q.2) (λq=>t q.2) rfl
  have ea:add inv (some (X1,Y1)) (some (X1,Y2))=none:=if_pos ⟨rfl,hs⟩
  rw [ea]
  show sz=0
  rw [hz,c0]; clear ec hc hu hv hr hx hy hz h1 h2 er hn c0 hs; grobner
 ·have hd:X2 - X1≠0:=λe=>hX (by clear ec hc hu hv hr hx hy hz h1 h2 er hn; grobner)
  have hneg:¬ (X1=X2∧Y1+Y2=0):=λk=>hX k.1
  obtain ⟨l,hl⟩:=xE (slp inv X1 Y1 X2 Y2)
  have hl2:l*(X2 - X1)=Y2 - Y1:=by
   have hi:=H.one _ hd
   rw [hl]; unfold slp; rw [if_neg hX]
   clear ec hc hu hv hr hx hy hz h1 h2 er hn hl
   grobner
  simp only [add]
  rw [if_neg hneg, ← hl]
  have e1:sz=(X2 - X1)*(Z*Z*Z):=by rw [hz,ec]; clear ec hc hu hv hr hx hy hz h1 h2 er hn hl hl2; grobner
  have e2:r=l*sz:=by
   rw [er,e1, ← hl2]
   clear ec hc hu hv hr hx hy hz h1 h2 er hn hl hl2 e1; grobner
  have e3:u*(c*c)=X1*(sz*sz):=by rw [hu,ec,e1]; clear ec hc hu hv hr hx hy hz h1 h2 er hn hl hl2 e1 e2; grobner
  have e4:c*c*c=(X2 - X1)*(sz*sz):=by rw [ec,e1]; clear ec hc hu hv hr hx hy hz h1 h2 er hn hl hl2 e1 e2 e3; grobner
  have e6:v*(c*c*c)=Y1*(sz*sz*sz):=by rw [hv,ec,e1]; clear ec hc hu hv hr hx hy hz h1 h2 er hn hl hl2 e1 e2 e3 e4; grobner
  have e5:sx=x3 l X1 X2*(sz*sz):=by rw [hx,e2,e3,e4]; unfold x3; clear ec hc hu hv hr hx hy hz h1 h2 er hn hl hl2 e1 e2 e3 e4 e6; grobner
  refine ⟨?_,e5,?_⟩
  ·rw [e1]; exact H.ne_mul hd (H.ne_mul (H.ne_mul hZ hZ) hZ)
  ·rw [hy,e2,e3,e6,e5]
   unfold y3
   clear ec hc hu hv hr hx hy hz h1 h2 er hn hl hl2 e1 e2 e3 e4 e5 e6; grobner
theorem rep_point (H:Fld n inv) {a:Jac n} {P:Pt n} (h:Rep a P):(a.z=0∧P=none)∨(a.z≠0∧P=some (a.x*(inv a.z*inv a.z),a.y*(inv a.z*inv a.z*inv a.z))):=by
 rcases P with _ | ⟨X,Y⟩
 ·exact .inl ⟨h,rfl⟩
 ·obtain ⟨h0,h1,h2⟩:=h
  have hi:=H.one _ h0
  refine .inr ⟨h0,?_⟩
  rw [h1,h2]
  obtain ⟨i,hI⟩:=xE (inv a.z)
  rw [← hI] at hi ⊢
  have f1:X*(a.z*a.z)*(i*i)=X:=by
   have:X*(a.z*a.z)*(i*i)=X*(a.z*i)*(a.z*i):=by clear hi hI h1 h2; grobner
   rw [this,hi]; clear hi hI h1 h2 this; grobner
  have f2:Y*(a.z*a.z*a.z)*(i*i*i)=Y:=by
   have:Y*(a.z*a.z*a.z)*(i*i*i)=Y*(a.z*i)*(a.z*i)*(a.z*i):=by clear hi hI h1 h2 f1; grobner
   rw [this,hi]; clear hi hI h1 h2 this f1; grobner
  rw [f1,f2]
end Ec
end
section
namespace Cu
open Go.RowKit Sy
abbrev J:=Ec.Jac pM
def tcs (x y z:Nat):Array Value:=(fws x++(fws y++fws z)).toArray
def tv (x y z:Nat):Value:=.agg (tcs x y z)
def jv (a:J):Value:=tv a.x.val a.y.val a.z.val
def B0 (a:J):J :=
 ⟨a.x*a.x*3*(a.x*a.x*3) - (a.x*(a.y*a.y)*4+a.x*(a.y*a.y)*4),
  a.x*a.x*3*(a.x*(a.y*a.y)*4 - (a.x*a.x*3*(a.x*a.x*3) - (a.x*(a.y*a.y)*4+a.x*(a.y*a.y)*4))) - a.y*a.y*(a.y*a.y)*8,a.y*a.z*2⟩
theorem Ho {a:J} {P:Pt} (hP:Ec.On P) (h:Ec.Rep a P):Ec.Rep (B0 a) (Ec.add AR P P):=Ec.tw fld hP h U U U U U
def uJ (a b:J):Fp:=a.x*(b.z*b.z)
def vJ (a b:J):Fp:=a.y*(b.z*b.z*b.z)
def cJ (a b:J):Fp:=b.x*(a.z*a.z) - uJ a b
def rJ (a b:J):Fp:=b.y*(a.z*a.z*a.z) - vJ a b
def sxJ (a b:J):Fp:=rJ a b*rJ a b - cJ a b*cJ a b*cJ a b - (uJ a b*(cJ a b*cJ a b)+uJ a b*(cJ a b*cJ a b))
def syJ (a b:J):Fp:=rJ a b*(uJ a b*(cJ a b*cJ a b) - sxJ a b) - vJ a b*(cJ a b*cJ a b*cJ a b)
def szJ (a b:J):Fp:=a.z*b.z*cJ a b
def Cf (a b:J):J:=if a.z=0 then b else if b.z=0 then a else if cJ a b=0∧rJ a b=0 then B0 a else ⟨sxJ a b,syJ a b,szJ a b⟩
theorem Ps {a b:J} (h:a.z=0):Cf a b=b:=if_pos h
theorem U9 {a b:J} (h:a.z≠0) (k:b.z=0):Cf a b=a:=by unfold Cf; rw [if_neg h,if_pos k]
theorem Pq {a b:J} (h:a.z≠0) (k:b.z≠0) (c:cJ a b=0) (r:rJ a b=0):Cf a b=B0 a:=by unfold Cf; rw [if_neg h,if_neg k,if_pos ⟨c,r⟩]
theorem Me {a b:J} (h:a.z≠0) (k:b.z≠0) (c:¬ (cJ a b=0∧rJ a b=0)):Cf a b=⟨sxJ a b,syJ a b,szJ a b⟩:=by unfold Cf; rw [if_neg h,if_neg k,if_neg c]
theorem Hw {a b:J} {P Q:Pt} (hP:Ec.On P) (hQ:Ec.On Q) (h:Ec.Rep a P) (k:Ec.Rep b Q):Ec.Rep (Cf a b) (Ec.add AR P Q):=by
 rcases P with _ | ⟨X1,Y1⟩
 ·rw [Ps h,Ec.zero_add]; exact k
 rcases Q with _ | ⟨X2,Y2⟩
 ·rw [U9 h.1 k]; exact h
 obtain ⟨h0,h1,h2⟩:=h
 obtain ⟨k0,k1,k2⟩:=k
 have hZ:a.z*b.z≠0:=fld.ne_mul h0 k0
 have eu:uJ a b=X1*(a.z*b.z*(a.z*b.z)):=by unfold uJ; rw [h1]; clear h1 h2 k1 k2 h0 k0 hZ hP hQ; grobner
 have ev:vJ a b=Y1*(a.z*b.z*(a.z*b.z)*(a.z*b.z)):=by unfold vJ; rw [h2]; clear h1 h2 k1 k2 h0 k0 hZ hP hQ eu; grobner
 have ec:cJ a b=X2*(a.z*b.z*(a.z*b.z)) - uJ a b:=by unfold cJ; rw [k1]; clear h1 h2 k1 k2 h0 k0 hZ hP hQ eu ev; grobner
 have er:rJ a b=Y2*(a.z*b.z*(a.z*b.z)*(a.z*b.z)) - vJ a b:=by unfold rJ; rw [k2]; clear h1 h2 k1 k2 h0 k0 hZ hP hQ eu ev ec; grobner
 by_cases hc:cJ a b=0∧rJ a b=0
 ·rw [Pq h0 k0 hc.1 hc.2]
  have g1:(X2 - X1)*(a.z*b.z*(a.z*b.z))=0:=by rw [← hc.1,ec,eu]; clear h1 h2 k1 k2 h0 k0 hZ hP hQ eu ev ec er hc; grobner
  have g2:(Y2 - Y1)*(a.z*b.z*(a.z*b.z)*(a.z*b.z))=0:=by rw [← hc.2,er,ev]; clear h1 h2 k1 k2 h0 k0 hZ hP hQ eu ev ec er hc g1; grobner
  have e1:X2=X1:=by
   rcases fld.zero g1 with q | q
   ·clear h1 h2 k1 k2 h0 k0 hZ hP hQ eu ev ec er hc g1 g2; grobner
   ·exact absurd q (fld.ne_mul hZ hZ)
  have e2:Y2=Y1:=by
   rcases fld.zero g2 with q | q
   ·clear h1 h2 k1 k2 h0 k0 hZ hP hQ eu ev ec er hc g1 g2; grobner
   ·exact absurd q (fld.ne_mul (fld.ne_mul hZ hZ) hZ)
  subst e1 e2
  exact Ho hP ⟨h0,h1,h2⟩
 ·rw [Me h0 k0 hc]
  exact Ec.ad fld (u:=uJ a b) (v:=vJ a b) (c:=cJ a b) (r:=rJ a b) hP hQ hZ eu ev ec er hc U U U
theorem Gz (w:World) (a:Fp):AY 225 #[fv a.val] w (Gets w (fv (a+a).val)):=by
 refine Sy.enter (args:=[fv a.val]) Tryz.func225 U kL<|sC<|sM 35 (fcs a.val) (λg0=>?_)
 refine sM 35 (fcs 0) (λg1=>?_)
 refine sA<|sS (fv a.val) (qk 0 0 4 U U AN)<|sS (fv a.val) (qk 0 0 4 U U AN) ?_
 obtain ⟨z1,hz1⟩:∃ z:Fp,z=a+a:=⟨_,rfl⟩
 refine sS (fv z1.val) (qf (by rw [hz1]; exact KN a a))<|sw 1 U (fcs z1.val) (wA U)<|sG<|Sy.ret ?_
 rw [show (fv (a+a).val:Value)=fv z1.val from by rw [hz1]]
 exact rc (v:=fv z1.val) 1 U U AN
theorem Nx (w:World) (a:J):AY 176 #[tv a.x.val a.y.val a.z.val] w (Gets w (tv (B0 a).x.val (B0 a).y.val (B0 a).z.val)):=by
 refine Sy.enter (args:=[tv a.x.val a.y.val a.z.val]) Tryz.func176 U kL<|sC<|sM 153 (tcs a.x.val a.y.val a.z.val) (λg0=>?_)
 refine sM 153 (tcs 0 0 0) (λg1=>?_)
 refine sA<|sP (pT g0 0)<|sS (fv a.x.val) (qk 0 0 4 U U AN)<|sP (pT g0 0)<|sS (fv a.x.val) (qk 0 0 4 U U AN) ?_
 obtain ⟨z1,hz1⟩:∃ z:Fp,z=a.x*a.x:=⟨_,rfl⟩
 refine sS (fv z1.val) (qf (by rw [hz1]; exact BZ a.x a.x))<|sM 35 (fcs 0) (λg2=>?_)
 refine sw 2 U (fcs z1.val) (wA U)<|sH (λj=>j == 6) ?_
 refine sD 0 U (fv z1.val) (qk 2 0 4 U U AN)<|sD 1 U (fv z1.val) (qk 2 0 4 U U AN) ?_
 obtain ⟨z2,hz2⟩:∃ z:Fp,z=z1+z1:=⟨_,rfl⟩
 refine sD 2 U (fv z2.val) (qf (by rw [hz2]; exact KN z1 z1))<|sD 3 U (fv z1.val) (qk 2 0 4 U U AN) ?_
 obtain ⟨z3,hz3⟩:∃ z:Fp,z=z2+z1:=⟨_,rfl⟩
 refine sD 4 U (fv z3.val) (qf (by rw [hz3]; exact KN z2 z1))<|sO 5 U 35 (fcs 0) (λg3=>?_)
 refine sx 6 U 3 U (fcs z3.val) (wA U)<|sE<|sB<|sP (pT g0 4)<|sS (fv a.y.val) (qk 0 4 4 U U AN)<|sP (pT g0 4)<|sS (fv a.y.val) (qk 0 4 4 U U AN) ?_
 obtain ⟨z4,hz4⟩:∃ z:Fp,z=a.y*a.y:=⟨_,rfl⟩
 refine sS (fv z4.val) (qf (by rw [hz4]; exact BZ a.y a.y)) ?_
 obtain ⟨z5,hz5⟩:∃ z:Fp,z=z4+z4:=⟨_,rfl⟩
 refine sS (fv z5.val) (qf (λw=>by rw [hz5]; exact Gz w z4))<|sM 35 (fcs 0) (λg4=>?_)
 refine sw 4 U (fcs z5.val) (wA U)<|sA<|sP (pT g0 0)<|sS (fv a.x.val) (qk 0 0 4 U U AN)<|sS (fv z5.val) (qk 4 0 4 U U AN) ?_
 obtain ⟨z6,hz6⟩:∃ z:Fp,z=a.x*z5:=⟨_,rfl⟩
 refine sS (fv z6.val) (qf (by rw [hz6]; exact BZ a.x z5)) ?_
 obtain ⟨z7,hz7⟩:∃ z:Fp,z=z6+z6:=⟨_,rfl⟩
 refine sS (fv z7.val) (qf (λw=>by rw [hz7]; exact Gz w z6))<|sM 35 (fcs 0) (λg5=>?_)
 refine sW 5 g5 35 (fcs 0) (fcs z7.val) (wS 0 35 (fcs z7.val) rfl)<|sA<|sM 153 (tcs 0 0 0) (λg6=>?_)
 refine sH (λj=>j == 7) ?_
 refine sD 0 U (fv z3.val) (qL 3 g3 0 4 35 35 (fcs z3.val) rfl AN)<|sD 1 U (fv z3.val) (qL 3 g3 0 4 35 35 (fcs z3.val) rfl AN) ?_
 obtain ⟨z8,hz8⟩:∃ z:Fp,z=z3*z3:=⟨_,rfl⟩
 refine sD 2 U (fv z8.val) (qf (by rw [hz8]; exact BZ z3 z3))<|sD 3 U (fv z7.val) (qL 5 g5 0 4 35 35 (fcs z7.val) rfl AN) ?_
 obtain ⟨z9,hz9⟩:∃ z:Fp,z=z7+z7:=⟨_,rfl⟩
 refine sD 4 U (fv z9.val) (qf (λw=>by rw [hz9]; exact Gz w z7)) ?_
 obtain ⟨z10,hz10⟩:∃ z:Fp,z=z8 - z9:=⟨_,rfl⟩
 refine sD 5 U (fv z10.val) (qf (by rw [hz10]; exact DD z8 z9))<|sZ 6 U (pT g6 0)<|sX 7 U 6 g6 153 (tcs 0 0 0) (tcs z10.val 0 0) (wS 0 35 (fcs z10.val) rfl)<|sE<|sR (λj=>j == 12) ?_
 refine sD 0 U (fv z3.val) (qL 3 g3 0 4 35 35 (fcs z3.val) rfl AN)<|sD 1 U (fv z7.val) (qL 5 g5 0 4 35 35 (fcs z7.val) rfl AN)<|sZ 2 U (pT g6 0)<|sD 3 U (fv z10.val) (qL 6 g6 0 4 153 35 (tcs z10.val 0 0) rfl AN) ?_
 obtain ⟨z11,hz11⟩:∃ z:Fp,z=z7 - z10:=⟨_,rfl⟩
 refine sD 4 U (fv z11.val) (qf (by rw [hz11]; exact DD z7 z10)) ?_
 obtain ⟨z12,hz12⟩:∃ z:Fp,z=z3*z11:=⟨_,rfl⟩
 refine sD 5 U (fv z12.val) (qf (by rw [hz12]; exact BZ z3 z11))<|sD 6 U (fv z5.val) (qL 4 g4 0 4 35 35 (fcs z5.val) rfl AN)<|sD 7 U (fv z5.val) (qL 4 g4 0 4 35 35 (fcs z5.val) rfl AN) ?_
 obtain ⟨z13,hz13⟩:∃ z:Fp,z=z5*z5:=⟨_,rfl⟩
 refine sD 8 U (fv z13.val) (qf (by rw [hz13]; exact BZ z5 z5)) ?_
 obtain ⟨z14,hz14⟩:∃ z:Fp,z=z13+z13:=⟨_,rfl⟩
 refine sD 9 U (fv z14.val) (qf (λw=>by rw [hz14]; exact Gz w z13)) ?_
 obtain ⟨z15,hz15⟩:∃ z:Fp,z=z12 - z14:=⟨_,rfl⟩
 refine sD 10 U (fv z15.val) (qf (by rw [hz15]; exact DD z12 z14))<|sZ 11 U (pT g6 4)<|sX 12 U 6 g6 153 (tcs z10.val 0 0) (tcs z10.val z15.val 0) (wS 4 35 (fcs z15.val) rfl)<|sE<|sB<|sP (pT g0 4)<|sS (fv a.y.val) (qL 0 g0 4 4 153 35 (tcs a.x.val a.y.val a.z.val) rfl AN)<|sP (pT g0 8)<|sS (fv a.z.val) (qL 0 g0 8 4 153 35 (tcs a.x.val a.y.val a.z.val) rfl AN) ?_
 obtain ⟨z16,hz16⟩:∃ z:Fp,z=a.y*a.z:=⟨_,rfl⟩
 refine sS (fv z16.val) (qf (by rw [hz16]; exact BZ a.y a.z)) ?_
 obtain ⟨z17,hz17⟩:∃ z:Fp,z=z16+z16:=⟨_,rfl⟩
 refine sS (fv z17.val) (qf (λw=>by rw [hz17]; exact Gz w z16))<|sP (pT g6 8)<|sW 6 g6 153 (tcs z10.val z15.val 0) (tcs z10.val z15.val z17.val) (wS 8 35 (fcs z17.val) rfl)<|sA<|sS (tv z10.val z15.val z17.val) (qL 6 g6 0 12 153 153 (tcs z10.val z15.val z17.val) rfl CM)<|sW 1 g1 153 (tcs 0 0 0) (tcs z10.val z15.val z17.val) (wS 0 153 (tcs z10.val z15.val z17.val) rfl)<|sG<|Sy.ret ?_
 rw [show (tv (B0 a).x.val (B0 a).y.val (B0 a).z.val:Value)=tv z10.val z15.val z17.val from by
   have k0:(B0 a).x=z10:=by
    simp only [B0]
    grobner
   have k1:(B0 a).y=z15:=by
    simp only [B0]
    grobner
   have k2:(B0 a).z=z17:=by
    simp only [B0]
    grobner
   rw [k0,k1,k2]]
 exact rc (v:=tv z10.val z15.val z17.val) 1 U U CM
theorem Kg (w:World) (a:J) (t:Fp):AY 175 #[tv a.x.val a.y.val a.z.val,fv t.val] w (Gets w (.tuple #[fv (a.x*(t*t)).val,fv (a.y*(t*t*t)).val])):=by
 refine Sy.enter (args:=[tv a.x.val a.y.val a.z.val,fv t.val]) Tryz.func175 U kL<|sC<|sM 153 (tcs a.x.val a.y.val a.z.val) (λg0=>?_)
 refine sM 35 (fcs t.val) (λg1=>?_)
 refine sM 35 (fcs 0) (λg2=>?_)
 refine sM 35 (fcs 0) (λg3=>?_)
 refine sA<|sS (fv t.val) (qk 1 0 4 U U AN)<|sS (fv t.val) (qk 1 0 4 U U AN) ?_
 obtain ⟨z1,hz1⟩:∃ z:Fp,z=t*t:=⟨_,rfl⟩
 refine sS (fv z1.val) (qf (by rw [hz1]; exact BZ t t))<|sM 35 (fcs 0) (λg4=>?_)
 refine sw 4 U (fcs z1.val) (wA U)<|sH (λj=>j == 10 || j == 11)<|sZ 0 U (pT g0 0)<|sD 1 U (fv a.x.val) (qk 0 0 4 U U AN)<|sD 2 U (fv z1.val) (qk 4 0 4 U U AN) ?_
 obtain ⟨z2,hz2⟩:∃ z:Fp,z=a.x*z1:=⟨_,rfl⟩
 refine sD 3 U (fv z2.val) (qf (by rw [hz2]; exact BZ a.x z1))<|Sy.stepDB 4 [5,9,10,11] rfl kR (λ_ _ _ _ h=>h) kR (pT g0 4) qP<|Sy.stepDB 5 [9,10,11] rfl kR (λ_ _ _ _ h=>h) kR (fv a.y.val) (qk 0 4 4 U U AN)<|Sy.stepDB 6 [8,9,10,11] rfl kR (λ_ _ _ _ h=>h) kR (fv z1.val) (qk 4 0 4 U U AN)<|Sy.stepDB 7 [8,9,10,11] rfl kR (λ_ _ _ _ h=>h) kR (fv t.val) (qk 1 0 4 U U AN) ?_
 obtain ⟨z3,hz3⟩:∃ z:Fp,z=z1*t:=⟨_,rfl⟩
 refine Sy.stepDB 8 [9,10,11] rfl kR (λ_ _ _ _ h=>h) kR (fv z3.val) (qf (by rw [hz3]; exact BZ z1 t)) ?_
 obtain ⟨z4,hz4⟩:∃ z:Fp,z=a.y*z3:=⟨_,rfl⟩
 refine sD 9 U (fv z4.val) (qf (by rw [hz4]; exact BZ a.y z3))<|sx 10 U 2 U (fcs z2.val) (wA U)<|sx 11 U 3 U (fcs z4.val) (wA U)<|sI<|Sy.ret ?_
 rw [show (.tuple #[fv (a.x*(t*t)).val,fv (a.y*(t*t*t)).val]:Value)=.tuple #[fv z2.val,fv z4.val] from by rw [hz4,hz3,hz2,hz1]]
 exact Sy.ret2 (v:=fv z2.val) (u:=fv z4.val) rfl (.inl (Res.cell (ty':=35) g2 2 (fcs z2.val) _ kR kR AN U kR kR)) (.inl (Res.cell (ty':=35) g3 3 (fcs z4.val) _ kR kR AN U kR kR))
end Cu
end
section
namespace Sy
open Go.RowKit
theorem St.swap {w0:Base} {w:World} {L:AC} {x y:Nat×TypeId×Array Value} (h:St w0 w (L++[y]++[x])):St w0 w (L++[x]++[y]):=by
 have hp:(L++[y]++[x]).Perm (L++[x]++[y]):=by
  rw [List.append_assoc,List.append_assoc]
  exact List.Perm.append_left L (List.Perm.swap x y [])
 exact ⟨h.below,λg t cs hm=>h.blk g t cs (hp.symm.subset hm),(hp.map (·.1)).nodup h.apart,h.size,h.non⟩
theorem Fr.swap {ds:List Deferred} {a:Act} {n:Nat} {F:AO} {i j:Nat} {u v:Value} (hij:(i == j)=false) (h:Fr ds a n ((i,u)::(j,v)::F)):Fr ds a n ((j,v)::(i,u)::F):=h.less λk x hk=>by
 have hne:i≠j:=by simpa using hij
 simp only [List.lookup_cons] at hk ⊢
 by_cases e1:k=i
 ·subst e1
  have e2:(k == j)=false:=by simpa using hne
  rw [e2] at hk
  simpa using hk
 ·have e1':(k == i)=false:=by simpa using e1
  rw [e1'] at hk ⊢
  exact hk
section
variable {P:Program} {w0:Base} {n:Nat} {Q:Exit→Act→World→Prop} {F:AO} {L:AC} {ops:Array Oper} {ex:Nat→Bool} {fuel:Nat} {listed:Array Bool}
theorem makeDuo (i j:Nat) {oi oj:Oper} (hi0:ops.toList[i]? = some oi) (hj0:ops.toList[j]? = some oj) (hr:Region.ready .any ops listed=[i,j]) (hri:Region.ready .any ops (listed.setIfInBounds i true)=[j]) (hrj:Region.ready .any ops (listed.setIfInBounds j true)=[i])
  (di dj:Nat) (hdi:oi.dst=some di) (hdj:oj.dst=some dj) (hne:(di == dj)=false) (hij:i≠j)
  (hgi:Bv ops n F oi=true) (hgj:Bv ops n F oj=true) (hgi':∀ v,Bv ops n (Bo F (some dj) v) oi=true) (hgj':∀ v,Bv ops n (Bo F (some di) v) oj=true)
  (ti tj:TypeId) (ci cj:Array Value) (vi vj:Nat→Value) (hmi:∀ F',Makes P F' oi ti ci vi) (hmj:∀ F',Makes P F' oj tj cj vj)
  (h:∀ gi gj,wpD P w0 n ops Q ex ((dj,vj gj)::(di,vi gi)::F) (L++[(gi,ti,ci)]++[(gj,tj,cj)]) fuel ((listed.setIfInBounds i true).setIfInBounds j true)):wpD P w0 n ops Q ex F L (fuel+1+1) listed:=λa w ha hw=>by
 have fi:KW n (some di)=true:=hdi ▸ (AQ hgi).2.2.1
 have fj:KW n (some dj)=true:=hdj ▸ (AQ hgj).2.2.1
 refine JE i j hi0 hj0 hr (ha.wanted (AQ hgi).1) (ha.wanted (AQ hgj).1) (λw1 h1 K hK=>?_) (λw1 h1 K hK=>?_)
 ·unfold Oper.wp
  rw [Ao hgi ha,hmi F w1]
  refine hK _ _ (λ_=>BK w1 _) ?_
  rw [hdi]
  have ha1:=ha.put fi (vi w1.heap.size)
  have hw1:=(hw.gr h1).add (BK w1 (.cells ci ti)) (Nat.le_refl _) (Blk.new w1 ti ci)
  refine Al j hj0 hri (ha1.wanted (AQ (hgj' _)).1) (λw2 h2 K2 hK2=>?_)
  unfold Oper.wp
  rw [Ao (hgj' _) ha1,hmj _ w2]
  refine hK2 _ _ (λ_=>BK w2 _) ?_
  rw [hdj]
  exact h w1.heap.size w2.heap.size _ _ (ha1.put fj _) ((hw1.gr h2).add (BK w2 (.cells cj tj)) (Nat.le_refl _) (Blk.new w2 tj cj))
 ·unfold Oper.wp
  rw [Ao hgj ha,hmj F w1]
  refine hK _ _ (λ_=>BK w1 _) ?_
  rw [hdj]
  have ha1:=ha.put fj (vj w1.heap.size)
  have hw1:=(hw.gr h1).add (BK w1 (.cells cj tj)) (Nat.le_refl _) (Blk.new w1 tj cj)
  refine Al i hi0 hrj (ha1.wanted (AQ (hgi' _)).1) (λw2 h2 K2 hK2=>?_)
  unfold Oper.wp
  rw [Ao (hgi' _) ha1,hmi _ w2]
  refine hK2 _ _ (λ_=>BK w2 _) ?_
  rw [hdi,Array.setIfInBounds_comm _ _ (Ne.symm hij)]
  exact h w2.heap.size w1.heap.size _ _ (Fr.swap hne (ha1.put fi _)) (St.swap ((hw1.gr h2).add (BK w2 (.cells ci ti)) (Nat.le_refl _) (Blk.new w2 ti ci)))
def wpO (P:Program) (w0:Base) (n:Nat) (ops:Array Oper) (Q:Exit→Act→World→Prop) (ex:Nat→Bool) (F:AO) (L:AC) (fuel:Nat) (listed:Array Bool) (i:Nat):Prop :=
 ∃ oi,ops[i]? = some oi∧C2 ops F oi=some true∧∀ a w,Fr w0.ds a n F→St w0 w L→∀ w1,Gr w w1→∀ K:Act→World→Prop,(∀ a' w',(ex i=false→Gr w1 w')→BD P .any ops Q ex fuel (listed.setIfInBounds i true) a' w'→K a' w')→oi.wp P a w1 K Q
theorem anyOf (l:List Nat) (hr:Region.ready .any ops listed=l) (hl:l≠[]) (h:∀ i∈l,wpO P w0 n ops Q ex F L fuel listed i):wpD P w0 n ops Q ex F L (fuel+1) listed:=λa w ha hw w1 hw1 =>
 ⟨λh0=>(hl (hr.symm.trans h0)).elim,λm hm=>by
  rw [hr] at hm
  obtain ⟨oi,ho,hg,hk⟩:=h m hm
  refine wpOp_step ho (λK' hK=>?_)
  rw [if_pos (ha.wanted hg)]
  exact hk a w ha hw w1 hw1 K' (λa' w' h1 h2=>hK a' w' ⟨h1,h2⟩)⟩
theorem each2 {p:Nat→Prop} {i j:Nat} (hi:p i) (hj:p j):∀ k∈[i,j],p k:=λk hk=>by
 simp only [List.mem_cons,List.not_mem_nil,or_false] at hk
 rcases hk with rfl|rfl <;> assumption
theorem each3 {p:Nat→Prop} {i j m:Nat} (hi:p i) (hj:p j) (hm:p m):∀ k∈[i,j,m],p k:=λk hk=>by
 simp only [List.mem_cons,List.not_mem_nil,or_false] at hk
 rcases hk with rfl|rfl|rfl <;> assumption
theorem each1 {p:Nat→Prop} {i:Nat} (hi:p i):∀ k∈[i],p k:=λk hk=>by rw [List.mem_singleton.1 hk]; exact hi
theorem oneQuiet {i:Nat} {oi:Oper} (hi0:ops.toList[i]? = some oi) (hg:Bv ops n F oi=true) (v:Value) (hq:Quiet P w0 F L oi v) (h:wpD P w0 n ops Q ex (Bo F oi.dst v) L fuel (listed.setIfInBounds i true)):wpO P w0 n ops Q ex F L fuel listed i :=
 ⟨oi,by simpa using hi0,(AQ hg).1,λa w ha hw w1 h1 K hK=>by
  have hw1:=hw.gr h1
  have h0:=hq w1 hw1
  unfold Dq at h0
  unfold Oper.wp
  rw [Ao hg ha]
  have last:∀ w2,Gr w1 w2→BD P .any ops Q ex fuel (listed.setIfInBounds i true) (a.put oi.dst v) w2:=λw2 h2=>h _ _ (ha.put (AQ hg).2.2.1 v) (hw1.gr h2)
  generalize (execOp (evF F) oi).run P w1=r at *
  cases r with
  | ok x w' =>
   cases x <;> simp only [Oper.upon] at h0 ⊢
   case value u=>rw [h0.1]; exact hK _ _ (λ_=>h0.2) (last _ h0.2)
   case skip=>rw [← h0.1]; exact hK _ _ (λ_=>h0.2) (last _ h0.2)
   case enter f args =>
    refine Calls.mono h0 λe w'' he=>?_
    rw [he.1]
    exact hK _ _ (λ_=>he.2) (last _ he.2)
  | halt x w'=>cases x <;> exact h0.elim⟩
theorem oneMake {i:Nat} {oi:Oper} (hi0:ops.toList[i]? = some oi) (hg:Bv ops n F oi=true) (t:TypeId) (cs:Array Value) (val:Nat→Value) (hm:Makes P F oi t cs val) (h:∀ g,wpD P w0 n ops Q ex (Bo F oi.dst (val g)) (L++[(g,t,cs)]) fuel (listed.setIfInBounds i true)):wpO P w0 n ops Q ex F L fuel listed i :=
 ⟨oi,by simpa using hi0,(AQ hg).1,λa w ha hw w1 h1 K hK=>by
  unfold Oper.wp
  rw [Ao hg ha,hm w1]
  exact hK _ _ (λ_=>BK w1 _) (h w1.heap.size _ _ (ha.put (AQ hg).2.2.1 _) ((hw.gr h1).add (BK w1 _) (Nat.le_refl _) (Blk.new w1 t cs)))⟩
theorem oneWrite {i:Nat} {oi:Oper} (hi0:ops.toList[i]? = some oi) (hex:ex i=true) (hg:Bv ops n F oi=true) (b g:Nat) (t:TypeId) (cs cs':Array Value) (hL:L[b]? = some (g,t,cs)) (hm:Writes P F oi g t cs cs') (h:wpD P w0 n ops Q ex (Bo F oi.dst undef) (L.set b (g,t,cs')) fuel (listed.setIfInBounds i true)):wpO P w0 n ops Q ex F L fuel listed i :=
 ⟨oi,by simpa using hi0,(AQ hg).1,λa w ha hw w1 h1 K hK=>by
  obtain ⟨w',e1,e2,e3⟩:=hm w1 ((hw.gr h1).get hL)
  unfold Oper.wp
  rw [Ao hg ha,e1]
  exact hK _ _ (λe=>by rw [hex] at e; cases e) (h _ _ (ha.put (AQ hg).2.2.1 _) ((hw.gr h1).set hL e2 e3))⟩
end
end Sy
end
section
namespace Cu
open Go.RowKit Sy
theorem Pp (w:World) (a b:J):AY 113 #[tv a.x.val a.y.val a.z.val,tv b.x.val b.y.val b.z.val] w (Gets w (tv (Cf a b).x.val (Cf a b).y.val (Cf a b).z.val)):=by
 refine Sy.enter (args:=[tv a.x.val a.y.val a.z.val,tv b.x.val b.y.val b.z.val]) Tryz.func113 U kL<|sC<|sM 153 (tcs a.x.val a.y.val a.z.val) (λg0=>?_)
 refine sM 153 (tcs b.x.val b.y.val b.z.val) (λg1=>?_)
 refine sM 153 (tcs 0 0 0) (λg2=>?_)
 refine sG<|Sy.seq<|Sy.seq<|Sy.regionD (λj=>false) kR<|sZ 0 U (pT g0 8)<|sD 1 U (fv a.z.val) (qk 0 8 4 U U AN) ?_
 obtain ⟨z1,hz1⟩:∃ z:Fp,z=(0:Fp):=⟨_,rfl⟩
 refine sD 2 U (fv z1.val) (qf (λw=>by rw [hz1]; exact NP 0 (by decide +kernel) dZ w)) ?_
 obtain ⟨b1,hb1⟩:=xE (decide (a.z.val=z1.val))
 refine sD 3 U (.bool b1) (Quiet.pure (λw=>by rw [hb1]; exact F5 w _ _ _ _ _ _ U U U lK lK))<|sI ?_
 cases b1
 ·have eb1:a.z≠0:=λe=>of_decide_eq_false hb1.symm (by rw [e,hz1])
  refine sU<|Sy.skip<|Sy.then_<|Sy.seq<|Sy.seq<|Sy.regionD (λj=>false) kR<|sZ 0 U (pT g1 8)<|sD 1 U (fv b.z.val) (qk 1 8 4 U U AN) ?_
  obtain ⟨z2,hz2⟩:∃ z:Fp,z=(0:Fp):=⟨_,rfl⟩
  refine sD 2 U (fv z2.val) (qf (λw=>by rw [hz2]; exact NP 0 (by decide +kernel) dZ w)) ?_
  obtain ⟨b2,hb2⟩:=xE (decide (b.z.val=z2.val))
  refine sD 3 U (.bool b2) (Quiet.pure (λw=>by rw [hb2]; exact F5 w _ _ _ _ _ _ U U U lK lK))<|sI ?_
  cases b2
  ·have eb2:b.z≠0:=λe=>of_decide_eq_false hb2.symm (by rw [e,hz2])
   refine sU<|Sy.skip<|sB<|sS (tv a.x.val a.y.val a.z.val) (qk 0 0 12 U U CM)<|sP (pT g1 8)<|sS (fv b.z.val) (qk 1 8 4 U U AN) ?_
   obtain ⟨z3,hz3⟩:∃ z:Fp,z=uJ a b:=⟨_,rfl⟩
   obtain ⟨z4,hz4⟩:∃ z:Fp,z=vJ a b:=⟨_,rfl⟩
   refine sS (.tuple #[fv z3.val,fv z4.val]) (qf (λw=>by rw [hz3,hz4]; exact Kg w a b.z))<|sp U<|sp U<|sp U<|sM 35 (fcs 0) (λg3=>?_)
   refine sM 35 (fcs 0) (λg4=>?_)
   refine sw 3 U (fcs z3.val) (wA U)<|sw 4 U (fcs z4.val) (wA U)<|sA<|sS (tv b.x.val b.y.val b.z.val) (qk 1 0 12 U U CM)<|sP (pT g0 8)<|sS (fv a.z.val) (qk 0 8 4 U U AN) ?_
   obtain ⟨z5,hz5⟩:∃ z:Fp,z=uJ b a:=⟨_,rfl⟩
   obtain ⟨z6,hz6⟩:∃ z:Fp,z=vJ b a:=⟨_,rfl⟩
   refine sS (.tuple #[fv z5.val,fv z6.val]) (qf (λw=>by rw [hz5,hz6]; exact Kg w b a.z))<|sp U<|sp U<|sp U<|sM 35 (fcs 0) (λg5=>?_)
   refine sM 35 (fcs 0) (λg6=>?_)
   refine sW 5 g5 35 (fcs 0) (fcs z5.val) (wS 0 35 (fcs z5.val) rfl)<|sW 6 g6 35 (fcs 0) (fcs z6.val) (wS 0 35 (fcs z6.val) rfl)<|sH (λj=>j == 8 || j == 9)<|sD 0 U (fv z5.val) (qL 5 g5 0 4 35 35 (fcs z5.val) rfl AN)<|sD 1 U (fv z3.val) (qL 3 g3 0 4 35 35 (fcs z3.val) rfl AN) ?_
   obtain ⟨z7,hz7⟩:∃ z:Fp,z=z5 - z3:=⟨_,rfl⟩
   refine sD 2 U (fv z7.val) (qf (by rw [hz7]; exact DD z5 z3))<|Sy.stepDB 3 [5,8,9] rfl kR (λ_ _ _ _ h=>h) kR (fv z6.val) (qL 6 g6 0 4 35 35 (fcs z6.val) rfl AN)<|Sy.stepDB 4 [5,8,9] rfl kR (λ_ _ _ _ h=>h) kR (fv z4.val) (qL 4 g4 0 4 35 35 (fcs z4.val) rfl AN) ?_
   obtain ⟨z8,hz8⟩:∃ z:Fp,z=z6 - z4:=⟨_,rfl⟩
   refine sD 5 U (fv z8.val) (qf (by rw [hz8]; exact DD z6 z4))<|Sy.makeDuo 6 7 U U kR kR kR 9 10 U U U dZ kR kR kF kF 35 35 (fcs 0) (fcs 0) ptr ptr (λ_ _=>kZ) (λ_ _=>kZ) (λg7 g8=>?_)
   refine sX 8 U 7 g7 35 (fcs 0) (fcs z7.val) (wS 0 35 (fcs z7.val) rfl)<|sX 9 U 8 g8 35 (fcs 0) (fcs z8.val) (wS 0 35 (fcs z8.val) rfl)<|sI<|Sy.seq<|Sy.seq<|Sy.regionD (λj=>false) kR<|sD 0 U (fv z7.val) (qL 7 g7 0 4 35 35 (fcs z7.val) rfl AN) ?_
   obtain ⟨z9,hz9⟩:∃ z:Fp,z=(0:Fp):=⟨_,rfl⟩
   refine sD 1 U (fv z9.val) (qf (λw=>by rw [hz9]; exact NP 0 (by decide +kernel) dZ w)) ?_
   obtain ⟨b3,hb3⟩:=xE (decide (z7.val=z9.val))
   refine sD 2 U (.bool b3) (Quiet.pure (λw=>by rw [hb3]; exact F5 w _ _ _ _ _ _ U U U lK lK))<|sz 3 U U ?_
   cases b3
   ·have eb3:z7≠0:=λe=>of_decide_eq_false hb3.symm (by rw [e,hz9])
    refine sQ 4 U<|sQ 5 U<|sQ 6 U<|sZ 7 U (.bool false)<|sI<|sU<|Sy.skip<|sB<|sS (fv z7.val) (qL 7 g7 0 4 35 35 (fcs z7.val) rfl AN)<|sS (fv z7.val) (qL 7 g7 0 4 35 35 (fcs z7.val) rfl AN) ?_
    obtain ⟨z10,hz10⟩:∃ z:Fp,z=z7*z7:=⟨_,rfl⟩
    refine sS (fv z10.val) (qf (by rw [hz10]; exact BZ z7 z7))<|sM 35 (fcs 0) (λg9=>?_)
    refine sW 9 g9 35 (fcs 0) (fcs z10.val) (wS 0 35 (fcs z10.val) rfl)<|sA<|sS (fv z10.val) (qL 9 g9 0 4 35 35 (fcs z10.val) rfl AN)<|sS (fv z7.val) (qL 7 g7 0 4 35 35 (fcs z7.val) rfl AN) ?_
    obtain ⟨z11,hz11⟩:∃ z:Fp,z=z10*z7:=⟨_,rfl⟩
    refine sS (fv z11.val) (qf (by rw [hz11]; exact BZ z10 z7))<|sM 35 (fcs 0) (λg10=>?_)
    refine sW 10 g10 35 (fcs 0) (fcs z11.val) (wS 0 35 (fcs z11.val) rfl)<|sA<|sS (fv z3.val) (qL 3 g3 0 4 35 35 (fcs z3.val) rfl AN)<|sS (fv z10.val) (qL 9 g9 0 4 35 35 (fcs z10.val) rfl AN) ?_
    obtain ⟨z12,hz12⟩:∃ z:Fp,z=z3*z10:=⟨_,rfl⟩
    refine sS (fv z12.val) (qf (by rw [hz12]; exact BZ z3 z10))<|sW 3 g3 35 (fcs z3.val) (fcs z12.val) (wS 0 35 (fcs z12.val) rfl)<|sA<|sM 153 (tcs 0 0 0) (λg11=>?_)
    refine sH (λj=>j == 10) ?_
    refine sD 0 U (fv z8.val) (qL 8 g8 0 4 35 35 (fcs z8.val) rfl AN)<|sD 1 U (fv z8.val) (qL 8 g8 0 4 35 35 (fcs z8.val) rfl AN) ?_
    obtain ⟨z13,hz13⟩:∃ z:Fp,z=z8*z8:=⟨_,rfl⟩
    refine sD 2 U (fv z13.val) (qf (by rw [hz13]; exact BZ z8 z8))<|sD 3 U (fv z11.val) (qL 10 g10 0 4 35 35 (fcs z11.val) rfl AN) ?_
    obtain ⟨z14,hz14⟩:∃ z:Fp,z=z13 - z11:=⟨_,rfl⟩
    refine sD 4 U (fv z14.val) (qf (by rw [hz14]; exact DD z13 z11))<|sD 5 U (fv z12.val) (qL 3 g3 0 4 35 35 (fcs z12.val) rfl AN)<|sD 6 U (fv z12.val) (qL 3 g3 0 4 35 35 (fcs z12.val) rfl AN) ?_
    obtain ⟨z15,hz15⟩:∃ z:Fp,z=z12+z12:=⟨_,rfl⟩
    refine sD 7 U (fv z15.val) (qf (by rw [hz15]; exact KN z12 z12)) ?_
    obtain ⟨z16,hz16⟩:∃ z:Fp,z=z14 - z15:=⟨_,rfl⟩
    refine sD 8 U (fv z16.val) (qf (by rw [hz16]; exact DD z14 z15))<|sZ 9 U (pT g11 0)<|sX 10 U 11 g11 153 (tcs 0 0 0) (tcs z16.val 0 0) (wS 0 35 (fcs z16.val) rfl)<|sE<|sR (λj=>j == 11) ?_
    refine sD 0 U (fv z8.val) (qL 8 g8 0 4 35 35 (fcs z8.val) rfl AN)<|sD 1 U (fv z12.val) (qL 3 g3 0 4 35 35 (fcs z12.val) rfl AN)<|sZ 2 U (pT g11 0)<|sD 3 U (fv z16.val) (qL 11 g11 0 4 153 35 (tcs z16.val 0 0) rfl AN) ?_
    obtain ⟨z17,hz17⟩:∃ z:Fp,z=z12 - z16:=⟨_,rfl⟩
    refine sD 4 U (fv z17.val) (qf (by rw [hz17]; exact DD z12 z16)) ?_
    obtain ⟨z18,hz18⟩:∃ z:Fp,z=z8*z17:=⟨_,rfl⟩
    refine sD 5 U (fv z18.val) (qf (by rw [hz18]; exact BZ z8 z17))<|sD 6 U (fv z4.val) (qL 4 g4 0 4 35 35 (fcs z4.val) rfl AN)<|sD 7 U (fv z11.val) (qL 10 g10 0 4 35 35 (fcs z11.val) rfl AN) ?_
    obtain ⟨z19,hz19⟩:∃ z:Fp,z=z4*z11:=⟨_,rfl⟩
    refine sD 8 U (fv z19.val) (qf (by rw [hz19]; exact BZ z4 z11)) ?_
    obtain ⟨z20,hz20⟩:∃ z:Fp,z=z18 - z19:=⟨_,rfl⟩
    refine sD 9 U (fv z20.val) (qf (by rw [hz20]; exact DD z18 z19))<|sZ 10 U (pT g11 4)<|sX 11 U 11 g11 153 (tcs z16.val 0 0) (tcs z16.val z20.val 0) (wS 4 35 (fcs z20.val) rfl)<|sE<|sR (λj=>j == 8) ?_
    refine sZ 0 U (pT g0 8)<|sD 1 U (fv a.z.val) (qL 0 g0 8 4 153 35 (tcs a.x.val a.y.val a.z.val) rfl AN)<|sZ 2 U (pT g1 8)<|sD 3 U (fv b.z.val) (qL 1 g1 8 4 153 35 (tcs b.x.val b.y.val b.z.val) rfl AN) ?_
    obtain ⟨z21,hz21⟩:∃ z:Fp,z=a.z*b.z:=⟨_,rfl⟩
    refine sD 4 U (fv z21.val) (qf (by rw [hz21]; exact BZ a.z b.z))<|sD 5 U (fv z7.val) (qL 7 g7 0 4 35 35 (fcs z7.val) rfl AN) ?_
    obtain ⟨z22,hz22⟩:∃ z:Fp,z=z21*z7:=⟨_,rfl⟩
    refine sD 6 U (fv z22.val) (qf (by rw [hz22]; exact BZ z21 z7))<|sZ 7 U (pT g11 8)<|sX 8 U 11 g11 153 (tcs z16.val z20.val 0) (tcs z16.val z20.val z22.val) (wS 8 35 (fcs z22.val) rfl)<|sE<|sB<|sS (tv z16.val z20.val z22.val) (qL 11 g11 0 12 153 153 (tcs z16.val z20.val z22.val) rfl CM)<|sW 2 g2 153 (tcs 0 0 0) (tcs z16.val z20.val z22.val) (wS 0 153 (tcs z16.val z20.val z22.val) rfl)<|sG<|Sy.ret ?_
    rw [show (tv (Cf a b).x.val (Cf a b).y.val (Cf a b).z.val:Value)=tv z16.val z20.val z22.val from by
     rw [Me eb1 eb2 (λk=>eb3 (by rw [hz7,hz3,hz5]; exact k.1))]
     simp only [hz22,hz21,hz20,hz19,hz18,hz17,hz16,hz15,hz14,hz13,hz12,hz11,hz10,hz8,hz7,hz6,hz5,hz4,hz3]
     rfl]
    exact rC (v:=tv z16.val z20.val z22.val) 153 g2 2 (tcs z16.val z20.val z22.val) rfl CM
   ·have eb3:z7=0:=(Fin.ext (of_decide_eq_true hb3.symm)).trans hz9
    refine sD 4 U (fv z8.val) (qL 8 g8 0 4 35 35 (fcs z8.val) rfl AN) ?_
    obtain ⟨z23,hz23⟩:∃ z:Fp,z=(0:Fp):=⟨_,rfl⟩
    refine sD 5 U (fv z23.val) (qf (λw=>by rw [hz23]; exact NP 0 (by decide +kernel) dZ w)) ?_
    obtain ⟨b4,hb4⟩:=xE (decide (z8.val=z23.val))
    refine sD 6 U (.bool b4) (Quiet.pure (λw=>by rw [hb4]; exact F5 w _ _ _ _ _ _ U U U lK lK))<|sZ 7 U (.bool b4)<|sI ?_
    cases b4
    ·have eb4:z8≠0:=λe=>of_decide_eq_false hb4.symm (by rw [e,hz23])
     refine sU<|Sy.skip<|sB<|sS (fv z7.val) (qL 7 g7 0 4 35 35 (fcs z7.val) rfl AN)<|sS (fv z7.val) (qL 7 g7 0 4 35 35 (fcs z7.val) rfl AN) ?_
     obtain ⟨z24,hz24⟩:∃ z:Fp,z=z7*z7:=⟨_,rfl⟩
     refine sS (fv z24.val) (qf (by rw [hz24]; exact BZ z7 z7))<|sM 35 (fcs 0) (λg12=>?_)
     refine sW 9 g12 35 (fcs 0) (fcs z24.val) (wS 0 35 (fcs z24.val) rfl)<|sA<|sS (fv z24.val) (qL 9 g12 0 4 35 35 (fcs z24.val) rfl AN)<|sS (fv z7.val) (qL 7 g7 0 4 35 35 (fcs z7.val) rfl AN) ?_
     obtain ⟨z25,hz25⟩:∃ z:Fp,z=z24*z7:=⟨_,rfl⟩
     refine sS (fv z25.val) (qf (by rw [hz25]; exact BZ z24 z7))<|sM 35 (fcs 0) (λg13=>?_)
     refine sW 10 g13 35 (fcs 0) (fcs z25.val) (wS 0 35 (fcs z25.val) rfl)<|sA<|sS (fv z3.val) (qL 3 g3 0 4 35 35 (fcs z3.val) rfl AN)<|sS (fv z24.val) (qL 9 g12 0 4 35 35 (fcs z24.val) rfl AN) ?_
     obtain ⟨z26,hz26⟩:∃ z:Fp,z=z3*z24:=⟨_,rfl⟩
     refine sS (fv z26.val) (qf (by rw [hz26]; exact BZ z3 z24))<|sW 3 g3 35 (fcs z3.val) (fcs z26.val) (wS 0 35 (fcs z26.val) rfl)<|sA<|sM 153 (tcs 0 0 0) (λg14=>?_)
     refine sH (λj=>j == 10) ?_
     refine sD 0 U (fv z8.val) (qL 8 g8 0 4 35 35 (fcs z8.val) rfl AN)<|sD 1 U (fv z8.val) (qL 8 g8 0 4 35 35 (fcs z8.val) rfl AN) ?_
     obtain ⟨z27,hz27⟩:∃ z:Fp,z=z8*z8:=⟨_,rfl⟩
     refine sD 2 U (fv z27.val) (qf (by rw [hz27]; exact BZ z8 z8))<|sD 3 U (fv z25.val) (qL 10 g13 0 4 35 35 (fcs z25.val) rfl AN) ?_
     obtain ⟨z28,hz28⟩:∃ z:Fp,z=z27 - z25:=⟨_,rfl⟩
     refine sD 4 U (fv z28.val) (qf (by rw [hz28]; exact DD z27 z25))<|sD 5 U (fv z26.val) (qL 3 g3 0 4 35 35 (fcs z26.val) rfl AN)<|sD 6 U (fv z26.val) (qL 3 g3 0 4 35 35 (fcs z26.val) rfl AN) ?_
     obtain ⟨z29,hz29⟩:∃ z:Fp,z=z26+z26:=⟨_,rfl⟩
     refine sD 7 U (fv z29.val) (qf (by rw [hz29]; exact KN z26 z26)) ?_
     obtain ⟨z30,hz30⟩:∃ z:Fp,z=z28 - z29:=⟨_,rfl⟩
     refine sD 8 U (fv z30.val) (qf (by rw [hz30]; exact DD z28 z29))<|sZ 9 U (pT g14 0)<|sX 10 U 11 g14 153 (tcs 0 0 0) (tcs z30.val 0 0) (wS 0 35 (fcs z30.val) rfl)<|sE<|sR (λj=>j == 11) ?_
     refine sD 0 U (fv z8.val) (qL 8 g8 0 4 35 35 (fcs z8.val) rfl AN)<|sD 1 U (fv z26.val) (qL 3 g3 0 4 35 35 (fcs z26.val) rfl AN)<|sZ 2 U (pT g14 0)<|sD 3 U (fv z30.val) (qL 11 g14 0 4 153 35 (tcs z30.val 0 0) rfl AN) ?_
     obtain ⟨z31,hz31⟩:∃ z:Fp,z=z26 - z30:=⟨_,rfl⟩
     refine sD 4 U (fv z31.val) (qf (by rw [hz31]; exact DD z26 z30)) ?_
     obtain ⟨z32,hz32⟩:∃ z:Fp,z=z8*z31:=⟨_,rfl⟩
     refine sD 5 U (fv z32.val) (qf (by rw [hz32]; exact BZ z8 z31))<|sD 6 U (fv z4.val) (qL 4 g4 0 4 35 35 (fcs z4.val) rfl AN)<|sD 7 U (fv z25.val) (qL 10 g13 0 4 35 35 (fcs z25.val) rfl AN) ?_
     obtain ⟨z33,hz33⟩:∃ z:Fp,z=z4*z25:=⟨_,rfl⟩
     refine sD 8 U (fv z33.val) (qf (by rw [hz33]; exact BZ z4 z25)) ?_
     obtain ⟨z34,hz34⟩:∃ z:Fp,z=z32 - z33:=⟨_,rfl⟩
     refine sD 9 U (fv z34.val) (qf (by rw [hz34]; exact DD z32 z33))<|sZ 10 U (pT g14 4)<|sX 11 U 11 g14 153 (tcs z30.val 0 0) (tcs z30.val z34.val 0) (wS 4 35 (fcs z34.val) rfl)<|sE<|sR (λj=>j == 8) ?_
     refine sZ 0 U (pT g0 8)<|sD 1 U (fv a.z.val) (qL 0 g0 8 4 153 35 (tcs a.x.val a.y.val a.z.val) rfl AN)<|sZ 2 U (pT g1 8)<|sD 3 U (fv b.z.val) (qL 1 g1 8 4 153 35 (tcs b.x.val b.y.val b.z.val) rfl AN) ?_
     obtain ⟨z35,hz35⟩:∃ z:Fp,z=a.z*b.z:=⟨_,rfl⟩
     refine sD 4 U (fv z35.val) (qf (by rw [hz35]; exact BZ a.z b.z))<|sD 5 U (fv z7.val) (qL 7 g7 0 4 35 35 (fcs z7.val) rfl AN) ?_
     obtain ⟨z36,hz36⟩:∃ z:Fp,z=z35*z7:=⟨_,rfl⟩
     refine sD 6 U (fv z36.val) (qf (by rw [hz36]; exact BZ z35 z7))<|sZ 7 U (pT g14 8)<|sX 8 U 11 g14 153 (tcs z30.val z34.val 0) (tcs z30.val z34.val z36.val) (wS 8 35 (fcs z36.val) rfl)<|sE<|sB<|sS (tv z30.val z34.val z36.val) (qL 11 g14 0 12 153 153 (tcs z30.val z34.val z36.val) rfl CM)<|sW 2 g2 153 (tcs 0 0 0) (tcs z30.val z34.val z36.val) (wS 0 153 (tcs z30.val z34.val z36.val) rfl)<|sG<|Sy.ret ?_
     rw [show (tv (Cf a b).x.val (Cf a b).y.val (Cf a b).z.val:Value)=tv z30.val z34.val z36.val from by
      rw [Me eb1 eb2 (λk=>eb4 (by rw [hz8,hz4,hz6]; exact k.2))]
      simp only [hz36,hz35,hz34,hz33,hz32,hz31,hz30,hz29,hz28,hz27,hz26,hz25,hz24,hz8,hz7,hz6,hz5,hz4,hz3]
      rfl]
     exact rC (v:=tv z30.val z34.val z36.val) 153 g2 2 (tcs z30.val z34.val z36.val) rfl CM
    ·have eb4:z8=0:=(Fin.ext (of_decide_eq_true hb4.symm)).trans hz23
     refine sT<|sC<|sS (tv a.x.val a.y.val a.z.val) (qL 0 g0 0 12 153 153 (tcs a.x.val a.y.val a.z.val) rfl CM)<|sS (tv ((B0 a).x.val) ((B0 a).y.val) ((B0 a).z.val)) (qf (λw=>Nx w a))<|sW 2 g2 153 (tcs 0 0 0) (tcs ((B0 a).x.val) ((B0 a).y.val) ((B0 a).z.val)) (wS 0 153 (tcs ((B0 a).x.val) ((B0 a).y.val) ((B0 a).z.val)) U)<|sG<|Sy.ret<|Sy.then_ret ?_
     rw [show (tv (Cf a b).x.val (Cf a b).y.val (Cf a b).z.val:Value)=tv ((B0 a).x.val) ((B0 a).y.val) ((B0 a).z.val) from by rw [Pq eb1 eb2 (by rw [← eb3,hz7,hz3,hz5]; rfl) (by rw [← eb4,hz8,hz4,hz6]; rfl)]]
     exact rC (v:=tv ((B0 a).x.val) ((B0 a).y.val) ((B0 a).z.val)) 153 g2 2 (tcs ((B0 a).x.val) ((B0 a).y.val) ((B0 a).z.val)) rfl CM
  ·have eb2:b.z=0:=(Fin.ext (of_decide_eq_true hb2.symm)).trans hz2
   refine sT<|sC<|sS (tv a.x.val a.y.val a.z.val) (qL 0 g0 0 12 153 153 (tcs a.x.val a.y.val a.z.val) rfl CM)<|sW 2 g2 153 (tcs 0 0 0) (tcs a.x.val a.y.val a.z.val) (wS 0 153 (tcs a.x.val a.y.val a.z.val) rfl)<|sG<|Sy.ret<|Sy.then_ret ?_
   rw [show (tv (Cf a b).x.val (Cf a b).y.val (Cf a b).z.val:Value)=tv a.x.val a.y.val a.z.val from by rw [U9 eb1 eb2]]
   exact rC (v:=tv a.x.val a.y.val a.z.val) 153 g2 2 (tcs a.x.val a.y.val a.z.val) rfl CM
 ·have eb1:a.z=0:=(Fin.ext (of_decide_eq_true hb1.symm)).trans hz1
  refine sT<|sC<|sS (tv b.x.val b.y.val b.z.val) (qL 1 g1 0 12 153 153 (tcs b.x.val b.y.val b.z.val) rfl CM)<|sW 2 g2 153 (tcs 0 0 0) (tcs b.x.val b.y.val b.z.val) (wS 0 153 (tcs b.x.val b.y.val b.z.val) rfl)<|sG<|Sy.ret<|Sy.then_ret ?_
  rw [show (tv (Cf a b).x.val (Cf a b).y.val (Cf a b).z.val:Value)=tv b.x.val b.y.val b.z.val from by rw [Ps eb1]]
  exact rC (v:=tv b.x.val b.y.val b.z.val) 153 g2 2 (tcs b.x.val b.y.val b.z.val) rfl CM
end Cu
end
end Go.Proofs.YtgemfpnlnipfnabGreatDoor
