/-
  Texts of ours, put together: ScRefN, CrvV, CrvW, CrvX, PLiftL, PLift3, CurveAlive, CrvF, CrvG, CrvH, CurveBackL, SymT, Lift3, PLift5, ScBase, ScOps, SigA, ScEq, ScB32, SigB, SymX, SigC, SymV, ScProd, ScMul, Concat, SigD, SigE, CrvY, RefNumber, CrvE, CrvZ, SigF, SigG, ScNum.
-/
import Derived.Test.YtbjmjcpdonochaaGreatDoorBE4
set_option linter.unusedVariables false
set_option linter.unusedSimpArgs false
set_option maxRecDepth 100000
set_option maxHeartbeats 8000000
namespace Go.Proofs.YtbjmjcpdonochaaGreatDoor
section
namespace Sc
open Go.RowKit Go.Lib
def G5:Value:=.agg #[.int .u64 13822214165235122497,.int .u64 13451932020343611451,.int .u64 18446744073709551614,.int .u64 18446744073709551615,.int .u64 4624529908474429119,.int .u64 4994812053365940164,.int .u64 1]
theorem LZ:fv 115792089237316195423570985008687907852837564279074904382605163141518161494337=.agg #[.int .u64 13822214165235122497,.int .u64 13451932020343611451,.int .u64 18446744073709551614,.int .u64 18446744073709551615]:=rfl
theorem refN_any (w:World):Calls Tryz.prog 47 #[] w λe w'=>e=.returned G5∧Below w.heap.size w w':=by
 go_enter Tryz.func47,Tryz.ntmps47
 go_wp2
 exact bodyPost_ret (results_cell_row U _ _ w.heap.size _ _ (0,0) _ U (heap_alloc_new w _) Ey U kZ) rfl ⟨rfl,(Below.refl _ _).alloc (Nat.le_refl _) _⟩
theorem refOf_any (w:World) (n:Nat) (hn:n<(2^256)):Calls Tryz.prog 48 #[fv n] w λe w'=>e=.returned (fv n)∧Below w.heap.size w w':=by
 obtain ⟨a,b,c,d,fn⟩:=Ad n hn
 rw [fn]
 clear fn
 go_enter Tryz.func48,Tryz.ntmps48
 go_wp2
 exact bodyPost_ret (results_cell_row U _ _ (w.heap.size+1) _ _ (0,0) _ U (heap_alloc2_new w _ _) AH U kZ) rfl ⟨rfl,Ab w _ _⟩
theorem refSc_any (w:World) (n:Nat) (hn:n<(2^256)):Calls Tryz.prog 60 #[fv n] w λe w'=>e=.returned (fv n)∧Below w.heap.size w w':=by
 obtain ⟨a,b,c,d,fn⟩:=Ad n hn
 rw [fn]
 clear fn
 go_enter Tryz.func60,Tryz.ntmps60
 go_wp2
 exact bodyPost_ret (results_cell_row U _ _ (w.heap.size+1) _ _ (0,0) _ U (heap_alloc2_new w _ _) Ak U kZ) rfl ⟨rfl,Ab w _ _⟩
theorem normR_any (w:World) (x:Nat) (hx:x<(2^256)):Calls Tryz.prog 46 #[G5,fv x] w λe w'=>e=.returned (fv (x%pM))∧Below w.heap.size w w':=by
 obtain ⟨z,hz⟩:=xE (x%pM)
 obtain ⟨p,hp⟩:∃ p,p=115792089237316195423570985008687907852837564279074904382605163141518161494337:=⟨_,rfl⟩
 have hpl:p<(2^256):=om
 obtain ⟨b,hb⟩:=xE (decide (x<p))
 have cb:∀ w,Calls Tryz.prog 111 #[fv x,fv p] w λe w'=>e=.returned (.bool b)∧Below w.heap.size w w':=by
  intro w; rw [hb]; exact FT w x p U U hx hpl
 have t1:b=true→z=x:=λh=>by
  rw [hb] at h
  rw [hz]
  exact Nat.mod_eq_of_lt (by rw [DQ, ← hp]; simpa using h)
 have cm:b=false→∀ w,Calls Tryz.prog 112 #[fv x,fv p] w λe w'=>e=.returned (fv z)∧Below w.heap.size w w':=λh w=>by
  rw [hb] at h
  have hle:¬ x<p:=by simpa using h
  have hzx:z+p=x:=by rw [hz,E5 x hx,if_neg om]; omega
  exact EQ w x p z 0 U U hx hpl om om
 have hpc:fv p=.agg #[.int .u64 13822214165235122497,.int .u64 13451932020343611451,.int .u64 18446744073709551614,.int .u64 18446744073709551615]:=by rw [hp]; exact LZ
 obtain ⟨x0,x1,x2,x3,fx⟩:=Ad x hx
 have FX:=Lib.hid fx
 have FP:=Lib.hid hpc
 rw [fx, ← hz]
 unfold G5
 clear fx hpc hx hz hp hpl hb
 go_enter Tryz.func46,Tryz.ntmps46
 go_wp2_with (first | ((with_reducible refine AD (d:=some 6) ?_); refine AB U _ _ U (w.heap.size+1) rfl (x) _ _ _ ((AZ w _ _ _).alloc _) (FX.out) AH U kZ ?_) | ((with_reducible refine AD (d:=some 8) ?_); refine BI U _ _ U w.heap.size U p [.int .u64 13822214165235122497,.int .u64 13451932020343611451,.int .u64 18446744073709551614,.int .u64 18446744073709551615] _ (CV (((Blk.new w _ _).alloc _).alloc _)) FP.out AH U kZ ?_))
 refine (cb _).mono ?_
 rintro e w1 ⟨rfl,k1⟩
 have BM:Blk w1 w.heap.size 94 _:=Gr.blk k1 (((Blk.new w _ _).alloc _).alloc _)
 have BX:Blk w1 (w.heap.size+1) 90 _:=Gr.blk k1 ((AZ w _ _ _).alloc _)
 have BR:Blk w1 (w.heap.size+2) 90 _:=Gr.blk k1 (Ao w _ _ _ _)
 have hB:=Below.gr (Aa w _ _ _) k1
 clear k1 cb
 cases b
 ·have cmm:=cm U
  clear cm t1
  go_wp2_with (first | ((with_reducible refine AD (d:=some 12) ?_); refine AB U _ _ U (w.heap.size+1) rfl (x) _ _ _ (BX) (FX.out) AH U kZ ?_) | ((with_reducible refine AD (d:=some 14) ?_); refine BI U _ _ U w.heap.size U p [.int .u64 13822214165235122497,.int .u64 13451932020343611451,.int .u64 18446744073709551614,.int .u64 18446744073709551615] _ (CV (BM)) FP.out AH U kZ ?_))
  refine (cmm _).mono ?_
  rintro e w2 ⟨rfl,k2⟩
  have BR2:=Gr.blk k2 BR
  have hB2:=Below.gr hB k2
  clear k2 cmm
  go_wp2_with (first | ((with_reducible refine AE ?_); refine AA U _ _ _ U (w.heap.size+2) (fcs (z)) U U _ _ (BR2) kZ (by rfl) (AF _) ?_; intro w9 hL9 hB9 hK9))
  exact bodyPost_ret (results_cell_row U _ _ (w.heap.size+2) _ _ (0,0) _ U hL9 AH U kZ) rfl ⟨rfl,hB2.trans (hB9 _ om)⟩
 ·have HZX:=Lib.hid (t1 U)
  clear t1 cm
  go_wp2_with (first | ((with_reducible refine AD (d:=some 11) ?_); refine AB U _ _ U (w.heap.size+1) rfl (x) _ _ _ (BX) (FX.out) AH U kZ ?_) | ((with_reducible refine AE ?_); refine AA U _ _ _ U (w.heap.size+2) (fcs (x)) U U _ _ (BR) kZ (by rfl) (AF _) ?_; intro w9 hL9 hB9 hK9))
  exact bodyPost_ret (results_cell_row U _ _ (w.heap.size+2) _ _ (0,0) _ U hL9 AH U kZ) rfl ⟨by rw [HZX.out]; rfl,hB.trans (hB9 _ om)⟩
theorem rightR_any (w:World) (x:Nat) (hx:x<(2^256)):Calls Tryz.prog 172 #[G5,fv x] w λe w'=>e=.returned (.bool (decide (x<pM)))∧Below w.heap.size w w':=by
 obtain ⟨p,hp⟩:∃ p,p=115792089237316195423570985008687907852837564279074904382605163141518161494337:=⟨_,rfl⟩
 obtain ⟨b,hb⟩:=xE (decide (x<pM))
 have cb:∀ w,Calls Tryz.prog 111 #[fv x,fv p] w λe w'=>e=.returned (.bool b)∧Below w.heap.size w w':=by
  intro w; rw [hb,DQ, ← hp]; exact FT w x p U U hx om
 have hpc:fv p=.agg #[.int .u64 13822214165235122497,.int .u64 13451932020343611451,.int .u64 18446744073709551614,.int .u64 18446744073709551615]:=by rw [hp]; exact LZ
 obtain ⟨x0,x1,x2,x3,fx⟩:=Ad x hx
 have FX:=Lib.hid fx
 have FP:=Lib.hid hpc
 rw [fx, ← hb]
 unfold G5
 clear fx hpc hx hp hb
 go_enter Tryz.func172,Tryz.ntmps172
 go_wp2_with (first | ((with_reducible refine AD (d:=some 5) ?_); refine AB U _ _ U (w.heap.size+1) rfl (x) _ _ _ (AZ w _ _ _) (FX.out) AH U kZ ?_) | ((with_reducible refine AD (d:=some 7) ?_); refine BI U _ _ U w.heap.size U p [.int .u64 13822214165235122497,.int .u64 13451932020343611451,.int .u64 18446744073709551614,.int .u64 18446744073709551615] _ (CV ((Blk.new w _ _).alloc _)) FP.out AH U kZ ?_))
 refine (cb _).mono ?_
 rintro e w1 ⟨rfl,k1⟩
 go_wp2
 go_ret
 exact ⟨rfl,Below.gr (Ab w _ _) k1⟩
end Sc
end
section
namespace Cu
open Go.RowKit Sy
def bt (j:Nat):Nat:=9223372036854775808 / 2 ^ j
theorem Da (j:Nat):bt j / 2=bt (j+1):=by unfold bt; rw [Nat.div_div_eq_div_mul,Nat.pow_succ]
theorem D1 (j:Nat):bt j<18446744073709551616:=Nat.lt_of_le_of_lt (Nat.div_le_self _ _) dZ
theorem Rs {j:Nat} (h:j<64):bt j=2 ^ (63 - j):=by
 unfold bt
 rw [show (9223372036854775808:Nat)=2 ^ (63 - j)*2 ^ j by rw [← Nat.pow_add,show 63 - j+j=63 by omega],Nat.mul_div_cancel _ (Nat.two_pow_pos j)]
theorem JN (j:Nat):0<bt j↔j<64:=by
 constructor
 ·intro h
  rcases Nat.lt_or_ge j 64 with hl | hl
  ·exact hl
  ·exfalso
   unfold bt at h
   rw [Nat.div_eq_of_lt (Nat.lt_of_lt_of_le (show 9223372036854775808<2 ^ 64 by decide) (Nat.pow_le_pow_right dZ hl))] at h
   omega
 ·intro h
  rw [Rs h]
  exact Nat.two_pow_pos _
theorem EG (z j:Nat) (hj:j<64):(z &&& bt j≠0)↔z / 2 ^ (63 - j)%2=1:=by
 rw [Rs hj]
 have e:z.testBit (63 - j)=decide (z / 2 ^ (63 - j)%2=1):=Nat.testBit_eq_decide_div_mod_eq
 generalize 63 - j=i at e ⊢
 by_cases h:z / 2 ^ i%2=1
 ·refine ⟨λ_=>h,λ_ h0=>?_⟩
  have h1:=congrArg (λt=>t.testBit i) h0
  simp [Nat.testBit_and,Nat.testBit_two_pow_self,e,h] at h1
 ·refine ⟨λh0=>(h0 (Nat.eq_of_testBit_eq λk=>?_)).elim,λh0=>(h h0).elim⟩
  rw [Nat.testBit_and,Nat.zero_testBit,Nat.testBit_two_pow]
  by_cases hk:i=k
  ·subst hk
   simp [e,h]
  ·simp [hk]
theorem FI (F:AK) (o:Oper) (t:TypeId) (x y:Operand) {yt:TypeId} (z b:Nat) (hz:z<18446744073709551616) (hb:b<18446744073709551616) (ho:o.op=.binOp .and t x y yt) (hx:evF F x=qv z) (hy:evF F y=.int .u64 (b:Int)) (w:World):(execOp (evF F) o).run Tryz.prog w=.ok (.value (.int .u64 ((z &&& b:Nat):Int))) w :=
 AU .and t x y .u64 (z:Int) (b:Int) _ ho hx hy (JE t .u64 _ _ _ (by
  have e:((BitVec.ofInt IntKind.u64.bits (z:Int) &&& BitVec.ofInt IntKind.u64.bits (b:Int)).toNat)=z &&& b:=by
   show ((BitVec.ofInt 64 (z:Int) &&& BitVec.ofInt 64 (b:Int)).toNat)=_
   rw [BitVec.toNat_and,BitVec.ofInt_natCast,BitVec.ofInt_natCast,BitVec.toNat_ofNat,BitVec.toNat_ofNat,Nat.mod_eq_of_lt om,Nat.mod_eq_of_lt om]
  rw [e]
  have h:z &&& b≤z:=Nat.and_le_left
  exact wrap_u64 om om)) w
def Af (m:Nat) (x y:Fp):Nat→J
 | 0=>⟨0,0,0⟩
 | t+1=>if m / 2 ^ (255 - t)%2=1 then BK (Bg (Af m x y t)) x y else Bg (Af m x y t)
theorem EF {m:Nat} {x y:Fp} {t:Nat} (h:m / 2 ^ (255 - t)%2=1):Af m x y (t+1)=BK (Bg (Af m x y t)) x y:=if_pos h
theorem FO {m:Nat} {x y:Fp} {t:Nat} (h:¬ m / 2 ^ (255 - t)%2=1):Af m x y (t+1)=Bg (Af m x y t):=if_neg h
theorem Kj {m:Nat} (hm:m<2 ^ 256) {x y:Fp} (h:y*y=x*x*x+7):∀ t,t≤256→Ec.Rep (Af m x y t) (Ec.nm Ae (m / 2 ^ (256 - t)) (some (x,y)))
 | 0,_=>by
  rw [Nat.sub_zero,Nat.div_eq_of_lt hm]
  rfl
 | t+1,ht=>by
  have hP:Ec.On (some (x,y)):=h
  have h1:=Kj hm h t om
  have hS:=hP.nm fld (m / 2 ^ (256 - t))
  have h2:=KT hS h1
  have e:=Ec.bit_step fld hP m (2 ^ (255 - t))
  rw [← Nat.pow_succ',show (255 - t).succ=256 - t by omega] at e
  rw [show 256 - (t+1)=255 - t by omega, ← e]
  by_cases hb:m / 2 ^ (255 - t)%2=1
  ·rw [EF hb,hb,Ec.nm_one]
   exact NA (Ec.On.add fld hS hS) h h2
  ·rw [FO hb,show m / 2 ^ (255 - t)%2=0 by omega,show Ec.nm Ae 0 (some (x,y))=none from rfl,Ec.add_zero]
   exact h2
theorem C7 (m i j:Nat) (hj:j<64):m / 2 ^ (64*i)%18446744073709551616 / 2 ^ (63 - j)%2=m / 2 ^ (64*i+(63 - j))%2:=by
 rw [Nat.pow_add, ← Nat.div_div_eq_div_mul,show (18446744073709551616:Nat)=2 ^ (63 - j)*2 ^ (j+1) by rw [← Nat.pow_add,show 63 - j+(j+1)=64 by omega],Nat.mod_mul_right_div_self,Nat.pow_succ',Nat.mod_mul_right_mod]
theorem H5 (m j:Nat) (hj:j<64):m%18446744073709551616 / 2 ^ (63 - j)%2=m / 2 ^ (64*0+(63 - j))%2:=by
 have q:=C7 m 0 j hj
 rw [Nat.mul_zero,Nat.pow_zero,Nat.div_one] at q
 exact q
def NK:Array Value:=#[.int .u64 13822214165235122497,.int .u64 13451932020343611451,.int .u64 18446744073709551614,.int .u64 18446744073709551615,.int .u64 4624529908474429119,.int .u64 4994812053365940164,.int .u64 1]
theorem LQ (w:World) (k x y:Nat) (i:Bool) (hk:k<K4) (hx:x<K4) (hy:y<K4) (h:dec x y i=none):Calls Tryz.prog 15 #[fv k,pv x y i] w (Gets w (ptv none)):=by
 refine Sy.enter (args:=[fv k,pv x y i]) Tryz.func15 U kL<|sC<|sM 42 (fcs k) (λg0=>?_)
 refine sM 48 (pcs x y i) (λg1=>?_)
 refine sM 48 (pcs 0 0 false) (λg2=>?_)
 refine sA<|sS (pv x y i) (qL 1 g1 0 9 48 48 (pcs x y i) rfl Ac)<|sS (pv 0 0 true) (qF 45 #[pv x y i] (λw=>by have hrr:=Bl w x y i hx hy; rw [h] at hrr; exact hrr))<|sW 1 g1 48 (pcs x y i) (pcs 0 0 true) (wS 0 48 (pcs 0 0 true) rfl)<|sG<|Sy.seq<|sC<|sP (pT g1 8)<|sS (.bool true) (qC 1 g1 8 48 4 (pcs 0 0 true) rfl uy4)<|sG<|sT<|sC<|sS (pv 0 0 true) (qL 1 g1 0 9 48 48 (pcs 0 0 true) rfl Ac)<|sW 2 g2 48 (pcs 0 0 false) (pcs 0 0 true) (wS 0 48 (pcs 0 0 true) rfl)<|sG<|Sy.ret<|Sy.then_ret ?_
 rw [show (ptv none:Value)=pv 0 0 true from rfl]
 exact rC (v:=pv 0 0 true) 48 g2 2 (pcs 0 0 true) rfl Ac
theorem LO (w:World) (k x y:Nat) (i:Bool) (hk:k<K4) (hx:x<K4) (hy:y<K4) (u v:Fp) (h:dec x y i=some (u,v)) (ho:v*v=u*u*u+7):Calls Tryz.prog 15 #[fv k,pv x y i] w (Gets w (ptv (Ec.nm Ae (k%Sc.pM) (some (u,v))))):=by
 obtain ⟨m,hm⟩:=xE (k%Sc.pM)
 obtain ⟨Q,hQ⟩:=xE (ptJ (Af m u v 256))
 have hml:m<K4:=by rw [hm]; exact Sc.mod_lt k
 have hn:Ec.nm Ae (k%Sc.pM) (some (u,v))=Q:=by
  have q:=Kj (m:=m) hml ho 256 (Nat.le_refl _)
  rw [Nat.sub_self,Nat.pow_zero,Nat.div_one] at q
  rw [← hm,hQ]
  exact (MF q).symm
 rw [hn]
 refine Sy.enter (args:=[fv k,pv x y i]) Tryz.func15 U kL<|sC<|sM 42 (fcs k) (λg0=>?_)
 refine sM 48 (pcs x y i) (λg1=>?_)
 refine sM 48 (pcs 0 0 false) (λg2=>?_)
 refine sA<|sS (pv x y i) (qL 1 g1 0 9 48 48 (pcs x y i) rfl Ac)<|sS (pv u.val v.val false) (qF 45 #[pv x y i] (λw=>by have hrr:=Bl w x y i hx hy; rw [h] at hrr; exact hrr))<|sW 1 g1 48 (pcs x y i) (pcs u.val v.val false) (wS 0 48 (pcs u.val v.val false) rfl)<|sG<|Sy.seq<|sC<|sP (pT g1 8)<|sS (.bool false) (qC 1 g1 8 48 4 (pcs u.val v.val false) rfl uy4)<|sG<|sU<|Sy.skip<|sR (λj=>j == 5) ?_
 refine sD 0 U (.agg NK) (qF 47 #[] (Sc.refN_any))<|sD 1 U (fv k) (qL 0 g0 0 4 42 42 (fcs k) rfl Ak)<|sD 2 U (fv k) (qF 48 #[fv k] (λw=>Sc.refOf_any w k lK))<|sD 3 U (fv m) (qF 46 #[.agg NK,fv k] (λw=>by rw [hm]; exact Sc.normR_any w k hk))<|sO 4 U 90 (fcs 0) (λg3=>?_)
 refine sX 5 U 3 g3 90 (fcs 0) (fcs m) (wS 0 90 (fcs m) rfl)<|sE<|sB<|sP (pT g1 0)<|sS (fv u.val) (qL 1 g1 0 4 48 46 (pcs u.val v.val false) rfl AG)<|sS (fv u.val) (qF 49 #[fv u.val] (λw=>refOf_any w u.val lK))<|sM 90 (fcs 0) (λg4=>?_)
 refine sW 4 g4 90 (fcs 0) (fcs u.val) (wS 0 90 (fcs u.val) rfl)<|sA<|sP (pT g1 4)<|sS (fv v.val) (qL 1 g1 4 4 48 46 (pcs u.val v.val false) rfl AG)<|sS (fv v.val) (qF 49 #[fv v.val] (λw=>refOf_any w v.val lK))<|sM 90 (fcs 0) (λg5=>?_)
 refine sW 5 g5 90 (fcs 0) (fcs v.val) (wS 0 90 (fcs v.val) rfl)<|sA<|sP (tv 0 0 0)<|sM 99 (tcs 0 0 0) (λg6=>?_)
 refine sW 6 g6 99 (tcs 0 0 0) (tcs 0 0 0) (wS 0 99 (tcs 0 0 0) rfl)<|sG<|Sy.seq<|sC<|sP (.int .i64 3)<|sG<|Sy.block<|Sy.loopN 5<|Sy.tidyR (G:=[(4,pT g2 0),(5,pT g3 0),(6,pT g4 0),(7,pT g5 0),(8,pT g6 0),(9,.int .i64 3)]) (M:=[(g2,48,(pcs 0 0 false)),(g3,90,(fcs m)),(g4,90,(fcs u.val)),(g5,90,(fcs v.val)),(g6,99,(tcs 0 0 0))]) [false,false,true,true,true,true,true] kR ac6<|Sy.round<|Sy.seq<|sC<|sP (.int .i64 3)<|sP (.bool true)<|sG<|sT<|Sy.skip<|Sy.then_<|Sy.seq<|Sy.block<|sC<|sP (.int .u64 9223372036854775808)<|sG<|Sy.block ?_
 refine Sy.loopK 64 (λk2x0=>[(4,pT g2 0),(5,pT g3 0),(6,pT g4 0),(7,pT g5 0),(8,pT g6 0),(9,.int .i64 3),(10,.int .u64 ((bt k2x0:Nat):Int))]) (λk2x0=>[(g2,48,(pcs 0 0 false)),(g3,90,(fcs m)),(g4,90,(fcs u.val)),(g5,90,(fcs v.val)),(g6,99,(tcs ((Af m u v (0+k2x0)).x.val) ((Af m u v (0+k2x0)).y.val) ((Af m u v (0+k2x0)).z.val)))]) [true,true,true,true,true] (M:=[(g2,48,(pcs 0 0 false)),(g3,90,(fcs m)),(g4,90,(fcs u.val)),(g5,90,(fcs v.val)),(g6,99,(tcs 0 0 0))]) ac7 kR (AL U (AL U (AL U (AL U (AL U U))))) (λk2x0 hk2x0=>?_)
 refine Sy.seq<|sC<|sP (.int .u64 ((bt k2x0:Nat):Int)) ?_
 obtain ⟨b1,hb1⟩:=xE (decide (k2x0<64))
 refine sS (.bool b1) (Quiet.pure (AU .gtr _ _ _ .u64 _ _ _ U U U (C1 _ _ _ _ _ (by rw [hb1]; exact decide_eq_decide.2 (by rw [← JN]; omega)))))<|sG ?_
 cases b1
 ·have lb1:=dN hb1
  refine sU<|Sy.exit<|Sy.then_exit<|Sy.then_exit ?_
  obtain rfl:k2x0=64:=om
  refine Sy.in_exit<|Sy.in_<|Sy.then_<|Sy.region<|sP (.int .i64 3)<|sP (.int .i64 2)<|sP (.int .i64 2)<|Sy.nil<|Sy.again<|Sy.tidyR (G:=[(4,pT g2 0),(5,pT g3 0),(6,pT g4 0),(7,pT g5 0),(8,pT g6 0),(9,.int .i64 2)]) (M:=[(g2,48,(pcs 0 0 false)),(g3,90,(fcs m)),(g4,90,(fcs u.val)),(g5,90,(fcs v.val)),(g6,99,(tcs ((Af m u v (0+64)).x.val) ((Af m u v (0+64)).y.val) ((Af m u v (0+64)).z.val)))]) [true,true,true,true,true] kR ac6<|Sy.round<|Sy.seq<|sC<|sP (.int .i64 2)<|sP (.bool true)<|sG<|sT<|Sy.skip<|Sy.then_<|Sy.seq<|Sy.block<|sC<|sP (.int .u64 9223372036854775808)<|sG<|Sy.block<|Sy.loopK 64 (λk2x1=>[(4,pT g2 0),(5,pT g3 0),(6,pT g4 0),(7,pT g5 0),(8,pT g6 0),(9,.int .i64 2),(10,.int .u64 ((bt k2x1:Nat):Int))]) (λk2x1=>[(g2,48,(pcs 0 0 false)),(g3,90,(fcs m)),(g4,90,(fcs u.val)),(g5,90,(fcs v.val)),(g6,99,(tcs ((Af m u v (64+k2x1)).x.val) ((Af m u v (64+k2x1)).y.val) ((Af m u v (64+k2x1)).z.val)))]) [true,true,true,true,true] (M:=[(g2,48,(pcs 0 0 false)),(g3,90,(fcs m)),(g4,90,(fcs u.val)),(g5,90,(fcs v.val)),(g6,99,(tcs ((Af m u v (0+64)).x.val) ((Af m u v (0+64)).y.val) ((Af m u v (0+64)).z.val)))]) ac7 kR (AL U (AL U (AL U (AL U (AL U U))))) (λk2x1 hk2x1=>?_)
  refine Sy.seq<|sC<|sP (.int .u64 ((bt k2x1:Nat):Int)) ?_
  obtain ⟨b2,hb2⟩:=xE (decide (k2x1<64))
  refine sS (.bool b2) (Quiet.pure (AU .gtr _ _ _ .u64 _ _ _ U U U (C1 _ _ _ _ _ (by rw [hb2]; exact decide_eq_decide.2 (by rw [← JN]; omega)))))<|sG ?_
  cases b2
  ·have lb2:=dN hb2
   refine sU<|Sy.exit<|Sy.then_exit<|Sy.then_exit ?_
   obtain rfl:k2x1=64:=om
   refine Sy.in_exit<|Sy.in_<|Sy.then_<|Sy.region<|sP (.int .i64 2)<|sP (.int .i64 1)<|sP (.int .i64 1)<|Sy.nil<|Sy.again<|Sy.tidyR (G:=[(4,pT g2 0),(5,pT g3 0),(6,pT g4 0),(7,pT g5 0),(8,pT g6 0),(9,.int .i64 1)]) (M:=[(g2,48,(pcs 0 0 false)),(g3,90,(fcs m)),(g4,90,(fcs u.val)),(g5,90,(fcs v.val)),(g6,99,(tcs ((Af m u v (64+64)).x.val) ((Af m u v (64+64)).y.val) ((Af m u v (64+64)).z.val)))]) [true,true,true,true,true] kR ac6<|Sy.round<|Sy.seq<|sC<|sP (.int .i64 1)<|sP (.bool true)<|sG<|sT<|Sy.skip<|Sy.then_<|Sy.seq<|Sy.block<|sC<|sP (.int .u64 9223372036854775808)<|sG<|Sy.block<|Sy.loopK 64 (λk2x2=>[(4,pT g2 0),(5,pT g3 0),(6,pT g4 0),(7,pT g5 0),(8,pT g6 0),(9,.int .i64 1),(10,.int .u64 ((bt k2x2:Nat):Int))]) (λk2x2=>[(g2,48,(pcs 0 0 false)),(g3,90,(fcs m)),(g4,90,(fcs u.val)),(g5,90,(fcs v.val)),(g6,99,(tcs ((Af m u v (128+k2x2)).x.val) ((Af m u v (128+k2x2)).y.val) ((Af m u v (128+k2x2)).z.val)))]) [true,true,true,true,true] (M:=[(g2,48,(pcs 0 0 false)),(g3,90,(fcs m)),(g4,90,(fcs u.val)),(g5,90,(fcs v.val)),(g6,99,(tcs ((Af m u v (64+64)).x.val) ((Af m u v (64+64)).y.val) ((Af m u v (64+64)).z.val)))]) ac7 kR (AL U (AL U (AL U (AL U (AL U U))))) (λk2x2 hk2x2=>?_)
   refine Sy.seq<|sC<|sP (.int .u64 ((bt k2x2:Nat):Int)) ?_
   obtain ⟨b3,hb3⟩:=xE (decide (k2x2<64))
   refine sS (.bool b3) (Quiet.pure (AU .gtr _ _ _ .u64 _ _ _ U U U (C1 _ _ _ _ _ (by rw [hb3]; exact decide_eq_decide.2 (by rw [← JN]; omega)))))<|sG ?_
   cases b3
   ·have lb3:=dN hb3
    refine sU<|Sy.exit<|Sy.then_exit<|Sy.then_exit ?_
    obtain rfl:k2x2=64:=om
    refine Sy.in_exit<|Sy.in_<|Sy.then_<|Sy.region<|sP (.int .i64 1)<|sP (.int .i64 0)<|sP (.int .i64 0)<|Sy.nil<|Sy.again<|Sy.tidyR (G:=[(4,pT g2 0),(5,pT g3 0),(6,pT g4 0),(7,pT g5 0),(8,pT g6 0),(9,.int .i64 0)]) (M:=[(g2,48,(pcs 0 0 false)),(g3,90,(fcs m)),(g4,90,(fcs u.val)),(g5,90,(fcs v.val)),(g6,99,(tcs ((Af m u v (128+64)).x.val) ((Af m u v (128+64)).y.val) ((Af m u v (128+64)).z.val)))]) [true,true,true,true,true] kR ac6<|Sy.round<|Sy.seq<|sC<|sP (.int .i64 0)<|sP (.bool true)<|sG<|sT<|Sy.skip<|Sy.then_<|Sy.seq<|Sy.block<|sC<|sP (.int .u64 9223372036854775808)<|sG<|Sy.block<|Sy.loopK 64 (λk2x3=>[(4,pT g2 0),(5,pT g3 0),(6,pT g4 0),(7,pT g5 0),(8,pT g6 0),(9,.int .i64 0),(10,.int .u64 ((bt k2x3:Nat):Int))]) (λk2x3=>[(g2,48,(pcs 0 0 false)),(g3,90,(fcs m)),(g4,90,(fcs u.val)),(g5,90,(fcs v.val)),(g6,99,(tcs ((Af m u v (192+k2x3)).x.val) ((Af m u v (192+k2x3)).y.val) ((Af m u v (192+k2x3)).z.val)))]) [true,true,true,true,true] (M:=[(g2,48,(pcs 0 0 false)),(g3,90,(fcs m)),(g4,90,(fcs u.val)),(g5,90,(fcs v.val)),(g6,99,(tcs ((Af m u v (128+64)).x.val) ((Af m u v (128+64)).y.val) ((Af m u v (128+64)).z.val)))]) ac7 kR (AL U (AL U (AL U (AL U (AL U U))))) (λk2x3 hk2x3=>?_)
    refine Sy.seq<|sC<|sP (.int .u64 ((bt k2x3:Nat):Int)) ?_
    obtain ⟨b4,hb4⟩:=xE (decide (k2x3<64))
    refine sS (.bool b4) (Quiet.pure (AU .gtr _ _ _ .u64 _ _ _ U U U (C1 _ _ _ _ _ (by rw [hb4]; exact decide_eq_decide.2 (by rw [← JN]; omega)))))<|sG ?_
    cases b4
    ·have lb4:=dN hb4
     refine sU<|Sy.exit<|Sy.then_exit<|Sy.then_exit ?_
     obtain rfl:k2x3=64:=om
     refine Sy.in_exit<|Sy.in_<|Sy.then_<|Sy.region<|sP (.int .i64 0)<|sP (.int .i64 (-1))<|sP (.int .i64 (-1))<|Sy.nil<|Sy.again<|Sy.tidyR (G:=[(4,pT g2 0),(5,pT g3 0),(6,pT g4 0),(7,pT g5 0),(8,pT g6 0),(9,.int .i64 (-1))]) (M:=[(g2,48,(pcs 0 0 false)),(g3,90,(fcs m)),(g4,90,(fcs u.val)),(g5,90,(fcs v.val)),(g6,99,(tcs ((Af m u v (192+64)).x.val) ((Af m u v (192+64)).y.val) ((Af m u v (192+64)).z.val)))]) [true,true,true,true,true] kR ac6<|Sy.round<|Sy.seq<|sC<|sP (.int .i64 (-1))<|sP (.bool false)<|sG<|sU<|Sy.exit<|Sy.then_exit<|Sy.then_exit<|Sy.in_exit<|Sy.then_<|Sy.seq<|sC<|sP (pT g6 8)<|sS (fv ((Af m u v (192+64)).z.val)) (qL 4 g6 8 4 99 90 (tcs ((Af m u v (192+64)).x.val) ((Af m u v (192+64)).y.val) ((Af m u v (192+64)).z.val)) U AH)<|sP (fv 0) ?_
     obtain ⟨b5,hb5⟩:=xE (decide ((Af m u v (192+64)).z.val=0))
     refine sS (.bool b5) (Quiet.pure (λw=>by rw [hb5]; exact DY w _ _ _ _ _ _ U U U lK lK))<|sG ?_
     cases b5
     ·have eb5:(Af m u v (192+64)).z≠(0:Fp):=λe=>of_decide_eq_false hb5.symm (congrArg Fin.val e)
      refine sU<|Sy.skip<|sR (λj=>j == 5) ?_
      refine sD 0 U (.agg Ba) (qF 54 #[] (Cs))<|sZ 1 U (pT g6 8)<|sD 2 U (fv ((Af m u v (192+64)).z.val)) (qL 4 g6 8 4 99 90 (tcs ((Af m u v (192+64)).x.val) ((Af m u v (192+64)).y.val) ((Af m u v (192+64)).z.val)) U AH) ?_
      obtain ⟨z1,hz1⟩:∃ z:Fp,z=Ae (Af m u v (192+64)).z:=⟨_,rfl⟩
      refine sD 3 U (fv z1.val) (qF 53 #[.agg Ba,fv ((Af m u v (192+64)).z.val)] (λw=>by rw [hz1]; exact Gq w (Af m u v (192+64)).z))<|sO 4 U 90 (fcs 0) (λg7=>?_)
      refine sX 5 U 5 g7 90 (fcs 0) (fcs z1.val) (wS 0 90 (fcs z1.val) rfl)<|sE<|sB<|sS (fv z1.val) (qL 5 g7 0 4 90 90 (fcs z1.val) rfl AH)<|sS (fv z1.val) (qL 5 g7 0 4 90 90 (fcs z1.val) rfl AH) ?_
      obtain ⟨z2,hz2⟩:∃ z:Fp,z=z1*z1:=⟨_,rfl⟩
      refine sS (fv z2.val) (qF 55 #[fv z1.val,fv z1.val] (λw=>by rw [hz2]; exact A5 w z1 z1))<|sM 90 (fcs 0) (λg8=>?_)
      refine sW 6 g8 90 (fcs 0) (fcs z2.val) (wS 0 90 (fcs z2.val) rfl)<|sH (λj=>j == 11) ?_
      refine sZ 0 U (pT g6 0)<|sD 1 U (fv ((Af m u v (192+64)).x.val)) (qL 4 g6 0 4 99 90 (tcs ((Af m u v (192+64)).x.val) ((Af m u v (192+64)).y.val) ((Af m u v (192+64)).z.val)) U AH)<|sD 2 U (fv z2.val) (qL 6 g8 0 4 90 90 (fcs z2.val) rfl AH) ?_
      obtain ⟨z3,hz3⟩:∃ z:Fp,z=(Af m u v (192+64)).x*z2:=⟨_,rfl⟩
      refine sD 3 U (fv z3.val) (qF 55 #[fv ((Af m u v (192+64)).x.val),fv z2.val] (λw=>by rw [hz3]; exact A5 w (Af m u v (192+64)).x z2))<|sZ 4 U (pT g6 4)<|sD 5 U (fv ((Af m u v (192+64)).y.val)) (qL 4 g6 4 4 99 90 (tcs ((Af m u v (192+64)).x.val) ((Af m u v (192+64)).y.val) ((Af m u v (192+64)).z.val)) U AH)<|sD 6 U (fv z2.val) (qL 6 g8 0 4 90 90 (fcs z2.val) rfl AH)<|sD 7 U (fv z1.val) (qL 5 g7 0 4 90 90 (fcs z1.val) rfl AH) ?_
      obtain ⟨z4,hz4⟩:∃ z:Fp,z=z2*z1:=⟨_,rfl⟩
      refine sD 8 U (fv z4.val) (qF 55 #[fv z2.val,fv z1.val] (λw=>by rw [hz4]; exact A5 w z2 z1)) ?_
      obtain ⟨z5,hz5⟩:∃ z:Fp,z=(Af m u v (192+64)).y*z4:=⟨_,rfl⟩
      refine sD 9 U (fv z5.val) (qF 55 #[fv ((Af m u v (192+64)).y.val),fv z4.val] (λw=>by rw [hz5]; exact A5 w (Af m u v (192+64)).y z4))<|sD 10 U (pv z3.val z5.val false) (qF 56 #[fv z3.val,fv z5.val] (λw=>E8 w z3.val z5.val lK lK))<|sX 11 U 0 g2 48 (pcs 0 0 false) (pcs z3.val z5.val false) (wS 0 48 (pcs z3.val z5.val false) rfl)<|sI<|Sy.ret ?_
      rw [show (ptv Q:Value)=pv z3.val z5.val false from by rw [hQ]; unfold ptJ; rw [if_neg eb5]; unfold ptv; simp only [hz5,hz4,hz3,hz2,hz1]]
      exact rC (v:=pv z3.val z5.val false) 48 g2 0 (pcs z3.val z5.val false) rfl Ac
     ·have eb5:(Af m u v (192+64)).z=(0:Fp):=Fin.ext (of_decide_eq_true hb5.symm)
      refine sT<|sC<|sS (pv 0 0 true) (qF 52 #[] (GD))<|sW 0 g2 48 (pcs 0 0 false) (pcs 0 0 true) (wS 0 48 (pcs 0 0 true) rfl)<|sG<|Sy.ret<|Sy.then_ret ?_
      rw [show (ptv Q:Value)=pv 0 0 true from by rw [hQ]; unfold ptJ; rw [if_pos eb5]; rfl]
      exact rC (v:=pv 0 0 true) 48 g2 0 (pcs 0 0 true) rfl Ac
    ·have lb4:=dY hb4
     refine sT<|Sy.skip<|Sy.then_<|Sy.seq<|Sy.block<|sC<|sS (tv ((Af m u v (192+k2x3)).x.val) ((Af m u v (192+k2x3)).y.val) ((Af m u v (192+k2x3)).z.val)) (qL 4 g6 0 12 99 99 (tcs ((Af m u v (192+k2x3)).x.val) ((Af m u v (192+k2x3)).y.val) ((Af m u v (192+k2x3)).z.val)) U Ed) ?_
     obtain ⟨j1,hj1⟩:∃ z:J,z=Bg (Af m u v (192+k2x3)):=⟨_,rfl⟩
     refine sS (tv j1.x.val j1.y.val j1.z.val) (qF 50 #[tv ((Af m u v (192+k2x3)).x.val) ((Af m u v (192+k2x3)).y.val) ((Af m u v (192+k2x3)).z.val)] (λw=>by rw [hj1]; exact D7 w (Af m u v (192+k2x3))))<|sW 4 g6 99 (tcs ((Af m u v (192+k2x3)).x.val) ((Af m u v (192+k2x3)).y.val) ((Af m u v (192+k2x3)).z.val)) (tcs j1.x.val j1.y.val j1.z.val) (wS 0 99 (tcs j1.x.val j1.y.val j1.z.val) rfl)<|sA<|sP (.int .i64 0)<|sP (pT g3 0)<|sS (qv (m%18446744073709551616)) (qC 1 g3 0 90 40 (fcs m) rfl Bh)<|sP (.int .u64 ((bt k2x3:Nat):Int))<|sS (.int .u64 (((m%18446744073709551616) &&& bt k2x3:Nat):Int)) (Quiet.pure (FI _ _ _ _ _ (m%18446744073709551616) (bt k2x3) (Nat.mod_lt _ dZ) (D1 _) rfl U U)) ?_
     obtain ⟨b6,hb6⟩:=xE (decide ((m%18446744073709551616) &&& bt k2x3≠0))
     refine sS (.bool b6) (Quiet.pure (AU .neq _ _ _ .u64 _ _ _ U U U (Ds _ _ _ _ _ (by rw [hb6]; exact decide_eq_decide.2 om))))<|sG ?_
     cases b6
     ·have lb6:=dN hb6
      have fb6:¬ m / 2 ^ (255 - (192+k2x3))%2=1:=by
       have q:=EG (m%18446744073709551616) k2x3 om
       have q2:=H5 m k2x3 om
       rw [show 64*0+(63 - k2x3)=255 - (192+k2x3) by omega] at q2
       rw [← q2]
       exact λt=>lb6 (q.2 t)
      refine sU<|Sy.skip<|Sy.in_<|Sy.then_<|Sy.region<|sP (.int .u64 ((bt k2x3:Nat):Int))<|sS (.int .u64 ((bt (k2x3+1):Nat):Int)) (Quiet.pure (AU .quo _ _ _ .u64 _ _ _ U U U (Co _ _ _ _ _ dZ (by rw [← Da]; have:=D1 k2x3; rw [show ((bt k2x3:Nat):Int).tdiv 2=((bt k2x3 / 2:Nat):Int) from rfl]; exact wrap_u64 om om))))<|sP (.int .u64 ((bt (k2x3+1):Nat):Int))<|Sy.nil ?_
      exact Sy.againK [true,true,true,true,true] (M:=[(g2,48,(pcs 0 0 false)),(g3,90,(fcs m)),(g4,90,(fcs u.val)),(g5,90,(fcs v.val)),(g6,99,(tcs j1.x.val j1.y.val j1.z.val))]) om ac7 kR (AL U (AL U (AL U (AL U (AL (beq (by rw [hj1, ← FO fb6]; rfl)) U)))))
     ·have lb6:=dY hb6
      have fb6 :  m / 2 ^ (255 - (192+k2x3))%2=1:=by
       have q:=EG (m%18446744073709551616) k2x3 om
       have q2:=H5 m k2x3 om
       rw [show 64*0+(63 - k2x3)=255 - (192+k2x3) by omega] at q2
       rw [← q2]
       exact q.1 lb6
      refine sT<|Sy.region<|sS (tv j1.x.val j1.y.val j1.z.val) (qL 4 g6 0 12 99 99 (tcs j1.x.val j1.y.val j1.z.val) rfl Ed)<|sS (fv u.val) (qL 2 g4 0 4 90 90 (fcs u.val) rfl AH)<|sS (fv v.val) (qL 3 g5 0 4 90 90 (fcs v.val) rfl AH) ?_
      obtain ⟨j2,hj2⟩:∃ z:J,z=BK j1 u v:=⟨_,rfl⟩
      refine sS (tv j2.x.val j2.y.val j2.z.val) (qF 51 #[tv j1.x.val j1.y.val j1.z.val,fv u.val,fv v.val] (λw=>by rw [hj2]; exact GI w j1 u v))<|sW 4 g6 99 (tcs j1.x.val j1.y.val j1.z.val) (tcs j2.x.val j2.y.val j2.z.val) (wS 0 99 (tcs j2.x.val j2.y.val j2.z.val) rfl)<|Sy.nil<|Sy.in_<|Sy.then_<|Sy.region<|sP (.int .u64 ((bt k2x3:Nat):Int))<|sS (.int .u64 ((bt (k2x3+1):Nat):Int)) (Quiet.pure (AU .quo _ _ _ .u64 _ _ _ U U U (Co _ _ _ _ _ dZ (by rw [← Da]; have:=D1 k2x3; rw [show ((bt k2x3:Nat):Int).tdiv 2=((bt k2x3 / 2:Nat):Int) from rfl]; exact wrap_u64 om om))))<|sP (.int .u64 ((bt (k2x3+1):Nat):Int))<|Sy.nil ?_
      exact Sy.againK [true,true,true,true,true] (M:=[(g2,48,(pcs 0 0 false)),(g3,90,(fcs m)),(g4,90,(fcs u.val)),(g5,90,(fcs v.val)),(g6,99,(tcs j2.x.val j2.y.val j2.z.val))]) om ac7 kR (AL U (AL U (AL U (AL U (AL (beq (by rw [hj2,hj1, ← EF fb6]; rfl)) U)))))
   ·have lb3:=dY hb3
    refine sT<|Sy.skip<|Sy.then_<|Sy.seq<|Sy.block<|sC<|sS (tv ((Af m u v (128+k2x2)).x.val) ((Af m u v (128+k2x2)).y.val) ((Af m u v (128+k2x2)).z.val)) (qL 4 g6 0 12 99 99 (tcs ((Af m u v (128+k2x2)).x.val) ((Af m u v (128+k2x2)).y.val) ((Af m u v (128+k2x2)).z.val)) U Ed) ?_
    obtain ⟨j3,hj3⟩:∃ z:J,z=Bg (Af m u v (128+k2x2)):=⟨_,rfl⟩
    refine sS (tv j3.x.val j3.y.val j3.z.val) (qF 50 #[tv ((Af m u v (128+k2x2)).x.val) ((Af m u v (128+k2x2)).y.val) ((Af m u v (128+k2x2)).z.val)] (λw=>by rw [hj3]; exact D7 w (Af m u v (128+k2x2))))<|sW 4 g6 99 (tcs ((Af m u v (128+k2x2)).x.val) ((Af m u v (128+k2x2)).y.val) ((Af m u v (128+k2x2)).z.val)) (tcs j3.x.val j3.y.val j3.z.val) (wS 0 99 (tcs j3.x.val j3.y.val j3.z.val) rfl)<|sA<|sP (.int .i64 1)<|sP (pT g3 1)<|sS (qv (m / 18446744073709551616%18446744073709551616)) (qC 1 g3 1 90 40 (fcs m) rfl Bh)<|sP (.int .u64 ((bt k2x2:Nat):Int))<|sS (.int .u64 (((m / 18446744073709551616%18446744073709551616) &&& bt k2x2:Nat):Int)) (Quiet.pure (FI _ _ _ _ _ (m / 18446744073709551616%18446744073709551616) (bt k2x2) (Nat.mod_lt _ dZ) (D1 _) rfl U U)) ?_
    obtain ⟨b7,hb7⟩:=xE (decide ((m / 18446744073709551616%18446744073709551616) &&& bt k2x2≠0))
    refine sS (.bool b7) (Quiet.pure (AU .neq _ _ _ .u64 _ _ _ U U U (Ds _ _ _ _ _ (by rw [hb7]; exact decide_eq_decide.2 om))))<|sG ?_
    cases b7
    ·have lb7:=dN hb7
     have fb7:¬ m / 2 ^ (255 - (128+k2x2))%2=1:=by
      have q:=EG (m / 18446744073709551616%18446744073709551616) k2x2 om
      have q2:=C7 m 1 k2x2 om
      rw [show 64*1+(63 - k2x2)=255 - (128+k2x2) by omega] at q2
      rw [← q2]
      exact λt=>lb7 (q.2 t)
     refine sU<|Sy.skip<|Sy.in_<|Sy.then_<|Sy.region<|sP (.int .u64 ((bt k2x2:Nat):Int))<|sS (.int .u64 ((bt (k2x2+1):Nat):Int)) (Quiet.pure (AU .quo _ _ _ .u64 _ _ _ U U U (Co _ _ _ _ _ dZ (by rw [← Da]; have:=D1 k2x2; rw [show ((bt k2x2:Nat):Int).tdiv 2=((bt k2x2 / 2:Nat):Int) from rfl]; exact wrap_u64 om om))))<|sP (.int .u64 ((bt (k2x2+1):Nat):Int))<|Sy.nil ?_
     exact Sy.againK [true,true,true,true,true] (M:=[(g2,48,(pcs 0 0 false)),(g3,90,(fcs m)),(g4,90,(fcs u.val)),(g5,90,(fcs v.val)),(g6,99,(tcs j3.x.val j3.y.val j3.z.val))]) om ac7 kR (AL U (AL U (AL U (AL U (AL (beq (by rw [hj3, ← FO fb7]; rfl)) U)))))
    ·have lb7:=dY hb7
     have fb7 :  m / 2 ^ (255 - (128+k2x2))%2=1:=by
      have q:=EG (m / 18446744073709551616%18446744073709551616) k2x2 om
      have q2:=C7 m 1 k2x2 om
      rw [show 64*1+(63 - k2x2)=255 - (128+k2x2) by omega] at q2
      rw [← q2]
      exact q.1 lb7
     refine sT<|Sy.region<|sS (tv j3.x.val j3.y.val j3.z.val) (qL 4 g6 0 12 99 99 (tcs j3.x.val j3.y.val j3.z.val) rfl Ed)<|sS (fv u.val) (qL 2 g4 0 4 90 90 (fcs u.val) rfl AH)<|sS (fv v.val) (qL 3 g5 0 4 90 90 (fcs v.val) rfl AH) ?_
     obtain ⟨j4,hj4⟩:∃ z:J,z=BK j3 u v:=⟨_,rfl⟩
     refine sS (tv j4.x.val j4.y.val j4.z.val) (qF 51 #[tv j3.x.val j3.y.val j3.z.val,fv u.val,fv v.val] (λw=>by rw [hj4]; exact GI w j3 u v))<|sW 4 g6 99 (tcs j3.x.val j3.y.val j3.z.val) (tcs j4.x.val j4.y.val j4.z.val) (wS 0 99 (tcs j4.x.val j4.y.val j4.z.val) rfl)<|Sy.nil<|Sy.in_<|Sy.then_<|Sy.region<|sP (.int .u64 ((bt k2x2:Nat):Int))<|sS (.int .u64 ((bt (k2x2+1):Nat):Int)) (Quiet.pure (AU .quo _ _ _ .u64 _ _ _ U U U (Co _ _ _ _ _ dZ (by rw [← Da]; have:=D1 k2x2; rw [show ((bt k2x2:Nat):Int).tdiv 2=((bt k2x2 / 2:Nat):Int) from rfl]; exact wrap_u64 om om))))<|sP (.int .u64 ((bt (k2x2+1):Nat):Int))<|Sy.nil ?_
     exact Sy.againK [true,true,true,true,true] (M:=[(g2,48,(pcs 0 0 false)),(g3,90,(fcs m)),(g4,90,(fcs u.val)),(g5,90,(fcs v.val)),(g6,99,(tcs j4.x.val j4.y.val j4.z.val))]) om ac7 kR (AL U (AL U (AL U (AL U (AL (beq (by rw [hj4,hj3, ← EF fb7]; rfl)) U)))))
  ·have lb2:=dY hb2
   refine sT<|Sy.skip<|Sy.then_<|Sy.seq<|Sy.block<|sC<|sS (tv ((Af m u v (64+k2x1)).x.val) ((Af m u v (64+k2x1)).y.val) ((Af m u v (64+k2x1)).z.val)) (qL 4 g6 0 12 99 99 (tcs ((Af m u v (64+k2x1)).x.val) ((Af m u v (64+k2x1)).y.val) ((Af m u v (64+k2x1)).z.val)) U Ed) ?_
   obtain ⟨j5,hj5⟩:∃ z:J,z=Bg (Af m u v (64+k2x1)):=⟨_,rfl⟩
   refine sS (tv j5.x.val j5.y.val j5.z.val) (qF 50 #[tv ((Af m u v (64+k2x1)).x.val) ((Af m u v (64+k2x1)).y.val) ((Af m u v (64+k2x1)).z.val)] (λw=>by rw [hj5]; exact D7 w (Af m u v (64+k2x1))))<|sW 4 g6 99 (tcs ((Af m u v (64+k2x1)).x.val) ((Af m u v (64+k2x1)).y.val) ((Af m u v (64+k2x1)).z.val)) (tcs j5.x.val j5.y.val j5.z.val) (wS 0 99 (tcs j5.x.val j5.y.val j5.z.val) rfl)<|sA<|sP (.int .i64 2)<|sP (pT g3 2)<|sS (qv (m / 340282366920938463463374607431768211456%18446744073709551616)) (qC 1 g3 2 90 40 (fcs m) rfl Bh)<|sP (.int .u64 ((bt k2x1:Nat):Int))<|sS (.int .u64 (((m / 340282366920938463463374607431768211456%18446744073709551616) &&& bt k2x1:Nat):Int)) (Quiet.pure (FI _ _ _ _ _ (m / 340282366920938463463374607431768211456%18446744073709551616) (bt k2x1) (Nat.mod_lt _ dZ) (D1 _) rfl U U)) ?_
   obtain ⟨b8,hb8⟩:=xE (decide ((m / 340282366920938463463374607431768211456%18446744073709551616) &&& bt k2x1≠0))
   refine sS (.bool b8) (Quiet.pure (AU .neq _ _ _ .u64 _ _ _ U U U (Ds _ _ _ _ _ (by rw [hb8]; exact decide_eq_decide.2 om))))<|sG ?_
   cases b8
   ·have lb8:=dN hb8
    have fb8:¬ m / 2 ^ (255 - (64+k2x1))%2=1:=by
     have q:=EG (m / 340282366920938463463374607431768211456%18446744073709551616) k2x1 om
     have q2:=C7 m 2 k2x1 om
     rw [show 64*2+(63 - k2x1)=255 - (64+k2x1) by omega] at q2
     rw [← q2]
     exact λt=>lb8 (q.2 t)
    refine sU<|Sy.skip<|Sy.in_<|Sy.then_<|Sy.region<|sP (.int .u64 ((bt k2x1:Nat):Int))<|sS (.int .u64 ((bt (k2x1+1):Nat):Int)) (Quiet.pure (AU .quo _ _ _ .u64 _ _ _ U U U (Co _ _ _ _ _ dZ (by rw [← Da]; have:=D1 k2x1; rw [show ((bt k2x1:Nat):Int).tdiv 2=((bt k2x1 / 2:Nat):Int) from rfl]; exact wrap_u64 om om))))<|sP (.int .u64 ((bt (k2x1+1):Nat):Int))<|Sy.nil ?_
    exact Sy.againK [true,true,true,true,true] (M:=[(g2,48,(pcs 0 0 false)),(g3,90,(fcs m)),(g4,90,(fcs u.val)),(g5,90,(fcs v.val)),(g6,99,(tcs j5.x.val j5.y.val j5.z.val))]) om ac7 kR (AL U (AL U (AL U (AL U (AL (beq (by rw [hj5, ← FO fb8]; rfl)) U)))))
   ·have lb8:=dY hb8
    have fb8 :  m / 2 ^ (255 - (64+k2x1))%2=1:=by
     have q:=EG (m / 340282366920938463463374607431768211456%18446744073709551616) k2x1 om
     have q2:=C7 m 2 k2x1 om
     rw [show 64*2+(63 - k2x1)=255 - (64+k2x1) by omega] at q2
     rw [← q2]
     exact q.1 lb8
    refine sT<|Sy.region<|sS (tv j5.x.val j5.y.val j5.z.val) (qL 4 g6 0 12 99 99 (tcs j5.x.val j5.y.val j5.z.val) rfl Ed)<|sS (fv u.val) (qL 2 g4 0 4 90 90 (fcs u.val) rfl AH)<|sS (fv v.val) (qL 3 g5 0 4 90 90 (fcs v.val) rfl AH) ?_
    obtain ⟨j6,hj6⟩:∃ z:J,z=BK j5 u v:=⟨_,rfl⟩
    refine sS (tv j6.x.val j6.y.val j6.z.val) (qF 51 #[tv j5.x.val j5.y.val j5.z.val,fv u.val,fv v.val] (λw=>by rw [hj6]; exact GI w j5 u v))<|sW 4 g6 99 (tcs j5.x.val j5.y.val j5.z.val) (tcs j6.x.val j6.y.val j6.z.val) (wS 0 99 (tcs j6.x.val j6.y.val j6.z.val) rfl)<|Sy.nil<|Sy.in_<|Sy.then_<|Sy.region<|sP (.int .u64 ((bt k2x1:Nat):Int))<|sS (.int .u64 ((bt (k2x1+1):Nat):Int)) (Quiet.pure (AU .quo _ _ _ .u64 _ _ _ U U U (Co _ _ _ _ _ dZ (by rw [← Da]; have:=D1 k2x1; rw [show ((bt k2x1:Nat):Int).tdiv 2=((bt k2x1 / 2:Nat):Int) from rfl]; exact wrap_u64 om om))))<|sP (.int .u64 ((bt (k2x1+1):Nat):Int))<|Sy.nil ?_
    exact Sy.againK [true,true,true,true,true] (M:=[(g2,48,(pcs 0 0 false)),(g3,90,(fcs m)),(g4,90,(fcs u.val)),(g5,90,(fcs v.val)),(g6,99,(tcs j6.x.val j6.y.val j6.z.val))]) om ac7 kR (AL U (AL U (AL U (AL U (AL (beq (by rw [hj6,hj5, ← EF fb8]; rfl)) U)))))
 ·have lb1:=dY hb1
  refine sT<|Sy.skip<|Sy.then_<|Sy.seq<|Sy.block<|sC<|sS (tv ((Af m u v (0+k2x0)).x.val) ((Af m u v (0+k2x0)).y.val) ((Af m u v (0+k2x0)).z.val)) (qL 4 g6 0 12 99 99 (tcs ((Af m u v (0+k2x0)).x.val) ((Af m u v (0+k2x0)).y.val) ((Af m u v (0+k2x0)).z.val)) U Ed) ?_
  obtain ⟨j7,hj7⟩:∃ z:J,z=Bg (Af m u v (0+k2x0)):=⟨_,rfl⟩
  refine sS (tv j7.x.val j7.y.val j7.z.val) (qF 50 #[tv ((Af m u v (0+k2x0)).x.val) ((Af m u v (0+k2x0)).y.val) ((Af m u v (0+k2x0)).z.val)] (λw=>by rw [hj7]; exact D7 w (Af m u v (0+k2x0))))<|sW 4 g6 99 (tcs ((Af m u v (0+k2x0)).x.val) ((Af m u v (0+k2x0)).y.val) ((Af m u v (0+k2x0)).z.val)) (tcs j7.x.val j7.y.val j7.z.val) (wS 0 99 (tcs j7.x.val j7.y.val j7.z.val) rfl)<|sA<|sP (.int .i64 3)<|sP (pT g3 3)<|sS (qv (m / 6277101735386680763835789423207666416102355444464034512896%18446744073709551616)) (qC 1 g3 3 90 40 (fcs m) rfl Bh)<|sP (.int .u64 ((bt k2x0:Nat):Int))<|sS (.int .u64 (((m / 6277101735386680763835789423207666416102355444464034512896%18446744073709551616) &&& bt k2x0:Nat):Int)) (Quiet.pure (FI _ _ _ _ _ (m / 6277101735386680763835789423207666416102355444464034512896%18446744073709551616) (bt k2x0) (Nat.mod_lt _ dZ) (D1 _) rfl U U)) ?_
  obtain ⟨b9,hb9⟩:=xE (decide ((m / 6277101735386680763835789423207666416102355444464034512896%18446744073709551616) &&& bt k2x0≠0))
  refine sS (.bool b9) (Quiet.pure (AU .neq _ _ _ .u64 _ _ _ U U U (Ds _ _ _ _ _ (by rw [hb9]; exact decide_eq_decide.2 om))))<|sG ?_
  cases b9
  ·have lb9:=dN hb9
   have fb9:¬ m / 2 ^ (255 - (0+k2x0))%2=1:=by
    have q:=EG (m / 6277101735386680763835789423207666416102355444464034512896%18446744073709551616) k2x0 om
    have q2:=C7 m 3 k2x0 om
    rw [show 64*3+(63 - k2x0)=255 - (0+k2x0) by omega] at q2
    rw [← q2]
    exact λt=>lb9 (q.2 t)
   refine sU<|Sy.skip<|Sy.in_<|Sy.then_<|Sy.region<|sP (.int .u64 ((bt k2x0:Nat):Int))<|sS (.int .u64 ((bt (k2x0+1):Nat):Int)) (Quiet.pure (AU .quo _ _ _ .u64 _ _ _ U U U (Co _ _ _ _ _ dZ (by rw [← Da]; have:=D1 k2x0; rw [show ((bt k2x0:Nat):Int).tdiv 2=((bt k2x0 / 2:Nat):Int) from rfl]; exact wrap_u64 om om))))<|sP (.int .u64 ((bt (k2x0+1):Nat):Int))<|Sy.nil ?_
   exact Sy.againK [true,true,true,true,true] (M:=[(g2,48,(pcs 0 0 false)),(g3,90,(fcs m)),(g4,90,(fcs u.val)),(g5,90,(fcs v.val)),(g6,99,(tcs j7.x.val j7.y.val j7.z.val))]) om ac7 kR (AL U (AL U (AL U (AL U (AL (beq (by rw [hj7, ← FO fb9]; rfl)) U)))))
  ·have lb9:=dY hb9
   have fb9 :  m / 2 ^ (255 - (0+k2x0))%2=1:=by
    have q:=EG (m / 6277101735386680763835789423207666416102355444464034512896%18446744073709551616) k2x0 om
    have q2:=C7 m 3 k2x0 om
    rw [show 64*3+(63 - k2x0)=255 - (0+k2x0) by omega] at q2
    rw [← q2]
    exact q.1 lb9
   refine sT<|Sy.region<|sS (tv j7.x.val j7.y.val j7.z.val) (qL 4 g6 0 12 99 99 (tcs j7.x.val j7.y.val j7.z.val) rfl Ed)<|sS (fv u.val) (qL 2 g4 0 4 90 90 (fcs u.val) rfl AH)<|sS (fv v.val) (qL 3 g5 0 4 90 90 (fcs v.val) rfl AH) ?_
   obtain ⟨j8,hj8⟩:∃ z:J,z=BK j7 u v:=⟨_,rfl⟩
   refine sS (tv j8.x.val j8.y.val j8.z.val) (qF 51 #[tv j7.x.val j7.y.val j7.z.val,fv u.val,fv v.val] (λw=>by rw [hj8]; exact GI w j7 u v))<|sW 4 g6 99 (tcs j7.x.val j7.y.val j7.z.val) (tcs j8.x.val j8.y.val j8.z.val) (wS 0 99 (tcs j8.x.val j8.y.val j8.z.val) rfl)<|Sy.nil<|Sy.in_<|Sy.then_<|Sy.region<|sP (.int .u64 ((bt k2x0:Nat):Int))<|sS (.int .u64 ((bt (k2x0+1):Nat):Int)) (Quiet.pure (AU .quo _ _ _ .u64 _ _ _ U U U (Co _ _ _ _ _ dZ (by rw [← Da]; have:=D1 k2x0; rw [show ((bt k2x0:Nat):Int).tdiv 2=((bt k2x0 / 2:Nat):Int) from rfl]; exact wrap_u64 om om))))<|sP (.int .u64 ((bt (k2x0+1):Nat):Int))<|Sy.nil ?_
   exact Sy.againK [true,true,true,true,true] (M:=[(g2,48,(pcs 0 0 false)),(g3,90,(fcs m)),(g4,90,(fcs u.val)),(g5,90,(fcs v.val)),(g6,99,(tcs j8.x.val j8.y.val j8.z.val))]) om ac7 kR (AL U (AL U (AL U (AL U (AL (beq (by rw [hj8,hj7, ← EF fb9]; rfl)) U)))))
theorem NI (w:World) (k x y:Nat) (i:Bool) (hk:k<K4) (hx:x<K4) (hy:y<K4):Calls Tryz.prog 15 #[fv k,pv x y i] w (Gets w (ptv (Ec.nm Ae (k%Sc.pM) (dec x y i)))):=by
 have o1:=Cy x y i
 rcases h:dec x y i with _ | ⟨u,v⟩
 ·rw [Ec.nm_none]
  exact LQ w k x y i hk hx hy h
 ·rw [h] at o1
  exact LO w k x y i hk hx hy u v h o1
end Cu
end
section
namespace Cu
open Go.RowKit Sy
structure Pr where
 x:Nat
 y:Nat
 i:Bool
def Pr.cells (t:Pr):List Value:=fws t.x++(fws t.y++[Value.bool t.i])
def Pr.ok (t:Pr):Prop:=t.x<K4∧t.y<K4
end Cu
end
section
namespace Cu
open Go.RowKit Sy
end Cu
end
section
namespace Cu
open Go.ChangeShapes Go.WideShapes Go.ChangeAt Go.RowKit Go.Deep
theorem F8 {W:World} {base:Nat} {a:Addr} {n:Nat} {cs:List Value} (h:W.cells? base a n=some cs):∀ (j:Nat) (v:Value),cs[j]? = some v→W.cell? (a.add j)=some v:=λj v hj=>by
 unfold World.cells? at h
 split at h
 ·have hl:=Lib.mapM_length h
  have hjl:j<n:=by
   have:=(List.getElem?_eq_some_iff.1 hj).1
   simp at hl
   omega
  obtain ⟨b,hb,hf⟩:=Lib.mapM_at h j j (by simp [hjl])
  rw [hb] at hj
  injection hj with hj
  rw [hf,hj]
 ·cases h
theorem Lm {W:World} {base:Nat} {a:Addr} {n:Nat} {cs:List Value} (h:W.cells? base a n=some cs):cs.length=n:=by
 unfold World.cells? at h
 split at h
 ·have hl:=Lib.mapM_length h
  simpa using hl
 ·cases h
theorem Ll {α:Type} [Inhabited α] {n:Nat} {p:Nat→α→Prop} (h:∀ i,i<n→∃ x,p i x) (q:α→Prop) (hq:q default) (hpq:∀ i x,p i x→q x):∃ f:Nat→α,(∀ i,q (f i))∧∀ i,i<n→p i (f i) :=
 ⟨λi=>if hi:i<n then Classical.choose (h i hi) else default,λi=>by
  by_cases hi:i<n
  ·simp only [hi,dif_pos]; exact hpq i _ (Classical.choose_spec (h i hi))
  ·simp only [hi,dif_neg,not_false_iff]; exact hq,λi hi=>by simp only [hi,dif_pos]; exact Classical.choose_spec (h i hi)⟩
theorem Ln {w:World} {a:Addr} {v:Value} (h:w.cell? a=some v):∃ b o,a=⟨b,o,none⟩∧b<w.heap.size:=by
 obtain ⟨b,o,k⟩:=a
 unfold World.cell? at h
 cases k with
 | none =>
  refine ⟨b,o,rfl,?_⟩
  rcases Nat.lt_or_ge b w.heap.size with hl | hl
  ·exact hl
  ·simp [Array.getElem?_eq_none hl] at h
 | some k=>exfalso; cases hw:w.heap[b]? with
  | none=>simp [hw] at h
  | some ob=>cases ob <;> simp [hw] at h
theorem Kq (b o n:Nat):(⟨b,o,none⟩:Addr).add n=⟨b,o+n,none⟩:=by unfold Addr.add; split <;> simp_all
theorem QS {H:Type} {enc:TypeId×Value→H} {P:Program} {W:World} {t q:TypeId} {f0 f1 f2:Field} (ht:P.underlying t=some (.struct #[f0,f1,f2]))
  (h0:P.underlying f0.type=some (.array 4 q)) (h1:P.underlying f1.type=some (.array 4 q)) (h2:P.underlying f2.type=some .bool) (hq:P.underlying q=some (.int .u64))
  (hcq:P.cellsOf q=1) (c0:P.cellsOf f0.type=4) (c1:P.cellsOf f1.type=4) (c2:P.cellsOf f2.type=1) (o0:f0.offset=0) (o1:f1.offset=4) (o2:f2.offset=8)
  (fuel:Nat) (cs:List Value) (x:DataW H×List MemPlace) (hl:cs.length=9) (hf:DataW.trod enc P W 0 (λ_=>true) true fuel t cs=some x):∃ y:Pr,y.ok∧cs=y.cells:=by
 obtain ⟨y0,y1,y2,m,hx,_,g0,g1,g2⟩:=trod_struct3 ht hf
 obtain ⟨a0,a1,a2,a3,b0',b1,b2,b3,z,rfl⟩:∃ a0 a1 a2 a3 b0 b1 b2 b3 z,cs=[a0,a1,a2,a3,b0,b1,b2,b3,z]:=by
  match cs,hl with
  | [a0,a1,a2,a3,b0,b1,b2,b3,z],_=>exact ⟨a0,a1,a2,a3,b0,b1,b2,b3,z,rfl⟩
 rw [c0,o0] at g0
 rw [c1,o1] at g1
 rw [c2,o2] at g2
 obtain ⟨x,hx4,ex⟩:=Dl h0 hq hcq (c0:=a0) (c1:=a1) (c2:=a2) (c3:=a3) (by simpa using g0)
 obtain ⟨y,hy4,ey⟩:=Dl h1 hq hcq (c0:=b0') (c1:=b1) (c2:=b2) (c3:=b3) (by simpa using g1)
 obtain ⟨i,ei⟩:∃ i,z=.bool i:=by
  have g2':DataW.trod enc P W 0 (λ_=>true) true m f2.type [z]=some y2:=by simpa using g2
  obtain ⟨b,e,_⟩:=DataW.trod_bool h2 g2'
  simp only [List.cons.injEq,and_true] at e
  exact ⟨b,e⟩
 subst ei
 refine ⟨⟨x,y,i⟩,⟨hx4,hy4⟩,?_⟩
 unfold Pr.cells
 rw [← ex, ← ey]
 rfl
instance:Inhabited Pr:=⟨⟨0,0,false⟩⟩
theorem Lu:0<K4:=dZ
theorem OZ {H:Type} {enc:TypeId×Value→H} {W:World} (fuel:Nat) (cs:List Value) (x:DataW H×List MemPlace) (hl:cs.length=9) (hf:DataW.trod enc Tryz.prog W 0 (λ_=>true) true fuel 48 cs=some x):∃ y:Pr,y.ok∧cs=y.cells :=
 QS Ac AG AG uy4 Bh kZ kZ kZ kZ U U U fuel cs x hl hf
end Cu
end
section
namespace Cu
open Go.ChangeShapes Go.WideShapes Go.ChangeAt Go.RowKit Go.Deep
end Cu
end
section
namespace Cu
open Go.RowKit Sy
theorem Hx (w:World) (F:AK) (o:Oper) (x y:Operand) (b:Bool) {yt:TypeId} (ho:o.op=.binOp .eql 4 x y yt) (hx:evF F x=.bool b) (hy:evF F y=.bool b):(execOp (evF F) o).run Tryz.prog w=.ok (.value (.bool true)) w:=by
 unfold execOp
 simp only [ho,hx,hy]
 cases b <;> kernel_rfl
end Cu
end
section
namespace Cu
open Go.RowKit Sy
def Aw:Pt→List UInt8
 | none=>List.replicate 33 0
 | some (x,y)=>(if y.val%2=1 then 3 else 2)::AY x.val
theorem Ap:∀ P,(Aw P).length=33
 | none=>rfl
 | some (x,y)=>by simp [Aw,AQ]
theorem Sb (m:List UInt8) (h:m.length=32):∃ a0 a1 a2 a3 a4 a5 a6 a7 a8 a9 a10 a11 a12 a13 a14 a15 a16 a17 a18 a19 a20 a21 a22 a23 a24 a25 a26 a27 a28 a29 a30 a31:UInt8,m=[a0,a1,a2,a3,a4,a5,a6,a7,a8,a9,a10,a11,a12,a13,a14,a15,a16,a17,a18,a19,a20,a21,a22,a23,a24,a25,a26,a27,a28,a29,a30,a31]:=by
 match m,h with
 | [a0,a1,a2,a3,a4,a5,a6,a7,a8,a9,a10,a11,a12,a13,a14,a15,a16,a17,a18,a19,a20,a21,a22,a23,a24,a25,a26,a27,a28,a29,a30,a31],_=>exact ⟨a0,a1,a2,a3,a4,a5,a6,a7,a8,a9,a10,a11,a12,a13,a14,a15,a16,a17,a18,a19,a20,a21,a22,a23,a24,a25,a26,a27,a28,a29,a30,a31,  rfl⟩
end Cu
end
section
namespace Cu
open Go.RowKit Sy
theorem PH (w:World) (x y:Nat) (i:Bool) (hx:x<K4) (hy:y<K4) (h:dec x y i=none):Calls Tryz.prog 146 #[pv x y i] w (Gets w (.agg ((Aw none).map bv).toArray)):=by
 refine Sy.enter (args:=[pv x y i]) Tryz.func146 U kL<|sC<|sM 48 (pcs x y i) (λg0=>?_)
 refine Sy.make kR 174 (Zl 33).toArray ptr kF (λg1=>?_)
 refine sA<|Sy.make kR 174 (Zl 33).toArray ptr kF (λg2=>?_)
 refine sA<|sS (pv x y i) (qL 0 g0 0 9 48 48 (pcs x y i) rfl Ac)<|sS (pv 0 0 true) (qF 194 #[pv x y i] (λw=>by have hrr:=CC w x y i lK lK; rw [h] at hrr; exact hrr))<|sW 0 g0 48 (pcs x y i) (pcs 0 0 true) (wS 0 48 (pcs 0 0 true) rfl)<|sG<|Sy.seq<|Sy.seq<|Sy.regionD (λj=>false) kR<|sD 0 U (pv 0 0 true) (qL 0 g0 0 9 48 48 (pcs 0 0 true) rfl Ac)<|sD 1 U (pv 0 0 true) (qF 195 #[] (CZ))<|sD 2 U (.bool true) (Quiet.pure (λw=>DK w _ _ _ _ 0 0 true 0 0 true U U U dZ dZ dZ dZ))<|sI<|sT<|sC<|sS (.agg ((Zl 33):List Value).toArray) (Quiet.load 2 g2 0 33 174 174 (Zl 33).toArray _ _ U kR kR H8 U kR _ kR kL)<|Sy.write kR 1 g1 174 (Zl 33).toArray (Zl 33).toArray kR (Writes.store 0 174 (Zl 33).toArray _ _ U kR kR kR kL kR kR)<|sG<|Sy.ret<|Sy.then_ret ?_
 rw [show (.agg ((Aw none).map bv).toArray:Value)=.agg ((Zl 33):List Value).toArray from by kernel_rfl]
 exact Sy.ret1 (v:=.agg ((Zl 33):List Value).toArray) rfl (.inl (Res.cell (ty':=174) g1 1 (Zl 33).toArray _ kR kR H8 U kR kR))
theorem PG (w:World) (x y:Nat) (i:Bool) (hx:x<K4) (hy:y<K4) (u v:Fp) (h:dec x y i=some (u,v)):Calls Tryz.prog 146 #[pv x y i] w (Gets w (.agg ((Aw (some (u,v))).map bv).toArray)):=by
 obtain ⟨a0,a1,a2,a3,a4,a5,a6,a7,a8,a9,a10,a11,a12,a13,a14,a15,a16,a17,a18,a19,a20,a21,a22,a23,a24,a25,a26,a27,a28,a29,a30,a31,hm⟩:=Sb (AY u.val) (AQ _)
 have cB:∀ w,Calls Tryz.prog 205 #[fv u.val] w (Gets w (.agg ((bv a0::bv a1::[bv a2,bv a3,bv a4,bv a5,bv a6,bv a7,bv a8,bv a9,bv a10,bv a11,bv a12,bv a13,bv a14,bv a15,bv a16,bv a17,bv a18,bv a19,bv a20,bv a21,bv a22,bv a23,bv a24,bv a25,bv a26,bv a27,bv a28,bv a29,bv a30,bv a31]):List Value).toArray)):=λw=>by
  have hh:=bytes_any w u.val (lt4 u)
  rw [Nat.mod_eq_of_lt u.isLt,hm] at hh
  exact hh
 refine Sy.enter (args:=[pv x y i]) Tryz.func146 U kL<|sC<|sM 48 (pcs x y i) (λg0=>?_)
 refine Sy.make kR 174 (Zl 33).toArray ptr kF (λg1=>?_)
 refine sA<|Sy.make kR 174 (Zl 33).toArray ptr kF (λg2=>?_)
 refine sA<|sS (pv x y i) (qL 0 g0 0 9 48 48 (pcs x y i) rfl Ac)<|sS (pv u.val v.val false) (qF 194 #[pv x y i] (λw=>by have hrr:=CC w x y i lK lK; rw [h] at hrr; exact hrr))<|sW 0 g0 48 (pcs x y i) (pcs u.val v.val false) (wS 0 48 (pcs u.val v.val false) rfl)<|sG<|Sy.seq<|Sy.seq<|Sy.regionD (λj=>false) kR<|sD 0 U (pv u.val v.val false) (qL 0 g0 0 9 48 48 (pcs u.val v.val false) rfl Ac)<|sD 1 U (pv 0 0 true) (qF 195 #[] (CZ))<|sD 2 U (.bool false) (Quiet.pure (λw=>Dh w _ _ _ _ _ _ _ _ _ _ U U U lK lK lK lK dZ))<|sI<|sU<|Sy.skip<|sB<|sP (pT g2 0)<|Sy.write kR 2 g2 174 (Zl 33).toArray (.int .u8 2::Zl 32).toArray kR (wO 0 5 (.int .u8 2) rfl)<|sG<|Sy.seq<|sC<|sP (pT g0 4)<|sS (fv v.val) (qL 0 g0 4 4 48 46 (pcs u.val v.val false) rfl AG) ?_
 obtain ⟨b1,hb1⟩:=xE (decide (v.val%pM%2=1))
 refine sS (.bool b1) (qF 204 #[fv v.val] (λw=>by rw [hb1]; exact Qe w v.val lK))<|sG ?_
 cases b1
 ·refine sU<|Sy.skip<|sB ?_
  refine sP (pT g0 0)<|sS (fv u.val) (qL 0 g0 0 4 48 46 (pcs u.val v.val false) rfl AG)<|sS (.agg ((bv a0::bv a1::[bv a2,bv a3,bv a4,bv a5,bv a6,bv a7,bv a8,bv a9,bv a10,bv a11,bv a12,bv a13,bv a14,bv a15,bv a16,bv a17,bv a18,bv a19,bv a20,bv a21,bv a22,bv a23,bv a24,bv a25,bv a26,bv a27,bv a28,bv a29,bv a30,bv a31]):List Value).toArray) (qF 205 #[fv u.val] (cB))<|Sy.make kR 22 (Zl 32).toArray ptr kF (λg3=>?_)
  refine Sy.write kR 3 g3 22 (Zl 32).toArray (bv a0::bv a1::[bv a2,bv a3,bv a4,bv a5,bv a6,bv a7,bv a8,bv a9,bv a10,bv a11,bv a12,bv a13,bv a14,bv a15,bv a16,bv a17,bv a18,bv a19,bv a20,bv a21,bv a22,bv a23,bv a24,bv a25,bv a26,bv a27,bv a28,bv a29,bv a30,bv a31]).toArray kR (Writes.store 0 22 (bv a0::bv a1::[bv a2,bv a3,bv a4,bv a5,bv a6,bv a7,bv a8,bv a9,bv a10,bv a11,bv a12,bv a13,bv a14,bv a15,bv a16,bv a17,bv a18,bv a19,bv a20,bv a21,bv a22,bv a23,bv a24,bv a25,bv a26,bv a27,bv a28,bv a29,bv a30,bv a31]).toArray _ _ U kR kR kR kL kR kR)<|sH (λj=>j == 2) ?_
  refine sZ 0 U (.slice (some ⟨g2,1,none⟩) 32 32)<|sZ 1 U (.slice (pA g3) 32 32)<|Sy.writeVD 2 U kR (by rfl) kR 2 g2 174 (.int .u8 2::Zl 32).toArray (.int .u8 2::bv a0::bv a1::[bv a2,bv a3,bv a4,bv a5,bv a6,bv a7,bv a8,bv a9,bv a10,bv a11,bv a12,bv a13,bv a14,bv a15,bv a16,bv a17,bv a18,bv a19,bv a20,bv a21,bv a22,bv a23,bv a24,bv a25,bv a26,bv a27,bv a28,bv a29,bv a30,bv a31]).toArray (.int .i64 32) kR (WritesV.copy _ _ 24 24 _ U CI kR 2 g2 1 32 32 174 (.int .u8 2::Zl 32).toArray (.int .u8 2::bv a0::bv a1::[bv a2,bv a3,bv a4,bv a5,bv a6,bv a7,bv a8,bv a9,bv a10,bv a11,bv a12,bv a13,bv a14,bv a15,bv a16,bv a17,bv a18,bv a19,bv a20,bv a21,bv a22,bv a23,bv a24,bv a25,bv a26,bv a27,bv a28,bv a29,bv a30,bv a31]).toArray kR kR 3 g3 0 32 32 22 (bv a0::bv a1::[bv a2,bv a3,bv a4,bv a5,bv a6,bv a7,bv a8,bv a9,bv a10,bv a11,bv a12,bv a13,bv a14,bv a15,bv a16,bv a17,bv a18,bv a19,bv a20,bv a21,bv a22,bv a23,bv a24,bv a25,bv a26,bv a27,bv a28,bv a29,bv a30,bv a31]).toArray kR kR (bv a0::bv a1::[bv a2,bv a3,bv a4,bv a5,bv a6,bv a7,bv a8,bv a9,bv a10,bv a11,bv a12,bv a13,bv a14,bv a15,bv a16,bv a17,bv a18,bv a19,bv a20,bv a21,bv a22,bv a23,bv a24,bv a25,bv a26,bv a27,bv a28,bv a29,bv a30,bv a31]) kR kR (GR _ kR) kL kR)<|sE<|sB<|sS (.agg ((.int .u8 2::bv a0::bv a1::[bv a2,bv a3,bv a4,bv a5,bv a6,bv a7,bv a8,bv a9,bv a10,bv a11,bv a12,bv a13,bv a14,bv a15,bv a16,bv a17,bv a18,bv a19,bv a20,bv a21,bv a22,bv a23,bv a24,bv a25,bv a26,bv a27,bv a28,bv a29,bv a30,bv a31]):List Value).toArray) (Quiet.load 2 g2 0 33 174 174 (.int .u8 2::bv a0::bv a1::[bv a2,bv a3,bv a4,bv a5,bv a6,bv a7,bv a8,bv a9,bv a10,bv a11,bv a12,bv a13,bv a14,bv a15,bv a16,bv a17,bv a18,bv a19,bv a20,bv a21,bv a22,bv a23,bv a24,bv a25,bv a26,bv a27,bv a28,bv a29,bv a30,bv a31]).toArray _ _ U kR kR H8 U kR _ kR kL)<|Sy.write kR 1 g1 174 (Zl 33).toArray (.int .u8 2::bv a0::bv a1::[bv a2,bv a3,bv a4,bv a5,bv a6,bv a7,bv a8,bv a9,bv a10,bv a11,bv a12,bv a13,bv a14,bv a15,bv a16,bv a17,bv a18,bv a19,bv a20,bv a21,bv a22,bv a23,bv a24,bv a25,bv a26,bv a27,bv a28,bv a29,bv a30,bv a31]).toArray kR (Writes.store 0 174 (.int .u8 2::bv a0::bv a1::[bv a2,bv a3,bv a4,bv a5,bv a6,bv a7,bv a8,bv a9,bv a10,bv a11,bv a12,bv a13,bv a14,bv a15,bv a16,bv a17,bv a18,bv a19,bv a20,bv a21,bv a22,bv a23,bv a24,bv a25,bv a26,bv a27,bv a28,bv a29,bv a30,bv a31]).toArray _ _ U kR kR kR kL kR kR)<|sG<|Sy.ret ?_
  rw [show (.agg ((Aw (some (u,v))).map bv).toArray:Value)=.agg ((.int .u8 2::bv a0::bv a1::[bv a2,bv a3,bv a4,bv a5,bv a6,bv a7,bv a8,bv a9,bv a10,bv a11,bv a12,bv a13,bv a14,bv a15,bv a16,bv a17,bv a18,bv a19,bv a20,bv a21,bv a22,bv a23,bv a24,bv a25,bv a26,bv a27,bv a28,bv a29,bv a30,bv a31]):List Value).toArray from by
   have e:Aw (some (u,v))=(if v.val%2=1 then 3 else 2)::AY u.val:=rfl
   rw [e,hm,if_neg (by have q:=hb1.symm; rw [Nat.mod_eq_of_lt v.isLt] at q; exact of_decide_eq_false q)]
   rfl]
  exact Sy.ret1 (v:=.agg ((.int .u8 2::bv a0::bv a1::[bv a2,bv a3,bv a4,bv a5,bv a6,bv a7,bv a8,bv a9,bv a10,bv a11,bv a12,bv a13,bv a14,bv a15,bv a16,bv a17,bv a18,bv a19,bv a20,bv a21,bv a22,bv a23,bv a24,bv a25,bv a26,bv a27,bv a28,bv a29,bv a30,bv a31]):List Value).toArray) rfl (.inl (Res.cell (ty':=174) g1 1 (.int .u8 2::bv a0::bv a1::[bv a2,bv a3,bv a4,bv a5,bv a6,bv a7,bv a8,bv a9,bv a10,bv a11,bv a12,bv a13,bv a14,bv a15,bv a16,bv a17,bv a18,bv a19,bv a20,bv a21,bv a22,bv a23,bv a24,bv a25,bv a26,bv a27,bv a28,bv a29,bv a30,bv a31]).toArray _ kR kR H8 U kR kR))
 ·refine sT<|Sy.region ?_
  refine sP (pT g2 0)<|Sy.write kR 2 g2 174 (.int .u8 2::Zl 32).toArray (.int .u8 3::Zl 32).toArray kR (wO 0 5 (.int .u8 3) rfl)<|sA<|sP (pT g0 0)<|sS (fv u.val) (qL 0 g0 0 4 48 46 (pcs u.val v.val false) rfl AG)<|sS (.agg ((bv a0::bv a1::[bv a2,bv a3,bv a4,bv a5,bv a6,bv a7,bv a8,bv a9,bv a10,bv a11,bv a12,bv a13,bv a14,bv a15,bv a16,bv a17,bv a18,bv a19,bv a20,bv a21,bv a22,bv a23,bv a24,bv a25,bv a26,bv a27,bv a28,bv a29,bv a30,bv a31]):List Value).toArray) (qF 205 #[fv u.val] (cB))<|Sy.make kR 22 (Zl 32).toArray ptr kF (λg4=>?_)
  refine Sy.write kR 3 g4 22 (Zl 32).toArray (bv a0::bv a1::[bv a2,bv a3,bv a4,bv a5,bv a6,bv a7,bv a8,bv a9,bv a10,bv a11,bv a12,bv a13,bv a14,bv a15,bv a16,bv a17,bv a18,bv a19,bv a20,bv a21,bv a22,bv a23,bv a24,bv a25,bv a26,bv a27,bv a28,bv a29,bv a30,bv a31]).toArray kR (Writes.store 0 22 (bv a0::bv a1::[bv a2,bv a3,bv a4,bv a5,bv a6,bv a7,bv a8,bv a9,bv a10,bv a11,bv a12,bv a13,bv a14,bv a15,bv a16,bv a17,bv a18,bv a19,bv a20,bv a21,bv a22,bv a23,bv a24,bv a25,bv a26,bv a27,bv a28,bv a29,bv a30,bv a31]).toArray _ _ U kR kR kR kL kR kR)<|sH (λj=>j == 2) ?_
  refine sZ 0 U (.slice (some ⟨g2,1,none⟩) 32 32)<|sZ 1 U (.slice (pA g4) 32 32)<|Sy.writeVD 2 U kR (by rfl) kR 2 g2 174 (.int .u8 3::Zl 32).toArray (.int .u8 3::bv a0::bv a1::[bv a2,bv a3,bv a4,bv a5,bv a6,bv a7,bv a8,bv a9,bv a10,bv a11,bv a12,bv a13,bv a14,bv a15,bv a16,bv a17,bv a18,bv a19,bv a20,bv a21,bv a22,bv a23,bv a24,bv a25,bv a26,bv a27,bv a28,bv a29,bv a30,bv a31]).toArray (.int .i64 32) kR (WritesV.copy _ _ 24 24 _ U CI kR 2 g2 1 32 32 174 (.int .u8 3::Zl 32).toArray (.int .u8 3::bv a0::bv a1::[bv a2,bv a3,bv a4,bv a5,bv a6,bv a7,bv a8,bv a9,bv a10,bv a11,bv a12,bv a13,bv a14,bv a15,bv a16,bv a17,bv a18,bv a19,bv a20,bv a21,bv a22,bv a23,bv a24,bv a25,bv a26,bv a27,bv a28,bv a29,bv a30,bv a31]).toArray kR kR 3 g4 0 32 32 22 (bv a0::bv a1::[bv a2,bv a3,bv a4,bv a5,bv a6,bv a7,bv a8,bv a9,bv a10,bv a11,bv a12,bv a13,bv a14,bv a15,bv a16,bv a17,bv a18,bv a19,bv a20,bv a21,bv a22,bv a23,bv a24,bv a25,bv a26,bv a27,bv a28,bv a29,bv a30,bv a31]).toArray kR kR (bv a0::bv a1::[bv a2,bv a3,bv a4,bv a5,bv a6,bv a7,bv a8,bv a9,bv a10,bv a11,bv a12,bv a13,bv a14,bv a15,bv a16,bv a17,bv a18,bv a19,bv a20,bv a21,bv a22,bv a23,bv a24,bv a25,bv a26,bv a27,bv a28,bv a29,bv a30,bv a31]) kR kR (GR _ kR) kL kR)<|sE<|sB<|sS (.agg ((.int .u8 3::bv a0::bv a1::[bv a2,bv a3,bv a4,bv a5,bv a6,bv a7,bv a8,bv a9,bv a10,bv a11,bv a12,bv a13,bv a14,bv a15,bv a16,bv a17,bv a18,bv a19,bv a20,bv a21,bv a22,bv a23,bv a24,bv a25,bv a26,bv a27,bv a28,bv a29,bv a30,bv a31]):List Value).toArray) (Quiet.load 2 g2 0 33 174 174 (.int .u8 3::bv a0::bv a1::[bv a2,bv a3,bv a4,bv a5,bv a6,bv a7,bv a8,bv a9,bv a10,bv a11,bv a12,bv a13,bv a14,bv a15,bv a16,bv a17,bv a18,bv a19,bv a20,bv a21,bv a22,bv a23,bv a24,bv a25,bv a26,bv a27,bv a28,bv a29,bv a30,bv a31]).toArray _ _ U kR kR H8 U kR _ kR kL)<|Sy.write kR 1 g1 174 (Zl 33).toArray (.int .u8 3::bv a0::bv a1::[bv a2,bv a3,bv a4,bv a5,bv a6,bv a7,bv a8,bv a9,bv a10,bv a11,bv a12,bv a13,bv a14,bv a15,bv a16,bv a17,bv a18,bv a19,bv a20,bv a21,bv a22,bv a23,bv a24,bv a25,bv a26,bv a27,bv a28,bv a29,bv a30,bv a31]).toArray kR (Writes.store 0 174 (.int .u8 3::bv a0::bv a1::[bv a2,bv a3,bv a4,bv a5,bv a6,bv a7,bv a8,bv a9,bv a10,bv a11,bv a12,bv a13,bv a14,bv a15,bv a16,bv a17,bv a18,bv a19,bv a20,bv a21,bv a22,bv a23,bv a24,bv a25,bv a26,bv a27,bv a28,bv a29,bv a30,bv a31]).toArray _ _ U kR kR kR kL kR kR)<|sG<|Sy.ret ?_
  rw [show (.agg ((Aw (some (u,v))).map bv).toArray:Value)=.agg ((.int .u8 3::bv a0::bv a1::[bv a2,bv a3,bv a4,bv a5,bv a6,bv a7,bv a8,bv a9,bv a10,bv a11,bv a12,bv a13,bv a14,bv a15,bv a16,bv a17,bv a18,bv a19,bv a20,bv a21,bv a22,bv a23,bv a24,bv a25,bv a26,bv a27,bv a28,bv a29,bv a30,bv a31]):List Value).toArray from by
   have e:Aw (some (u,v))=(if v.val%2=1 then 3 else 2)::AY u.val:=rfl
   rw [e,hm,if_pos (by have q:=hb1.symm; rw [Nat.mod_eq_of_lt v.isLt] at q; exact of_decide_eq_true q)]
   rfl]
  exact Sy.ret1 (v:=.agg ((.int .u8 3::bv a0::bv a1::[bv a2,bv a3,bv a4,bv a5,bv a6,bv a7,bv a8,bv a9,bv a10,bv a11,bv a12,bv a13,bv a14,bv a15,bv a16,bv a17,bv a18,bv a19,bv a20,bv a21,bv a22,bv a23,bv a24,bv a25,bv a26,bv a27,bv a28,bv a29,bv a30,bv a31]):List Value).toArray) rfl (.inl (Res.cell (ty':=174) g1 1 (.int .u8 3::bv a0::bv a1::[bv a2,bv a3,bv a4,bv a5,bv a6,bv a7,bv a8,bv a9,bv a10,bv a11,bv a12,bv a13,bv a14,bv a15,bv a16,bv a17,bv a18,bv a19,bv a20,bv a21,bv a22,bv a23,bv a24,bv a25,bv a26,bv a27,bv a28,bv a29,bv a30,bv a31]).toArray _ kR kR H8 U kR kR))
theorem MW (w:World) (x y:Nat) (i:Bool) (hx:x<K4) (hy:y<K4):Calls Tryz.prog 146 #[pv x y i] w (Gets w (.agg ((Aw (dec x y i)).map bv).toArray)):=by
 rcases h:dec x y i with _ | ⟨u,v⟩
 ·exact PH w x y i hx hy h
 ·exact PG w x y i hx hy u v h
end Cu
end
section
namespace Cu
open Go.RowKit Sy
end Cu
end
section
namespace Cu
open Go.RowKit Sy
theorem setAll_all:∀ (vs:List Value) (o:Nat) (cs:Array Value),o+vs.length=cs.size→setAll cs o vs=(cs.toList.take o++vs).toArray
 | [],o,cs,h=>by
  rw [List.append_nil,List.take_of_length_le (by simp at h ⊢; omega)]
  simp [setAll]
 | v::r,o,cs,h=>by
  have hlt:o<cs.size:=by simp at h; omega
  rw [setAll,setAll_all r (o+1) _ (by simp at h ⊢; omega)]
  congr 1
  rw [Array.toList_setIfInBounds,List.take_set,List.take_succ_eq_append_getElem (by simpa using hlt),List.set_append_right _ _ (by rw [List.length_take]; exact Nat.min_le_left _ _)]
  have:(cs.toList.take o).length=o:=by simp; omega
  simp [this]
theorem GM (cs:Array Value) (l:List UInt8) (h:l.length=cs.size):setAll cs 0 (l.map bv).toArray.toList=(l.map bv).toArray:=by
 have:=setAll_all (l.map bv) 0 cs (by simp; omega)
 simpa using this
theorem DI (l:List UInt8) {n:Nat} (h:l.length=n):(l.map bv).toArray.size=n:=by simp; omega
theorem E' (l:List UInt8):(l.map bv).toArray.all (·.oneCell')=true:=by simp [bv,Value.oneCell']
end Cu
end
section
namespace Sy
open Go.RowKit
def Lst (w:World) (s:Nat) (A:Option Addr) (n:Nat) (el:Nat→List Value):Prop:=∃ g o,0<n→A=some ⟨g,o,none⟩∧g<w.heap.size∧∀ j,j<n→w.rangeAt g (o+j*s) (el j)
theorem Lst.below {w w':World} {s n:Nat} {A:Option Addr} {el:Nat→List Value} (h:Lst w s A n el) (hb:Below w.heap.size w w'):Lst w' s A n el:=by
 obtain ⟨g,o,h⟩:=h
 refine ⟨g,o,λhn=>?_⟩
 obtain ⟨h1,h2,h3⟩:=h hn
 exact ⟨h1,Nat.lt_of_lt_of_le h2 hb.size,λj hj i v hi=>(Below.cell (p:=⟨g,o+j*s+i,none⟩) hb h2).trans (h3 j hj i v hi)⟩
theorem M2 {w:World} {g f:Nat} {cs:List Value} (h:w.rangeAt g f cs) (k:Nat) {m:List Value} (e:(cs.drop k).take m.length=m):w.rangeAt g (f+k) m:=λj v hj=>by
 have hlt:j<m.length:=(List.getElem?_eq_some_iff.1 hj).1
 have h2:=h (k+j) v (by rw [← e,List.getElem?_take_of_lt hlt,List.getElem?_drop] at hj; exact hj)
 rwa [← Nat.add_assoc] at h2
theorem AR {w:World} {g f:Nat} {cs:List Value} (h:w.rangeAt g f cs) (k:Nat) {v:Value} (e:cs[k]? = some v):w.cell? ⟨g,f+k,none⟩=some v:=h k v e
section
variable {P:Program} {w0:Base} {n:Nat} {F:AK} {L:AC} {o:Oper}
theorem AJ (t e:TypeId) (x kx:Operand) (A:Option Addr) (g f len cap k s:Nat) (ki:IntKind) (hA:A=some ⟨g,f,none⟩) (ho:o.op=.indexAddr t x kx) (hx:evF F x=.slice A len cap) (hkx:evF F kx=.int ki (k:Int)) (ht:P.underlying t=some (.slice e)) (hsz:∀ w,(sizeOf e).run P w=.ok s w) (hk:k<len) (w:World) :
  (execOp (evF F) o).run P w=.ok (.value (.pointer (some ⟨g,f+k*s,none⟩))) w:=by
 subst hA
 exact BT t e x kx g f len cap k s ki ho hx hkx ht hsz hk w
theorem Writes.row {g:Nat} {t:TypeId} {cs:Array Value} (ty:TypeId) (c:List Value) (m:Nat) (x y:Operand) (ho:o.op=.store ty x y) (hx:evF F x=pT g 0) (hy:evF F y=.agg c.toArray) (hi:(P.info? ty).map (·.size)=some m) (hc:c.length=m) (hs:cs.size=m) (h1:∀ u∈c,u.oneCell'=true):Writes P F o g t cs c.toArray :=
 Writes.store 0 ty c.toArray x y ho hx hy (by rw [hi,List.size_toArray,hc]) (by rw [List.size_toArray,hc,hs,Nat.zero_add]; exact Nat.le_refl _) (by rw [List.all_toArray,List.all_eq_true]; exact h1) (by
  have:=Cu.setAll_all c 0 cs om
  simpa using this)
end
end Sy
end
section
namespace Sh
open Go.ChangeShapes Go.WideShapes Go.ChangeAt Go.RowKit Go.Deep
instance:Inhabited Tx:=⟨⟨none,[],0⟩⟩
end Sh
end
section
namespace Cu
open Go.ChangeShapes Go.WideShapes Go.ChangeAt Go.RowKit Sy Go.Deep
theorem Pc {H:Type} (d:DataW H):1≤Rows.uptoBulk d:=by
 cases d with
 | lit l=>cases l <;> simp [Rows.uptoBulk]
 | _=>simp [Rows.uptoBulk]
theorem Kg {H:Type}:∀ l:List (DataW H),l.length≤Rows.uptoBulkAll l
 | []=>Nat.zero_le _
 | d::r=>by
  have h1:=Pc d
  have h2:=Kg r
  simp only [Rows.uptoBulkAll,List.length_cons]
  omega
theorem O2 {w:World} {s n:Nat} {A:Option Addr} {el:Nat→List Value} (h:0<n→∃ b o,A=some ⟨b,o,none⟩∧b<w.heap.size∧∀ j,j<n→w.rangeAt b (o+j*s) (el j)):Lst w s A n el:=by
 rcases Nat.eq_zero_or_pos n with h0 | h0
 ·exact ⟨0,0,λh1=>absurd h1 om⟩
 ·obtain ⟨b,o,q⟩:=h h0
  exact ⟨b,o,λ_=>q⟩
end Cu
end
section
namespace Sc
open Go.RowKit Go.Lib
theorem Q5 (w:World):Calls Tryz.prog 167 #[] w λe w'=>e=.returned (fv 432420386565659656852420866394968145599)∧Below w.heap.size w w':=by
 go_enter Tryz.func167,Tryz.ntmps167
 go_wp2
 exact bodyPost_ret (results_cell_row U _ _ w.heap.size _ _ (0,0) _ U (heap_alloc_new w _) Ak U kR) rfl ⟨rfl,(Below.refl _ _).alloc (Nat.le_refl _) _⟩
theorem De (w:World) (x y:Nat) (hx:x<(2^256)) (hy:y<(2^256)):Calls Tryz.prog 202 #[fv x,fv y] w λe w'=>(∃ s k:Nat,s<(2^256)∧k≤1∧s+(2^256)*k=x+y∧e=.returned (.tuple #[fv s,.int .u64 (k:Int)]))∧Below w.heap.size w w':=by
 obtain ⟨x0,x1,x2,x3,a0,a1,a2,a3,ex,fx⟩:=Am x hx
 obtain ⟨y0,y1,y2,y3,b0,b1,b2,b3,ey,fy⟩:=Am y hy
 rw [fx,fy]
 obtain ⟨s0,c0,d0,k0,e0,r0⟩:=Cq x0 y0 a0 b0
 obtain ⟨s1,c1,d1,k1,e1,r1⟩:=C3 x1 y1 c0 a1 b1 k0
 obtain ⟨s2,c2,d2,k2,e2,r2⟩:=C3 x2 y2 c1 a2 b2 k1
 obtain ⟨s3,c3,d3,k3,e3,r3⟩:=C3 x3 y3 c2 a3 b3 k2
 have fin:s0+18446744073709551616*s1+340282366920938463463374607431768211456*s2+6277101735386680763835789423207666416102355444464034512896*s3+(2^256)*c3=x+y:=om
 have hs:=Lib.hid (Ch s0 s1 s2 s3 d0 d1 d2 d3)
 have hlt:=Lib.hid (KE s0 s1 s2 s3 d0 d1 d2 d3)
 have HF:=Lib.hid fin
 have HK:=Lib.hid k3
 clear ex ey fx fy e0 e1 e2 e3 a0 a1 a2 a3 b0 b1 b2 b3 d0 d1 d2 d3 k0 k1 k2 k3 fin hx hy
 go_enter Tryz.func202,Tryz.ntmps202
 go_wp2_with fail
 go_loopw [5,7] (λbo i wr=>Below w.heap.size w wr∧Blk wr w.heap.size 42 #[.int .u64 (x0:Int),.int .u64 (x1:Int),.int .u64 (x2:Int),.int .u64 (x3:Int)]∧Blk wr (w.heap.size+1) 42 #[.int .u64 (y0:Int),.int .u64 (y1:Int),.int .u64 (y2:Int),.int .u64 (y3:Int)]∧Hid ((i=.int .i64 0∧bo=.int .u64 0∧Blk wr (w.heap.size+2) 42 #[.int .u64 0,.int .u64 0,.int .u64 0,.int .u64 0])∨(i=.int .i64 1∧bo=.int .u64 (c0:Int)∧Blk wr (w.heap.size+2) 42 #[.int .u64 (s0:Int),.int .u64 0,.int .u64 0,.int .u64 0])∨(i=.int .i64 2∧bo=.int .u64 (c1:Int)∧Blk wr (w.heap.size+2) 42 #[.int .u64 (s0:Int),.int .u64 (s1:Int),.int .u64 0,.int .u64 0])∨(i=.int .i64 3∧bo=.int .u64 (c2:Int)∧Blk wr (w.heap.size+2) 42 #[.int .u64 (s0:Int),.int .u64 (s1:Int),.int .u64 (s2:Int),.int .u64 0])∨(i=.int .i64 4∧bo=.int .u64 (c3:Int)∧Blk wr (w.heap.size+2) 42 #[.int .u64 (s0:Int),.int .u64 (s1:Int),.int .u64 (s2:Int),.int .u64 (s3:Int)]))) (λ_ i _=>4 - (intOf i).toNat)
 case atStart=>exact ⟨Aa w _ _ _,((Blk.new w _ _).alloc _).alloc _,(AZ w _ _ _).alloc _,Lib.hid (.inl ⟨rfl,rfl,Ao w _ _ _ _⟩)⟩
 case round =>
  obtain ⟨hb,BX,BY,HI⟩:=hrel
  have lX:=BX.lt
  have lY:=BY.lt
  rcases HI.out with ⟨rfl,rfl,BW⟩ | ⟨rfl,rfl,BW⟩ | ⟨rfl,rfl,BW⟩ | ⟨rfl,rfl,BW⟩ | ⟨rfl,rfl,BW⟩
  ·clear HI
   have px:wr.cell? ⟨w.heap.size,0,none⟩=some (.int .u64 (x0:Int)):=BX.cell 0
   have py:wr.cell? ⟨w.heap.size+1,0,none⟩=some (.int .u64 (y0:Int)):=BY.cell 0
   go_wp2
   refine wp_region_G (λj=>j == 13) kR ?_
   try simp only [Act.put]
   refine tk 0 U ?_
   try simp only [aPS]
   refine tk 1 U ?_
   try simp only [aPS]
   refine tk 2 U ?_
   try simp only [aPS]
   refine tkw 3 U (YieldsG.pure (v:=.int .u64 (x0:Int)) (by rfl) (λw9 h9=>by have hz:=(Below.cell (p:=⟨w.heap.size,0,none⟩) h9 lX).trans px; go_simp; first | done | simp [hz])) ?_
   try simp only [aPS]
   refine tk 4 U ?_
   try simp only [aPS]
   refine tk 5 U ?_
   try simp only [aPS]
   refine tkw 6 U (YieldsG.pure (v:=.int .u64 (y0:Int)) (by rfl) (λw9 h9=>by have hz:=(Below.cell (p:=⟨w.heap.size+1,0,none⟩) h9 lY).trans py; go_simp; first | done | simp [hz])) ?_
   try simp only [aPS]
   refine tk 7 U ?_
   try simp only [aPS]
   refine tkw 8 U (YieldsG.pure (v:=.tuple #[.int .u64 (s0:Int),.int .u64 (c0:Int)]) (by rfl) (λw9 h9=>by go_simp)) ?_
   try simp only [aPS]
   refine tk 9 U ?_
   try simp only [aPS]
   refine tk 10 U ?_
   try simp only [aPS]
   refine AW 11 U kR (λ_ _ _ h=>h) (λ_=>YieldsG.pure (by rfl) (λw9 _=>by go_simp; try with_reducible rfl)) ?_
   try simp only [aPS]
   refine tk 12 U ?_
   try simp only [aPS]
   refine wpAnyG_sole 13 U kR (by rfl) (λu hu K hK=>?_)
   have BX:=Gr.blk hu BX
   have BY:=Gr.blk hu BY
   have BW:=Gr.blk hu BW
   have hb:=Below.gr hb hu
   have pc:u.cell? ⟨w.heap.size+2,0,none⟩=some (.int .u64 0):=BW.cell 0
   have pf:=BW.frozen 0
   clear hu px py
   go_simp
   refine hK _ _ (λe=>by cases e) ?_
   clear hK K
   have hb:=hb.setCell (p:=⟨w.heap.size+2,0,none⟩) (by show w.heap.size≤w.heap.size+2; omega) (.int .u64 (s0:Int))
   have BX:=BX.far (p:=⟨w.heap.size+2,0,none⟩) (by show w.heap.size≠w.heap.size+2; omega) (.int .u64 (s0:Int))
   have BY:=BY.far (p:=⟨w.heap.size+2,0,none⟩) (by show w.heap.size+1≠w.heap.size+2; omega) (.int .u64 (s0:Int))
   have BW:=BW.set_ 0 (.int .u64 (s0:Int))
   refine AW 14 U kR (λ_ _ _ h=>h) (λ_=>YieldsG.pure (by rfl) (λw9 _=>by go_simp; try with_reducible rfl)) ?_
   try simp only [aPS]
   refine wpAnyG_done kR (λv hv=>?_)
   have hb:=Below.gr hb hv
   have BX:=Gr.blk hv BX
   have BY:=Gr.blk hv BY
   have BW:=Gr.blk hv BW
   clear hv pc pf
   go_wp2
   refine ⟨⟨hb,BX,BY,Lib.hid (.inr (.inl (⟨rfl,rfl,BW⟩)))⟩,by decide⟩
  ·clear HI
   have px:wr.cell? ⟨w.heap.size,1,none⟩=some (.int .u64 (x1:Int)):=BX.cell 1
   have py:wr.cell? ⟨w.heap.size+1,1,none⟩=some (.int .u64 (y1:Int)):=BY.cell 1
   go_wp2
   refine wp_region_G (λj=>j == 13) kR ?_
   try simp only [Act.put]
   refine tk 0 U ?_
   try simp only [aPS]
   refine tk 1 U ?_
   try simp only [aPS]
   refine tk 2 U ?_
   try simp only [aPS]
   refine tkw 3 U (YieldsG.pure (v:=.int .u64 (x1:Int)) (by rfl) (λw9 h9=>by have hz:=(Below.cell (p:=⟨w.heap.size,1,none⟩) h9 lX).trans px; go_simp; first | done | simp [hz])) ?_
   try simp only [aPS]
   refine tk 4 U ?_
   try simp only [aPS]
   refine tk 5 U ?_
   try simp only [aPS]
   refine tkw 6 U (YieldsG.pure (v:=.int .u64 (y1:Int)) (by rfl) (λw9 h9=>by have hz:=(Below.cell (p:=⟨w.heap.size+1,1,none⟩) h9 lY).trans py; go_simp; first | done | simp [hz])) ?_
   try simp only [aPS]
   refine tk 7 U ?_
   try simp only [aPS]
   refine tkw 8 U (YieldsG.pure (v:=.tuple #[.int .u64 (s1:Int),.int .u64 (c1:Int)]) (by rfl) (λw9 h9=>by go_simp)) ?_
   try simp only [aPS]
   refine tk 9 U ?_
   try simp only [aPS]
   refine tk 10 U ?_
   try simp only [aPS]
   refine AW 11 U kR (λ_ _ _ h=>h) (λ_=>YieldsG.pure (by rfl) (λw9 _=>by go_simp; try with_reducible rfl)) ?_
   try simp only [aPS]
   refine tk 12 U ?_
   try simp only [aPS]
   refine wpAnyG_sole 13 U kR (by rfl) (λu hu K hK=>?_)
   have BX:=Gr.blk hu BX
   have BY:=Gr.blk hu BY
   have BW:=Gr.blk hu BW
   have hb:=Below.gr hb hu
   have pc:u.cell? ⟨w.heap.size+2,1,none⟩=some (.int .u64 0):=BW.cell 1
   have pf:=BW.frozen 1
   clear hu px py
   go_simp
   refine hK _ _ (λe=>by cases e) ?_
   clear hK K
   have hb:=hb.setCell (p:=⟨w.heap.size+2,1,none⟩) (by show w.heap.size≤w.heap.size+2; omega) (.int .u64 (s1:Int))
   have BX:=BX.far (p:=⟨w.heap.size+2,1,none⟩) (by show w.heap.size≠w.heap.size+2; omega) (.int .u64 (s1:Int))
   have BY:=BY.far (p:=⟨w.heap.size+2,1,none⟩) (by show w.heap.size+1≠w.heap.size+2; omega) (.int .u64 (s1:Int))
   have BW:=BW.set_ 1 (.int .u64 (s1:Int))
   refine AW 14 U kR (λ_ _ _ h=>h) (λ_=>YieldsG.pure (by rfl) (λw9 _=>by go_simp; try with_reducible rfl)) ?_
   try simp only [aPS]
   refine wpAnyG_done kR (λv hv=>?_)
   have hb:=Below.gr hb hv
   have BX:=Gr.blk hv BX
   have BY:=Gr.blk hv BY
   have BW:=Gr.blk hv BW
   clear hv pc pf
   go_wp2
   refine ⟨⟨hb,BX,BY,Lib.hid (.inr (.inr (.inl (⟨rfl,rfl,BW⟩))))⟩,by decide⟩
  ·clear HI
   have px:wr.cell? ⟨w.heap.size,2,none⟩=some (.int .u64 (x2:Int)):=BX.cell 2
   have py:wr.cell? ⟨w.heap.size+1,2,none⟩=some (.int .u64 (y2:Int)):=BY.cell 2
   go_wp2
   refine wp_region_G (λj=>j == 13) kR ?_
   try simp only [Act.put]
   refine tk 0 U ?_
   try simp only [aPS]
   refine tk 1 U ?_
   try simp only [aPS]
   refine tk 2 U ?_
   try simp only [aPS]
   refine tkw 3 U (YieldsG.pure (v:=.int .u64 (x2:Int)) (by rfl) (λw9 h9=>by have hz:=(Below.cell (p:=⟨w.heap.size,2,none⟩) h9 lX).trans px; go_simp; first | done | simp [hz])) ?_
   try simp only [aPS]
   refine tk 4 U ?_
   try simp only [aPS]
   refine tk 5 U ?_
   try simp only [aPS]
   refine tkw 6 U (YieldsG.pure (v:=.int .u64 (y2:Int)) (by rfl) (λw9 h9=>by have hz:=(Below.cell (p:=⟨w.heap.size+1,2,none⟩) h9 lY).trans py; go_simp; first | done | simp [hz])) ?_
   try simp only [aPS]
   refine tk 7 U ?_
   try simp only [aPS]
   refine tkw 8 U (YieldsG.pure (v:=.tuple #[.int .u64 (s2:Int),.int .u64 (c2:Int)]) (by rfl) (λw9 h9=>by go_simp)) ?_
   try simp only [aPS]
   refine tk 9 U ?_
   try simp only [aPS]
   refine tk 10 U ?_
   try simp only [aPS]
   refine AW 11 U kR (λ_ _ _ h=>h) (λ_=>YieldsG.pure (by rfl) (λw9 _=>by go_simp; try with_reducible rfl)) ?_
   try simp only [aPS]
   refine tk 12 U ?_
   try simp only [aPS]
   refine wpAnyG_sole 13 U kR (by rfl) (λu hu K hK=>?_)
   have BX:=Gr.blk hu BX
   have BY:=Gr.blk hu BY
   have BW:=Gr.blk hu BW
   have hb:=Below.gr hb hu
   have pc:u.cell? ⟨w.heap.size+2,2,none⟩=some (.int .u64 0):=BW.cell 2
   have pf:=BW.frozen 2
   clear hu px py
   go_simp
   refine hK _ _ (λe=>by cases e) ?_
   clear hK K
   have hb:=hb.setCell (p:=⟨w.heap.size+2,2,none⟩) (by show w.heap.size≤w.heap.size+2; omega) (.int .u64 (s2:Int))
   have BX:=BX.far (p:=⟨w.heap.size+2,2,none⟩) (by show w.heap.size≠w.heap.size+2; omega) (.int .u64 (s2:Int))
   have BY:=BY.far (p:=⟨w.heap.size+2,2,none⟩) (by show w.heap.size+1≠w.heap.size+2; omega) (.int .u64 (s2:Int))
   have BW:=BW.set_ 2 (.int .u64 (s2:Int))
   refine AW 14 U kR (λ_ _ _ h=>h) (λ_=>YieldsG.pure (by rfl) (λw9 _=>by go_simp; try with_reducible rfl)) ?_
   try simp only [aPS]
   refine wpAnyG_done kR (λv hv=>?_)
   have hb:=Below.gr hb hv
   have BX:=Gr.blk hv BX
   have BY:=Gr.blk hv BY
   have BW:=Gr.blk hv BW
   clear hv pc pf
   go_wp2
   refine ⟨⟨hb,BX,BY,Lib.hid (.inr (.inr (.inr (.inl (⟨rfl,rfl,BW⟩)))))⟩,by decide⟩
  ·clear HI
   have px:wr.cell? ⟨w.heap.size,3,none⟩=some (.int .u64 (x3:Int)):=BX.cell 3
   have py:wr.cell? ⟨w.heap.size+1,3,none⟩=some (.int .u64 (y3:Int)):=BY.cell 3
   go_wp2
   refine wp_region_G (λj=>j == 13) kR ?_
   try simp only [Act.put]
   refine tk 0 U ?_
   try simp only [aPS]
   refine tk 1 U ?_
   try simp only [aPS]
   refine tk 2 U ?_
   try simp only [aPS]
   refine tkw 3 U (YieldsG.pure (v:=.int .u64 (x3:Int)) (by rfl) (λw9 h9=>by have hz:=(Below.cell (p:=⟨w.heap.size,3,none⟩) h9 lX).trans px; go_simp; first | done | simp [hz])) ?_
   try simp only [aPS]
   refine tk 4 U ?_
   try simp only [aPS]
   refine tk 5 U ?_
   try simp only [aPS]
   refine tkw 6 U (YieldsG.pure (v:=.int .u64 (y3:Int)) (by rfl) (λw9 h9=>by have hz:=(Below.cell (p:=⟨w.heap.size+1,3,none⟩) h9 lY).trans py; go_simp; first | done | simp [hz])) ?_
   try simp only [aPS]
   refine tk 7 U ?_
   try simp only [aPS]
   refine tkw 8 U (YieldsG.pure (v:=.tuple #[.int .u64 (s3:Int),.int .u64 (c3:Int)]) (by rfl) (λw9 h9=>by go_simp)) ?_
   try simp only [aPS]
   refine tk 9 U ?_
   try simp only [aPS]
   refine tk 10 U ?_
   try simp only [aPS]
   refine AW 11 U kR (λ_ _ _ h=>h) (λ_=>YieldsG.pure (by rfl) (λw9 _=>by go_simp; try with_reducible rfl)) ?_
   try simp only [aPS]
   refine tk 12 U ?_
   try simp only [aPS]
   refine wpAnyG_sole 13 U kR (by rfl) (λu hu K hK=>?_)
   have BX:=Gr.blk hu BX
   have BY:=Gr.blk hu BY
   have BW:=Gr.blk hu BW
   have hb:=Below.gr hb hu
   have pc:u.cell? ⟨w.heap.size+2,3,none⟩=some (.int .u64 0):=BW.cell 3
   have pf:=BW.frozen 3
   clear hu px py
   go_simp
   refine hK _ _ (λe=>by cases e) ?_
   clear hK K
   have hb:=hb.setCell (p:=⟨w.heap.size+2,3,none⟩) (by show w.heap.size≤w.heap.size+2; omega) (.int .u64 (s3:Int))
   have BX:=BX.far (p:=⟨w.heap.size+2,3,none⟩) (by show w.heap.size≠w.heap.size+2; omega) (.int .u64 (s3:Int))
   have BY:=BY.far (p:=⟨w.heap.size+2,3,none⟩) (by show w.heap.size+1≠w.heap.size+2; omega) (.int .u64 (s3:Int))
   have BW:=BW.set_ 3 (.int .u64 (s3:Int))
   refine AW 14 U kR (λ_ _ _ h=>h) (λ_=>YieldsG.pure (by rfl) (λw9 _=>by go_simp; try with_reducible rfl)) ?_
   try simp only [aPS]
   refine wpAnyG_done kR (λv hv=>?_)
   have hb:=Below.gr hb hv
   have BX:=Gr.blk hv BX
   have BY:=Gr.blk hv BY
   have BW:=Gr.blk hv BW
   clear hv pc pf
   go_wp2
   refine ⟨⟨hb,BX,BY,Lib.hid (.inr (.inr (.inr (.inr (⟨rfl,rfl,BW⟩)))))⟩,by decide⟩
  ·clear HI
   obtain ⟨s,hsd⟩:=xE (s0+18446744073709551616*s1+340282366920938463463374607431768211456*s2+6277101735386680763835789423207666416102355444464034512896*s3)
   have hf:=hs.out
   have hl:=hlt.out
   have hn:=HF.out
   rw [← hsd] at hf hl hn
   have BS:=BW.eq_ (BO hf.symm).symm
   have HS:=Lib.hid (And.intro hl hn)
   clear hf hl hn hsd
   go_wp2_with (first | ((with_reducible refine AD (d:=some 24) ?_); refine AB U _ _ U (w.heap.size+2) rfl (s) _ _ _ (BS) (AV s) Ak U kR ?_) | ((with_reducible refine AE ?_); refine AA U _ _ _ U (w.heap.size+2) (fcs (s)) U U _ _ (BS) kR (by rfl) (AF _) ?_; intro w9 hL9 hB9 hK9))
   exact bodyPost_ret (Bo U _ _ (w.heap.size+2) _ _ _ _ U hL9 U Ak U kR) rfl ⟨⟨s,c3,HS.out.1,HK.out,HS.out.2,rfl⟩,hb.trans (hB9 _ om)⟩
end Sc
end
section
namespace Sc
open Go.RowKit Go.Lib
theorem QW (w:World) (x y s k:Nat) (hx:x<(2^256)) (hy:y<(2^256)) (hs:s<(2^256)) (he:s+(2^256)*k=x+y) :
  Calls Tryz.prog 202 #[fv x,fv y] w λe w'=>e=.returned (.tuple #[fv s,.int .u64 (k:Int)])∧Below w.heap.size w w':=by
 refine (De w x y hx hy).mono ?_
 rintro e w' ⟨⟨s',k',hs',hk',he',rfl⟩,hb⟩
 obtain rfl:k'=k:=om
 obtain rfl:s'=s:=om
 exact ⟨rfl,hb⟩
theorem Dk (w:World) (x y:Nat) (hx:x<(2^256)) (hy:y<(2^256)):Calls Tryz.prog 140 #[fv x,fv y] w λe w'=>e=.returned (fv (Dx x y))∧Below w.heap.size w w':=by
 obtain ⟨p,hp⟩:=xE (x%pM)
 obtain ⟨q,hq⟩:=xE (y%pM)
 obtain ⟨z,hz⟩:=xE (Dx x y)
 have lp:p<115792089237316195423570985008687907852837564279074904382605163141518161494337:=by rw [hp]; exact mod_lt_p x
 have lq:q<115792089237316195423570985008687907852837564279074904382605163141518161494337:=by rw [hq]; exact mod_lt_p y
 have hzs:z=(p+q)%pM:=by rw [hz,Dx,hp,hq, ← Nat.add_mod]
 obtain ⟨s,k,hs,hk,he⟩:∃ s k:Nat,s<(2^256)∧k≤1∧s+(2^256)*k=p+q:=⟨(p+q)%(2^256),(p+q) / (2^256),by omega,by omega,by omega⟩
 have cx:∀ w,Calls Tryz.prog 105 #[fv x] w λe w'=>e=.returned (fv p)∧Below w.heap.size w w':=by
  intro w; rw [hp]; exact norm_any w x hx
 have cy:∀ w,Calls Tryz.prog 105 #[fv y] w λe w'=>e=.returned (fv q)∧Below w.heap.size w w':=by
  intro w; rw [hq]; exact norm_any w y hy
 have cp:=λw=>QW w p q s k om om hs he
 have cr:=λw=>IH w s k z k U hs hk om (by rw [hzs, ← he])
 rw [← hz]
 obtain ⟨x0,x1,x2,x3,fx⟩:=Ad x hx
 obtain ⟨y0,y1,y2,y3,fy⟩:=Ad y hy
 have FX:=Lib.hid fx
 have FY:=Lib.hid fy
 rw [fx,fy]
 clear fx fy hx hy hp hq hz lp lq hzs hs hk he
 go_enter Tryz.func140,Tryz.ntmps140
 go_wp2
 refine wp_region_G (λj=>j == 8) kR ?_
 try simp only [Act.put]
 refine tkw 0 U (YieldsG.loadF (by rfl) _ _ U (w.heap.size) rfl (x) _ _ (((Blk.new w _ _).alloc _).alloc _) (FX.out) Ak U kR) ?_
 try simp only [aPS]
 refine tkw 1 U (YieldsG.call (v:=fv p) (by rfl) 105 _ (λw9=>by go_simp; try (first | with_reducible rfl | rfl)) (λw9 h9=>cx w9)) ?_
 try simp only [aPS]
 refine tkw 2 U (YieldsG.loadF (by rfl) _ _ U (w.heap.size+1) rfl (y) _ _ ((AZ w _ _ _).alloc _) (FY.out) Ak U kR) ?_
 try simp only [aPS]
 refine tkw 3 U (YieldsG.call (v:=fv q) (by rfl) 105 _ (λw9=>by go_simp; try (first | with_reducible rfl | rfl)) (λw9 h9=>cy w9)) ?_
 try simp only [aPS]
 refine tkw 4 U (YieldsG.call (v:=.tuple #[fv s,.int .u64 (k:Int)]) (by rfl) 202 _ (λw9=>by go_simp; try (first | with_reducible rfl | rfl)) (λw9 h9=>cp w9)) ?_
 try simp only [aPS]
 refine tk 5 U ?_
 try simp only [aPS]
 refine tk 6 U ?_
 try simp only [aPS]
 refine tkw 7 U (YieldsG.call (v:=fv z) (by rfl) 168 _ (λw9=>by go_simp; try (first | with_reducible rfl | rfl)) (λw9 h9=>cr w9)) ?_
 try simp only [aPS]
 refine A9 8 U kR (by rfl) _ _ _ U (w.heap.size+2) (fcs (z)) U U _ _ (Ao w _ _ _ _) kR (by rfl) (AF _) rfl (λw6 h6 w7 hB7 hL7=>?_)
 try simp only [Act.put]
 refine wpAnyG_done kR (λw8 h8=>?_)
 have hfin:=Gr.blk h8 hL7
 have hb9:=(Below.gr (Aa w _ _ _) h6).trans ((hB7 _ om).trans (Below.mono h8 (by have:=hL7.lt; omega)))
 go_wp2
 exact bodyPost_ret (results_cell_row U _ _ (w.heap.size+2) _ _ (0,0) _ U hfin Ak U kR) rfl ⟨rfl,hb9⟩
theorem G2 (w:World) (x:Nat) (hx:x<(2^256)):Calls Tryz.prog 165 #[fv x] w λe w'=>e=.returned (fv (negP x))∧Below w.heap.size w w':=by
 obtain ⟨o,ho⟩:∃ o,o=115792089237316195423570985008687907852837564279074904382605163141518161494337:=⟨_,rfl⟩
 obtain ⟨p,hp⟩:=xE (x%pM)
 obtain ⟨z,hz⟩:=xE (negP x)
 have lp:p<115792089237316195423570985008687907852837564279074904382605163141518161494337:=by rw [hp]; exact mod_lt_p x
 obtain ⟨s,hs⟩:=xE (o - p)
 have hzs:z=s%pM:=by rw [hz,negP,hs,ho,hp]; rfl
 have co:=λw=>J2 w o ho
 have cx:∀ w,Calls Tryz.prog 105 #[fv x] w λe w'=>e=.returned (fv p)∧Below w.heap.size w w':=by
  intro w; rw [hp]; exact norm_any w x hx
 have cm:=λw=>E_ w o p s 0 om om om om
 have cz:∀ w,Calls Tryz.prog 105 #[fv s] w λe w'=>e=.returned (fv z)∧Below w.heap.size w w':=by
  intro w; rw [hzs]; exact norm_any w s om
 obtain ⟨x0,x1,x2,x3,fx⟩:=Ad x hx
 have FX:=Lib.hid fx
 rw [fx, ← hz]
 clear fx hx ho hp hz lp hs hzs
 go_enter Tryz.func165,Tryz.ntmps165
 go_wp2
 refine wp_region_G (λj=>j == 8) kR ?_
 try simp only [Act.put]
 refine tkw 0 U (YieldsG.call (v:=fv o) (by rfl) 217 _ (λw9=>by go_simp; try (first | with_reducible rfl | rfl)) (λw9 h9=>co w9)) ?_
 try simp only [aPS]
 refine tkw 1 U (YieldsG.loadF (by rfl) _ _ U (w.heap.size) rfl (x) _ _ ((Blk.new w _ _).alloc _) (FX.out) Ak U kR) ?_
 try simp only [aPS]
 refine tkw 2 U (YieldsG.call (v:=fv p) (by rfl) 105 _ (λw9=>by go_simp; try (first | with_reducible rfl | rfl)) (λw9 h9=>cx w9)) ?_
 try simp only [aPS]
 refine tkw 3 U (YieldsG.call (v:=.tuple #[fv s,.int .u64 ((0:Nat):Int)]) (by rfl) 216 _ (λw9=>by go_simp; try (first | with_reducible rfl | rfl)) (λw9 h9=>cm w9)) ?_
 try simp only [aPS]
 refine tk 4 U ?_
 try simp only [aPS]
 refine tk 5 U ?_
 try simp only [aPS]
 refine AW 6 U kR (λ_ _ _ h=>h) (λ_=>YieldsG.pure (by rfl) (λw9 _=>by go_simp; try with_reducible rfl)) ?_
 try simp only [aPS]
 refine wpAnyG_sole 7 U kR (by rfl) (λw3 h3 K hK=>?_)
 go_simp
 refine hK _ _ (λ_=>gr_alloc _ _) ?_
 clear hK K
 try simp only [aPS]
 refine A9 8 U kR (by rfl) _ _ _ U (w3.heap.size) (fcs (s)) U U _ _ (Blk.new w3 _ _) kR (by rfl) (AF _) rfl (λw6 h6 w7 hB7 hL7=>?_)
 try simp only [Act.put]
 refine AW 9 U kR (λ_ _ _ h=>h) (λ_=>YieldsG.pure (by rfl) (λw9 _=>by go_simp; try with_reducible rfl)) ?_
 try simp only [aPS]
 refine wpAnyG_done kR (λw8 h8=>?_)
 have BS:=Gr.blk h8 hL7
 have hsz:w.heap.size+2≤w3.heap.size:=by have:=h3.size; simp at this; omega
 have BR:Blk w8 (w.heap.size+1) 42 _:=Gr.blk h8 (Blk.below (B:=w3.heap.size) (Gr.blk h6 (Blk.alloc (Gr.blk h3 (AZ w _ _ _)) _)) (hB7 _ (Nat.le_refl _)) om)
 have hB:Below w.heap.size w w8:=Below.gr ((Below.gr ((Below.gr (Ab w _ _) h3).alloc om _) h6).trans (hB7 _ om)) h8
 clear h3 h6 hB7 hL7 h8 cm co cx
 go_wp2_with (first | ((with_reducible refine AD (d:=some 12) ?_); refine AB U _ _ U (w3.heap.size) rfl (s) _ _ _ (BS) (AV s) Ak U kR ?_))
 refine (cz _).mono ?_
 rintro e w9 ⟨rfl,hb⟩
 have BR9:=Gr.blk hb BR
 have hB9:=Below.gr hB hb
 go_wp2_with (first | ((with_reducible refine AE ?_); refine AA U _ _ _ U (w.heap.size+1) (fcs (z)) U U _ _ (BR9) kR (by rfl) (AF _) ?_; intro wz hL hBz hKz))
 exact bodyPost_ret (results_cell_row U _ _ (w.heap.size+1) _ _ (0,0) _ U hL Ak U kR) rfl ⟨rfl,hB9.trans (hBz _ om)⟩
theorem P8 (x y:Nat):Dx x (negP y)=subP x y:=by
 unfold Dx negP subP
 rw [Nat.add_mod_mod]
theorem subF_any (w:World) (x y:Nat) (hx:x<(2^256)) (hy:y<(2^256)):Calls Tryz.prog 103 #[fv x,fv y] w λe w'=>e=.returned (fv (subP x y))∧Below w.heap.size w w':=by
 obtain ⟨g,hg⟩:=xE (negP y)
 obtain ⟨z,hz⟩:=xE (subP x y)
 have cg:∀ w,Calls Tryz.prog 165 #[fv y] w λe w'=>e=.returned (fv g)∧Below w.heap.size w w':=by
  intro w; rw [hg]; exact G2 w y hy
 have ca:∀ w,Calls Tryz.prog 140 #[fv x,fv g] w λe w'=>e=.returned (fv z)∧Below w.heap.size w w':=by
  intro w; rw [hz, ← P8, ← hg]; exact Dk w x g hx (by rw [hg]; exact JC _)
 rw [← hz]
 obtain ⟨x0,x1,x2,x3,fx⟩:=Ad x hx
 obtain ⟨y0,y1,y2,y3,fy⟩:=Ad y hy
 have FX:=Lib.hid fx
 have FY:=Lib.hid fy
 rw [fx,fy]
 clear fx fy hx hy hg hz
 go_enter Tryz.func103,Tryz.ntmps103
 go_wp2
 refine wp_region_G (λj=>j == 4) kR ?_
 try simp only [Act.put]
 refine tkw 0 U (YieldsG.loadF (by rfl) _ _ U (w.heap.size) rfl (x) _ _ (((Blk.new w _ _).alloc _).alloc _) (FX.out) Ak U kR) ?_
 try simp only [aPS]
 refine tkw 1 U (YieldsG.loadF (by rfl) _ _ U (w.heap.size+1) rfl (y) _ _ ((AZ w _ _ _).alloc _) (FY.out) Ak U kR) ?_
 try simp only [aPS]
 refine tkw 2 U (YieldsG.call (v:=fv g) (by rfl) 165 _ (λw9=>by go_simp; try (first | with_reducible rfl | rfl)) (λw9 h9=>cg w9)) ?_
 try simp only [aPS]
 refine tkw 3 U (YieldsG.call (v:=fv z) (by rfl) 140 _ (λw9=>by go_simp; try (first | with_reducible rfl | rfl)) (λw9 h9=>ca w9)) ?_
 try simp only [aPS]
 refine A9 4 U kR (by rfl) _ _ _ U (w.heap.size+2) (fcs (z)) U U _ _ (Ao w _ _ _ _) kR (by rfl) (AF _) rfl (λw6 h6 w7 hB7 hL7=>?_)
 try simp only [Act.put]
 refine wpAnyG_done kR (λw8 h8=>?_)
 have hfin:=Gr.blk h8 hL7
 have hb9:=(Below.gr (Aa w _ _ _) h6).trans ((hB7 _ om).trans (Below.mono h8 (by have:=hL7.lt; omega)))
 go_wp2
 exact bodyPost_ret (results_cell_row U _ _ (w.heap.size+2) _ _ (0,0) _ U hfin Ak U kR) rfl ⟨rfl,hb9⟩
end Sc
end
section
namespace Cu
open Go.RowKit Sy
def evP (k:Nat):Pt:=Ec.nm Ae (k%Sc.pM) bP
theorem Lf (k:Nat):Ec.On (evP k):=bP_on.nm fld _
end Cu
end
section
namespace Sc
open Go.RowKit Go.Lib
theorem Bc (W:World) (n m:Nat) (hn:n<(2^256)) (hm:m<(2^256)):(Op.equalIn 10000 42 (fv n) (fv m)).run Tryz.prog W=.ok (decide (n=m)) W:=by
 rw [DX,DX]
 have h:=B0 W 9998 42 40 4 Ak Bh (λW=>kZ) (wl n) (wl m) rfl U
 rw [Ih hn hm] at h
 exact h
theorem run_neq_fv (W:World) (n m:Nat) (hn:n<(2^256)) (hm:m<(2^256)):(binOp .neq 42 (fv n) (fv m)).run Tryz.prog W=.ok (.bool (decide (n≠m))) W:=by
 have h:=Bc W n m hn hm
 rw [DX,DX] at h ⊢
 rw [run_neq_struct,h]
 by_cases e:n=m <;> simp [e]
theorem run_eqGuard_fv (op:BinOp) (x y:Operand) (n m:Nat) (W:World):(eqGuard op 42 x y (fv n) (fv m)).run Tryz.prog W=.ok () W:=by
 rw [AV,AV]
 go_simp
end Sc
end
section
namespace Sc
open Go.RowKit Go.Lib
theorem H3 (w:World) (l:List UInt8) (hl:l.length=32):Calls Tryz.prog 189 #[.agg (l.map bv).toArray] w λe w'=>e=.returned (fv (Ai l))∧Below w.heap.size w w':=by
 have HL:=Lib.hid hl
 clear hl
 go_enter Tryz.func189,Tryz.ntmps189
 go_wp2_with (first | ((with_reducible refine AD (d:=some 6) ?_); refine A0 U _ _ U w.heap.size U _ _ _ (((Blk.new w _ _).alloc _).alloc _) GZ U (Ce HL.out) ?_))
 go_loopw [7] (λi wr=>∃ k y0 y1 y2 y3:Nat,k≤32∧i=.int .i64 (k:Int)∧Hid (y0=wdB l k 0∧y1=wdB l k 1∧y2=wdB l k 2∧y3=wdB l k 3)∧Below w.heap.size w wr∧Blk wr (w.heap.size+2) 42 #[.int .u64 (y3:Int),.int .u64 (y2:Int),.int .u64 (y1:Int),.int .u64 (y0:Int)]∧Blk wr (w.heap.size+1) 42 #[.int .u64 0,.int .u64 0,.int .u64 0,.int .u64 0]) (λi _=>32 - (intOf i).toNat)
 case atStart=>exact ⟨0,0,0,0,0,by omega,rfl,Lib.hid ⟨(Br l 0).symm,(Br l 1).symm,(Br l 2).symm,(Br l 3).symm⟩,Aa w _ _ _,Ao w _ _ _ _,(AZ w _ _ _).alloc _⟩
 case round =>
  obtain ⟨k,y0,y1,y2,y3,hk,rfl,HY,hb,hP,hR⟩:=hrel
  have q3:wr.cell? ⟨w.heap.size+1+1,0,none⟩=some (.int .u64 (y3:Int)):=hP.cell 0
  have q2:wr.cell? ⟨w.heap.size+1+1,1,none⟩=some (.int .u64 (y2:Int)):=hP.cell 1
  have q1:wr.cell? ⟨w.heap.size+1+1,2,none⟩=some (.int .u64 (y1:Int)):=hP.cell 2
  have q0:wr.cell? ⟨w.heap.size+1+1,3,none⟩=some (.int .u64 (y0:Int)):=hP.cell 3
  have ff:∀ j,wr.frozen? ⟨w.heap.size+1+1,j,none⟩=false:=λj=>hP.frozen j
  by_cases hlt:k<32
  ·obtain ⟨c,hc⟩:∃ c,l[k]? = some c:=⟨l[k]'(by rw [HL.out]; exact hlt),List.getElem?_eq_getElem _⟩
   have HC:=Lib.hid hc
   obtain ⟨m,hm⟩:=xE c.toNat
   have hm8:m<256:=by rw [hm]; exact c.toNat_lt
   have hI:∀ W,(Instr.index 22 (.agg (l.map bv).toArray) (.int .i64 (k:Int))).run Tryz.prog W=.ok (.int .u8 (m:Int)) W:=λW=>by
    rw [Hu W l k c hc hlt,hm]; rfl
   have HM:=Lib.hid hm
   have HR:=Lib.hid (And.intro hb (And.intro hP hR))
   clear hb hP hR hc hk hm
   rcases (show k=0∨k=1∨k=2∨k=3∨k=4∨k=5∨k=6∨k=7∨k=8∨k=9∨k=10∨k=11∨k=12∨k=13∨k=14∨k=15∨k=16∨k=17∨k=18∨k=19∨k=20∨k=21∨k=22∨k=23∨k=24∨k=25∨k=26∨k=27∨k=28∨k=29∨k=30∨k=31 by omega) with rfl | rfl | rfl | rfl | rfl | rfl | rfl | rfl | rfl | rfl | rfl | rfl | rfl | rfl | rfl | rfl | rfl | rfl | rfl | rfl | rfl | rfl | rfl | rfl | rfl | rfl | rfl | rfl | rfl | rfl | rfl | rfl
   all_goals
    simp only [Int.cast_ofNat_Int] at hI
   all_goals
    first
    | ((have hy:y0<72057594037927936:=by rw [HY.out.1]; exact Cx l _ 0 dZ); (have ho:=I' y0 m hy hm8); go_wp2; (refine ⟨⟨_,y0*256+m,y1,y2,y3,by decide,rfl,Lib.hid ⟨by rw [HY.out.1,HM.out]; exact (Bu l _ 0 c HC.out dZ).symm,by rw [HY.out.2.1]; exact (Ah l _ 1 dZ).symm,by rw [HY.out.2.2.1]; exact (Ah l _ 2 dZ).symm,by rw [HY.out.2.2.2]; exact (Ah l _ 3 dZ).symm⟩,HR.out.1.setCell (by show w.heap.size≤w.heap.size+1+1; omega) _,Blk.eq_ (HR.out.2.1.set_ 3 _) (by rw [show ((y0*256+m:Nat):Int)=(y0:Int)*256+(m:Int) by omega]; rfl),HR.out.2.2.far (by show w.heap.size+1≠w.heap.size+1+1; omega) _⟩,by simp [intOf]⟩))
    | ((have hy:y1<72057594037927936:=by rw [HY.out.2.1]; exact Cx l _ 1 dZ); (have ho:=I' y1 m hy hm8); go_wp2; (refine ⟨⟨_,y0,y1*256+m,y2,y3,by decide,rfl,Lib.hid ⟨by rw [HY.out.1]; exact (Ah l _ 0 dZ).symm,by rw [HY.out.2.1,HM.out]; exact (Bu l _ 1 c HC.out dZ).symm,by rw [HY.out.2.2.1]; exact (Ah l _ 2 dZ).symm,by rw [HY.out.2.2.2]; exact (Ah l _ 3 dZ).symm⟩,HR.out.1.setCell (by show w.heap.size≤w.heap.size+1+1; omega) _,Blk.eq_ (HR.out.2.1.set_ 2 _) (by rw [show ((y1*256+m:Nat):Int)=(y1:Int)*256+(m:Int) by omega]; rfl),HR.out.2.2.far (by show w.heap.size+1≠w.heap.size+1+1; omega) _⟩,by simp [intOf]⟩))
    | ((have hy:y2<72057594037927936:=by rw [HY.out.2.2.1]; exact Cx l _ 2 dZ); (have ho:=I' y2 m hy hm8); go_wp2; (refine ⟨⟨_,y0,y1,y2*256+m,y3,by decide,rfl,Lib.hid ⟨by rw [HY.out.1]; exact (Ah l _ 0 dZ).symm,by rw [HY.out.2.1]; exact (Ah l _ 1 dZ).symm,by rw [HY.out.2.2.1,HM.out]; exact (Bu l _ 2 c HC.out dZ).symm,by rw [HY.out.2.2.2]; exact (Ah l _ 3 dZ).symm⟩,HR.out.1.setCell (by show w.heap.size≤w.heap.size+1+1; omega) _,Blk.eq_ (HR.out.2.1.set_ 1 _) (by rw [show ((y2*256+m:Nat):Int)=(y2:Int)*256+(m:Int) by omega]; rfl),HR.out.2.2.far (by show w.heap.size+1≠w.heap.size+1+1; omega) _⟩,by simp [intOf]⟩))
    | ((have hy:y3<72057594037927936:=by rw [HY.out.2.2.2]; exact Cx l _ 3 dZ); (have ho:=I' y3 m hy hm8); go_wp2; (refine ⟨⟨_,y0,y1,y2,y3*256+m,by decide,rfl,Lib.hid ⟨by rw [HY.out.1]; exact (Ah l _ 0 dZ).symm,by rw [HY.out.2.1]; exact (Ah l _ 1 dZ).symm,by rw [HY.out.2.2.1]; exact (Ah l _ 2 dZ).symm,by rw [HY.out.2.2.2,HM.out]; exact (Bu l _ 3 c HC.out dZ).symm⟩,HR.out.1.setCell (by show w.heap.size≤w.heap.size+1+1; omega) _,Blk.eq_ (HR.out.2.1.set_ 0 _) (by rw [show ((y3*256+m:Nat):Int)=(y3:Int)*256+(m:Int) by omega]; rfl),HR.out.2.2.far (by show w.heap.size+1≠w.heap.size+1+1; omega) _⟩,by simp [intOf]⟩))
  ·have p1:¬ (k:Int)<32:=om
   obtain rfl:k=32:=om
   have b0:y0<18446744073709551616:=by rw [HY.out.1]; exact CK l _ _
   have b1:y1<18446744073709551616:=by rw [HY.out.2.1]; exact CK l _ _
   have b2:y2<18446744073709551616:=by rw [HY.out.2.2.1]; exact CK l _ _
   have b3:y3<18446744073709551616:=by rw [HY.out.2.2.2]; exact CK l _ _
   obtain ⟨z,hz⟩:=xE (y3+18446744073709551616*y2+340282366920938463463374607431768211456*y1+6277101735386680763835789423207666416102355444464034512896*y0)
   have fz:=Ch y3 y2 y1 y0 b3 b2 b1 b0
   rw [← hz] at fz
   have hzv:Ai l=z:=by rw [Ii l HL.out,hz,HY.out.1,HY.out.2.1,HY.out.2.2.1,HY.out.2.2.2]
   have HZ:=Lib.hid hzv
   have FZ:=Lib.hid fz.symm
   have HP:=Lib.hid hP
   have HR:=Lib.hid hR
   clear HY b0 b1 b2 b3 hz fz hzv q0 q1 q2 q3 ff hP hR
   go_wp2_with (first | ((with_reducible refine AD (d:=some 25) ?_); refine AB U _ _ U (w.heap.size+2) rfl (z) _ _ _ (HP.out) (FZ.out) Ak U kZ ?_) | ((with_reducible refine AE ?_); refine AA U _ _ _ U (w.heap.size+1) (fcs (z)) U U _ _ (HR.out) kZ (by rfl) (AF _) ?_; intro vz hLz hqz hKz))
   exact bodyPost_ret (results_cell_row U _ _ (w.heap.size+1) _ _ (0,0) _ U hLz Ak U kZ) rfl ⟨by rw [HZ.out]; rfl,hb.trans (hqz _ om)⟩
def readS (l:List UInt8):Nat×Bool:=if Ai l<pM then (Ai l,true) else (0,false)
theorem read_any (w:World) (l:List UInt8) (hl:l.length=32):Calls Tryz.prog 208 #[.agg (l.map bv).toArray] w λe w'=>e=.returned (.tuple #[fv (readS l).1,.bool (readS l).2])∧Below w.heap.size w w':=by
 obtain ⟨z,hz⟩:=xE (Ai l)
 have hzl:z<(2^256):=by rw [hz]; exact B9 l hl
 obtain ⟨n,hn⟩:=xE (z%pM)
 have hnl:n<(2^256):=by rw [hn]; exact mod_lt z
 obtain ⟨b,hbd⟩:=xE (decide (n≠z))
 have eb:∀ W,(binOp .neq 42 (fv n) (fv z)).run Tryz.prog W=.ok (.bool b) W:=λW=>by rw [hbd]; exact run_neq_fv W n z hnl hzl
 have cw:∀ w,Calls Tryz.prog 189 #[.agg (l.map bv).toArray] w λe w'=>e=.returned (fv z)∧Below w.heap.size w w':=by
  intro w; rw [hz]; exact H3 w l hl
 have cn:∀ w,Calls Tryz.prog 105 #[fv z] w λe w'=>e=.returned (fv n)∧Below w.heap.size w w':=by
  intro w; rw [hn]; exact norm_any w z hzl
 have hS:readS l=if b=true then (0,false) else (z,true):=by
  unfold readS
  rw [← hz,hbd,hn]
  by_cases h:z<pM
  ·rw [if_pos h,Nat.mod_eq_of_lt h]; simp
  ·have h2:z%pM≠z:=λe=>h (by rw [← e]; exact mod_lt_p z)
   rw [if_neg h]; simp [h2]
 have HS:=Lib.hid hS
 have HL:=Lib.hid hl
 clear hl hz hzl hn hnl hbd hS
 go_enter Tryz.func208,Tryz.ntmps208
 go_wp2_with (first | ((with_reducible refine AD (d:=some 5) ?_); refine A0 U _ _ U w.heap.size U _ _ _ ((Blk.new w _ _).alloc _) GZ U (Ce HL.out) ?_))
 refine (cw _).mono ?_
 rintro e w1 ⟨rfl,k1⟩
 have BR:=Gr.blk k1 (AZ w _ _ _)
 have sz:=BR.lt
 have hB:=Below.gr (Ab w _ _) k1
 clear k1 cw
 go_wp2_with (first | ((with_reducible refine AE ?_); refine AA U _ _ _ U (w1.heap.size) (fcs (z)) U U _ _ (Blk.new w1 _ _) kZ (by rfl) (AF _) ?_; intro w2 hL2 hq2 hK2; have CR:=hK2 _ om _ _ (BR.alloc _); have hB2:=(hB.alloc om _).trans (hq2 _ om)))
 refine wp_region_G (λ_=>false) kZ ?_
 try simp only [Act.put]
 refine tkw 0 U (YieldsG.loadF (by rfl) _ _ U (w1.heap.size) rfl (z) _ _ (hL2) (AV _) Ak U kZ) ?_
 try simp only [aPS]
 refine tkw 1 U (YieldsG.call (v:=fv n) (by rfl) 105 _ (λw9=>by go_simp; try (first | with_reducible rfl | rfl)) (λw9 h9=>cn w9)) ?_
 try simp only [aPS]
 refine tkw 2 U (YieldsG.loadF (by rfl) _ _ U (w1.heap.size) rfl (z) _ _ (hL2) (AV _) Ak U kZ) ?_
 try simp only [aPS]
 refine tkw 3 U (YieldsG.pure (v:=.bool b) (by rfl) (λw9 h9=>by go_simp; rw [run_eqGuard_fv]; simp only [Result.andThen_ok])) ?_
 try simp only [aPS]
 refine wpAnyG_done kZ (λu hu=>?_)
 have hbu:=Below.gr hB2 hu
 have BRu:=Gr.blk hu CR
 have BP:=Gr.blk hu hL2
 clear hu hB2 CR hL2 eb cn
 cases b
 ·have HT:Hid (readS l=(z,true)):=Lib.hid (by rw [HS.out]; rfl)
  clear HS
  go_wp2_with (first | ((with_reducible refine AD (d:=some 12) ?_); refine AB U _ _ U (w1.heap.size) rfl (z) _ _ _ (BP) (AV _) Ak U kZ ?_) | ((with_reducible refine AE ?_); refine AA U _ _ _ U (w.heap.size+1) (fcs (z)) U U _ _ (BRu) kZ (by rfl) (AF _) ?_; intro vz hLz hqz hKz))
  exact bodyPost_ret (Bo U _ _ (w.heap.size+1) _ _ _ _ U hLz U Ak U kZ) rfl ⟨by rw [HT.out]; rfl,hbu.trans (hqz _ om)⟩
 ·have HT:Hid (readS l=(0,false)):=Lib.hid (by rw [HS.out]; rfl)
  clear HS
  go_wp2_with (first | ((with_reducible refine AE ?_); refine AA U _ _ _ U (w.heap.size+1) _ U U _ _ (BRu) kZ (by rfl) (by simp [Value.oneCell']) ?_; intro vz hLz hqz hKz))
  exact bodyPost_ret (Bo U _ _ (w.heap.size+1) _ _ _ _ U hLz U Ak U kZ) rfl ⟨by rw [HT.out]; rfl,hbu.trans (hqz _ om)⟩
theorem reduceB_any (w:World) (l:List UInt8) (hl:l.length=32):Calls Tryz.prog 126 #[.agg (l.map bv).toArray] w λe w'=>e=.returned (fv (Ai l%pM))∧Below w.heap.size w w':=by
 obtain ⟨z,hz⟩:=xE (Ai l)
 have hzl:z<(2^256):=by rw [hz]; exact B9 l hl
 obtain ⟨n,hn⟩:=xE (z%pM)
 have cw:∀ w,Calls Tryz.prog 189 #[.agg (l.map bv).toArray] w λe w'=>e=.returned (fv z)∧Below w.heap.size w w':=by
  intro w; rw [hz]; exact H3 w l hl
 have cn:∀ w,Calls Tryz.prog 105 #[fv z] w λe w'=>e=.returned (fv n)∧Below w.heap.size w w':=by
  intro w; rw [hn]; exact norm_any w z hzl
 rw [← hz, ← hn]
 have HL:=Lib.hid hl
 clear hl hz hzl hn
 go_enter Tryz.func126,Tryz.ntmps126
 go_wp2_with (first | ((with_reducible refine AD (d:=some 3) ?_); refine A0 U _ _ U w.heap.size U _ _ _ ((Blk.new w _ _).alloc _) GZ U (Ce HL.out) ?_))
 refine (cw _).mono ?_
 rintro e w1 ⟨rfl,k1⟩
 go_wp2_with fail
 refine (cn _).mono ?_
 rintro e w2 ⟨rfl,k2⟩
 have BR:=Gr.blk k2 (Gr.blk k1 (AZ w _ _ _))
 have hB:=Below.gr (Below.gr (Ab w _ _) k1) k2
 clear k1 k2 cw cn
 go_wp2_with (first | ((with_reducible refine AE ?_); refine AA U _ _ _ U (w.heap.size+1) (fcs (n)) U U _ _ (BR) kZ (by rfl) (AF _) ?_; intro vz hLz hqz hKz))
 exact bodyPost_ret (results_cell_row U _ _ (w.heap.size+1) _ _ (0,0) _ U hLz Ak U kZ) rfl ⟨rfl,hB.trans (hqz _ om)⟩
end Sc
end
section
namespace Cu
open Go.RowKit Sy
theorem Fg {w:World} {g:Nat} {t:TypeId} {ts:List Sh.Tx} (hb:Blk w g t (ts.map Sh.Tx.val).toArray) (hok:∀ x∈ts,x.ok w):Sh.Texts w (pA g) ts:=λ_ =>
 ⟨g,0,rfl,hb.lt,λj y hy=>by
  rw [Nat.zero_add]
  refine ⟨(hb.cell j).trans ?_,hok y (List.mem_of_getElem? hy)⟩
  rw [List.getElem?_toArray,List.getElem?_map,hy]
  rfl⟩
theorem Rd (w:World) (nm:ByteArray) (hnm:nm.size≤1000000000) (g:Nat) (t:TypeId) (ts:List Sh.Tx) (n ct:Nat) (X:List UInt8) (hX:Sh.cat ts=X) (hn:ts.length=n) (hb:Blk w g t (ts.map Sh.Tx.val).toArray) (hok:∀ x∈ts,x.ok w) (hl:X.length≤1000000000) (hn2:n≤1000000000) (ht:Sh.TabAt w 1) :
  Calls Tryz.prog 95 #[.string nm,.slice (pA g) n ct] w (Gets w (.agg ((Sh.taggedS nm.data.toList X).map bv).toArray)):=by
 subst hX hn
 exact Sh.tagged_any w nm _ ts ct (Fg hb hok) ht hnm hl hn2
theorem SO {w:World} {g:Nat} {t:TypeId} {l:List UInt8} (hb:Blk w g t (l.map bv).toArray) (hl:l.length=32):(Sh.Tx.mk (pA g) l 32).ok w:=⟨Sh.Src.of_blk hb,by show l.length≤32; omega,by show 32≤9223372036854775807; omega⟩
theorem ok3 {w:World} {a b c:Sh.Tx} (ha:a.ok w) (hb:b.ok w) (hc:c.ok w):∀ x∈[a,b,c],x.ok w:=λx hx=>by
 simp only [List.mem_cons,List.not_mem_nil,or_false] at hx
 rcases hx with rfl | rfl | rfl <;> assumption
theorem CU (nm m:List UInt8):(Sh.taggedS nm m).length=32:=Sh.sum_length _
end Cu
end
section
namespace Sy
open Go.RowKit
section
variable {P:Program} {w0:Base} {n:Nat} {Q:Exit→Act→World→Prop} {F:AK} {L:AC}
end
def Db (a b:List UInt8) (k:Nat):List UInt8:=a.take k++b.drop k
theorem G6 {a b:List UInt8} {n:Nat} (ha:a.length=n) (hb:b.length=n) {k:Nat} (hk:k≤n):(Db a b k).length=n:=by
 unfold Db
 rw [List.length_append,List.length_take,List.length_drop]
 omega
theorem NL (a b:List UInt8):Db a b 0=b:=rfl
theorem Ov {a b:List UInt8} {n:Nat} (ha:a.length=n) (hb:b.length=n):Db a b n=a:=by
 unfold Db
 rw [List.take_of_length_le om,List.drop_of_length_le om,List.append_nil]
theorem TW {a b:List UInt8} {n k:Nat} (ha:a.length=n) (hb:b.length=n) (hk:k<n):(Db a b k).getD k 0=b.getD k 0:=by
 unfold Db
 rw [List.getD_eq_getElem?_getD,List.getD_eq_getElem?_getD,List.getElem?_append_right (by rw [List.length_take]; omega),List.getElem?_drop,List.length_take]
 congr 2
 omega
theorem NM {a b:List UInt8} {n k:Nat} (ha:a.length=n) (hb:b.length=n) (hk:k<n):(Db a b k).set k (a.getD k 0)=Db a b (k+1):=by
 have h1:k<a.length:=om
 have h2:k<b.length:=om
 unfold Db
 rw [List.set_append_right _ _ (by rw [List.length_take]; omega),List.length_take,show k - min k a.length=0 by omega,List.take_succ_eq_append_getElem h1,List.drop_eq_getElem_cons h2,List.set_cons_zero,List.append_assoc,List.getD_eq_getElem?_getD,List.getElem?_eq_getElem h1]
 rfl
end Sy
end
section
namespace Cu
open Go.RowKit Sy
end Cu
end
section
namespace Sy
open Go.RowKit
abbrev P2 (g1:Nat) (t1:TypeId) (c1:Array Value) (g2:Nat) (t2:TypeId) (c2:Array Value):List (Nat×Obj):=[(g1,.cells c1 t1),(g2,.cells c2 t2)]
section
variable {P:Program} {w0:Base} {n:Nat} {Q:Exit→Act→World→Prop} {F:AK} {L:AC} {ops:Array Oper} {V:List (Nat×Obj)} {fuel:Nat} {listed:Array Bool}
def wpV (P:Program) (w0:Base) (n:Nat) (ops:Array Oper) (Q:Exit→Act→World→Prop) (V:List (Nat×Obj)) (F:AK) (L:AC) (fuel:Nat) (listed:Array Bool):Prop:=∀ a wb w,Fr w0.ds a n F→St w0 wb L→GrV V wb w→CM P V .any ops Q fuel listed a w
theorem regionV {i:Nat} (V:List (Nat×Obj)) (h:wpV P w0 n ops Q V F L ops.size (Array.replicate ops.size false)) (hm:P.follows .mixedOrders=true:=by kernel_rfl) (hf:w0.fence=Fence.wide:=by rfl):wpC P w0 n Q F L (.region i ops true):=λa w ha hw=>by
 rw [hf]
 exact wpIn_wide.2 (JY V hm (h a w w ha hw (GrV.refl w)))
theorem takeV (i:Nat) {oi:Oper} (hi0:ops.toList[i]? = some oi) (v:Value) (h:wpV P w0 n ops Q V (BN F oi.dst v) L fuel (listed.setIfInBounds i true)) (hq:∀ w,(execOp (evF F) oi).run P w=.ok (.value v) w:=by intro _; kernel_rfl) (hc:DM .any ops listed i=true:=by kernel_rfl)
  (hg:Bb ops n F oi=true:=by kernel_rfl) (hQ:∀ c v a w,Q (.panic c) (a.put oi.dst v) w→Q (.panic c) a w:=by exact λ_ _ _ _ h=>h):wpV P w0 n ops Q V F L (fuel+1) listed:=λa wb w ha hw hv =>
 F1 i hi0 hc (λc=>hQ c v) (YieldsV.pure (ha.wanted (AN hg).1) (λw1 _=>by rw [Al hg ha]; exact hq w1)) (h _ wb w (ha.put (AN hg).2.2.1 v) hw hv)
theorem loadV (i:Nat) {oi:Oper} (hi0:ops.toList[i]? = some oi) (j g f:Nat) (t ty:TypeId) (cs:Array Value) (d:TypeDesc) (v:Value) (x:Operand) (ho:oi.op=.load ty x) (hu:P.underlying ty=some d) (hfar:∀ w,St w0 w L→V.all (λx=>x.1 != g)=true)
  (h:wpV P w0 n ops Q V (BN F oi.dst v) L fuel (listed.setIfInBounds i true)) (hx:evF F x=pT g f:=by kernel_rfl) (hL:L[j]? = some (g,t,cs):=by kernel_rfl) (hd:d.isRow=false:=by rfl) (hv:cs[f]? = some v:=by kernel_rfl) (hc:DM .any ops listed i=true:=by kernel_rfl)
  (hg:Bb ops n F oi=true:=by kernel_rfl) (hQ:∀ c v a w,Q (.panic c) (a.put oi.dst v) w→Q (.panic c) a w:=by exact λ_ _ _ _ h=>h):wpV P w0 n ops Q V F L (fuel+1) listed:=λa wb w ha hw hV =>
 F1 i hi0 hc (λc=>hQ c v) (YieldsV.pure (ha.wanted (AN hg).1) (λw1 h1=>by
  rw [Al hg ha]
  have hb:=(hV.trans h1).blk (hw.get hL) (hfar wb hw)
  have hcell:w1.cell? ⟨g,f,none⟩=some v:=(hb.cell f).trans hv
  have hagg:(isAgg ty).run P w1=.ok false w1:=by
   cases d <;> first | (cases hd; done) | simp [isAgg,underlying,hu]
  unfold execOp
  simp only [ho,hx,Instr.loadAt,Instr.sureAddr,Sem.run_bind,Sem.run_pure,Result.andThen_ok,loadVar,hagg,Bool.false_eq_true,if_false,run_load,hcell])) (h _ wb w (ha.put (AN hg).2.2.1 v) hw hV)
theorem storesV (i k:Nat) {oi ok:Oper} (hi0:ops.toList[i]? = some oi) (hk0:ops.toList[k]? = some ok) (p q g1 g2:Nat) (t1 t2:TypeId) (b1 b2 c1 c2:Array Value) (ty1 ty2:TypeId) (x1 y1 x2 y2:Operand) (ho1:oi.op=.store ty1 x1 y1) (ho2:ok.op=.store ty2 x2 y2)
  (hpq:p<q) (h:X w0 n Q (BN (BN F oi.dst undef) ok.dst undef) ((L.set p (g1,t1,c1)).set q (g2,t2,c2)) .normal)
  (hx1:evF F x1=pT g1 0:=by kernel_rfl) (hy1:evF F y1=.agg c1:=by kernel_rfl) (hx2:evF (BN F oi.dst undef) x2=pT g2 0:=by kernel_rfl) (hy2:evF (BN F oi.dst undef) y2=.agg c2:=by kernel_rfl)
  (hL1:L[p]? = some (g1,t1,b1):=by kernel_rfl) (hL2:L[q]? = some (g2,t2,b2):=by kernel_rfl) {n1 n2:Nat} (hs1:b1.size=n1:=by kernel_rfl) (hs2:b2.size=n2:=by kernel_rfl) (hc1:c1.size=n1:=by kernel_rfl) (hc2:c2.size=n2:=by kernel_rfl)
  (hr1:Region.ready .any ops listed=[i]:=by kernel_rfl) (hr2:Region.ready .any ops (listed.setIfInBounds i true)=[k]:=by kernel_rfl) (hr3:Region.ready .any ops ((listed.setIfInBounds i true).setIfInBounds k true)=[]:=by kernel_rfl)
  (hg1:Bb ops n F oi=true:=by kernel_rfl) (hg2:Bb ops n (BN F oi.dst undef) ok=true:=by kernel_rfl) (hi1:(P.info? ty1).map (·.size)=some c1.size:=by kernel_rfl) (hi2:(P.info? ty2).map (·.size)=some c2.size:=by kernel_rfl)
  (ha1:c1.all (·.oneCell')=true:=by kernel_rfl) (ha2:c2.all (·.oneCell')=true:=by kernel_rfl):wpV P w0 n ops Q (P2 g1 t1 c1 g2 t2 c2) F L (fuel+2) listed:=λa wb w ha hw hV=>by
 have hb1:=hw.get hL1
 have hb2:=hw.get hL2
 have hp:=(List.getElem?_eq_some_iff.1 hL1).1
 have hq:=(List.getElem?_eq_some_iff.1 hL2).1
 have hne:g1≠g2:=λe=>by
  have:=List.pairwise_iff_getElem.1 hw.apart p q (by simpa using hp) (by simpa using hq) hpq
  simp only [List.getElem_map] at this
  rw [(List.getElem?_eq_some_iff.1 hL1).2,(List.getElem?_eq_some_iff.1 hL2).2] at this
  exact this e
 refine Ev i hi0 hr1 (ha.wanted (AN hg1).1) ty1 x1 y1 ho1 g1 c1 ((ha.eval ((AN hg1).2.1 _ (by simp [ho1,Op.operands]))).trans hx1) ((ha.eval ((AN hg1).2.1 _ (by simp [ho1,Op.operands]))).trans hy1) t1 (by simp) (λw1 h1=>(hV.trans h1).some hb1 (hs1.trans hc1.symm) (λo ho=>?_)) hi1 ha1 (λw1 h1 w2 h2 hB=>?_)
 ·simp only [List.mem_cons,Prod.mk.injEq,List.not_mem_nil,or_false] at ho
  rcases ho with ⟨_,rfl⟩ | ⟨e,_⟩
  ·exact ⟨c1,rfl,rfl⟩
  ·exact absurd e hne
 have ha':=ha.put (AN hg1).2.2.1 undef
 refine Ev k hk0 hr2 (ha'.wanted (AN hg2).1) ty2 x2 y2 ho2 g2 c2 ((ha'.eval ((AN hg2).2.1 _ (by simp [ho2,Op.operands]))).trans hx2) ((ha'.eval ((AN hg2).2.1 _ (by simp [ho2,Op.operands]))).trans hy2) t2 (by simp) (λw3 h3=>(((hV.trans h1).trans h2).trans h3).some hb2 (hs2.trans hc2.symm) (λo ho=>?_)) hi2 ha2 (λw3 h3 w4 h4 hB2=>?_)
 ·simp only [List.mem_cons,Prod.mk.injEq,List.not_mem_nil,or_false] at ho
  rcases ho with ⟨e,_⟩ | ⟨_,rfl⟩
  ·exact absurd e.symm hne
  ·exact ⟨c2,rfl,rfl⟩
 refine Ja hr3 (λw5 h5=>h _ _ (ha'.put (AN hg2).2.2.1 undef) ?_)
 have hall:=((((hV.trans h1).trans h2).trans h3).trans h4).trans h5
 have f1:Blk w5 g1 t1 c1:=((h3.trans h4).trans h5).done hB (λo ho=>by
  simp only [List.mem_cons,Prod.mk.injEq,List.not_mem_nil,or_false] at ho
  rcases ho with ⟨_,rfl⟩ | ⟨e,_⟩
  ·rfl
  ·exact absurd e hne)
 have f2:Blk w5 g2 t2 c2:=h5.done hB2 (λo ho=>by
  simp only [List.mem_cons,Prod.mk.injEq,List.not_mem_nil,or_false] at ho
  rcases ho with ⟨e,_⟩ | ⟨_,rfl⟩
  ·exact absurd e.symm hne
  ·rfl)
 have hlow:∀ x∈P2 g1 t1 c1 g2 t2 c2,w0.world.heap.size≤x.1:=λx hx=>by
  simp only [List.mem_cons,List.not_mem_nil,or_false] at hx
  rcases hx with rfl | rfl
  ·exact (hw.blk g1 t1 b1 (List.mem_of_getElem? hL1)).1
  ·exact (hw.blk g2 t2 b2 (List.mem_of_getElem? hL2)).1
 have hbel:=hall.below (B:=w0.world.heap.size) hw.below.size hlow
 refine ⟨hw.below.trans hbel,λg t cs hm=>?_,?_,Nat.le_trans hw.size hall.size,λz o hz ho hc=>?_⟩
 ·obtain ⟨j,hj⟩:=List.getElem?_of_mem hm
  rw [List.getElem?_set] at hj
  split at hj
  ·rename_i e
   have hj2:(g2,t2,c2)=(g,t,cs):=by simpa [hq] using hj
   cases hj2
   exact ⟨(hw.blk _ _ _ (List.mem_of_getElem? hL2)).1,f2⟩
  ·rw [List.getElem?_set] at hj
   split at hj
   ·have hj2:(g1,t1,c1)=(g,t,cs):=by simpa [hp] using hj
    cases hj2
    exact ⟨(hw.blk _ _ _ (List.mem_of_getElem? hL1)).1,f1⟩
   ·rename_i e2 e1
    refine ⟨(hw.blk _ _ _ (List.mem_of_getElem? hj)).1,hall.blk (hw.get hj) ?_⟩
    have hjl:=(List.getElem?_eq_some_iff.1 hj).1
    have hpair:=List.pairwise_iff_getElem.1 hw.apart
    have far:∀ (r gr:Nat) (tr:TypeId) (cr:Array Value),L[r]? = some (gr,tr,cr)→r≠j→gr≠g:=λr gr tr cr hr hrj e=>by
     have hrl:=(List.getElem?_eq_some_iff.1 hr).1
     rcases Nat.lt_or_gt_of_ne hrj with hlt | hlt
     ·have:=hpair r j (by simpa using hrl) (by simpa using hjl) hlt
      simp only [List.getElem_map] at this
      rw [(List.getElem?_eq_some_iff.1 hr).2,(List.getElem?_eq_some_iff.1 hj).2] at this
      exact this e
     ·have:=hpair j r (by simpa using hjl) (by simpa using hrl) hlt
      simp only [List.getElem_map] at this
      rw [(List.getElem?_eq_some_iff.1 hr).2,(List.getElem?_eq_some_iff.1 hj).2] at this
      exact this e.symm
    simp only [List.all_cons,List.all_nil,Bool.and_true,Bool.and_eq_true,bne_iff_ne]
    exact ⟨far p g1 t1 b1 hL1 e1,far q g2 t2 b2 hL2 e2⟩
 ·have hmap:((L.set p (g1,t1,c1)).set q (g2,t2,c2)).map (·.1)=L.map (·.1):=by
   refine List.ext_getElem? λj=>?_
   rw [List.getElem?_map,List.getElem?_map,List.getElem?_set,List.getElem?_set]
   split
   ·rename_i e
    subst e
    rw [hL2]
    simp [hq]
   ·split
    ·rename_i e
     subst e
     rw [hL1]
     simp [hp]
    ·rfl
  rw [hmap]
  exact hw.apart
 ·have h6:=hw.non z o hz ho hc
  rcases hall.block z (Array.getElem?_eq_some_iff.1 h6).1 with e | ⟨o',hm,e⟩
  ·exact e.trans h6
  ·exfalso
   simp only [List.mem_cons,Prod.mk.injEq,List.not_mem_nil,or_false] at hm
   rcases hm with ⟨rfl,_⟩ | ⟨rfl,_⟩
   ·unfold Blk at hb1
    rw [hb1] at h6
    cases h6
    cases hc
   ·unfold Blk at hb2
    rw [hb2] at h6
    cases h6
    cases hc
theorem EC {i j k:Nat} {g1 g2 g:Nat} {t1 t2:TypeId} {c1 c2:Array Value} (h1:(L.map (·.1))[i]? = some g1:=by kernel_rfl) (h2:(L.map (·.1))[j]? = some g2:=by kernel_rfl) (h3:(L.map (·.1))[k]? = some g:=by kernel_rfl) (hik:i<k) (hjk:j<k):∀ w,St w0 w L→(P2 g1 t1 c1 g2 t2 c2).all (λx=>x.1 != g)=true:=λw hw=>by
 have hpair:=List.pairwise_iff_getElem.1 hw.apart
 have far:∀ (r gr:Nat),(L.map (·.1))[r]? = some gr→r<k→gr≠g:=λr gr hr hrk e=>by
  have:=hpair r k (List.getElem?_eq_some_iff.1 hr).1 (List.getElem?_eq_some_iff.1 h3).1 hrk
  rw [(List.getElem?_eq_some_iff.1 hr).2,(List.getElem?_eq_some_iff.1 h3).2] at this
  exact this e
 simp only [List.all_cons,List.all_nil,Bool.and_true,Bool.and_eq_true,bne_iff_ne]
 exact ⟨far i g1 h1 hik,far j g2 h2 hjk⟩
end
end Sy
end
section
namespace Sc
open Go.RowKit Go.Lib
theorem step_ex (v m x y:Nat) (hv:v<18446744073709551616) (hm:m<18446744073709551616) (hx:x<18446744073709551616) (hy:y<18446744073709551616):∃ lo hi:Nat,lo<18446744073709551616∧hi<18446744073709551616∧lo+18446744073709551616*hi=v*m+x+y:=by
 have h:v*m≤18446744073709551615*18446744073709551615:=Nat.mul_le_mul om om
 exact ⟨(v*m+x+y)%18446744073709551616,(v*m+x+y) / 18446744073709551616,by omega,by omega,by omega⟩
theorem P_ (w:World) (v m x y lo hi:Nat) (hv:v<18446744073709551616) (hm:m<18446744073709551616) (hx:x<18446744073709551616) (hy:y<18446744073709551616) (hlo:lo<18446744073709551616) (he:lo+18446744073709551616*hi=v*m+x+y) :
  Calls Tryz.prog 218 #[.int .u64 (v:Int),.int .u64 (m:Int),.int .u64 (x:Int),.int .u64 (y:Int)] w λe w'=>e=.returned (.tuple #[.int .u64 (lo:Int),.int .u64 (hi:Int)])∧w'=w:=by
 have h:v*m≤18446744073709551615*18446744073709551615:=Nat.mul_le_mul om om
 obtain ⟨p,q,bq,bp,hpq⟩:=G4 v m hv hm
 obtain ⟨s,k,bs,bk,hsk,ra⟩:=Cq q x bq hx
 obtain ⟨t,l,bt,bl,htl,rb⟩:=Cq s y bs hy
 have hsum:p+k+l<18446744073709551616:=om
 have hsum1:p+k<18446744073709551616:=om
 obtain rfl:t=lo:=om
 have HI:Hid (hi=p+k+l):=Lib.hid om
 have cm:=λw=>DF w v m p q hv hm bq hpq
 clear h hpq hsk htl he hlo bs bq bp
 go_enter Tryz.func218,Tryz.ntmps218
 go_wp2_with fail
 refine (cm _).mono ?_
 rintro e w1 ⟨rfl,rfl⟩
 go_wp2
 go_ret2
 exact ⟨by rw [HI.out]; rfl,rfl⟩
theorem step_c (w:World) (v m x y lo hi:Nat) (hv:v<18446744073709551616) (hm:m<18446744073709551616) (hx:x<18446744073709551616) (hy:y<18446744073709551616) (hlo:lo<18446744073709551616) (he:lo+18446744073709551616*hi=v*m+x+y) :
  Calls Tryz.prog 218 #[.int .u64 ((v:Nat):Int),.int .u64 ((m:Nat):Int),.int .u64 ((x:Nat):Int),.int .u64 ((y:Nat):Int)] w (Sy.Gets w (.tuple #[.int .u64 ((lo:Nat):Int),.int .u64 ((hi:Nat):Int)])) :=
 (P_ w v m x y lo hi hv hm hx hy hlo he).mono λe w' ⟨h1,h2⟩=>⟨h1,by rw [h2]; exact Below.refl _ _⟩
end Sc
namespace Fz
open Go.RowKit Go.Lib Sy
theorem Gx {x y lo hi:Nat} {R:Nat→Nat} (hx:x<(2^256)) (hy:y<(2^256)) (he:lo+(2^256)*hi=x*y) (h:vR R 8=vR (wd x) 4*vR (wd y) 4):vR R 4+vR (λt=>R (4+t)) 4*(2^256)=lo+(2^256)*hi:=by
 rw [wd4 hx,wd4 hy,show (8:Nat)=4+4 from rfl,D5] at h
 rw [he, ← h]
theorem K9 {x y lo hi:Nat} {R:Nat→Nat} (hx:x<(2^256)) (hy:y<(2^256)) (hlo:lo<(2^256)) (he:lo+(2^256)*hi=x*y) (h:vR R 8=vR (wd x) 4*vR (wd y) 4) (hR:vR R 4<18446744073709551616 ^ 4):lo=vR R 4:=by
 have q:=Gx hx hy he h
 have hR':vR R 4<(2^256):=hR
 omega
theorem M7 {x y lo hi:Nat} {R:Nat→Nat} (hx:x<(2^256)) (hy:y<(2^256)) (hlo:lo<(2^256)) (he:lo+(2^256)*hi=x*y) (h:vR R 8=vR (wd x) 4*vR (wd y) 4) (hR:vR R 4<18446744073709551616 ^ 4):hi=vR (λt=>R (4+t)) 4:=by
 have q:=Gx hx hy he h
 have hR':vR R 4<(2^256):=hR
 omega
theorem productZ (w:World) (x y lo hi:Nat) (hx:x<(2^256)) (hy:y<(2^256)) (hlo:Hid (lo<(2^256))) (he:Hid (lo+(2^256)*hi=x*y)):Calls Tryz.prog 166 #[fv x,fv y] w (Gets w (.tuple #[fv lo,fv hi])):=by
 refine Sy.enter (args:=[fv x,fv y]) Tryz.func166 U kL<|sC<|sM 42 (fcs x) (λg0=>?_)
 refine sM 42 (fcs y) (λg1=>?_)
 refine sM 42 (fcs 0) (λg2=>?_)
 refine sM 42 (fcs 0) (λg3=>?_)
 refine sA<|Sy.make kR 206 (rw8 (λ_=>0)) ptr kF (λg4=>?_)
 refine sG<|Sy.seq<|sC<|sS (fv x) (qL 0 g0 0 4 42 42 (fcs x) rfl Ak)<|sP (.int .i64 0)<|sG<|Sy.block<|Sy.loopX (T:=Nat→Nat) 4 (λk1 y1=>[(2,pT g0 0),(3,pT g1 0),(4,pT g2 0),(5,pT g3 0),(6,pT g4 0),(12,fv x),(13,iZ k1)]) (λk1 y1=>[(g0,42,(fcs x)),(g1,42,(fcs y)),(g2,42,(fcs 0)),(g3,42,(fcs 0)),(g4,206,(rw8 y1))]) (λk1 y1=>(∀ t,y1 t<18446744073709551616)∧vR y1 8=vR (wd x) k1*vR (wd y) 4∧∀ t,k1+4≤t→y1 t=0) (λ_=>0) [true,true,true,true,true] (⟨λ_=>by show (0:Nat)<18446744073709551616; decide,by rw [GE]; exact (Nat.zero_mul _).symm,λ_ _=>rfl⟩) ac7 kR (λk1 y1 hk1 hh1=>?_)
 refine sC ?_
 obtain ⟨b1,hb1⟩:=xE (decide (k1<4))
 refine sS (.bool b1) (qls U U U hb1)<|sG<|Sy.seq ?_
 cases b1
 ·have lb1:=dN hb1
  refine sU<|Sy.exit<|Sy.then_exit<|Sy.then_exit ?_
  obtain rfl:k1=4:=om
  refine Sy.in_exit<|Sy.then_<|Sy.seq<|Sy.regionV (P2 g2 42 (fcs (vR y1 4)) g3 42 (fcs (vR (λt=>y1 (4+t)) 4)))<|Sy.takeV 0 U (pT g4 0)<|Sy.loadV 1 U 4 g4 0 206 40 (rw8 y1) _ (.int .u64 ((y1 0:Nat):Int)) _ U Bh (EC (i:=2) (j:=3) (k:=4) (hik:=by decide) (hjk:=by decide))<|Sy.takeV 2 U (pT g4 1)<|Sy.loadV 3 U 4 g4 1 206 40 (rw8 y1) _ (.int .u64 ((y1 1:Nat):Int)) _ U Bh (EC (i:=2) (j:=3) (k:=4) (hik:=by decide) (hjk:=by decide))<|Sy.takeV 4 U (pT g4 2)<|Sy.loadV 5 U 4 g4 2 206 40 (rw8 y1) _ (.int .u64 ((y1 2:Nat):Int)) _ U Bh (EC (i:=2) (j:=3) (k:=4) (hik:=by decide) (hjk:=by decide))<|Sy.takeV 6 U (pT g4 3)<|Sy.loadV 7 U 4 g4 3 206 40 (rw8 y1) _ (.int .u64 ((y1 3:Nat):Int)) _ U Bh (EC (i:=2) (j:=3) (k:=4) (hik:=by decide) (hjk:=by decide))<|Sy.takeV 8 U (fv (vR y1 4)) ?_ (hq:=λw=>by rw [← K3 hh1.1]; kernel_rfl)
  refine Sy.takeV 9 U (pT g4 4)<|Sy.loadV 10 U 4 g4 4 206 40 (rw8 y1) _ (.int .u64 ((y1 4:Nat):Int)) _ U Bh (EC (i:=2) (j:=3) (k:=4) (hik:=by decide) (hjk:=by decide))<|Sy.takeV 11 U (pT g4 5)<|Sy.loadV 12 U 4 g4 5 206 40 (rw8 y1) _ (.int .u64 ((y1 5:Nat):Int)) _ U Bh (EC (i:=2) (j:=3) (k:=4) (hik:=by decide) (hjk:=by decide))<|Sy.takeV 13 U (pT g4 6)<|Sy.loadV 14 U 4 g4 6 206 40 (rw8 y1) _ (.int .u64 ((y1 6:Nat):Int)) _ U Bh (EC (i:=2) (j:=3) (k:=4) (hik:=by decide) (hjk:=by decide))<|Sy.takeV 15 U (pT g4 7)<|Sy.loadV 16 U 4 g4 7 206 40 (rw8 y1) _ (.int .u64 ((y1 7:Nat):Int)) _ U Bh (EC (i:=2) (j:=3) (k:=4) (hik:=by decide) (hjk:=by decide))<|Sy.takeV 17 U (fv (vR (λt=>y1 (4+t)) 4)) ?_ (hq:=λw=>by rw [← K3 (R:=λt=>y1 (4+t)) (λt=>hh1.1 _)]; kernel_rfl)
  refine Sy.storesV 18 19 U U 2 3 g2 g3 42 42 (fcs 0) (fcs 0) (fcs (vR y1 4)) (fcs (vR (λt=>y1 (4+t)) 4)) 42 42 _ _ _ _ U U dZ ?_ (n1:=4) (n2:=4)
  refine Sy.then_<|Sy.ret ?_
  rw [show (.tuple #[fv lo,fv hi]:Value)=.tuple #[fv (vR y1 4),fv (vR (λt=>y1 (4+t)) 4)] from by rw [K9 hx hy hlo.out he.out hh1.2.1 (GY hh1.1 4),M7 hx hy hlo.out he.out hh1.2.1 (GY hh1.1 4)]]
  exact Sy.ret2 (v:=fv (vR y1 4)) (u:=fv (vR (λt=>y1 (4+t)) 4)) U (.inl (Res.cell (ty':=42) g2 2 (fcs (vR y1 4)) _ kR kR Ak U kR kR)) (.inl (Res.cell (ty':=42) g3 3 (fcs (vR (λt=>y1 (4+t)) 4)) _ kR kR Ak U kR kR))
 ·have lb1:=dY hb1
  refine sT<|Sy.skip<|Sy.then_<|Sy.seq<|Sy.block<|sC<|sP (iZ k1)<|sS (.int .u64 ((wd x k1:Nat):Int)) (Quiet.pure (Hf _ _ _ _ _ 4 k1 .i64 _ _ U U U Ak Bh U kF om (Hc x om U)))<|sP (iZ k1)<|sP (.int .u64 ((wd x k1:Nat):Int))<|sA<|sP (.int .u64 0)<|sG<|Sy.seq<|sC<|sS (fv y) (qL 1 g1 0 4 42 42 (fcs y) rfl Ak)<|sP (.int .i64 0)<|sG<|Sy.block<|Sy.loopX (T:=(Nat→Nat)×Nat) 4 (λk2 y2=>[(2,pT g0 0),(3,pT g1 0),(4,pT g2 0),(5,pT g3 0),(6,pT g4 0),(7,iZ k1),(8,.int .u64 ((wd x k1:Nat):Int)),(9,.int .u64 ((y2.2:Nat):Int)),(12,fv x),(13,iZ k1),(17,fv y),(18,iZ k2)]) (λk2 y2=>[(g0,42,(fcs x)),(g1,42,(fcs y)),(g2,42,(fcs 0)),(g3,42,(fcs 0)),(g4,206,(rw8 y2.1))]) (λk2 y2=>(∀ t,y2.1 t<18446744073709551616)∧y2.2<18446744073709551616∧vR y2.1 8+y2.2*18446744073709551616 ^ (k1+k2)=vR y1 8+wd x k1*vR (wd y) k2*18446744073709551616 ^ k1∧∀ t,k1+4≤t→y2.1 t=0) (y1,0) [true,true,true,true,true] (⟨hh1.1,by show (0:Nat)<18446744073709551616; decide,by show vR y1 8+0*_=_+_*0*_; omega,hh1.2.2⟩) S2 kR (λk2 y2 hk2 hh2=>?_)
  refine sC ?_
  obtain ⟨b2,hb2⟩:=xE (decide (k2<4))
  refine sS (.bool b2) (qls U U U hb2)<|sG<|Sy.seq ?_
  cases b2
  ·have lb2:=dN hb2
   refine sU<|Sy.exit<|Sy.then_exit<|Sy.then_exit ?_
   obtain rfl:k2=4:=om
   refine Sy.in_exit<|Sy.then_<|Sy.region<|sP (iZ k1)<|sS (iZ (k1+4)) (qad U U U)<|sP (.int .u64 ((y2.2:Nat):Int))<|sS (.pointer (some ⟨g4,0+(k1+4)*1,none⟩)) (Quiet.pure (Au 206 _ _ _ g4 0 _ (k1+4) 1 .i64 U U U Cz kF om))<|Sy.write kR 4 g4 206 (rw8 y2.1) (rw8 (upd y2.1 (k1+4) y2.2)) kR (Writes.one (0+(k1+4)*1) 40 (.int .u64 ((y2.2:Nat):Int)) _ _ U kR kR kR U U (Dp _ (k:=k1+4) om om) (Do _ _ om om))<|Sy.nil<|Sy.in_<|Sy.then_<|Sy.region<|sS (iZ (k1+1)) (qad U U U)<|sP (iZ (k1+1))<|Sy.nil ?_
   have hq:=Og hh1.2.1 hh2.2.2.1 (hh2.2.2.2 _ (Nat.le_refl _)) om
   exact Sy.againX (upd y2.1 (k1+4) y2.2) [true,true,true,true,true] om (⟨Ff hh2.1 hh2.2.1,hq,λt ht=>(Ik om).trans (hh2.2.2.2 t om)⟩) ac7 kR
  ·have lb2:=dY hb2
   refine sT<|Sy.skip<|Sy.then_<|Sy.seq<|Sy.block<|sC<|sP (iZ k2)<|sS (.int .u64 ((wd y k2:Nat):Int)) (Quiet.pure (Hf _ _ _ _ _ 4 k2 .i64 _ _ U U U Ak Bh U kF om (Hc y om U)))<|sP (iZ k2)<|sP (.int .u64 ((wd y k2:Nat):Int))<|sG<|Sy.region<|sP (iZ k1)<|sP (iZ k2)<|sS (iZ (k1+k2)) (qad U U U)<|sP (.int .u64 ((wd x k1:Nat):Int))<|sP (.int .u64 ((wd y k2:Nat):Int))<|sP (iZ k1)<|sP (iZ k2)<|sS (iZ (k1+k2)) (qad U U U)<|sS (.pointer (some ⟨g4,0+(k1+k2)*1,none⟩)) (Quiet.pure (Au 206 _ _ _ g4 0 _ (k1+k2) 1 .i64 U U U Cz kF om))<|sS (.int .u64 ((y2.1 (k1+k2):Nat):Int)) (Quiet.cell 4 g4 (0+(k1+k2)*1) 206 40 (rw8 y2.1) _ _ U kR kR Bh U _ (Fi y2.1 (k:=k1+k2) om om))<|sP (.int .u64 ((y2.2:Nat):Int)) ?_
   obtain ⟨lo,hi,llo,lhi,elo⟩:=Sc.step_ex (wd x k1) (wd y k2) (y2.1 (k1+k2)) y2.2 (by first | assumption | exact wd_lt _ _ | exact hh1.1 _ | exact hh2.1 _ | exact hh2.2.1 | decide) (by first | assumption | exact wd_lt _ _ | exact hh1.1 _ | exact hh2.1 _ | exact hh2.2.1 | decide) (by first | assumption | exact wd_lt _ _ | exact hh1.1 _ | exact hh2.1 _ | exact hh2.2.1 | decide) (by first | assumption | exact wd_lt _ _ | exact hh1.1 _ | exact hh2.1 _ | exact hh2.2.1 | decide)
   refine sS (.tuple #[.int .u64 ((lo:Nat):Int),.int .u64 ((hi:Nat):Int)]) (qF 218 #[.int .u64 ((wd x k1:Nat):Int),.int .u64 ((wd y k2:Nat):Int),.int .u64 ((y2.1 (k1+k2):Nat):Int),.int .u64 ((y2.2:Nat):Int)] (λw=>Sc.step_c w (wd x k1) (wd y k2) (y2.1 (k1+k2)) y2.2 lo hi (by first | assumption | exact wd_lt _ _ | exact hh1.1 _ | exact hh2.1 _ | exact hh2.2.1 | decide) (by first | assumption | exact wd_lt _ _ | exact hh1.1 _ | exact hh2.1 _ | exact hh2.2.1 | decide) (by first | assumption | exact wd_lt _ _ | exact hh1.1 _ | exact hh2.1 _ | exact hh2.2.1 | decide) (by first | assumption | exact wd_lt _ _ | exact hh1.1 _ | exact hh2.1 _ | exact hh2.2.1 | decide) llo elo))<|sP (.tuple #[.int .u64 ((lo:Nat):Int),.int .u64 ((hi:Nat):Int)])<|sP (.int .u64 ((lo:Nat):Int))<|sP (.int .u64 ((hi:Nat):Int))<|sS (.pointer (some ⟨g4,0+(k1+k2)*1,none⟩)) (Quiet.pure (Au 206 _ _ _ g4 0 _ (k1+k2) 1 .i64 U U U Cz kF om))<|Sy.write kR 4 g4 206 (rw8 y2.1) (rw8 (upd y2.1 (k1+k2) lo)) kR (Writes.one (0+(k1+k2)*1) 40 (.int .u64 ((lo:Nat):Int)) _ _ U kR kR kR U U (Dp _ (k:=k1+k2) om om) (Do _ _ om om))<|sP (.int .u64 ((hi:Nat):Int))<|Sy.nil<|Sy.in_<|Sy.then_<|Sy.region<|sS (iZ (k2+1)) (qad U U U)<|sP (iZ (k2+1))<|Sy.nil ?_
   have hin:=LX (Fc y2.1 (k1+k2) lo 8 om) hh2.2.2.1 elo (P0:=18446744073709551616 ^ k2) (by rw [Nat.add_comm,Nat.pow_add])
   exact Sy.againX ((upd y2.1 (k1+k2) lo,hi)) [true,true,true,true,true] om (⟨Ff hh2.1 llo,lhi,by rw [← Nat.add_assoc,Nat.pow_succ]; exact hin,λt ht=>(Ik om).trans (hh2.2.2.2 t ht)⟩) S2 kR
end Fz
namespace Sc
open Go.RowKit Go.Lib
theorem DP (w:World) (x y lo hi:Nat) (hx:x<(2^256)) (hy:y<(2^256)) (hlo:lo<(2^256)) (_:hi<(2^256)) (he:lo+(2^256)*hi=x*y):Calls Tryz.prog 166 #[fv x,fv y] w λe w'=>e=.returned (.tuple #[fv lo,fv hi])∧Below w.heap.size w w' :=
 Fz.productZ w x y lo hi hx hy (hid hlo) (hid he)
end Sc
end
section
namespace Sc
open Go.RowKit Go.Lib
theorem G3 (s h l h' s':Nat) (hl:l+(2^256)*h'=h*432420386565659656852420866394968145599) (hs:s'=Dx s l):(s'+(2^256)*h')%pM=(s+(2^256)*h)%pM:=by
 rw [hs,Dx,Nat.mod_add_mod]
 refine DU (k:=h) ?_
 omega
theorem JG (h:Nat) (_:h<(2^256)):∃ l h':Nat,l<(2^256)∧l+(2^256)*h'=h*432420386565659656852420866394968145599:=⟨h*432420386565659656852420866394968145599%(2^256),h*432420386565659656852420866394968145599 / (2^256),by omega,by omega⟩
theorem Si (w:World) (g:Nat) (hg:g=432420386565659656852420866394968145599):Calls Tryz.prog 167 #[] w λe w'=>e=.returned (fv g)∧Below w.heap.size w w':=by
 subst hg; exact Q5 w
theorem mulF_any (w:World) (x y:Nat) (hx:x<(2^256)) (hy:y<(2^256)):Calls Tryz.prog 104 #[fv x,fv y] w λe w'=>e=.returned (fv (mulP x y))∧Below w.heap.size w w':=by
 have hxy:x*y≤115792089237316195423570985008687907853269984665640564039457584007913129639935*115792089237316195423570985008687907853269984665640564039457584007913129639935:=Nat.mul_le_mul om om
 obtain ⟨s0,h0,ls0,lh0,e0⟩:∃ lo hi:Nat,lo<(2^256)∧hi<(2^256)∧lo+(2^256)*hi=x*y:=⟨x*y%(2^256),x*y / (2^256),by omega,by omega,by omega⟩
 obtain ⟨l1,h1,ll1,e1⟩:=JG h0 lh0
 have lh1:h1≤432420386565659656852420866394968145599:=om
 obtain ⟨l2,h2,ll2,e2⟩:=JG h1 om
 have lh2:h2≤2:=om
 obtain ⟨l3,h3,ll3,e3⟩:=JG h2 om
 have lh3:h3=0:=om
 obtain ⟨s1,hs1⟩:=xE (Dx s0 l1)
 obtain ⟨s2,hs2⟩:=xE (Dx s1 l2)
 obtain ⟨s3,hs3⟩:=xE (Dx s2 l3)
 have ls1:s1<(2^256):=by rw [hs1]; exact Mj _ _
 have ls2:s2<(2^256):=by rw [hs2]; exact Mj _ _
 have hfin:mulP x y=s3:=by
  have q1:=G3 s0 h0 l1 h1 s1 e1 hs1
  have q2:=G3 s1 h1 l2 h2 s2 e2 hs2
  have q3:=G3 s2 h2 l3 h3 s3 e3 hs3
  rw [q2,q1,e0,lh3,Nat.mul_zero,Nat.add_zero] at q3
  have:s3%pM=s3:=by rw [hs3,Dx,Nat.mod_mod]
  rw [mulP, ← q3,this]
 obtain ⟨g,hg⟩:∃ g,g=432420386565659656852420866394968145599:=⟨_,rfl⟩
 have cg:=λw=>Si w g hg
 have cp:=λw=>DP w x y s0 h0 hx hy ls0 lh0 e0
 have p1:=λw=>DP w h0 g l1 h1 lh0 om ll1 om (by rw [hg]; exact e1)
 have p2:=λw=>DP w h1 g l2 h2 om om ll2 om (by rw [hg]; exact e2)
 have p3:=λw=>DP w h2 g l3 h3 om om ll3 om (by rw [hg]; exact e3)
 have c1:∀ w,Calls Tryz.prog 140 #[fv s0,fv l1] w λe w'=>e=.returned (fv s1)∧Below w.heap.size w w':=by
  intro w; rw [hs1]; exact Dk w s0 l1 ls0 ll1
 have c2:∀ w,Calls Tryz.prog 140 #[fv s1,fv l2] w λe w'=>e=.returned (fv s2)∧Below w.heap.size w w':=by
  intro w; rw [hs2]; exact Dk w s1 l2 ls1 ll2
 have c3:∀ w,Calls Tryz.prog 140 #[fv s2,fv l3] w λe w'=>e=.returned (fv s3)∧Below w.heap.size w w':=by
  intro w; rw [hs3]; exact Dk w s2 l3 ls2 ll3
 rw [hfin]
 obtain ⟨x0,x1,x2,x3,fx⟩:=Ad x hx
 obtain ⟨y0,y1,y2,y3,fy⟩:=Ad y hy
 have FX:=Lib.hid fx
 have FY:=Lib.hid fy
 rw [fx,fy]
 clear fx fy hx hy hxy ls0 lh0 e0 ll1 e1 lh1 ll2 e2 lh2 ll3 e3 lh3 hs1 hs2 hs3 ls1 ls2 hfin hg
 go_enter Tryz.func104,Tryz.ntmps104
 go_wp2_with (first | ((with_reducible refine AD (d:=some 9) ?_); refine AB U _ _ U (w.heap.size) rfl (x) _ _ _ (((Blk.new w _ _).alloc _).alloc _) (FX.out) Ak U kZ ?_) | ((with_reducible refine AD (d:=some 10) ?_); refine AB U _ _ U (w.heap.size+1) rfl (y) _ _ _ ((AZ w _ _ _).alloc _) (FY.out) Ak U kZ ?_))
 refine (cp _).mono ?_
 rintro e w1 ⟨rfl,k1⟩
 have BR:Blk w1 (w.heap.size+2) 42 _:=Gr.blk k1 (Ao w _ _ _ _)
 have hB:=Below.gr (Aa w _ _ _) k1
 have sz:w.heap.size+2<w1.heap.size:=BR.lt
 clear k1 cp
 go_wp2_with (first | ((with_reducible refine AE ?_); refine AA U _ _ _ U (w1.heap.size) (fcs (s0)) U U _ _ ((Blk.new w1 _ _).alloc _) kZ (by rfl) (AF _) ?_; intro w2 hL2 hB2' hK2; have CR2:=hK2 _ om _ _ ((BR.alloc _).alloc _); have CH2:=hK2 _ om _ _ (AZ w1 _ _ _); have hB2:=((hB.alloc om _).alloc (by simp <;> omega) _).trans (hB2' _ om)) | ((with_reducible refine AE ?_); refine AA U _ _ _ U (w1.heap.size+1) (fcs (h0)) U U _ _ (CH2) kZ (by rfl) (AF _) ?_; intro w3 hL3 hB3' hK3; have CR3:=hK3 _ om _ _ CR2; have CS3:=hK3 _ om _ _ hL2; have hB3:=hB2.trans (hB3' _ om)))
 go_loopw [14] (λi wr=>Below w.heap.size w wr∧Blk wr (w.heap.size+2) 42 #[.int .u64 0,.int .u64 0,.int .u64 0,.int .u64 0]∧Hid ((i=.int .i64 0∧Blk wr w1.heap.size 42 (fcs s0)∧Blk wr (w1.heap.size+1) 42 (fcs h0))∨(i=.int .i64 1∧Blk wr w1.heap.size 42 (fcs s1)∧Blk wr (w1.heap.size+1) 42 (fcs h1))∨(i=.int .i64 2∧Blk wr w1.heap.size 42 (fcs s2)∧Blk wr (w1.heap.size+1) 42 (fcs h2))∨(i=.int .i64 3∧Blk wr w1.heap.size 42 (fcs s3)∧Blk wr (w1.heap.size+1) 42 (fcs h3)))) (λi _=>3 - (intOf i).toNat)
 case atStart=>exact ⟨hB3,CR3,Lib.hid (.inl ⟨rfl,CS3,hL3⟩)⟩
 case round =>
  obtain ⟨hb,CR,HI⟩:=hrel
  rcases HI.out with ⟨rfl,BS,BH⟩ | ⟨rfl,BS,BH⟩ | ⟨rfl,BS,BH⟩ | ⟨rfl,BS,BH⟩
  ·clear HI
   have szr:w1.heap.size+1<wr.heap.size:=BH.lt
   go_wp2
   refine wp_region_G (λj=>j == 6 || j == 7) kZ ?_
   try simp only [Act.put]
   refine tkw 0 U (YieldsG.loadF (by rfl) _ _ U (w1.heap.size+1) rfl (h0) _ _ (BH.alloc _) (AV _) Ak U kZ) ?_
   try simp only [aPS]
   refine tkw 1 U (YieldsG.call (v:=fv g) (by rfl) 167 _ (λw9=>by go_simp; try (first | with_reducible rfl | rfl)) (λw9 h9=>cg w9)) ?_
   try simp only [aPS]
   refine tkw 2 U (YieldsG.call (v:=.tuple #[fv l1,fv h1]) (by rfl) 166 _ (λw9=>by go_simp; try (first | with_reducible rfl | rfl)) (λw9 h9=>p1 w9)) ?_
   try simp only [aPS]
   refine tk 3 U ?_
   try simp only [aPS]
   refine tk 4 U ?_
   try simp only [aPS]
   refine AW 5 U kZ (λ_ _ _ h=>h) (λ_=>YieldsG.pure (by rfl) (λw9 _=>by go_simp; try with_reducible rfl)) ?_
   try simp only [aPS]
   refine A8 6 U kZ (by rfl) _ _ _ U (wr.heap.size) (fcs l1) rfl U _ _ (Blk.new wr _ _) kZ (by rfl) (AF _) rfl (λu1 g1 v1 hB1 hK1 hL1=>?_)
   try simp only [Act.put]
   have BH1:=hK1 _ om _ _ (Gr.blk g1 (BH.alloc _))
   have BS1:=hK1 _ om _ _ (Gr.blk g1 (BS.alloc _))
   have CR1:=hK1 _ om _ _ (Gr.blk g1 (CR.alloc _))
   have hb1:=(Below.gr (hb.alloc om _) g1).trans (hB1 _ om)
   refine A8 7 U kZ (by rfl) _ _ _ U (w1.heap.size+1) (fcs h1) rfl U _ _ (BH1) kZ (by rfl) (AF _) rfl (λu2 g2 v2 hB2 hK2 hL2=>?_)
   try simp only [Act.put]
   have BL2:=hK2 _ om _ _ (Gr.blk g2 hL1)
   have BS2:=hK2 _ om _ _ (Gr.blk g2 BS1)
   have CR2:=hK2 _ om _ _ (Gr.blk g2 CR1)
   have hb2:=(Below.gr hb1 g2).trans (hB2 _ om)
   refine wpAnyG_done kZ (λv hv=>?_)
   have DH:=Gr.blk hv hL2
   have DL:=Gr.blk hv BL2
   have DS:=Gr.blk hv BS2
   have DR:=Gr.blk hv CR2
   have hbv:=Below.gr hb2 hv
   clear hv g1 g2 BH1 BS1 CR1 hb1 BL2 BS2 CR2 hb2 hL1 hL2 hB1 hB2 hK1 hK2
   go_wp2_with (first | ((with_reducible refine AD (d:=some 22) ?_); refine AB U _ _ U (w1.heap.size) rfl (s0) _ _ _ (DS) (AV _) Ak U kZ ?_) | ((with_reducible refine AD (d:=some 23) ?_); refine AB U _ _ U (wr.heap.size) rfl (l1) _ _ _ (DL) (AV _) Ak U kZ ?_))
   refine (c1 _).mono ?_
   rintro e y1 ⟨rfl,k1⟩
   have EH:=Gr.blk k1 DH
   have ES:=Gr.blk k1 DS
   have ER:=Gr.blk k1 DR
   have hby:=Below.gr hbv k1
   clear k1
   go_wp2_with (first | ((with_reducible refine AE ?_); refine AA U _ _ _ U (w1.heap.size) (fcs (s1)) U U _ _ (ES) kZ (by rfl) (AF _) ?_; intro y2 hLy hBy hKy))
   exact ⟨⟨hby.trans (hBy _ om),hKy _ om _ _ ER,Lib.hid (.inr (.inl (⟨rfl,hLy,hKy _ om _ _ EH⟩)))⟩,by decide⟩
  ·clear HI
   have szr:w1.heap.size+1<wr.heap.size:=BH.lt
   go_wp2
   refine wp_region_G (λj=>j == 6 || j == 7) kZ ?_
   try simp only [Act.put]
   refine tkw 0 U (YieldsG.loadF (by rfl) _ _ U (w1.heap.size+1) rfl (h1) _ _ (BH.alloc _) (AV _) Ak U kZ) ?_
   try simp only [aPS]
   refine tkw 1 U (YieldsG.call (v:=fv g) (by rfl) 167 _ (λw9=>by go_simp; try (first | with_reducible rfl | rfl)) (λw9 h9=>cg w9)) ?_
   try simp only [aPS]
   refine tkw 2 U (YieldsG.call (v:=.tuple #[fv l2,fv h2]) (by rfl) 166 _ (λw9=>by go_simp; try (first | with_reducible rfl | rfl)) (λw9 h9=>p2 w9)) ?_
   try simp only [aPS]
   refine tk 3 U ?_
   try simp only [aPS]
   refine tk 4 U ?_
   try simp only [aPS]
   refine AW 5 U kZ (λ_ _ _ h=>h) (λ_=>YieldsG.pure (by rfl) (λw9 _=>by go_simp; try with_reducible rfl)) ?_
   try simp only [aPS]
   refine A8 6 U kZ (by rfl) _ _ _ U (wr.heap.size) (fcs l2) rfl U _ _ (Blk.new wr _ _) kZ (by rfl) (AF _) rfl (λu1 g1 v1 hB1 hK1 hL1=>?_)
   try simp only [Act.put]
   have BH1:=hK1 _ om _ _ (Gr.blk g1 (BH.alloc _))
   have BS1:=hK1 _ om _ _ (Gr.blk g1 (BS.alloc _))
   have CR1:=hK1 _ om _ _ (Gr.blk g1 (CR.alloc _))
   have hb1:=(Below.gr (hb.alloc om _) g1).trans (hB1 _ om)
   refine A8 7 U kZ (by rfl) _ _ _ U (w1.heap.size+1) (fcs h2) rfl U _ _ (BH1) kZ (by rfl) (AF _) rfl (λu2 g2 v2 hB2 hK2 hL2=>?_)
   try simp only [Act.put]
   have BL2:=hK2 _ om _ _ (Gr.blk g2 hL1)
   have BS2:=hK2 _ om _ _ (Gr.blk g2 BS1)
   have CR2:=hK2 _ om _ _ (Gr.blk g2 CR1)
   have hb2:=(Below.gr hb1 g2).trans (hB2 _ om)
   refine wpAnyG_done kZ (λv hv=>?_)
   have DH:=Gr.blk hv hL2
   have DL:=Gr.blk hv BL2
   have DS:=Gr.blk hv BS2
   have DR:=Gr.blk hv CR2
   have hbv:=Below.gr hb2 hv
   clear hv g1 g2 BH1 BS1 CR1 hb1 BL2 BS2 CR2 hb2 hL1 hL2 hB1 hB2 hK1 hK2
   go_wp2_with (first | ((with_reducible refine AD (d:=some 22) ?_); refine AB U _ _ U (w1.heap.size) rfl (s1) _ _ _ (DS) (AV _) Ak U kZ ?_) | ((with_reducible refine AD (d:=some 23) ?_); refine AB U _ _ U (wr.heap.size) rfl (l2) _ _ _ (DL) (AV _) Ak U kZ ?_))
   refine (c2 _).mono ?_
   rintro e y1 ⟨rfl,k1⟩
   have EH:=Gr.blk k1 DH
   have ES:=Gr.blk k1 DS
   have ER:=Gr.blk k1 DR
   have hby:=Below.gr hbv k1
   clear k1
   go_wp2_with (first | ((with_reducible refine AE ?_); refine AA U _ _ _ U (w1.heap.size) (fcs (s2)) U U _ _ (ES) kZ (by rfl) (AF _) ?_; intro y2 hLy hBy hKy))
   exact ⟨⟨hby.trans (hBy _ om),hKy _ om _ _ ER,Lib.hid (.inr (.inr (.inl (⟨rfl,hLy,hKy _ om _ _ EH⟩))))⟩,by decide⟩
  ·clear HI
   have szr:w1.heap.size+1<wr.heap.size:=BH.lt
   go_wp2
   refine wp_region_G (λj=>j == 6 || j == 7) kZ ?_
   try simp only [Act.put]
   refine tkw 0 U (YieldsG.loadF (by rfl) _ _ U (w1.heap.size+1) rfl (h2) _ _ (BH.alloc _) (AV _) Ak U kZ) ?_
   try simp only [aPS]
   refine tkw 1 U (YieldsG.call (v:=fv g) (by rfl) 167 _ (λw9=>by go_simp; try (first | with_reducible rfl | rfl)) (λw9 h9=>cg w9)) ?_
   try simp only [aPS]
   refine tkw 2 U (YieldsG.call (v:=.tuple #[fv l3,fv h3]) (by rfl) 166 _ (λw9=>by go_simp; try (first | with_reducible rfl | rfl)) (λw9 h9=>p3 w9)) ?_
   try simp only [aPS]
   refine tk 3 U ?_
   try simp only [aPS]
   refine tk 4 U ?_
   try simp only [aPS]
   refine AW 5 U kZ (λ_ _ _ h=>h) (λ_=>YieldsG.pure (by rfl) (λw9 _=>by go_simp; try with_reducible rfl)) ?_
   try simp only [aPS]
   refine A8 6 U kZ (by rfl) _ _ _ U (wr.heap.size) (fcs l3) rfl U _ _ (Blk.new wr _ _) kZ (by rfl) (AF _) rfl (λu1 g1 v1 hB1 hK1 hL1=>?_)
   try simp only [Act.put]
   have BH1:=hK1 _ om _ _ (Gr.blk g1 (BH.alloc _))
   have BS1:=hK1 _ om _ _ (Gr.blk g1 (BS.alloc _))
   have CR1:=hK1 _ om _ _ (Gr.blk g1 (CR.alloc _))
   have hb1:=(Below.gr (hb.alloc om _) g1).trans (hB1 _ om)
   refine A8 7 U kZ (by rfl) _ _ _ U (w1.heap.size+1) (fcs h3) rfl U _ _ (BH1) kZ (by rfl) (AF _) rfl (λu2 g2 v2 hB2 hK2 hL2=>?_)
   try simp only [Act.put]
   have BL2:=hK2 _ om _ _ (Gr.blk g2 hL1)
   have BS2:=hK2 _ om _ _ (Gr.blk g2 BS1)
   have CR2:=hK2 _ om _ _ (Gr.blk g2 CR1)
   have hb2:=(Below.gr hb1 g2).trans (hB2 _ om)
   refine wpAnyG_done kZ (λv hv=>?_)
   have DH:=Gr.blk hv hL2
   have DL:=Gr.blk hv BL2
   have DS:=Gr.blk hv BS2
   have DR:=Gr.blk hv CR2
   have hbv:=Below.gr hb2 hv
   clear hv g1 g2 BH1 BS1 CR1 hb1 BL2 BS2 CR2 hb2 hL1 hL2 hB1 hB2 hK1 hK2
   go_wp2_with (first | ((with_reducible refine AD (d:=some 22) ?_); refine AB U _ _ U (w1.heap.size) rfl (s2) _ _ _ (DS) (AV _) Ak U kZ ?_) | ((with_reducible refine AD (d:=some 23) ?_); refine AB U _ _ U (wr.heap.size) rfl (l3) _ _ _ (DL) (AV _) Ak U kZ ?_))
   refine (c3 _).mono ?_
   rintro e y1 ⟨rfl,k1⟩
   have EH:=Gr.blk k1 DH
   have ES:=Gr.blk k1 DS
   have ER:=Gr.blk k1 DR
   have hby:=Below.gr hbv k1
   clear k1
   go_wp2_with (first | ((with_reducible refine AE ?_); refine AA U _ _ _ U (w1.heap.size) (fcs (s3)) U U _ _ (ES) kZ (by rfl) (AF _) ?_; intro y2 hLy hBy hKy))
   exact ⟨⟨hby.trans (hBy _ om),hKy _ om _ _ ER,Lib.hid (.inr (.inr (.inr (⟨rfl,hLy,hKy _ om _ _ EH⟩))))⟩,by decide⟩
  ·clear HI
   go_wp2_with (first | ((with_reducible refine AD (d:=some 26) ?_); refine AB U _ _ U (w1.heap.size) rfl (s3) _ _ _ (BS) (AV _) Ak U kZ ?_) | ((with_reducible refine AE ?_); refine AA U _ _ _ U (w.heap.size+2) (fcs (s3)) U U _ _ (CR) kZ (by rfl) (AF _) ?_; intro w9 hL9 hB9 hK9))
   exact bodyPost_ret (results_cell_row U _ _ (w.heap.size+2) _ _ (0,0) _ U hL9 Ak U kZ) rfl ⟨rfl,hb.trans (hB9 _ om)⟩
end Sc
end
section
namespace Sh
open Go.RowKit Sp
end Sh
end
section
namespace Cu
open Go.RowKit Sy
end Cu
end
section
namespace Cu
open Go.RowKit Sy
end Cu
end
section
namespace Cu
open Go.RowKit Sy
section
variable {P:Program} {w0:Base} {n:Nat} {F:AK} {L:AC}
theorem I3 {w1:World} {fn:Func} {r:ResultVar} {v:Value} {R:Value→AC→Prop} (i:Nat) (b:Nat×TypeId×Array Value) (hr:fn.results=#[r]) (h:Has P F L r v) (hb:L[i]? = some b) (hR:R v [b]):X (Base.of w1) n (bodyPost P fn (GetsN w1 R)) F L .ret:=λa w ha hw=>by
 refine bodyPost_ret (v:=v) ?_ ha.1 ⟨v,[b],rfl,hR,hw.below,λg t cs hm=>?_,by simp⟩
 ·rcases Res.run h ha hw with ⟨t,rfl,e1⟩ | ⟨t,ty,ad,rfl,e1,e2⟩ <;> simp [results,Result.andThen, *]
 ·obtain rfl:=List.mem_singleton.1 hm
  exact hw.blk _ _ _ (List.mem_of_getElem? hb)
end
theorem MH {l:List UInt8} {k:Nat} {sp:List Value} (h:l.length=k):(((l.map bv++sp).toArray).toList.drop 0).take k=l.map bv:=by
 rw [List.drop_zero,List.take_append_of_le_length (by rw [List.length_map,h]; exact Nat.le_refl _),List.take_of_length_le (by rw [List.length_map,h]; exact Nat.le_refl _)]
theorem JA (l:List UInt8):∀ u∈l.map bv,u.oneCell'=true:=λu hu=>by
 obtain ⟨x,_,rfl⟩:=List.mem_map.1 hu
 rfl
theorem Hn (w:World) (x:Nat) (hx:x<K4):Calls Tryz.prog 108 #[fv x] w (GetsN w (λvq Mq=>∃ (g:Nat) (sp:List Value) (cap:Nat),vq=.slice (pA g) 32 cap∧Mq=[(g,5,((AY x).map bv++sp).toArray)])):=by
 refine (Lp w x hx).mono ?_
 rintro e w' ⟨g,cap,rfl,ho,hl,hb⟩
 rcases ho.2 with ⟨h0,_⟩ | ⟨g',cap',cur,hv,hg,hk,_,q4,q5,q6⟩
 ·cases h0
 ·cases hv
  have hc:cur=((AY x).map bv++cur.toList.drop 32).toArray:=by
   rw [Nat.mul_one,AQ] at q6
   rw [← q6,List.take_append_drop]
  refine ⟨_,[(g,5,cur)],rfl,⟨g,cur.toList.drop 32,cap,rfl,by rw [← hc]⟩,hb,λg1 t1 cs1 hm=>?_,by simp⟩
  simp only [List.mem_singleton,Prod.mk.injEq] at hm
  obtain ⟨rfl,rfl,rfl⟩:=hm
  exact ⟨by omega,hk⟩
theorem TK (w:World) (F:AK) (o:Oper) (x y:Operand) (n:Nat) {yt:TypeId} (ho:o.op=.binOp .rem 40 x y yt) (hx:evF F x=.int .u64 (n:Int)) (hy:evF F y=.int .u64 2) (hn:n<18446744073709551616):(execOp (evF F) o).run Tryz.prog w=.ok (.value (.int .u64 ((n%2:Nat):Int))) w:=by
 have h:(binOp .rem 40 (.int .u64 (n:Int)) (.int .u64 2)).run Tryz.prog w=.ok (.int .u64 ((n%2:Nat):Int)) w:=by
  go_simp
  exact Int.tmod_eq_emod_of_nonneg om
 have h1:(eqGuard .rem 40 x y (.int .u64 (n:Int)) (.int .u64 2)).run Tryz.prog w=.ok () w:=by go_simp
 unfold execOp
 simp only [ho,hx,hy,Sem.run_bind,h1,h,Result.andThen_ok,Sem.run_pure]
theorem Nk (w:World) (x y:Nat) (i:Bool) (hx:x<K4) (hy:y<K4) (h:dec x y i=none):Calls Tryz.prog 42 #[pv x y i] w (GetsN w (λvq Mq=>∃ (g:Nat) (sp:List Value) (cap:Nat),vq=.slice (pA g) 33 cap∧(33≤cap∧cap≤9223372036854775807)∧Mq=[(g,5,((Aw none).map bv++sp).toArray)])):=by
 refine Sy.enter (args:=[pv x y i]) Tryz.func42 U kL<|sC<|sM 48 (pcs x y i) (λg0=>?_)
 refine sP (.slice none 0 0)<|sA<|sS (pv x y i) (qL 0 g0 0 9 48 48 (pcs x y i) rfl Ac)<|sS (pv 0 0 true) (qF 45 #[pv x y i] (λw=>by have hrr:=Bl w x y i lK lK; rw [h] at hrr; exact hrr))<|sW 0 g0 48 (pcs x y i) (pcs 0 0 true) (wS 0 48 (pcs 0 0 true) rfl)<|sA<|Sy.make kR 5 (Zl 33).toArray (λg=>.slice (pA g) 33 33) kF (λg1=>?_)
 refine sP (.slice (pA g1) 33 33)<|sG<|Sy.seq<|sC<|sP (pT g0 8)<|sS (.bool true) (qC 0 g0 8 48 4 (pcs 0 0 true) rfl uy4)<|sG<|sT<|sC<|sP (.slice (pA g1) 33 33)<|sP (.slice (pA g1) 33 33)<|sG<|Sy.ret<|Sy.then_ret ?_
 exact I3 1 (g1,5,(Zl 33).toArray) rfl (v:=.slice (pA g1) 33 33) (.inl (show _=_ by kernel_rfl)) kR ⟨g1,[],33,rfl,⟨by decide,by decide⟩,by kernel_rfl⟩
theorem Nl (w:World) (x y:Nat) (i:Bool) (hx:x<K4) (hy:y<K4) (u v:Fp) (h:dec x y i=some (u,v)) (hv:v.val%2=0):Calls Tryz.prog 42 #[pv x y i] w (GetsN w (λvq Mq=>∃ (g:Nat) (sp:List Value) (cap:Nat),vq=.slice (pA g) 33 cap∧(33≤cap∧cap≤9223372036854775807)∧Mq=[(g,5,((Aw (some (u,v))).map bv++sp).toArray)])):=by
 have hv2:v.val%18446744073709551616%2=0:=om
 refine Sy.enter (args:=[pv x y i]) Tryz.func42 U kL<|sC<|sM 48 (pcs x y i) (λg0=>?_)
 refine sP (.slice none 0 0)<|sA<|sS (pv x y i) (qL 0 g0 0 9 48 48 (pcs x y i) rfl Ac)<|sS (pv u.val v.val false) (qF 45 #[pv x y i] (λw=>by have hrr:=Bl w x y i lK lK; rw [h] at hrr; exact hrr))<|sW 0 g0 48 (pcs x y i) (pcs u.val v.val false) (wS 0 48 (pcs u.val v.val false) rfl)<|sA<|Sy.make kR 5 (Zl 33).toArray (λg=>.slice (pA g) 33 33) kF (λg1=>?_)
 refine sP (.slice (pA g1) 33 33)<|sG<|Sy.seq<|sC<|sP (pT g0 8)<|sS (.bool false) (qC 0 g0 8 48 4 (pcs u.val v.val false) rfl uy4)<|sG<|sU<|Sy.skip<|sB<|sP (pT g0 4)<|sP (pT g0 4)<|sS (qv (v.val%18446744073709551616)) (qC 0 g0 4 48 40 (pcs u.val v.val false) rfl Bh)<|sS (.int .u64 0) (Quiet.pure (λw=>(TK w _ _ _ _ (v.val%18446744073709551616) rfl U U (Nat.mod_lt _ dZ)).trans (by rw [hv2]; rfl)))<|sP (.int .u64 2)<|sP (bv 2)<|Sy.make kR 5 #[bv 2] (λg=>.slice (pA g) 1 1) kF (λg2=>?_)
 refine sP (.slice (pA g2) 1 1)<|sA<|sP (.slice (pA g2) 1 1)<|sP (pT g0 0)<|sS (fv u.val) (qL 0 g0 0 4 48 46 (pcs u.val v.val false) rfl AG)<|sS (fv u.val) (qF 49 #[fv u.val] (λw=>refOf_any w u.val lK))<|Sy.callN kR 108 #[fv u.val] kF (λvq Mq=>∃ (g:Nat) (sp:List Value) (cap:Nat),vq=.slice (pA g) 32 cap∧Mq=[(g,5,((AY u.val).map bv++sp).toArray)]) (λw _=>Hn w u.val (lt4 _)) (λvq Mq hR0=>?_)
 obtain ⟨g9,sp9,cp9,rfl,rfl⟩:=hR0
 refine Sy.append kR 24 5 _ _ CI JF U U U U _ _ U 2 g2 1 1 #[bv 2] [bv 2] kR kR kR U kR dZ 3 g9 0 32 cp9 5 ((AY u.val).map bv++sp9).toArray ((AY u.val).map bv) kR kR (MH (AQ _)) (by rw [List.length_map]; exact (AQ _)) (JA _) dZ (λq1 c1 s1 e1 m1=>?_)
 refine sP (.slice (pA q1) (1+32) c1)<|sG<|Sy.ret ?_
 exact I3 2 (q1,5,([bv 2]++((AY u.val).map bv++s1)).toArray) rfl (v:=.slice (pA q1) (1+32) c1) (.inl (show _=_ by kernel_rfl)) kR ⟨q1,s1,c1,rfl,⟨by omega,by simp only [maxLen] at m1; omega⟩,by rw [show Aw (some (u,v))=2::AY u.val from by show (if v.val%2=1 then (3:UInt8) else 2)::AY u.val=_; rw [if_neg om]]; rfl⟩
theorem PJ (w:World) (x y:Nat) (i:Bool) (hx:x<K4) (hy:y<K4) (u v:Fp) (h:dec x y i=some (u,v)) (hv:v.val%2=1):Calls Tryz.prog 42 #[pv x y i] w (GetsN w (λvq Mq=>∃ (g:Nat) (sp:List Value) (cap:Nat),vq=.slice (pA g) 33 cap∧(33≤cap∧cap≤9223372036854775807)∧Mq=[(g,5,((Aw (some (u,v))).map bv++sp).toArray)])):=by
 have hv2:v.val%18446744073709551616%2=1:=om
 refine Sy.enter (args:=[pv x y i]) Tryz.func42 U kL<|sC<|sM 48 (pcs x y i) (λg0=>?_)
 refine sP (.slice none 0 0)<|sA<|sS (pv x y i) (qL 0 g0 0 9 48 48 (pcs x y i) rfl Ac)<|sS (pv u.val v.val false) (qF 45 #[pv x y i] (λw=>by have hrr:=Bl w x y i lK lK; rw [h] at hrr; exact hrr))<|sW 0 g0 48 (pcs x y i) (pcs u.val v.val false) (wS 0 48 (pcs u.val v.val false) rfl)<|sA<|Sy.make kR 5 (Zl 33).toArray (λg=>.slice (pA g) 33 33) kF (λg1=>?_)
 refine sP (.slice (pA g1) 33 33)<|sG<|Sy.seq<|sC<|sP (pT g0 8)<|sS (.bool false) (qC 0 g0 8 48 4 (pcs u.val v.val false) rfl uy4)<|sG<|sU<|Sy.skip<|sB<|sP (pT g0 4)<|sP (pT g0 4)<|sS (qv (v.val%18446744073709551616)) (qC 0 g0 4 48 40 (pcs u.val v.val false) rfl Bh)<|sS (.int .u64 1) (Quiet.pure (λw=>(TK w _ _ _ _ (v.val%18446744073709551616) rfl U U (Nat.mod_lt _ dZ)).trans (by rw [hv2]; rfl)))<|sP (.int .u64 3)<|sP (bv 3)<|Sy.make kR 5 #[bv 3] (λg=>.slice (pA g) 1 1) kF (λg2=>?_)
 refine sP (.slice (pA g2) 1 1)<|sA<|sP (.slice (pA g2) 1 1)<|sP (pT g0 0)<|sS (fv u.val) (qL 0 g0 0 4 48 46 (pcs u.val v.val false) rfl AG)<|sS (fv u.val) (qF 49 #[fv u.val] (λw=>refOf_any w u.val lK))<|Sy.callN kR 108 #[fv u.val] kF (λvq Mq=>∃ (g:Nat) (sp:List Value) (cap:Nat),vq=.slice (pA g) 32 cap∧Mq=[(g,5,((AY u.val).map bv++sp).toArray)]) (λw _=>Hn w u.val (lt4 _)) (λvq Mq hR0=>?_)
 obtain ⟨g9,sp9,cp9,rfl,rfl⟩:=hR0
 refine Sy.append kR 24 5 _ _ CI JF U U U U _ _ U 2 g2 1 1 #[bv 3] [bv 3] kR kR kR U kR dZ 3 g9 0 32 cp9 5 ((AY u.val).map bv++sp9).toArray ((AY u.val).map bv) kR kR (MH (AQ _)) (by rw [List.length_map]; exact (AQ _)) (JA _) dZ (λq1 c1 s1 e1 m1=>?_)
 refine sP (.slice (pA q1) (1+32) c1)<|sG<|Sy.ret ?_
 exact I3 2 (q1,5,([bv 3]++((AY u.val).map bv++s1)).toArray) rfl (v:=.slice (pA q1) (1+32) c1) (.inl (show _=_ by kernel_rfl)) kR ⟨q1,s1,c1,rfl,⟨by omega,by simp only [maxLen] at m1; omega⟩,by rw [show Aw (some (u,v))=3::AY u.val from by show (if v.val%2=1 then (3:UInt8) else 2)::AY u.val=_; rw [if_pos om]]; rfl⟩
theorem Hh (w:World) (x y:Nat) (i:Bool) (hx:x<K4) (hy:y<K4):Calls Tryz.prog 42 #[pv x y i] w (GetsN w (λvq Mq=>∃ (g:Nat) (sp:List Value) (cap:Nat),vq=.slice (pA g) 33 cap∧(33≤cap∧cap≤9223372036854775807)∧Mq=[(g,5,((Aw (dec x y i)).map bv++sp).toArray)])):=by
 rcases h:dec x y i with _ | ⟨u,v⟩
 ·exact Nk w x y i hx hy h
 ·rcases Nat.mod_two_eq_zero_or_one v.val with hv | hv
  ·exact Nl w x y i hx hy u v h hv
  ·exact PJ w x y i hx hy u v h hv
end Cu
end
section
section
open Go.RowKit Go.Lib
theorem J5 (w:World) (g cap:Nat) (l:List UInt8) (hl:l.length=32) (hg:g<w.heap.size) (hcell:∀ j u,l[j]? = some u→w.cell? ⟨g,j,none⟩=some (bv u)) (_:32≤cap) (_:cap≤9223372036854775807):Calls Tryz.prog 127 #[.slice (pA g) 32 cap] w λe w'=>e=.returned (fv (Ai l))∧Below w.heap.size w w':=by
 have HL:=Lib.hid hl
 have HG:=Lib.hid hcell
 clear hl hcell
 go_enter Tryz.func127,Tryz.ntmps127
 go_wp2_with fail
 go_loopw [4] (λi wr=>∃ k y0 y1 y2 y3:Nat,k≤32∧i=.int .i64 (k:Int)∧Hid (y0=wdB l k 0∧y1=wdB l k 1∧y2=wdB l k 2∧y3=wdB l k 3)∧Below w.heap.size w wr∧Blk wr (w.heap.size+1) 90 #[.int .u64 (y3:Int),.int .u64 (y2:Int),.int .u64 (y1:Int),.int .u64 (y0:Int)]∧Blk wr w.heap.size 90 #[.int .u64 0,.int .u64 0,.int .u64 0,.int .u64 0]) (λi _=>32 - (intOf i).toNat)
 case atStart=>exact ⟨0,0,0,0,0,by omega,rfl,Lib.hid ⟨(Br l 0).symm,(Br l 1).symm,(Br l 2).symm,(Br l 3).symm⟩,Ab w _ _,AZ w _ _ _,(Blk.new w _ _).alloc _⟩
 case round =>
  obtain ⟨k,y0,y1,y2,y3,hk,rfl,HY,hb,hP,hR⟩:=hrel
  have q3:wr.cell? ⟨w.heap.size+1,0,none⟩=some (.int .u64 (y3:Int)):=hP.cell 0
  have q2:wr.cell? ⟨w.heap.size+1,1,none⟩=some (.int .u64 (y2:Int)):=hP.cell 1
  have q1:wr.cell? ⟨w.heap.size+1,2,none⟩=some (.int .u64 (y1:Int)):=hP.cell 2
  have q0:wr.cell? ⟨w.heap.size+1,3,none⟩=some (.int .u64 (y0:Int)):=hP.cell 3
  have ff:∀ j,wr.frozen? ⟨w.heap.size+1,j,none⟩=false:=λj=>hP.frozen j
  by_cases hlt:k<32
  ·obtain ⟨c,hc⟩:∃ c,l[k]? = some c:=⟨l[k]'(by rw [HL.out]; exact hlt),List.getElem?_eq_getElem _⟩
   have HC:=Lib.hid hc
   obtain ⟨m,hm⟩:=xE c.toNat
   have hm8:m<256:=by rw [hm]; exact c.toNat_lt
   have hI:wr.cell? ⟨g,k,none⟩=some (.int .u8 (m:Int)):=by
    rw [hm]
    exact (hb.cell (p:=⟨g,k,none⟩) hg).trans (HG.out k c hc)
   have HM:=Lib.hid hm
   have HR:=Lib.hid (And.intro hb (And.intro hP hR))
   clear hb hP hR hc hk hm
   rcases (show k=0∨k=1∨k=2∨k=3∨k=4∨k=5∨k=6∨k=7∨k=8∨k=9∨k=10∨k=11∨k=12∨k=13∨k=14∨k=15∨k=16∨k=17∨k=18∨k=19∨k=20∨k=21∨k=22∨k=23∨k=24∨k=25∨k=26∨k=27∨k=28∨k=29∨k=30∨k=31 by omega) with rfl | rfl | rfl | rfl | rfl | rfl | rfl | rfl | rfl | rfl | rfl | rfl | rfl | rfl | rfl | rfl | rfl | rfl | rfl | rfl | rfl | rfl | rfl | rfl | rfl | rfl | rfl | rfl | rfl | rfl | rfl | rfl
   all_goals
    first
    | ((have hy:y0<72057594037927936:=by rw [HY.out.1]; exact Cx l _ 0 dZ); go_wp2; go_region; all_goals go_wp2; all_goals (refine ⟨⟨_,y0*256+m,y1,y2,y3,by decide,rfl,Lib.hid ⟨by rw [HY.out.1,HM.out]; exact (Bu l _ 0 c HC.out dZ).symm,by rw [HY.out.2.1]; exact (Ah l _ 1 dZ).symm,by rw [HY.out.2.2.1]; exact (Ah l _ 2 dZ).symm,by rw [HY.out.2.2.2]; exact (Ah l _ 3 dZ).symm⟩,(HR.out.1.setCell (by show w.heap.size≤w.heap.size+1; omega) _).drew,Blk.drew (Blk.eq_ (HR.out.2.1.set_ 3 _) (by rw [show ((y0*256+m:Nat):Int)=(y0:Int)*256+(m:Int) by omega]; rfl)),Blk.drew (HR.out.2.2.far (by show w.heap.size≠w.heap.size+1; omega) _)⟩,by simp [intOf]⟩))
    | ((have hy:y1<72057594037927936:=by rw [HY.out.2.1]; exact Cx l _ 1 dZ); go_wp2; go_region; all_goals go_wp2; all_goals (refine ⟨⟨_,y0,y1*256+m,y2,y3,by decide,rfl,Lib.hid ⟨by rw [HY.out.1]; exact (Ah l _ 0 dZ).symm,by rw [HY.out.2.1,HM.out]; exact (Bu l _ 1 c HC.out dZ).symm,by rw [HY.out.2.2.1]; exact (Ah l _ 2 dZ).symm,by rw [HY.out.2.2.2]; exact (Ah l _ 3 dZ).symm⟩,(HR.out.1.setCell (by show w.heap.size≤w.heap.size+1; omega) _).drew,Blk.drew (Blk.eq_ (HR.out.2.1.set_ 2 _) (by rw [show ((y1*256+m:Nat):Int)=(y1:Int)*256+(m:Int) by omega]; rfl)),Blk.drew (HR.out.2.2.far (by show w.heap.size≠w.heap.size+1; omega) _)⟩,by simp [intOf]⟩))
    | ((have hy:y2<72057594037927936:=by rw [HY.out.2.2.1]; exact Cx l _ 2 dZ); go_wp2; go_region; all_goals go_wp2; all_goals (refine ⟨⟨_,y0,y1,y2*256+m,y3,by decide,rfl,Lib.hid ⟨by rw [HY.out.1]; exact (Ah l _ 0 dZ).symm,by rw [HY.out.2.1]; exact (Ah l _ 1 dZ).symm,by rw [HY.out.2.2.1,HM.out]; exact (Bu l _ 2 c HC.out dZ).symm,by rw [HY.out.2.2.2]; exact (Ah l _ 3 dZ).symm⟩,(HR.out.1.setCell (by show w.heap.size≤w.heap.size+1; omega) _).drew,Blk.drew (Blk.eq_ (HR.out.2.1.set_ 1 _) (by rw [show ((y2*256+m:Nat):Int)=(y2:Int)*256+(m:Int) by omega]; rfl)),Blk.drew (HR.out.2.2.far (by show w.heap.size≠w.heap.size+1; omega) _)⟩,by simp [intOf]⟩))
    | ((have hy:y3<72057594037927936:=by rw [HY.out.2.2.2]; exact Cx l _ 3 dZ); go_wp2; go_region; all_goals go_wp2; all_goals (refine ⟨⟨_,y0,y1,y2,y3*256+m,by decide,rfl,Lib.hid ⟨by rw [HY.out.1]; exact (Ah l _ 0 dZ).symm,by rw [HY.out.2.1]; exact (Ah l _ 1 dZ).symm,by rw [HY.out.2.2.1]; exact (Ah l _ 2 dZ).symm,by rw [HY.out.2.2.2,HM.out]; exact (Bu l _ 3 c HC.out dZ).symm⟩,(HR.out.1.setCell (by show w.heap.size≤w.heap.size+1; omega) _).drew,Blk.drew (Blk.eq_ (HR.out.2.1.set_ 0 _) (by rw [show ((y3*256+m:Nat):Int)=(y3:Int)*256+(m:Int) by omega]; rfl)),Blk.drew (HR.out.2.2.far (by show w.heap.size≠w.heap.size+1; omega) _)⟩,by simp [intOf]⟩))
  ·have p1:¬ (k:Int)<32:=om
   obtain rfl:k=32:=om
   have b0:y0<18446744073709551616:=by rw [HY.out.1]; exact CK l _ _
   have b1:y1<18446744073709551616:=by rw [HY.out.2.1]; exact CK l _ _
   have b2:y2<18446744073709551616:=by rw [HY.out.2.2.1]; exact CK l _ _
   have b3:y3<18446744073709551616:=by rw [HY.out.2.2.2]; exact CK l _ _
   obtain ⟨z,hz⟩:=xE (y3+18446744073709551616*y2+340282366920938463463374607431768211456*y1+6277101735386680763835789423207666416102355444464034512896*y0)
   have fz:=Ch y3 y2 y1 y0 b3 b2 b1 b0
   rw [← hz] at fz
   have hzv:Ai l=z:=by rw [Ii l HL.out,hz,HY.out.1,HY.out.2.1,HY.out.2.2.1,HY.out.2.2.2]
   have HZ:=Lib.hid hzv
   have FZ:=Lib.hid fz.symm
   have HP:=Lib.hid hP
   have HR:=Lib.hid hR
   clear HY b0 b1 b2 b3 hz fz hzv q0 q1 q2 q3 ff hP hR
   go_wp2_with (first | ((with_reducible refine AD (d:=some 31) ?_); refine AB U _ _ U (w.heap.size+1) rfl (z) _ _ _ (HP.out) (FZ.out) AH U kZ ?_) | ((with_reducible refine AE ?_); refine AA U _ _ _ U (w.heap.size) (fcs (z)) U U _ _ (HR.out) kZ (by rfl) (AF _) ?_; intro vz hLz hqz hKz))
   exact bodyPost_ret (results_cell_row U _ _ w.heap.size _ _ (0,0) _ U hLz AH U kZ) rfl ⟨by rw [HZ.out]; rfl,hb.trans (hqz _ om)⟩
end
end
section
namespace Cu
open Go.RowKit Sy
end Cu
end
section
namespace Cu
open Go.RowKit Sy
section
variable {P:Program} {w0:Base} {F:AK} {L:AC} {o:Oper}
end
end Cu
end
section
namespace Cu
open Go.RowKit Sy
def trl (k x y:Nat) (i:Bool):List Value:=fws k++(fws x++(fws y++[Value.bool i]))
def two (z e px py:Nat) (pi:Bool) (j:Nat):Trm:=if j=0 then ⟨z,gx.val,gy.val,false⟩ else ⟨e,px,py,pi⟩
def rPt (z e px py:Nat) (pi:Bool):Pt:=Ec.add Ae (Ec.nm Ae (z%Sc.pM) bP) (Ec.nm Ae (e%Sc.pM) (dec px py pi))
theorem SG (z e px py:Nat) (pi:Bool):Ec.On (rPt z e px py pi):=Ec.On.add fld (bP_on.nm fld _) ((Cy _ _ _).nm fld _)
theorem S' (w:World) (g:Nat) (t:TypeId) (z e px py:Nat) (pi:Bool) (hz:z<K4) (he:e<K4) (hx:px<K4) (hy:py<K4) (hb:Blk w g t (trl z gx.val gy.val false++trl e px py pi).toArray):Calls Tryz.prog 120 #[.slice (pA g) 2 2] w (Gets w (ptv (rPt z e px py pi))):=by
 have hr:w.rangeAt g 0 (trl z gx.val gy.val false++trl e px py pi):=CF hb (by rw [List.drop_zero]; exact List.take_of_length_le (Nat.le_refl _))
 have h:=Zn w (pA g) g 0 2 2 (two z e px py pi) (Nat.le_refl _) dZ (λj=>by
  unfold two
  split
  ·exact ⟨hz,lt4 _,lt4 _⟩
  ·exact ⟨he,hx,hy⟩) (λ_=>⟨rfl,hb.lt,λj hj=>by
  rcases j with _ | _ | j
  ·exact Gs hr
  ·exact F3 hr U
  ·omega⟩)
 have e0:Ec.sumL Ae (λt=>Ec.nm Ae (two z e px py pi t).kn (two z e px py pi t).pt) (List.range 2)=rPt z e px py pi:=by
  have d0:dec gx.val gy.val false=bP:=EZ gx gy bP_on
  unfold rPt
  rw [← d0]
  show Ec.add Ae (Ec.add Ae none (Ec.nm Ae (z%Sc.pM) (dec gx.val gy.val false))) (Ec.nm Ae (e%Sc.pM) (dec px py pi))=_
  rw [Ec.zero_add]
 rw [e0] at h
 exact h
end Cu
end
section
namespace Cu
open Go.RowKit Sy
end Cu
end
section
namespace Nt
theorem J0:Pr 44706919:=Bk (b:=6687) dZ dZ (by decide +kernel)
theorem M_:Pr 120233:=Bk (b:=347) dZ dZ (by decide +kernel)
theorem I6:Pr 545358713:=Bk (b:=23354) dZ dZ (by decide +kernel)
theorem M9:Pr 305873:=Bk (b:=554) dZ dZ (by decide +kernel)
theorem SM:Pr 293:=Bk (b:=18) dZ dZ (by decide +kernel)
theorem TQ:Pr 174723607534414371449:=by
 refine LB (F:=44706919*120233) dZ (λr hr hrN=>?_) dZ
 have h0:=CD 68 2 dZ J0 dZ (by decide +kernel) (by decide +kernel) dZ r hr hrN
 have h1:=CD 68 2 dZ M_ dZ (by decide +kernel) (by decide +kernel) dZ r hr hrN
 exact Nat.Coprime.mul_dvd_of_dvd_of_dvd dZ h0 h1
theorem TO:Pr 29047611873442575647497758179:=by
 refine LB (F:=545358713*(305873*293)) dZ (λr hr hrN=>?_) dZ
 have h0:=CD 95 2 dZ I6 dZ (by decide +kernel) (by decide +kernel) dZ r hr hrN
 have h1:=CD 95 2 dZ M9 dZ (by decide +kernel) (by decide +kernel) dZ r hr hrN
 have h2:=CD 95 2 dZ SM dZ (by decide +kernel) (by decide +kernel) dZ r hr hrN
 exact Nat.Coprime.mul_dvd_of_dvd_of_dvd dZ h0 (Nat.Coprime.mul_dvd_of_dvd_of_dvd dZ h1 h2)
theorem TP:Pr 341948486974166000522343609283189 :=
 LB (F:=29047611873442575647497758179) dZ (λr hr hrN=>CD 109 2 dZ TO dZ (by decide +kernel) (by decide +kernel) dZ r hr hrN) dZ
theorem pr_n:Pr 115792089237316195423570985008687907852837564279074904382605163141518161494337:=by
 refine LB (F:=174723607534414371449*341948486974166000522343609283189) dZ (λr hr hrN=>?_) dZ
 have h0:=CD 256 2 dZ TQ dZ (by decide +kernel) (by decide +kernel) dZ r hr hrN
 have h1:=CD 256 2 dZ TP dZ (by decide +kernel) (by decide +kernel) dZ r hr hrN
 exact Nat.Coprime.mul_dvd_of_dvd_of_dvd dZ h0 h1
end Nt
end
end Go.Proofs.YtbjmjcpdonochaaGreatDoor
