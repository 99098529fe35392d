/-
  Texts of ours, put together: CrvV, ScRefs, SigR, SigK, EqB, SigAlive, ComM, ComV, SigV, ScriptRunsL.
-/
import Derived.Test.YtnbenphcpenbeaaGreatDoorSZ7
set_option linter.unusedVariables false
set_option linter.unusedSimpArgs false
namespace Go.Proofs.YtnbenphcpenbeaaGreatDoor
section
namespace Cu
open Go.RowKit Sy
set_option maxRecDepth 100000
set_option maxHeartbeats 4000000
def bt (j:Nat):Nat:=9223372036854775808 / 2 ^ j
theorem bt_next (j:Nat):bt j / 2=bt (j+1):=by unfold bt; rw [Nat.div_div_eq_div_mul,Nat.pow_succ]
theorem bt_le (j:Nat):bt j<18446744073709551616:=Nat.lt_of_le_of_lt (Nat.div_le_self _ _) (by decide)
theorem bt_is {j:Nat} (h:j<64):bt j=2 ^ (63 - j):=by
 unfold bt
 rw [show (9223372036854775808:Nat)=2 ^ (63 - j)*2 ^ j by rw [← Nat.pow_add,show 63 - j+j=63 by omega],Nat.mul_div_cancel _ (Nat.two_pow_pos j)]
theorem bt_pos (j:Nat):0<bt j↔j<64:=by
 constructor
 ·intro h
  rcases Nat.lt_or_ge j 64 with hl | hl
  ·exact hl
  ·exfalso
   unfold bt at h
   rw [Nat.div_eq_of_lt (Nat.lt_of_lt_of_le (show 9223372036854775808<2 ^ 64 by decide) (Nat.pow_le_pow_right (by decide) hl))] at h
   omega
 ·intro h
  rw [bt_is h]
  exact Nat.two_pow_pos _
theorem and_bt (z j:Nat) (hj:j<64):(z &&& bt j≠0)↔z / 2 ^ (63 - j)%2=1:=by
 rw [bt_is hj]
 have e:z.testBit (63 - j)=decide (z / 2 ^ (63 - j)%2=1):=Nat.testBit_eq_decide_div_mod_eq
 generalize 63 - j=i at e ⊢
 by_cases h:z / 2 ^ i%2=1
 ·refine ⟨λ_=>h,λ_ h0=>?_⟩
  have h1:=congrArg (λt=>t.testBit i) h0
  simp [Nat.testBit_and,Nat.testBit_two_pow_self,e,h] at h1
 ·refine ⟨λh0=>(h0 (Nat.eq_of_testBit_eq λk=>?_)).elim,λh0=>(h h0).elim⟩
  rw [Nat.testBit_and,Nat.zero_testBit,Nat.testBit_two_pow]
  by_cases hk:i=k
  ·subst hk
   simp [e,h]
  ·simp [hk]
theorem exec_and (F:Slots) (o:Oper) (t:TypeId) (x y:Operand) {yt:TypeId} (z b:Nat) (hz:z<18446744073709551616) (hb:b<18446744073709551616) (ho:o.op=.binOp .and t x y yt) (hx:evF F x=qv z) (hy:evF F y=.int .u64 (b:Int)) (w:World):(execOp (evF F) o).run Tryz.prog w=.ok (.value (.int .u64 ((z &&& b:Nat):Int))) w :=
 exec_int .and t x y .u64 (z:Int) (b:Int) _ ho hx hy (int_and t .u64 _ _ _ (by
  have e:((BitVec.ofInt IntKind.u64.bits (z:Int) &&& BitVec.ofInt IntKind.u64.bits (b:Int)).toNat)=z &&& b:=by
   show ((BitVec.ofInt 64 (z:Int) &&& BitVec.ofInt 64 (b:Int)).toNat)=_
   rw [BitVec.toNat_and,BitVec.ofInt_natCast,BitVec.ofInt_natCast,BitVec.toNat_ofNat,BitVec.toNat_ofNat,Nat.mod_eq_of_lt (by omega),Nat.mod_eq_of_lt (by omega)]
  rw [e]
  have h:z &&& b≤z:=Nat.and_le_left
  exact wrap_u64 (by omega) (by omega))) w
def bitJ (m:Nat) (x y:Fp):Nat→J
 | 0=>⟨0,0,0⟩
 | t+1=>if m / 2 ^ (255 - t)%2=1 then plusR (dblR (bitJ m x y t)) x y else dblR (bitJ m x y t)
theorem bitJ_yes {m:Nat} {x y:Fp} {t:Nat} (h:m / 2 ^ (255 - t)%2=1):bitJ m x y (t+1)=plusR (dblR (bitJ m x y t)) x y:=if_pos h
theorem bitJ_no {m:Nat} {x y:Fp} {t:Nat} (h:¬ m / 2 ^ (255 - t)%2=1):bitJ m x y (t+1)=dblR (bitJ m x y t):=if_neg h
theorem bitJ_rep {m:Nat} (hm:m<2 ^ 256) {x y:Fp} (h:y*y=x*x*x+7):∀ t,t≤256→Ec.Rep (bitJ m x y t) (Ec.nm finv (m / 2 ^ (256 - t)) (some (x,y)))
 | 0,_=>by
  rw [Nat.sub_zero,Nat.div_eq_of_lt hm]
  rfl
 | t+1,ht=>by
  have hP:Ec.On (some (x,y)):=h
  have h1:=bitJ_rep hm h t (by omega)
  have hS:=hP.nm fld (m / 2 ^ (256 - t))
  have h2:=dblR_rep hS h1
  have e:=Ec.bit_step fld hP m (2 ^ (255 - t))
  rw [← Nat.pow_succ',show (255 - t).succ=256 - t by omega] at e
  rw [show 256 - (t+1)=255 - t by omega, ← e]
  by_cases hb:m / 2 ^ (255 - t)%2=1
  ·rw [bitJ_yes hb,hb,Ec.nm_one]
   exact plusR_rep (Ec.On.add fld hS hS) h h2
  ·rw [bitJ_no hb,show m / 2 ^ (255 - t)%2=0 by omega,show Ec.nm finv 0 (some (x,y))=none from rfl,Ec.add_zero]
   exact h2
theorem word_bit (m i j:Nat) (hj:j<64):m / 2 ^ (64*i)%18446744073709551616 / 2 ^ (63 - j)%2=m / 2 ^ (64*i+(63 - j))%2:=by
 rw [Nat.pow_add, ← Nat.div_div_eq_div_mul,show (18446744073709551616:Nat)=2 ^ (63 - j)*2 ^ (j+1) by rw [← Nat.pow_add,show 63 - j+(j+1)=64 by omega],Nat.mod_mul_right_div_self,Nat.pow_succ',Nat.mod_mul_right_mod]
theorem word_bit0 (m j:Nat) (hj:j<64):m%18446744073709551616 / 2 ^ (63 - j)%2=m / 2 ^ (64*0+(63 - j))%2:=by
 have q:=word_bit m 0 j hj
 rw [Nat.mul_zero,Nat.pow_zero,Nat.div_one] at q
 exact q
def modN:Array Value:=#[.int .u64 13822214165235122497,.int .u64 13451932020343611451,.int .u64 18446744073709551614,.int .u64 18446744073709551615,.int .u64 4624529908474429119,.int .u64 4994812053365940164,.int .u64 1]
theorem mulRe_none (w:World) (k x y:Nat) (i:Bool) (hk:k<K4) (hx:x<K4) (hy:y<K4) (h:dec x y i=none):Calls Tryz.prog 123 #[fv k,pv x y i] w (Gets w (ptv none)):=by
 refine Sy.enter (args:=[fv k,pv x y i]) Tryz.func123 rfl kL ?_
 refine sC ?_
 refine sM 36 (fcs k) (λg0=>?_)
 refine sM 83 (pcs x y i) (λg1=>?_)
 refine sM 83 (pcs 0 0 false) (λg2=>?_)
 refine sA ?_
 refine sS (pv x y i) (qL 1 g1 0 9 83 83 (pcs x y i) rfl Tryz.underlying83)<|sS (pv 0 0 true) (qF 161 #[pv x y i] (λw=>by have hrr:=taken_c w x y i hx hy; rw [h] at hrr; exact hrr))<|sW 1 g1 83 (pcs x y i) (pcs 0 0 true) (wS 0 83 (pcs 0 0 true) rfl) ?_
 refine sG<|Sy.seq<|sC ?_
 refine sP (.pointer (some ⟨g1,8,none⟩))<|sS (.bool true) (qC 1 g1 8 83 4 (pcs 0 0 true) rfl Tryz.underlying4) ?_
 refine sG<|sT<|sC ?_
 refine sS (pv 0 0 true) (qL 1 g1 0 9 83 83 (pcs 0 0 true) rfl Tryz.underlying83)<|sW 2 g2 83 (pcs 0 0 false) (pcs 0 0 true) (wS 0 83 (pcs 0 0 true) rfl) ?_
 refine sG<|Sy.ret<|Sy.then_ret ?_
 rw [show (ptv none:Value)=pv 0 0 true from rfl]
 exact rC (v:=pv 0 0 true) 83 g2 2 (pcs 0 0 true) rfl Tryz.underlying83
theorem mulRe_some (w:World) (k x y:Nat) (i:Bool) (hk:k<K4) (hx:x<K4) (hy:y<K4) (u v:Fp) (h:dec x y i=some (u,v)) (ho:v*v=u*u*u+7):Calls Tryz.prog 123 #[fv k,pv x y i] w (Gets w (ptv (Ec.nm finv (k%Sc.pM) (some (u,v))))):=by
 obtain ⟨m,hm⟩:∃ m,m=k%Sc.pM:=⟨_,rfl⟩
 obtain ⟨Q,hQ⟩:∃ Q,Q=ptJ (bitJ m u v 256):=⟨_,rfl⟩
 have hml:m<K4:=by rw [hm]; exact Sc.mod_lt k
 have hn:Ec.nm finv (k%Sc.pM) (some (u,v))=Q:=by
  have q:=bitJ_rep (m:=m) hml ho 256 (Nat.le_refl _)
  rw [Nat.sub_self,Nat.pow_zero,Nat.div_one] at q
  rw [← hm,hQ]
  exact (ptJ_rep q).symm
 rw [hn]
 refine Sy.enter (args:=[fv k,pv x y i]) Tryz.func123 rfl kL ?_
 refine sC ?_
 refine sM 36 (fcs k) (λg0=>?_)
 refine sM 83 (pcs x y i) (λg1=>?_)
 refine sM 83 (pcs 0 0 false) (λg2=>?_)
 refine sA ?_
 refine sS (pv x y i) (qL 1 g1 0 9 83 83 (pcs x y i) rfl Tryz.underlying83)<|sS (pv u.val v.val false) (qF 161 #[pv x y i] (λw=>by have hrr:=taken_c w x y i hx hy; rw [h] at hrr; exact hrr))<|sW 1 g1 83 (pcs x y i) (pcs u.val v.val false) (wS 0 83 (pcs u.val v.val false) rfl) ?_
 refine sG<|Sy.seq<|sC ?_
 refine sP (.pointer (some ⟨g1,8,none⟩))<|sS (.bool false) (qC 1 g1 8 83 4 (pcs u.val v.val false) rfl Tryz.underlying4) ?_
 refine sG<|sU<|Sy.skip ?_
 refine sR (λj=>j == 5) ?_
 refine sD 0 rfl (.agg modN) (qF 157 #[] (Sc.refN_any))<|sD 1 rfl (fv k) (qL 0 g0 0 4 36 36 (fcs k) rfl Tryz.underlying36)<|sD 2 rfl (fv k) (qF 168 #[fv k] (λw=>Sc.refOf_any w k lK))<|sD 3 rfl (fv m) (qF 167 #[.agg modN,fv k] (λw=>by rw [hm]; exact Sc.normR_any w k hk)) ?_
 refine sO 4 rfl 164 (fcs 0) (λg3=>?_)
 refine sX 5 rfl 3 g3 164 (fcs 0) (fcs m) (wS 0 164 (fcs m) rfl) ?_
 refine sE ?_
 refine sB ?_
 refine sP (.pointer (some ⟨g1,0,none⟩))<|sS (fv u.val) (qL 1 g1 0 4 83 81 (pcs u.val v.val false) rfl Tryz.underlying81)<|sS (fv u.val) (qF 162 #[fv u.val] (λw=>refOf_any w u.val lK)) ?_
 refine sM 164 (fcs 0) (λg4=>?_)
 refine sW 4 g4 164 (fcs 0) (fcs u.val) (wS 0 164 (fcs u.val) rfl) ?_
 refine sA ?_
 refine sP (.pointer (some ⟨g1,4,none⟩))<|sS (fv v.val) (qL 1 g1 4 4 83 81 (pcs u.val v.val false) rfl Tryz.underlying81)<|sS (fv v.val) (qF 162 #[fv v.val] (λw=>refOf_any w v.val lK)) ?_
 refine sM 164 (fcs 0) (λg5=>?_)
 refine sW 5 g5 164 (fcs 0) (fcs v.val) (wS 0 164 (fcs v.val) rfl) ?_
 refine sA ?_
 refine sP (tv 0 0 0) ?_
 refine sM 219 (tcs 0 0 0) (λg6=>?_)
 refine sW 6 g6 219 (tcs 0 0 0) (tcs 0 0 0) (wS 0 219 (tcs 0 0 0) rfl) ?_
 refine sG<|Sy.seq<|sC ?_
 refine sP (.int .i64 3) ?_
 refine sG<|Sy.block ?_
 refine Sy.loopN 5 ?_
 refine Sy.tidyR (G:=[(4,.pointer (some ⟨g2,0,none⟩)),(5,.pointer (some ⟨g3,0,none⟩)),(6,.pointer (some ⟨g4,0,none⟩)),(7,.pointer (some ⟨g5,0,none⟩)),(8,.pointer (some ⟨g6,0,none⟩)),(9,.int .i64 3)]) (M:=[(g2,83,(pcs 0 0 false)),(g3,164,(fcs m)),(g4,164,(fcs u.val)),(g5,164,(fcs v.val)),(g6,219,(tcs 0 0 0))]) [false,false,true,true,true,true,true] kR (all_cons kR (all_cons kR (all_cons kR (all_cons kR (all_cons kR (all_cons kR all_nil)))))) ?_
 refine Sy.round<|Sy.seq<|sC ?_
 refine sP (.int .i64 3)<|sP (.bool true) ?_
 refine sG<|sT<|Sy.skip<|Sy.then_<|Sy.seq<|Sy.block<|sC ?_
 refine sP (.int .u64 9223372036854775808) ?_
 refine sG<|Sy.block ?_
 refine Sy.loopK 64 (λk2x0=>[(4,.pointer (some ⟨g2,0,none⟩)),(5,.pointer (some ⟨g3,0,none⟩)),(6,.pointer (some ⟨g4,0,none⟩)),(7,.pointer (some ⟨g5,0,none⟩)),(8,.pointer (some ⟨g6,0,none⟩)),(9,.int .i64 3),(10,.int .u64 ((bt k2x0:Nat):Int))]) (λk2x0=>[(g2,83,(pcs 0 0 false)),(g3,164,(fcs m)),(g4,164,(fcs u.val)),(g5,164,(fcs v.val)),(g6,219,(tcs ((bitJ m u v (0+k2x0)).x.val) ((bitJ m u v (0+k2x0)).y.val) ((bitJ m u v (0+k2x0)).z.val)))]) [true,true,true,true,true] (M:=[(g2,83,(pcs 0 0 false)),(g3,164,(fcs m)),(g4,164,(fcs u.val)),(g5,164,(fcs v.val)),(g6,219,(tcs 0 0 0))]) (all_cons kR (all_cons kR (all_cons kR (all_cons kR (all_cons kR (all_cons kR (all_cons kR all_nil))))))) kR (bcons rfl (bcons rfl (bcons rfl (bcons rfl (bcons rfl rfl))))) (λk2x0 hk2x0=>?_)
 refine Sy.seq<|sC ?_
 refine sP (.int .u64 ((bt k2x0:Nat):Int)) ?_
 obtain ⟨b1,hb1⟩:∃ z:Bool,z=decide (k2x0<64):=⟨_,rfl⟩
 refine sS (.bool b1) (Quiet.pure (exec_int .gtr _ _ _ .u64 _ _ _ rfl rfl rfl (int_gtr _ _ _ _ _ (by rw [hb1]; exact decide_eq_decide.2 (by rw [← bt_pos]; omega))))) ?_
 refine sG ?_
 cases b1
 ·have lb1:¬ (k2x0<64):=of_decide_eq_false hb1.symm
  refine sU<|Sy.exit<|Sy.then_exit<|Sy.then_exit ?_
  obtain rfl:k2x0=64:=by omega
  refine Sy.in_exit<|Sy.in_<|Sy.then_<|Sy.region ?_
  refine sP (.int .i64 3)<|sP (.int .i64 2)<|sP (.int .i64 2) ?_
  refine Sy.nil<|Sy.again ?_
  refine Sy.tidyR (G:=[(4,.pointer (some ⟨g2,0,none⟩)),(5,.pointer (some ⟨g3,0,none⟩)),(6,.pointer (some ⟨g4,0,none⟩)),(7,.pointer (some ⟨g5,0,none⟩)),(8,.pointer (some ⟨g6,0,none⟩)),(9,.int .i64 2)]) (M:=[(g2,83,(pcs 0 0 false)),(g3,164,(fcs m)),(g4,164,(fcs u.val)),(g5,164,(fcs v.val)),(g6,219,(tcs ((bitJ m u v (0+64)).x.val) ((bitJ m u v (0+64)).y.val) ((bitJ m u v (0+64)).z.val)))]) [true,true,true,true,true] kR (all_cons kR (all_cons kR (all_cons kR (all_cons kR (all_cons kR (all_cons kR all_nil)))))) ?_
  refine Sy.round<|Sy.seq<|sC ?_
  refine sP (.int .i64 2)<|sP (.bool true) ?_
  refine sG<|sT<|Sy.skip<|Sy.then_<|Sy.seq<|Sy.block<|sC ?_
  refine sP (.int .u64 9223372036854775808) ?_
  refine sG<|Sy.block ?_
  refine Sy.loopK 64 (λk2x1=>[(4,.pointer (some ⟨g2,0,none⟩)),(5,.pointer (some ⟨g3,0,none⟩)),(6,.pointer (some ⟨g4,0,none⟩)),(7,.pointer (some ⟨g5,0,none⟩)),(8,.pointer (some ⟨g6,0,none⟩)),(9,.int .i64 2),(10,.int .u64 ((bt k2x1:Nat):Int))]) (λk2x1=>[(g2,83,(pcs 0 0 false)),(g3,164,(fcs m)),(g4,164,(fcs u.val)),(g5,164,(fcs v.val)),(g6,219,(tcs ((bitJ m u v (64+k2x1)).x.val) ((bitJ m u v (64+k2x1)).y.val) ((bitJ m u v (64+k2x1)).z.val)))]) [true,true,true,true,true] (M:=[(g2,83,(pcs 0 0 false)),(g3,164,(fcs m)),(g4,164,(fcs u.val)),(g5,164,(fcs v.val)),(g6,219,(tcs ((bitJ m u v (0+64)).x.val) ((bitJ m u v (0+64)).y.val) ((bitJ m u v (0+64)).z.val)))]) (all_cons kR (all_cons kR (all_cons kR (all_cons kR (all_cons kR (all_cons kR (all_cons kR all_nil))))))) kR (bcons rfl (bcons rfl (bcons rfl (bcons rfl (bcons rfl rfl))))) (λk2x1 hk2x1=>?_)
  refine Sy.seq<|sC ?_
  refine sP (.int .u64 ((bt k2x1:Nat):Int)) ?_
  obtain ⟨b2,hb2⟩:∃ z:Bool,z=decide (k2x1<64):=⟨_,rfl⟩
  refine sS (.bool b2) (Quiet.pure (exec_int .gtr _ _ _ .u64 _ _ _ rfl rfl rfl (int_gtr _ _ _ _ _ (by rw [hb2]; exact decide_eq_decide.2 (by rw [← bt_pos]; omega))))) ?_
  refine sG ?_
  cases b2
  ·have lb2:¬ (k2x1<64):=of_decide_eq_false hb2.symm
   refine sU<|Sy.exit<|Sy.then_exit<|Sy.then_exit ?_
   obtain rfl:k2x1=64:=by omega
   refine Sy.in_exit<|Sy.in_<|Sy.then_<|Sy.region ?_
   refine sP (.int .i64 2)<|sP (.int .i64 1)<|sP (.int .i64 1) ?_
   refine Sy.nil<|Sy.again ?_
   refine Sy.tidyR (G:=[(4,.pointer (some ⟨g2,0,none⟩)),(5,.pointer (some ⟨g3,0,none⟩)),(6,.pointer (some ⟨g4,0,none⟩)),(7,.pointer (some ⟨g5,0,none⟩)),(8,.pointer (some ⟨g6,0,none⟩)),(9,.int .i64 1)]) (M:=[(g2,83,(pcs 0 0 false)),(g3,164,(fcs m)),(g4,164,(fcs u.val)),(g5,164,(fcs v.val)),(g6,219,(tcs ((bitJ m u v (64+64)).x.val) ((bitJ m u v (64+64)).y.val) ((bitJ m u v (64+64)).z.val)))]) [true,true,true,true,true] kR (all_cons kR (all_cons kR (all_cons kR (all_cons kR (all_cons kR (all_cons kR all_nil)))))) ?_
   refine Sy.round<|Sy.seq<|sC ?_
   refine sP (.int .i64 1)<|sP (.bool true) ?_
   refine sG<|sT<|Sy.skip<|Sy.then_<|Sy.seq<|Sy.block<|sC ?_
   refine sP (.int .u64 9223372036854775808) ?_
   refine sG<|Sy.block ?_
   refine Sy.loopK 64 (λk2x2=>[(4,.pointer (some ⟨g2,0,none⟩)),(5,.pointer (some ⟨g3,0,none⟩)),(6,.pointer (some ⟨g4,0,none⟩)),(7,.pointer (some ⟨g5,0,none⟩)),(8,.pointer (some ⟨g6,0,none⟩)),(9,.int .i64 1),(10,.int .u64 ((bt k2x2:Nat):Int))]) (λk2x2=>[(g2,83,(pcs 0 0 false)),(g3,164,(fcs m)),(g4,164,(fcs u.val)),(g5,164,(fcs v.val)),(g6,219,(tcs ((bitJ m u v (128+k2x2)).x.val) ((bitJ m u v (128+k2x2)).y.val) ((bitJ m u v (128+k2x2)).z.val)))]) [true,true,true,true,true] (M:=[(g2,83,(pcs 0 0 false)),(g3,164,(fcs m)),(g4,164,(fcs u.val)),(g5,164,(fcs v.val)),(g6,219,(tcs ((bitJ m u v (64+64)).x.val) ((bitJ m u v (64+64)).y.val) ((bitJ m u v (64+64)).z.val)))]) (all_cons kR (all_cons kR (all_cons kR (all_cons kR (all_cons kR (all_cons kR (all_cons kR all_nil))))))) kR (bcons rfl (bcons rfl (bcons rfl (bcons rfl (bcons rfl rfl))))) (λk2x2 hk2x2=>?_)
   refine Sy.seq<|sC ?_
   refine sP (.int .u64 ((bt k2x2:Nat):Int)) ?_
   obtain ⟨b3,hb3⟩:∃ z:Bool,z=decide (k2x2<64):=⟨_,rfl⟩
   refine sS (.bool b3) (Quiet.pure (exec_int .gtr _ _ _ .u64 _ _ _ rfl rfl rfl (int_gtr _ _ _ _ _ (by rw [hb3]; exact decide_eq_decide.2 (by rw [← bt_pos]; omega))))) ?_
   refine sG ?_
   cases b3
   ·have lb3:¬ (k2x2<64):=of_decide_eq_false hb3.symm
    refine sU<|Sy.exit<|Sy.then_exit<|Sy.then_exit ?_
    obtain rfl:k2x2=64:=by omega
    refine Sy.in_exit<|Sy.in_<|Sy.then_<|Sy.region ?_
    refine sP (.int .i64 1)<|sP (.int .i64 0)<|sP (.int .i64 0) ?_
    refine Sy.nil<|Sy.again ?_
    refine Sy.tidyR (G:=[(4,.pointer (some ⟨g2,0,none⟩)),(5,.pointer (some ⟨g3,0,none⟩)),(6,.pointer (some ⟨g4,0,none⟩)),(7,.pointer (some ⟨g5,0,none⟩)),(8,.pointer (some ⟨g6,0,none⟩)),(9,.int .i64 0)]) (M:=[(g2,83,(pcs 0 0 false)),(g3,164,(fcs m)),(g4,164,(fcs u.val)),(g5,164,(fcs v.val)),(g6,219,(tcs ((bitJ m u v (128+64)).x.val) ((bitJ m u v (128+64)).y.val) ((bitJ m u v (128+64)).z.val)))]) [true,true,true,true,true] kR (all_cons kR (all_cons kR (all_cons kR (all_cons kR (all_cons kR (all_cons kR all_nil)))))) ?_
    refine Sy.round<|Sy.seq<|sC ?_
    refine sP (.int .i64 0)<|sP (.bool true) ?_
    refine sG<|sT<|Sy.skip<|Sy.then_<|Sy.seq<|Sy.block<|sC ?_
    refine sP (.int .u64 9223372036854775808) ?_
    refine sG<|Sy.block ?_
    refine Sy.loopK 64 (λk2x3=>[(4,.pointer (some ⟨g2,0,none⟩)),(5,.pointer (some ⟨g3,0,none⟩)),(6,.pointer (some ⟨g4,0,none⟩)),(7,.pointer (some ⟨g5,0,none⟩)),(8,.pointer (some ⟨g6,0,none⟩)),(9,.int .i64 0),(10,.int .u64 ((bt k2x3:Nat):Int))]) (λk2x3=>[(g2,83,(pcs 0 0 false)),(g3,164,(fcs m)),(g4,164,(fcs u.val)),(g5,164,(fcs v.val)),(g6,219,(tcs ((bitJ m u v (192+k2x3)).x.val) ((bitJ m u v (192+k2x3)).y.val) ((bitJ m u v (192+k2x3)).z.val)))]) [true,true,true,true,true] (M:=[(g2,83,(pcs 0 0 false)),(g3,164,(fcs m)),(g4,164,(fcs u.val)),(g5,164,(fcs v.val)),(g6,219,(tcs ((bitJ m u v (128+64)).x.val) ((bitJ m u v (128+64)).y.val) ((bitJ m u v (128+64)).z.val)))]) (all_cons kR (all_cons kR (all_cons kR (all_cons kR (all_cons kR (all_cons kR (all_cons kR all_nil))))))) kR (bcons rfl (bcons rfl (bcons rfl (bcons rfl (bcons rfl rfl))))) (λk2x3 hk2x3=>?_)
    refine Sy.seq<|sC ?_
    refine sP (.int .u64 ((bt k2x3:Nat):Int)) ?_
    obtain ⟨b4,hb4⟩:∃ z:Bool,z=decide (k2x3<64):=⟨_,rfl⟩
    refine sS (.bool b4) (Quiet.pure (exec_int .gtr _ _ _ .u64 _ _ _ rfl rfl rfl (int_gtr _ _ _ _ _ (by rw [hb4]; exact decide_eq_decide.2 (by rw [← bt_pos]; omega))))) ?_
    refine sG ?_
    cases b4
    ·have lb4:¬ (k2x3<64):=of_decide_eq_false hb4.symm
     refine sU<|Sy.exit<|Sy.then_exit<|Sy.then_exit ?_
     obtain rfl:k2x3=64:=by omega
     refine Sy.in_exit<|Sy.in_<|Sy.then_<|Sy.region ?_
     refine sP (.int .i64 0)<|sP (.int .i64 (-1))<|sP (.int .i64 (-1)) ?_
     refine Sy.nil<|Sy.again ?_
     refine Sy.tidyR (G:=[(4,.pointer (some ⟨g2,0,none⟩)),(5,.pointer (some ⟨g3,0,none⟩)),(6,.pointer (some ⟨g4,0,none⟩)),(7,.pointer (some ⟨g5,0,none⟩)),(8,.pointer (some ⟨g6,0,none⟩)),(9,.int .i64 (-1))]) (M:=[(g2,83,(pcs 0 0 false)),(g3,164,(fcs m)),(g4,164,(fcs u.val)),(g5,164,(fcs v.val)),(g6,219,(tcs ((bitJ m u v (192+64)).x.val) ((bitJ m u v (192+64)).y.val) ((bitJ m u v (192+64)).z.val)))]) [true,true,true,true,true] kR (all_cons kR (all_cons kR (all_cons kR (all_cons kR (all_cons kR (all_cons kR all_nil)))))) ?_
     refine Sy.round<|Sy.seq<|sC ?_
     refine sP (.int .i64 (-1))<|sP (.bool false) ?_
     refine sG<|sU<|Sy.exit<|Sy.then_exit<|Sy.then_exit<|Sy.in_exit<|Sy.then_<|Sy.seq<|sC ?_
     refine sP (.pointer (some ⟨g6,8,none⟩))<|sS (fv ((bitJ m u v (192+64)).z.val)) (qL 4 g6 8 4 219 164 (tcs ((bitJ m u v (192+64)).x.val) ((bitJ m u v (192+64)).y.val) ((bitJ m u v (192+64)).z.val)) rfl Tryz.underlying164)<|sP (fv 0) ?_
     obtain ⟨b5,hb5⟩:∃ z:Bool,z=decide ((bitJ m u v (192+64)).z.val=0):=⟨_,rfl⟩
     refine sS (.bool b5) (Quiet.pure (λw=>by rw [hb5]; exact eql_num w _ _ _ _ _ _ rfl rfl rfl lK lK)) ?_
     refine sG ?_
     cases b5
     ·have eb5:(bitJ m u v (192+64)).z≠(0:Fp):=λe=>of_decide_eq_false hb5.symm (congrArg Fin.val e)
      refine sU<|Sy.skip ?_
      refine sR (λj=>j == 5) ?_
      refine sD 0 rfl (.agg modcs) (qF 119 #[] (refP_any))<|sZ 1 rfl (.pointer (some ⟨g6,8,none⟩))<|sD 2 rfl (fv ((bitJ m u v (192+64)).z.val)) (qL 4 g6 8 4 219 164 (tcs ((bitJ m u v (192+64)).x.val) ((bitJ m u v (192+64)).y.val) ((bitJ m u v (192+64)).z.val)) rfl Tryz.underlying164) ?_
      obtain ⟨z1,hz1⟩:∃ z:Fp,z=finv (bitJ m u v (192+64)).z:=⟨_,rfl⟩
      refine sD 3 rfl (fv z1.val) (qF 166 #[.agg modcs,fv ((bitJ m u v (192+64)).z.val)] (λw=>by rw [hz1]; exact refinv_c w (bitJ m u v (192+64)).z)) ?_
      refine sO 4 rfl 164 (fcs 0) (λg7=>?_)
      refine sX 5 rfl 5 g7 164 (fcs 0) (fcs z1.val) (wS 0 164 (fcs z1.val) rfl) ?_
      refine sE ?_
      refine sB ?_
      refine sS (fv z1.val) (qL 5 g7 0 4 164 164 (fcs z1.val) rfl Tryz.underlying164)<|sS (fv z1.val) (qL 5 g7 0 4 164 164 (fcs z1.val) rfl Tryz.underlying164) ?_
      obtain ⟨z2,hz2⟩:∃ z:Fp,z=z1*z1:=⟨_,rfl⟩
      refine sS (fv z2.val) (qF 164 #[fv z1.val,fv z1.val] (λw=>by rw [hz2]; exact mulR_c w z1 z1)) ?_
      refine sM 164 (fcs 0) (λg8=>?_)
      refine sW 6 g8 164 (fcs 0) (fcs z2.val) (wS 0 164 (fcs z2.val) rfl) ?_
      refine sH (λj=>j == 11) ?_
      refine sZ 0 rfl (.pointer (some ⟨g6,0,none⟩))<|sD 1 rfl (fv ((bitJ m u v (192+64)).x.val)) (qL 4 g6 0 4 219 164 (tcs ((bitJ m u v (192+64)).x.val) ((bitJ m u v (192+64)).y.val) ((bitJ m u v (192+64)).z.val)) rfl Tryz.underlying164)<|sD 2 rfl (fv z2.val) (qL 6 g8 0 4 164 164 (fcs z2.val) rfl Tryz.underlying164) ?_
      obtain ⟨z3,hz3⟩:∃ z:Fp,z=(bitJ m u v (192+64)).x*z2:=⟨_,rfl⟩
      refine sD 3 rfl (fv z3.val) (qF 164 #[fv ((bitJ m u v (192+64)).x.val),fv z2.val] (λw=>by rw [hz3]; exact mulR_c w (bitJ m u v (192+64)).x z2))<|sZ 4 rfl (.pointer (some ⟨g6,4,none⟩))<|sD 5 rfl (fv ((bitJ m u v (192+64)).y.val)) (qL 4 g6 4 4 219 164 (tcs ((bitJ m u v (192+64)).x.val) ((bitJ m u v (192+64)).y.val) ((bitJ m u v (192+64)).z.val)) rfl Tryz.underlying164)<|sD 6 rfl (fv z2.val) (qL 6 g8 0 4 164 164 (fcs z2.val) rfl Tryz.underlying164)<|sD 7 rfl (fv z1.val) (qL 5 g7 0 4 164 164 (fcs z1.val) rfl Tryz.underlying164) ?_
      obtain ⟨z4,hz4⟩:∃ z:Fp,z=z2*z1:=⟨_,rfl⟩
      refine sD 8 rfl (fv z4.val) (qF 164 #[fv z2.val,fv z1.val] (λw=>by rw [hz4]; exact mulR_c w z2 z1)) ?_
      obtain ⟨z5,hz5⟩:∃ z:Fp,z=(bitJ m u v (192+64)).y*z4:=⟨_,rfl⟩
      refine sD 9 rfl (fv z5.val) (qF 164 #[fv ((bitJ m u v (192+64)).y.val),fv z4.val] (λw=>by rw [hz5]; exact mulR_c w (bitJ m u v (192+64)).y z4))<|sD 10 rfl (pv z3.val z5.val false) (qF 155 #[fv z3.val,fv z5.val] (λw=>pointR_c w z3.val z5.val lK lK))<|sX 11 rfl 0 g2 83 (pcs 0 0 false) (pcs z3.val z5.val false) (wS 0 83 (pcs z3.val z5.val false) rfl) ?_
      refine sI ?_
      refine Sy.ret ?_
      rw [show (ptv Q:Value)=pv z3.val z5.val false from by rw [hQ]; unfold ptJ; rw [if_neg eb5]; unfold ptv; simp only [hz5,hz4,hz3,hz2,hz1]]
      exact rC (v:=pv z3.val z5.val false) 83 g2 0 (pcs z3.val z5.val false) rfl Tryz.underlying83
     ·have eb5:(bitJ m u v (192+64)).z=(0:Fp):=Fin.ext (of_decide_eq_true hb5.symm)
      refine sT<|sC ?_
      refine sS (pv 0 0 true) (qF 154 #[] (zeroR_c))<|sW 0 g2 83 (pcs 0 0 false) (pcs 0 0 true) (wS 0 83 (pcs 0 0 true) rfl) ?_
      refine sG<|Sy.ret<|Sy.then_ret ?_
      rw [show (ptv Q:Value)=pv 0 0 true from by rw [hQ]; unfold ptJ; rw [if_pos eb5]; rfl]
      exact rC (v:=pv 0 0 true) 83 g2 0 (pcs 0 0 true) rfl Tryz.underlying83
    ·have lb4:k2x3<64:=of_decide_eq_true hb4.symm
     refine sT<|Sy.skip<|Sy.then_<|Sy.seq<|Sy.block<|sC ?_
     refine sS (tv ((bitJ m u v (192+k2x3)).x.val) ((bitJ m u v (192+k2x3)).y.val) ((bitJ m u v (192+k2x3)).z.val)) (qL 4 g6 0 12 219 219 (tcs ((bitJ m u v (192+k2x3)).x.val) ((bitJ m u v (192+k2x3)).y.val) ((bitJ m u v (192+k2x3)).z.val)) rfl Tryz.underlying219) ?_
     obtain ⟨j1,hj1⟩:∃ z:J,z=dblR (bitJ m u v (192+k2x3)):=⟨_,rfl⟩
     refine sS (tv j1.x.val j1.y.val j1.z.val) (qF 169 #[tv ((bitJ m u v (192+k2x3)).x.val) ((bitJ m u v (192+k2x3)).y.val) ((bitJ m u v (192+k2x3)).z.val)] (λw=>by rw [hj1]; exact twiceR_c w (bitJ m u v (192+k2x3))))<|sW 4 g6 219 (tcs ((bitJ m u v (192+k2x3)).x.val) ((bitJ m u v (192+k2x3)).y.val) ((bitJ m u v (192+k2x3)).z.val)) (tcs j1.x.val j1.y.val j1.z.val) (wS 0 219 (tcs j1.x.val j1.y.val j1.z.val) rfl) ?_
     refine sA ?_
     refine sP (.int .i64 0)<|sP (.pointer (some ⟨g3,0,none⟩))<|sS (qv (m%18446744073709551616)) (qC 1 g3 0 164 26 (fcs m) rfl Tryz.underlying26)<|sP (.int .u64 ((bt k2x3:Nat):Int))<|sS (.int .u64 (((m%18446744073709551616) &&& bt k2x3:Nat):Int)) (Quiet.pure (exec_and _ _ _ _ _ (m%18446744073709551616) (bt k2x3) (Nat.mod_lt _ (by decide)) (bt_le _) rfl rfl rfl)) ?_
     obtain ⟨b6,hb6⟩:∃ z:Bool,z=decide ((m%18446744073709551616) &&& bt k2x3≠0):=⟨_,rfl⟩
     refine sS (.bool b6) (Quiet.pure (exec_int .neq _ _ _ .u64 _ _ _ rfl rfl rfl (int_neq _ _ _ _ _ (by rw [hb6]; exact decide_eq_decide.2 (by omega))))) ?_
     refine sG ?_
     cases b6
     ·have lb6:¬ ((m%18446744073709551616) &&& bt k2x3≠0):=of_decide_eq_false hb6.symm
      have fb6:¬ m / 2 ^ (255 - (192+k2x3))%2=1:=by
       have q:=and_bt (m%18446744073709551616) k2x3 (by omega)
       have q2:=word_bit0 m k2x3 (by omega)
       rw [show 64*0+(63 - k2x3)=255 - (192+k2x3) by omega] at q2
       rw [← q2]
       exact λt=>lb6 (q.2 t)
      refine sU<|Sy.skip<|Sy.in_<|Sy.then_<|Sy.region ?_
      refine sP (.int .u64 ((bt k2x3:Nat):Int))<|sS (.int .u64 ((bt (k2x3+1):Nat):Int)) (Quiet.pure (exec_int .quo _ _ _ .u64 _ _ _ rfl rfl rfl (int_quo _ _ _ _ _ (by decide) (by rw [← bt_next]; have:=bt_le k2x3; rw [show ((bt k2x3:Nat):Int).tdiv 2=((bt k2x3 / 2:Nat):Int) from rfl]; exact wrap_u64 (by omega) (by omega)))))<|sP (.int .u64 ((bt (k2x3+1):Nat):Int)) ?_
      refine Sy.nil ?_
      exact Sy.againK [true,true,true,true,true] (M:=[(g2,83,(pcs 0 0 false)),(g3,164,(fcs m)),(g4,164,(fcs u.val)),(g5,164,(fcs v.val)),(g6,219,(tcs j1.x.val j1.y.val j1.z.val))]) (by omega) (all_cons kR (all_cons kR (all_cons kR (all_cons kR (all_cons kR (all_cons kR (all_cons kR all_nil))))))) kR (bcons rfl (bcons rfl (bcons rfl (bcons rfl (bcons (beq (by rw [hj1, ← bitJ_no fb6]; rfl)) rfl)))))
     ·have lb6:(m%18446744073709551616) &&& bt k2x3≠0:=of_decide_eq_true hb6.symm
      have fb6 :  m / 2 ^ (255 - (192+k2x3))%2=1:=by
       have q:=and_bt (m%18446744073709551616) k2x3 (by omega)
       have q2:=word_bit0 m k2x3 (by omega)
       rw [show 64*0+(63 - k2x3)=255 - (192+k2x3) by omega] at q2
       rw [← q2]
       exact q.1 lb6
      refine sT<|Sy.region ?_
      refine sS (tv j1.x.val j1.y.val j1.z.val) (qL 4 g6 0 12 219 219 (tcs j1.x.val j1.y.val j1.z.val) rfl Tryz.underlying219)<|sS (fv u.val) (qL 2 g4 0 4 164 164 (fcs u.val) rfl Tryz.underlying164)<|sS (fv v.val) (qL 3 g5 0 4 164 164 (fcs v.val) rfl Tryz.underlying164) ?_
      obtain ⟨j2,hj2⟩:∃ z:J,z=plusR j1 u v:=⟨_,rfl⟩
      refine sS (tv j2.x.val j2.y.val j2.z.val) (qF 170 #[tv j1.x.val j1.y.val j1.z.val,fv u.val,fv v.val] (λw=>by rw [hj2]; exact plusR_c w j1 u v))<|sW 4 g6 219 (tcs j1.x.val j1.y.val j1.z.val) (tcs j2.x.val j2.y.val j2.z.val) (wS 0 219 (tcs j2.x.val j2.y.val j2.z.val) rfl) ?_
      refine Sy.nil<|Sy.in_<|Sy.then_<|Sy.region ?_
      refine sP (.int .u64 ((bt k2x3:Nat):Int))<|sS (.int .u64 ((bt (k2x3+1):Nat):Int)) (Quiet.pure (exec_int .quo _ _ _ .u64 _ _ _ rfl rfl rfl (int_quo _ _ _ _ _ (by decide) (by rw [← bt_next]; have:=bt_le k2x3; rw [show ((bt k2x3:Nat):Int).tdiv 2=((bt k2x3 / 2:Nat):Int) from rfl]; exact wrap_u64 (by omega) (by omega)))))<|sP (.int .u64 ((bt (k2x3+1):Nat):Int)) ?_
      refine Sy.nil ?_
      exact Sy.againK [true,true,true,true,true] (M:=[(g2,83,(pcs 0 0 false)),(g3,164,(fcs m)),(g4,164,(fcs u.val)),(g5,164,(fcs v.val)),(g6,219,(tcs j2.x.val j2.y.val j2.z.val))]) (by omega) (all_cons kR (all_cons kR (all_cons kR (all_cons kR (all_cons kR (all_cons kR (all_cons kR all_nil))))))) kR (bcons rfl (bcons rfl (bcons rfl (bcons rfl (bcons (beq (by rw [hj2,hj1, ← bitJ_yes fb6]; rfl)) rfl)))))
   ·have lb3:k2x2<64:=of_decide_eq_true hb3.symm
    refine sT<|Sy.skip<|Sy.then_<|Sy.seq<|Sy.block<|sC ?_
    refine sS (tv ((bitJ m u v (128+k2x2)).x.val) ((bitJ m u v (128+k2x2)).y.val) ((bitJ m u v (128+k2x2)).z.val)) (qL 4 g6 0 12 219 219 (tcs ((bitJ m u v (128+k2x2)).x.val) ((bitJ m u v (128+k2x2)).y.val) ((bitJ m u v (128+k2x2)).z.val)) rfl Tryz.underlying219) ?_
    obtain ⟨j3,hj3⟩:∃ z:J,z=dblR (bitJ m u v (128+k2x2)):=⟨_,rfl⟩
    refine sS (tv j3.x.val j3.y.val j3.z.val) (qF 169 #[tv ((bitJ m u v (128+k2x2)).x.val) ((bitJ m u v (128+k2x2)).y.val) ((bitJ m u v (128+k2x2)).z.val)] (λw=>by rw [hj3]; exact twiceR_c w (bitJ m u v (128+k2x2))))<|sW 4 g6 219 (tcs ((bitJ m u v (128+k2x2)).x.val) ((bitJ m u v (128+k2x2)).y.val) ((bitJ m u v (128+k2x2)).z.val)) (tcs j3.x.val j3.y.val j3.z.val) (wS 0 219 (tcs j3.x.val j3.y.val j3.z.val) rfl) ?_
    refine sA ?_
    refine sP (.int .i64 1)<|sP (.pointer (some ⟨g3,1,none⟩))<|sS (qv (m / 18446744073709551616%18446744073709551616)) (qC 1 g3 1 164 26 (fcs m) rfl Tryz.underlying26)<|sP (.int .u64 ((bt k2x2:Nat):Int))<|sS (.int .u64 (((m / 18446744073709551616%18446744073709551616) &&& bt k2x2:Nat):Int)) (Quiet.pure (exec_and _ _ _ _ _ (m / 18446744073709551616%18446744073709551616) (bt k2x2) (Nat.mod_lt _ (by decide)) (bt_le _) rfl rfl rfl)) ?_
    obtain ⟨b7,hb7⟩:∃ z:Bool,z=decide ((m / 18446744073709551616%18446744073709551616) &&& bt k2x2≠0):=⟨_,rfl⟩
    refine sS (.bool b7) (Quiet.pure (exec_int .neq _ _ _ .u64 _ _ _ rfl rfl rfl (int_neq _ _ _ _ _ (by rw [hb7]; exact decide_eq_decide.2 (by omega))))) ?_
    refine sG ?_
    cases b7
    ·have lb7:¬ ((m / 18446744073709551616%18446744073709551616) &&& bt k2x2≠0):=of_decide_eq_false hb7.symm
     have fb7:¬ m / 2 ^ (255 - (128+k2x2))%2=1:=by
      have q:=and_bt (m / 18446744073709551616%18446744073709551616) k2x2 (by omega)
      have q2:=word_bit m 1 k2x2 (by omega)
      rw [show 64*1+(63 - k2x2)=255 - (128+k2x2) by omega] at q2
      rw [← q2]
      exact λt=>lb7 (q.2 t)
     refine sU<|Sy.skip<|Sy.in_<|Sy.then_<|Sy.region ?_
     refine sP (.int .u64 ((bt k2x2:Nat):Int))<|sS (.int .u64 ((bt (k2x2+1):Nat):Int)) (Quiet.pure (exec_int .quo _ _ _ .u64 _ _ _ rfl rfl rfl (int_quo _ _ _ _ _ (by decide) (by rw [← bt_next]; have:=bt_le k2x2; rw [show ((bt k2x2:Nat):Int).tdiv 2=((bt k2x2 / 2:Nat):Int) from rfl]; exact wrap_u64 (by omega) (by omega)))))<|sP (.int .u64 ((bt (k2x2+1):Nat):Int)) ?_
     refine Sy.nil ?_
     exact Sy.againK [true,true,true,true,true] (M:=[(g2,83,(pcs 0 0 false)),(g3,164,(fcs m)),(g4,164,(fcs u.val)),(g5,164,(fcs v.val)),(g6,219,(tcs j3.x.val j3.y.val j3.z.val))]) (by omega) (all_cons kR (all_cons kR (all_cons kR (all_cons kR (all_cons kR (all_cons kR (all_cons kR all_nil))))))) kR (bcons rfl (bcons rfl (bcons rfl (bcons rfl (bcons (beq (by rw [hj3, ← bitJ_no fb7]; rfl)) rfl)))))
    ·have lb7:(m / 18446744073709551616%18446744073709551616) &&& bt k2x2≠0:=of_decide_eq_true hb7.symm
     have fb7 :  m / 2 ^ (255 - (128+k2x2))%2=1:=by
      have q:=and_bt (m / 18446744073709551616%18446744073709551616) k2x2 (by omega)
      have q2:=word_bit m 1 k2x2 (by omega)
      rw [show 64*1+(63 - k2x2)=255 - (128+k2x2) by omega] at q2
      rw [← q2]
      exact q.1 lb7
     refine sT<|Sy.region ?_
     refine sS (tv j3.x.val j3.y.val j3.z.val) (qL 4 g6 0 12 219 219 (tcs j3.x.val j3.y.val j3.z.val) rfl Tryz.underlying219)<|sS (fv u.val) (qL 2 g4 0 4 164 164 (fcs u.val) rfl Tryz.underlying164)<|sS (fv v.val) (qL 3 g5 0 4 164 164 (fcs v.val) rfl Tryz.underlying164) ?_
     obtain ⟨j4,hj4⟩:∃ z:J,z=plusR j3 u v:=⟨_,rfl⟩
     refine sS (tv j4.x.val j4.y.val j4.z.val) (qF 170 #[tv j3.x.val j3.y.val j3.z.val,fv u.val,fv v.val] (λw=>by rw [hj4]; exact plusR_c w j3 u v))<|sW 4 g6 219 (tcs j3.x.val j3.y.val j3.z.val) (tcs j4.x.val j4.y.val j4.z.val) (wS 0 219 (tcs j4.x.val j4.y.val j4.z.val) rfl) ?_
     refine Sy.nil<|Sy.in_<|Sy.then_<|Sy.region ?_
     refine sP (.int .u64 ((bt k2x2:Nat):Int))<|sS (.int .u64 ((bt (k2x2+1):Nat):Int)) (Quiet.pure (exec_int .quo _ _ _ .u64 _ _ _ rfl rfl rfl (int_quo _ _ _ _ _ (by decide) (by rw [← bt_next]; have:=bt_le k2x2; rw [show ((bt k2x2:Nat):Int).tdiv 2=((bt k2x2 / 2:Nat):Int) from rfl]; exact wrap_u64 (by omega) (by omega)))))<|sP (.int .u64 ((bt (k2x2+1):Nat):Int)) ?_
     refine Sy.nil ?_
     exact Sy.againK [true,true,true,true,true] (M:=[(g2,83,(pcs 0 0 false)),(g3,164,(fcs m)),(g4,164,(fcs u.val)),(g5,164,(fcs v.val)),(g6,219,(tcs j4.x.val j4.y.val j4.z.val))]) (by omega) (all_cons kR (all_cons kR (all_cons kR (all_cons kR (all_cons kR (all_cons kR (all_cons kR all_nil))))))) kR (bcons rfl (bcons rfl (bcons rfl (bcons rfl (bcons (beq (by rw [hj4,hj3, ← bitJ_yes fb7]; rfl)) rfl)))))
  ·have lb2:k2x1<64:=of_decide_eq_true hb2.symm
   refine sT<|Sy.skip<|Sy.then_<|Sy.seq<|Sy.block<|sC ?_
   refine sS (tv ((bitJ m u v (64+k2x1)).x.val) ((bitJ m u v (64+k2x1)).y.val) ((bitJ m u v (64+k2x1)).z.val)) (qL 4 g6 0 12 219 219 (tcs ((bitJ m u v (64+k2x1)).x.val) ((bitJ m u v (64+k2x1)).y.val) ((bitJ m u v (64+k2x1)).z.val)) rfl Tryz.underlying219) ?_
   obtain ⟨j5,hj5⟩:∃ z:J,z=dblR (bitJ m u v (64+k2x1)):=⟨_,rfl⟩
   refine sS (tv j5.x.val j5.y.val j5.z.val) (qF 169 #[tv ((bitJ m u v (64+k2x1)).x.val) ((bitJ m u v (64+k2x1)).y.val) ((bitJ m u v (64+k2x1)).z.val)] (λw=>by rw [hj5]; exact twiceR_c w (bitJ m u v (64+k2x1))))<|sW 4 g6 219 (tcs ((bitJ m u v (64+k2x1)).x.val) ((bitJ m u v (64+k2x1)).y.val) ((bitJ m u v (64+k2x1)).z.val)) (tcs j5.x.val j5.y.val j5.z.val) (wS 0 219 (tcs j5.x.val j5.y.val j5.z.val) rfl) ?_
   refine sA ?_
   refine sP (.int .i64 2)<|sP (.pointer (some ⟨g3,2,none⟩))<|sS (qv (m / 340282366920938463463374607431768211456%18446744073709551616)) (qC 1 g3 2 164 26 (fcs m) rfl Tryz.underlying26)<|sP (.int .u64 ((bt k2x1:Nat):Int))<|sS (.int .u64 (((m / 340282366920938463463374607431768211456%18446744073709551616) &&& bt k2x1:Nat):Int)) (Quiet.pure (exec_and _ _ _ _ _ (m / 340282366920938463463374607431768211456%18446744073709551616) (bt k2x1) (Nat.mod_lt _ (by decide)) (bt_le _) rfl rfl rfl)) ?_
   obtain ⟨b8,hb8⟩:∃ z:Bool,z=decide ((m / 340282366920938463463374607431768211456%18446744073709551616) &&& bt k2x1≠0):=⟨_,rfl⟩
   refine sS (.bool b8) (Quiet.pure (exec_int .neq _ _ _ .u64 _ _ _ rfl rfl rfl (int_neq _ _ _ _ _ (by rw [hb8]; exact decide_eq_decide.2 (by omega))))) ?_
   refine sG ?_
   cases b8
   ·have lb8:¬ ((m / 340282366920938463463374607431768211456%18446744073709551616) &&& bt k2x1≠0):=of_decide_eq_false hb8.symm
    have fb8:¬ m / 2 ^ (255 - (64+k2x1))%2=1:=by
     have q:=and_bt (m / 340282366920938463463374607431768211456%18446744073709551616) k2x1 (by omega)
     have q2:=word_bit m 2 k2x1 (by omega)
     rw [show 64*2+(63 - k2x1)=255 - (64+k2x1) by omega] at q2
     rw [← q2]
     exact λt=>lb8 (q.2 t)
    refine sU<|Sy.skip<|Sy.in_<|Sy.then_<|Sy.region ?_
    refine sP (.int .u64 ((bt k2x1:Nat):Int))<|sS (.int .u64 ((bt (k2x1+1):Nat):Int)) (Quiet.pure (exec_int .quo _ _ _ .u64 _ _ _ rfl rfl rfl (int_quo _ _ _ _ _ (by decide) (by rw [← bt_next]; have:=bt_le k2x1; rw [show ((bt k2x1:Nat):Int).tdiv 2=((bt k2x1 / 2:Nat):Int) from rfl]; exact wrap_u64 (by omega) (by omega)))))<|sP (.int .u64 ((bt (k2x1+1):Nat):Int)) ?_
    refine Sy.nil ?_
    exact Sy.againK [true,true,true,true,true] (M:=[(g2,83,(pcs 0 0 false)),(g3,164,(fcs m)),(g4,164,(fcs u.val)),(g5,164,(fcs v.val)),(g6,219,(tcs j5.x.val j5.y.val j5.z.val))]) (by omega) (all_cons kR (all_cons kR (all_cons kR (all_cons kR (all_cons kR (all_cons kR (all_cons kR all_nil))))))) kR (bcons rfl (bcons rfl (bcons rfl (bcons rfl (bcons (beq (by rw [hj5, ← bitJ_no fb8]; rfl)) rfl)))))
   ·have lb8:(m / 340282366920938463463374607431768211456%18446744073709551616) &&& bt k2x1≠0:=of_decide_eq_true hb8.symm
    have fb8 :  m / 2 ^ (255 - (64+k2x1))%2=1:=by
     have q:=and_bt (m / 340282366920938463463374607431768211456%18446744073709551616) k2x1 (by omega)
     have q2:=word_bit m 2 k2x1 (by omega)
     rw [show 64*2+(63 - k2x1)=255 - (64+k2x1) by omega] at q2
     rw [← q2]
     exact q.1 lb8
    refine sT<|Sy.region ?_
    refine sS (tv j5.x.val j5.y.val j5.z.val) (qL 4 g6 0 12 219 219 (tcs j5.x.val j5.y.val j5.z.val) rfl Tryz.underlying219)<|sS (fv u.val) (qL 2 g4 0 4 164 164 (fcs u.val) rfl Tryz.underlying164)<|sS (fv v.val) (qL 3 g5 0 4 164 164 (fcs v.val) rfl Tryz.underlying164) ?_
    obtain ⟨j6,hj6⟩:∃ z:J,z=plusR j5 u v:=⟨_,rfl⟩
    refine sS (tv j6.x.val j6.y.val j6.z.val) (qF 170 #[tv j5.x.val j5.y.val j5.z.val,fv u.val,fv v.val] (λw=>by rw [hj6]; exact plusR_c w j5 u v))<|sW 4 g6 219 (tcs j5.x.val j5.y.val j5.z.val) (tcs j6.x.val j6.y.val j6.z.val) (wS 0 219 (tcs j6.x.val j6.y.val j6.z.val) rfl) ?_
    refine Sy.nil<|Sy.in_<|Sy.then_<|Sy.region ?_
    refine sP (.int .u64 ((bt k2x1:Nat):Int))<|sS (.int .u64 ((bt (k2x1+1):Nat):Int)) (Quiet.pure (exec_int .quo _ _ _ .u64 _ _ _ rfl rfl rfl (int_quo _ _ _ _ _ (by decide) (by rw [← bt_next]; have:=bt_le k2x1; rw [show ((bt k2x1:Nat):Int).tdiv 2=((bt k2x1 / 2:Nat):Int) from rfl]; exact wrap_u64 (by omega) (by omega)))))<|sP (.int .u64 ((bt (k2x1+1):Nat):Int)) ?_
    refine Sy.nil ?_
    exact Sy.againK [true,true,true,true,true] (M:=[(g2,83,(pcs 0 0 false)),(g3,164,(fcs m)),(g4,164,(fcs u.val)),(g5,164,(fcs v.val)),(g6,219,(tcs j6.x.val j6.y.val j6.z.val))]) (by omega) (all_cons kR (all_cons kR (all_cons kR (all_cons kR (all_cons kR (all_cons kR (all_cons kR all_nil))))))) kR (bcons rfl (bcons rfl (bcons rfl (bcons rfl (bcons (beq (by rw [hj6,hj5, ← bitJ_yes fb8]; rfl)) rfl)))))
 ·have lb1:k2x0<64:=of_decide_eq_true hb1.symm
  refine sT<|Sy.skip<|Sy.then_<|Sy.seq<|Sy.block<|sC ?_
  refine sS (tv ((bitJ m u v (0+k2x0)).x.val) ((bitJ m u v (0+k2x0)).y.val) ((bitJ m u v (0+k2x0)).z.val)) (qL 4 g6 0 12 219 219 (tcs ((bitJ m u v (0+k2x0)).x.val) ((bitJ m u v (0+k2x0)).y.val) ((bitJ m u v (0+k2x0)).z.val)) rfl Tryz.underlying219) ?_
  obtain ⟨j7,hj7⟩:∃ z:J,z=dblR (bitJ m u v (0+k2x0)):=⟨_,rfl⟩
  refine sS (tv j7.x.val j7.y.val j7.z.val) (qF 169 #[tv ((bitJ m u v (0+k2x0)).x.val) ((bitJ m u v (0+k2x0)).y.val) ((bitJ m u v (0+k2x0)).z.val)] (λw=>by rw [hj7]; exact twiceR_c w (bitJ m u v (0+k2x0))))<|sW 4 g6 219 (tcs ((bitJ m u v (0+k2x0)).x.val) ((bitJ m u v (0+k2x0)).y.val) ((bitJ m u v (0+k2x0)).z.val)) (tcs j7.x.val j7.y.val j7.z.val) (wS 0 219 (tcs j7.x.val j7.y.val j7.z.val) rfl) ?_
  refine sA ?_
  refine sP (.int .i64 3)<|sP (.pointer (some ⟨g3,3,none⟩))<|sS (qv (m / 6277101735386680763835789423207666416102355444464034512896%18446744073709551616)) (qC 1 g3 3 164 26 (fcs m) rfl Tryz.underlying26)<|sP (.int .u64 ((bt k2x0:Nat):Int))<|sS (.int .u64 (((m / 6277101735386680763835789423207666416102355444464034512896%18446744073709551616) &&& bt k2x0:Nat):Int)) (Quiet.pure (exec_and _ _ _ _ _ (m / 6277101735386680763835789423207666416102355444464034512896%18446744073709551616) (bt k2x0) (Nat.mod_lt _ (by decide)) (bt_le _) rfl rfl rfl)) ?_
  obtain ⟨b9,hb9⟩:∃ z:Bool,z=decide ((m / 6277101735386680763835789423207666416102355444464034512896%18446744073709551616) &&& bt k2x0≠0):=⟨_,rfl⟩
  refine sS (.bool b9) (Quiet.pure (exec_int .neq _ _ _ .u64 _ _ _ rfl rfl rfl (int_neq _ _ _ _ _ (by rw [hb9]; exact decide_eq_decide.2 (by omega))))) ?_
  refine sG ?_
  cases b9
  ·have lb9:¬ ((m / 6277101735386680763835789423207666416102355444464034512896%18446744073709551616) &&& bt k2x0≠0):=of_decide_eq_false hb9.symm
   have fb9:¬ m / 2 ^ (255 - (0+k2x0))%2=1:=by
    have q:=and_bt (m / 6277101735386680763835789423207666416102355444464034512896%18446744073709551616) k2x0 (by omega)
    have q2:=word_bit m 3 k2x0 (by omega)
    rw [show 64*3+(63 - k2x0)=255 - (0+k2x0) by omega] at q2
    rw [← q2]
    exact λt=>lb9 (q.2 t)
   refine sU<|Sy.skip<|Sy.in_<|Sy.then_<|Sy.region ?_
   refine sP (.int .u64 ((bt k2x0:Nat):Int))<|sS (.int .u64 ((bt (k2x0+1):Nat):Int)) (Quiet.pure (exec_int .quo _ _ _ .u64 _ _ _ rfl rfl rfl (int_quo _ _ _ _ _ (by decide) (by rw [← bt_next]; have:=bt_le k2x0; rw [show ((bt k2x0:Nat):Int).tdiv 2=((bt k2x0 / 2:Nat):Int) from rfl]; exact wrap_u64 (by omega) (by omega)))))<|sP (.int .u64 ((bt (k2x0+1):Nat):Int)) ?_
   refine Sy.nil ?_
   exact Sy.againK [true,true,true,true,true] (M:=[(g2,83,(pcs 0 0 false)),(g3,164,(fcs m)),(g4,164,(fcs u.val)),(g5,164,(fcs v.val)),(g6,219,(tcs j7.x.val j7.y.val j7.z.val))]) (by omega) (all_cons kR (all_cons kR (all_cons kR (all_cons kR (all_cons kR (all_cons kR (all_cons kR all_nil))))))) kR (bcons rfl (bcons rfl (bcons rfl (bcons rfl (bcons (beq (by rw [hj7, ← bitJ_no fb9]; rfl)) rfl)))))
  ·have lb9:(m / 6277101735386680763835789423207666416102355444464034512896%18446744073709551616) &&& bt k2x0≠0:=of_decide_eq_true hb9.symm
   have fb9 :  m / 2 ^ (255 - (0+k2x0))%2=1:=by
    have q:=and_bt (m / 6277101735386680763835789423207666416102355444464034512896%18446744073709551616) k2x0 (by omega)
    have q2:=word_bit m 3 k2x0 (by omega)
    rw [show 64*3+(63 - k2x0)=255 - (0+k2x0) by omega] at q2
    rw [← q2]
    exact q.1 lb9
   refine sT<|Sy.region ?_
   refine sS (tv j7.x.val j7.y.val j7.z.val) (qL 4 g6 0 12 219 219 (tcs j7.x.val j7.y.val j7.z.val) rfl Tryz.underlying219)<|sS (fv u.val) (qL 2 g4 0 4 164 164 (fcs u.val) rfl Tryz.underlying164)<|sS (fv v.val) (qL 3 g5 0 4 164 164 (fcs v.val) rfl Tryz.underlying164) ?_
   obtain ⟨j8,hj8⟩:∃ z:J,z=plusR j7 u v:=⟨_,rfl⟩
   refine sS (tv j8.x.val j8.y.val j8.z.val) (qF 170 #[tv j7.x.val j7.y.val j7.z.val,fv u.val,fv v.val] (λw=>by rw [hj8]; exact plusR_c w j7 u v))<|sW 4 g6 219 (tcs j7.x.val j7.y.val j7.z.val) (tcs j8.x.val j8.y.val j8.z.val) (wS 0 219 (tcs j8.x.val j8.y.val j8.z.val) rfl) ?_
   refine Sy.nil<|Sy.in_<|Sy.then_<|Sy.region ?_
   refine sP (.int .u64 ((bt k2x0:Nat):Int))<|sS (.int .u64 ((bt (k2x0+1):Nat):Int)) (Quiet.pure (exec_int .quo _ _ _ .u64 _ _ _ rfl rfl rfl (int_quo _ _ _ _ _ (by decide) (by rw [← bt_next]; have:=bt_le k2x0; rw [show ((bt k2x0:Nat):Int).tdiv 2=((bt k2x0 / 2:Nat):Int) from rfl]; exact wrap_u64 (by omega) (by omega)))))<|sP (.int .u64 ((bt (k2x0+1):Nat):Int)) ?_
   refine Sy.nil ?_
   exact Sy.againK [true,true,true,true,true] (M:=[(g2,83,(pcs 0 0 false)),(g3,164,(fcs m)),(g4,164,(fcs u.val)),(g5,164,(fcs v.val)),(g6,219,(tcs j8.x.val j8.y.val j8.z.val))]) (by omega) (all_cons kR (all_cons kR (all_cons kR (all_cons kR (all_cons kR (all_cons kR (all_cons kR all_nil))))))) kR (bcons rfl (bcons rfl (bcons rfl (bcons rfl (bcons (beq (by rw [hj8,hj7, ← bitJ_yes fb9]; rfl)) rfl)))))
theorem mulRe_any (w:World) (k x y:Nat) (i:Bool) (hk:k<K4) (hx:x<K4) (hy:y<K4):Calls Tryz.prog 123 #[fv k,pv x y i] w (Gets w (ptv (Ec.nm finv (k%Sc.pM) (dec x y i)))):=by
 have o1:=dec_on x y i
 rcases h:dec x y i with _ | ⟨u,v⟩
 ·rw [Ec.nm_none]
  exact mulRe_none w k x y i hk hx hy h
 ·rw [h] at o1
  exact mulRe_some w k x y i hk hx hy u v h o1
end Cu
end
section
namespace Cu
open Go.RowKit Sy
set_option maxRecDepth 100000
set_option maxHeartbeats 4000000
theorem own_cell {w:World} {g:Nat} {t:TypeId} {m:List UInt8} {sp:List Value} (hb:Blk w g t (m.map bv++sp).toArray) (j:Nat) (u:UInt8) (hj:m[j]? = some u):w.cell? ⟨g,j,none⟩=some (bv u):=by
 refine (hb.cell j).trans ?_
 have hl:=(List.getElem?_eq_some_iff.1 hj).1
 rw [List.getElem?_toArray,List.getElem?_append_left (by rw [List.length_map]; exact hl),List.getElem?_map,hj]
 rfl
theorem nsc_any (w:World) (a:Nat) (ha:a<K4):Calls Tryz.prog 183 #[fv a] w (Gets w (fv (a%Sc.pM))):=by
 refine Sy.enter (args:=[fv a]) Tryz.func183 rfl kL ?_
 refine sC ?_
 refine sM 36 (fcs a) (λg0=>?_)
 refine sM 36 (fcs 0) (λg1=>?_)
 refine sH (λj=>j == 5) ?_
 refine sD 0 rfl (.agg modN) (qF 157 #[] (Sc.refN_any))<|sD 1 rfl (fv a) (qL 0 g0 0 4 36 36 (fcs a) rfl Tryz.underlying36)<|sD 2 rfl (fv a) (qF 168 #[fv a] (λw=>Sc.refOf_any w a (by first | assumption | exact Sc.mod_lt _ | exact lt4 _ | exact valB_lt32 _ (by first | assumption | exact bytesS_length _) | decide +kernel)))<|sD 3 rfl (fv (a%Sc.pM)) (qF 167 #[.agg modN,fv a] (λw=>Sc.normR_any w a (by first | assumption | exact Sc.mod_lt _ | exact lt4 _ | exact valB_lt32 _ (by first | assumption | exact bytesS_length _) | decide +kernel)))<|sD 4 rfl (fv (a%Sc.pM)) (qF 158 #[fv (a%Sc.pM)] (λw=>Sc.refSc_any w (a%Sc.pM) (by first | assumption | exact Sc.mod_lt _ | exact lt4 _ | exact valB_lt32 _ (by first | assumption | exact bytesS_length _) | decide +kernel)))<|sX 5 rfl 1 g1 36 (fcs 0) (fcs (a%Sc.pM)) (wS 0 36 (fcs (a%Sc.pM)) rfl) ?_
 refine sI ?_
 refine Sy.ret ?_
 exact rC (v:=fv (a%Sc.pM)) 36 g1 1 (fcs (a%Sc.pM)) rfl Tryz.underlying36
theorem rsc_any (w:World) (l:List UInt8) (hl:l.length=32):Calls Tryz.prog 159 #[.agg (l.map bv).toArray] w (Gets w (fv (valB l%Sc.pM))):=by
 refine Sy.enter (args:=[.agg (l.map bv).toArray]) Tryz.func159 rfl kL ?_
 refine sC ?_
 refine sM 25 (l.map bv).toArray (λg0=>?_)
 refine sM 36 (fcs 0) (λg1=>?_)
 refine sA ?_
 refine sS (.agg (l.map bv).toArray) (Quiet.load 0 g0 0 32 25 25 (l.map bv).toArray _ _ rfl kR kR Tryz.underlying25 rfl kR _ (key_whole l hl) (key_size l hl)) ?_
 refine Sy.callN kR 18 #[.agg (l.map bv).toArray] kF (λvq Mq=>∃ (g:Nat) (sp:List Value) (cap:Nat),vq=.slice (some ⟨g,0,none⟩) 32 cap∧(32≤cap∧cap≤9223372036854775807)∧Mq=[(g,5,(l.map bv++sp).toArray)]) (λw _=>textN_any w l hl) (λvq Mq hR0=>?_)
 obtain ⟨go1,spo1,cpo1,rfl,hcpo1,rfl⟩:=hR0
 refine sS (fv (valB l)) (qG 117 #[.slice (some ⟨go1,0,none⟩) 32 cpo1] (λw hw=>numberR_any w go1 cpo1 l hl (hw.get (i:=2) rfl).lt (own_cell (hw.get (i:=2) rfl)) hcpo1.1 hcpo1.2))<|sS (fv (valB l)) (qF 158 #[fv (valB l)] (λw=>Sc.refSc_any w (valB l) (by first | assumption | exact Sc.mod_lt _ | exact lt4 _ | exact valB_lt32 _ (by first | assumption | exact bytesS_length _) | decide +kernel)))<|sS (fv ((valB l)%Sc.pM)) (qF 183 #[fv (valB l)] (λw=>nsc_any w (valB l) (by first | assumption | exact Sc.mod_lt _ | exact lt4 _ | exact valB_lt32 _ (by first | assumption | exact bytesS_length _) | decide +kernel)))<|sW 1 g1 36 (fcs 0) (fcs ((valB l)%Sc.pM)) (wS 0 36 (fcs ((valB l)%Sc.pM)) rfl) ?_
 refine sG<|Sy.ret ?_
 exact rC (v:=fv ((valB l)%Sc.pM)) 36 g1 1 (fcs ((valB l)%Sc.pM)) rfl Tryz.underlying36
end Cu
end
section
namespace Cu
open Go.RowKit Sy
set_option maxRecDepth 100000
set_option maxHeartbeats 4000000
theorem key_sym {l:List UInt8} {n:Nat} (h:l.length=n) {k o:Nat} (hk:k<n) (ho:o=k):((l.map bv).toArray)[o]? = some (bv (l.getD k 0)):=by
 subst h ho
 rw [List.getElem?_toArray,List.getElem?_map,List.getD_eq_getElem?_getD,List.getElem?_eq_getElem hk]
 rfl
theorem cat_get1 {X Y:List UInt8} {n k:Nat} (hX:X.length=n) (hk:k<n):(X++Y).getD k 0=X.getD k 0:=by
 rw [List.getD_eq_getElem?_getD,List.getD_eq_getElem?_getD,List.getElem?_append_left (by omega)]
theorem cat_get2 {X Y:List UInt8} {n k:Nat} (hX:X.length=n):(X++Y).getD (n+k) 0=Y.getD k 0:=by
 rw [List.getD_eq_getElem?_getD,List.getD_eq_getElem?_getD,List.getElem?_append_right (by omega),hX,Nat.add_sub_cancel_left]
theorem red_any (w:World) (nm:ByteArray) (hnm:nm.size≤1000000000) (T:Option Addr) (ts:List Sh.Tx) (n ct:Nat) (hn:ts.length=n) (hn2:n≤1000000000) (hT:Sh.Texts w T ts) (htr:Sh.TabAt w 0) (hm:(Sh.cat ts).length≤1000000000):Calls Tryz.prog 121 #[.string nm,.slice T n ct] w (Gets w (fv (valB (Sh.taggedS nm.data.toList (Sh.cat ts))%Sc.pM))):=by
 refine Sy.enter (args:=[.string nm,.slice T n ct]) Tryz.func121 rfl kL ?_
 refine sC ?_
 refine sM 36 (fcs 0) (λg0=>?_)
 refine sA ?_
 refine sP (.string nm)<|sP (.slice T n ct)<|sS (.agg ((Sh.taggedS nm.data.toList (Sh.cat ts)).map bv).toArray) (qG 160 #[.string nm,.slice T n ct] (λw hw=>by have q:=Sh.taggedR_any w nm T ts ct (hT.below hw.below) (htr.below hw.below htr.lt) hnm hm (by omega); rw [hn] at q; exact q))<|sS (fv (valB (Sh.taggedS nm.data.toList (Sh.cat ts))%Sc.pM)) (qF 159 #[.agg ((Sh.taggedS nm.data.toList (Sh.cat ts)).map bv).toArray] (λw=>rsc_any w (Sh.taggedS nm.data.toList (Sh.cat ts)) (tagS_length _ _)))<|sW 0 g0 36 (fcs 0) (fcs (valB (Sh.taggedS nm.data.toList (Sh.cat ts))%Sc.pM)) (wS 0 36 (fcs (valB (Sh.taggedS nm.data.toList (Sh.cat ts))%Sc.pM)) rfl) ?_
 refine sG<|Sy.ret ?_
 exact rC (v:=fv (valB (Sh.taggedS nm.data.toList (Sh.cat ts))%Sc.pM)) 36 g0 0 (fcs (valB (Sh.taggedS nm.data.toList (Sh.cat ts))%Sc.pM)) rfl Tryz.underlying36
theorem rdR_any (w:World) (g cp:Nat) (l:List UInt8) (hl:l.length=32) (hg:g<w.heap.size) (hc:∀ j u,l[j]? = some u→w.cell? ⟨g,j,none⟩=some (bv u)) (h1:32≤cp) (h2:cp≤9223372036854775807):Calls Tryz.prog 120 #[.slice (some ⟨g,0,none⟩) 32 cp] w (Gets w (.tuple #[fv (Sc.readS l).1,.bool (Sc.readS l).2])):=by
 refine Sy.enter (args:=[.slice (some ⟨g,0,none⟩) 32 cp]) Tryz.func120 rfl kL ?_
 refine sC ?_
 refine sM 36 (fcs 0) (λg0=>?_)
 refine sP (.bool false) ?_
 refine sA ?_
 refine sP (.slice (some ⟨g,0,none⟩) 32 cp)<|sS (fv (valB l)) (qG 117 #[.slice (some ⟨g,0,none⟩) 32 cp] (λw hw=>numberR_any w g cp l hl (Nat.lt_of_lt_of_le hg hw.below.size) (λj u hj=>(Below.cell (p:=⟨g,j,none⟩) hw.below hg).trans (hc j u hj)) h1 h2)) ?_
 refine sM 164 (fcs 0) (λg1=>?_)
 refine sW 1 g1 164 (fcs 0) (fcs (valB l)) (wS 0 164 (fcs (valB l)) rfl) ?_
 refine sH (λj=>false) ?_
 refine sD 0 rfl (.agg modN) (qF 157 #[] (Sc.refN_any))<|sD 1 rfl (fv (valB l)) (qL 1 g1 0 4 164 164 (fcs (valB l)) rfl Tryz.underlying164) ?_
 obtain ⟨b1,hb1⟩:∃ z:Bool,z=decide (valB l<Sc.pM):=⟨_,rfl⟩
 refine sD 2 rfl (.bool b1) (qF 118 #[.agg modN,fv (valB l)] (λw=>by rw [hb1]; exact Sc.rightR_any w (valB l) (valB_lt32 l hl)))<|sZ 3 rfl (.bool b1) ?_
 refine sI ?_
 refine Sy.seq<|sC ?_
 refine sP (.slice (some ⟨g,0,none⟩) 32 cp)<|sP (.int .i64 32)<|sP (.bool false)<|sP (.bool false)<|sP (.bool b1) ?_
 cases b1
 ·refine sP (.bool true)<|sP (.bool true) ?_
  refine sG<|sT<|sC ?_
  refine sP (fv 0)<|sW 0 g0 36 (fcs 0) (fcs 0) (wS 0 36 (fcs 0) rfl)<|sP (.bool false) ?_
  refine sG<|Sy.ret<|Sy.then_ret ?_
  rw [show (.tuple #[fv (Sc.readS l).1,.bool (Sc.readS l).2]:Value)=.tuple #[fv 0,.bool false] from by unfold Sc.readS; rw [if_neg (of_decide_eq_false hb1.symm)]]
  exact Sy.ret2 (v:=fv 0) (u:=.bool false) rfl (.inl (Res.cell (ty':=36) g0 0 (fcs 0) _ kR kR Tryz.underlying36 rfl kR kR)) (.inl (show _=_ by kernel_rfl))
 ·refine sP (.bool false)<|sP (.bool false) ?_
  refine sG<|sU<|Sy.skip<|sB ?_
  refine sS (fv (valB l)) (qL 1 g1 0 4 164 164 (fcs (valB l)) rfl Tryz.underlying164)<|sS (fv (valB l)) (qF 158 #[fv (valB l)] (λw=>Sc.refSc_any w (valB l) (by first | assumption | exact Sc.mod_lt _ | exact lt4 _ | exact valB_lt32 _ (by first | assumption | exact bytesS_length _) | decide +kernel)))<|sW 0 g0 36 (fcs 0) (fcs (valB l)) (wS 0 36 (fcs (valB l)) rfl)<|sP (.bool true) ?_
  refine sG<|Sy.ret ?_
  rw [show (.tuple #[fv (Sc.readS l).1,.bool (Sc.readS l).2]:Value)=.tuple #[fv (valB l),.bool true] from by unfold Sc.readS; rw [if_pos (of_decide_eq_true hb1.symm)]]
  exact Sy.ret2 (v:=fv (valB l)) (u:=.bool true) rfl (.inl (Res.cell (ty':=36) g0 0 (fcs (valB l)) _ kR kR Tryz.underlying36 rfl kR kR)) (.inl (show _=_ by kernel_rfl))
end Cu
end
section
namespace Cu
open Go.RowKit Sy
end Cu
end
section
namespace Cu
open Go.RowKit Sy
end Cu
end
section
namespace Cu
open Go.RowKit Sy
end Cu
end
section
namespace Cu
open Go.RowKit Sy
end Cu
end
section
namespace Cu
open Go.RowKit Sy
set_option maxRecDepth 100000
set_option maxHeartbeats 4000000
theorem lP {n:Nat} (h:n<K4:=by first | assumption | exact small_lt (by assumption) | exact pX_lt _ | exact pY_lt _ | exact lt4 _ | exact Sc.mod_lt _ | decide +kernel):n<K4:=h
theorem mulR_of {P R:Pt} {k a b:Nat} {i:Bool} (hk:k<K4) (ha:a<K4) (hb:b<K4) (h1:dec a b i=P) (he:Ec.nm finv (k%Sc.pM) P=R) (w:World):Calls Tryz.prog 123 #[fv k,pv a b i] w (Gets w (pv (pX R) (pY R) (pI R))):=by
 have h:=mulRe_any w k a b i hk ha hb
 rw [h1,he,ptv_parts] at h
 exact h
end Cu
end
section
namespace Cu
open Go.RowKit Sy
def refC (key m X Y:List UInt8):Bool:=liftB key && decide (valB X<pM) && (Sc.readS Y).2 && okR (Ec.add finv (Ec.nm finv ((Sc.readS Y).1%Sc.pM) bP) (Ec.neg (Ec.nm finv (chalS X key m%Sc.pM) (liftP key)))) (valB X)
theorem refC_is (key m X Y:List UInt8) (hX:X.length=32) (hY:Y.length=32):refC key m X Y=refB key m (X++Y):=by
 have e1:((X++Y).drop 0).take 32=X:=by rw [List.drop_zero, ← hX,List.take_left]
 have e2:((X++Y).drop 32).take 32=Y:=by rw [← hX,List.drop_left,hX, ← hY,List.take_length]
 unfold refC refB vrP
 rw [e1,e2]
theorem okR_raw {R:Pt} {x y:Nat} {i:Bool} (h:dec x y i=R) (hr:rightB x y i=true) (n:Nat):okR R n=(!i && (decide (y%18446744073709551616%2=0) && decide (x=n))):=by
 subst h
 cases i with
 | true =>
  rw [dec_inf]
  rfl
 | false =>
  have hr':=hr
  unfold rightB at hr
  rw [if_neg (by decide),Bool.and_eq_true,Bool.and_eq_true,decide_eq_true_eq,decide_eq_true_eq,decide_eq_true_eq] at hr
  have e:dec x y false=some (⟨x,hr.1.1⟩,⟨y,hr.1.2⟩):=by
   unfold dec
   rw [dif_pos ⟨rfl,hr.1.1,hr.1.2,hr.2⟩]
  rw [e]
  show (decide (y%2=0) && decide (x=n))=_
  rw [show y%18446744073709551616%2=y%2 by omega]
  rfl
theorem negR_of {P R:Pt} {a b:Nat} {i:Bool} (ha:a<K4) (hb:b<K4) (h1:dec a b i=P) (he:Ec.neg P=R) (w:World):Calls Tryz.prog 125 #[pv a b i] w (Gets w (pv (pX R) (pY R) (pI R))):=by
 have h:=negRe_any w a b i ha hb
 rw [h1,he,ptv_parts] at h
 exact h
theorem add_raw {P Q R:Pt} {a b c d x y:Nat} {i j k:Bool} (ha:a<K4) (hb:b<K4) (hc:c<K4) (hd:d<K4) (h1:dec a b i=P) (h2:dec c d j=Q) (he:Ec.add finv P Q=R) (h3:ptv R=pv x y k) (w:World):Calls Tryz.prog 122 #[pv a b i,pv c d j] w (Gets w (pv x y k)):=by
 have h:=addRe_any w a b i c d j ha hb hc hd
 rw [h1,h2,he,h3] at h
 exact h
theorem ok_own {w:World} {g:Nat} {t:TypeId} {l:List UInt8} {sp:List Value} {c:Nat} (hb:Blk w g t (l.map bv++sp).toArray) (hl:l.length=32) (hc:32≤c∧c≤9223372036854775807):(Sh.Tx.mk (some ⟨g,0,none⟩) l c).ok w:=⟨src_own hb,by show l.length≤c; omega,hc.2⟩
theorem val_own {g c:Nat} {l:List UInt8} (hl:l.length=32):(Sh.Tx.mk (some ⟨g,0,none⟩) l c).val=.slice (some ⟨g,0,none⟩) 32 c:=by
 unfold Sh.Tx.val
 rw [hl]
theorem red3_c {w:World} {nm:ByteArray} (hnm:nm.size≤1000000000) {g g1 g2:Nat} {t t1 t2:TypeId} {x y m:List UInt8} {A:Option Addr} {c cx cy n:Nat} {sx sy:List Value} (hx:x.length=32) (hy:y.length=32) (hn:m.length=n) (hm:n≤999999900) (hc:n≤c) (hc2:c≤9223372036854775807)
  (h1:Blk w g1 t1 (x.map bv++sx).toArray) (c1:32≤cx∧cx≤9223372036854775807) (h2:Blk w g2 t2 (y.map bv++sy).toArray) (c2:32≤cy∧cy≤9223372036854775807) (hs:Sh.Src w A m) (hb:Blk w g t #[.slice (some ⟨g1,0,none⟩) 32 cx,.slice (some ⟨g2,0,none⟩) 32 cy,.slice A n c]) (ht:Sh.TabAt w 0) :
  Calls Tryz.prog 121 #[.string nm,.slice (some ⟨g,0,none⟩) 3 3] w (Gets w (fv (valB (Sh.taggedS nm.data.toList (x++y++m))%Sc.pM))):=by
 subst hn
 have e:Sh.cat [⟨some ⟨g1,0,none⟩,x,cx⟩,⟨some ⟨g2,0,none⟩,y,cy⟩,⟨A,m,c⟩]=x++y++m:=by simp [Sh.cat]
 have q:=red_any w nm hnm (some ⟨g,0,none⟩) [⟨some ⟨g1,0,none⟩,x,cx⟩,⟨some ⟨g2,0,none⟩,y,cy⟩,⟨A,m,c⟩] 3 3 rfl (by decide) (texts_blk (by
  rw [List.map_cons,List.map_cons,List.map_cons,List.map_nil,val_own hx,val_own hy]
  exact hb) (ok3 (ok_own h1 hx c1) (ok_own h2 hy c2) ⟨hs,hc,hc2⟩)) ht (by rw [e,List.length_append,List.length_append,hx,hy]; omega)
 rw [e] at q
 exact q
set_option maxHeartbeats 4000000 in
set_option maxRecDepth 100000 in
theorem verR_any (w:World) (key X Y:List UInt8) (hkey:key.length=32) (hX:X.length=32) (hY:Y.length=32) (A:Option Addr) (m:List UInt8) (n c:Nat) (hn:m.length=n) (hm:n≤999999900) (hc:n≤c) (hc2:c≤9223372036854775807) (hs:Sh.Src w A m) (htr:Sh.TabAt w 0):Calls Tryz.prog 73 #[.agg (key.map bv).toArray,.slice A n c,.agg ((X++Y).map bv).toArray] w (Gets w (.bool (refC key m X Y))):=by
 refine Sy.enter (args:=[.agg (key.map bv).toArray,.slice A n c,.agg ((X++Y).map bv).toArray]) Tryz.func73 rfl kL ?_
 refine sC ?_
 refine sM 39 (key.map bv).toArray (λg0=>?_)
 refine sM 38 ((X++Y).map bv).toArray (λg1=>?_)
 refine sP (.bool false) ?_
 refine sA ?_
 refine sP (.slice none 0 0) ?_
 refine sA ?_
 refine sP (.slice none 0 0) ?_
 refine sA ?_
 refine sP (.slice none 0 0) ?_
 refine sG<|Sy.seq<|sC ?_
 refine sP (.int .i64 0) ?_
 refine sG<|Sy.block ?_
 refine Sy.loopN (31+1+1) ?_
 refine Sy.round<|Sy.seq<|sC ?_
 refine sP (.int .i64 0)<|sP (.bool true) ?_
 refine sG<|sT<|Sy.skip<|Sy.then_<|Sy.seq<|Sy.block<|sC ?_
 refine sP (.slice none 0 0)<|sP (.int .i64 0)<|sP (.pointer (some ⟨g1,0,none⟩))<|sS (bv (X.getD 0 0)) (Quiet.cell 1 g1 0 38 5 ((X++Y).map bv).toArray _ _ rfl kR kR Tryz.underlying5 rfl _ ((key_at (X++Y) (cat_length hX hY) 0 (by decide)).trans (congrArg (λz=>some (bv z)) (cat_get1 hX (by decide))))) ?_
 refine Sy.make kR 5 #[bv (X.getD 0 0)] (λg=>.slice (some ⟨g,0,none⟩) 1 1) kF (λg2=>?_)
 refine Sy.appendNil kR 22 5 _ _ Tryz.underlying22 info_u8 rfl rfl rfl rfl _ _ rfl kR 2 g2 0 1 1 5 #[bv (X.getD 0 0)] [bv (X.getD 0 0)] kR kR kR rfl (by decide) (by intro u hu; simp only [List.mem_cons,List.not_mem_nil,or_false] at hu; subst hu; rfl) (by decide) (λq1 c1 s1 e1 m1=>?_)
 refine sP (.slice (some ⟨q1,0,none⟩) 1 c1) ?_
 refine sA ?_
 refine sP (.slice none 0 0)<|sP (.int .i64 0)<|sP (.int .i64 32)<|sP (.pointer (some ⟨g1,32,none⟩))<|sS (bv (Y.getD 0 0)) (Quiet.cell 1 g1 32 38 5 ((X++Y).map bv).toArray _ _ rfl kR kR Tryz.underlying5 rfl _ ((key_at (X++Y) (cat_length hX hY) 32 (by decide)).trans (congrArg (λz=>some (bv z)) (cat_get2 (k:=0) hX)))) ?_
 refine Sy.make kR 5 #[bv (Y.getD 0 0)] (λg=>.slice (some ⟨g,0,none⟩) 1 1) kF (λg3=>?_)
 refine Sy.appendNil kR 22 5 _ _ Tryz.underlying22 info_u8 rfl rfl rfl rfl _ _ rfl kR 4 g3 0 1 1 5 #[bv (Y.getD 0 0)] [bv (Y.getD 0 0)] kR kR kR rfl (by decide) (by intro u hu; simp only [List.mem_cons,List.not_mem_nil,or_false] at hu; subst hu; rfl) (by decide) (λq2 c2 s2 e2 m2=>?_)
 refine sP (.slice (some ⟨q2,0,none⟩) 1 c2) ?_
 refine sG<|Sy.region ?_
 refine sP (.slice none 0 0)<|sP (.int .i64 0)<|sP (.pointer (some ⟨g0,0,none⟩))<|sS (bv (key.getD 0 0)) (Quiet.cell 0 g0 0 39 5 (key.map bv).toArray _ _ rfl kR kR Tryz.underlying5 rfl _ (key_at key hkey 0 (by decide))) ?_
 refine Sy.make kR 5 #[bv (key.getD 0 0)] (λg=>.slice (some ⟨g,0,none⟩) 1 1) kF (λg4=>?_)
 refine Sy.appendNil kR 22 5 _ _ Tryz.underlying22 info_u8 rfl rfl rfl rfl _ _ rfl kR 6 g4 0 1 1 5 #[bv (key.getD 0 0)] [bv (key.getD 0 0)] kR kR kR rfl (by decide) (by intro u hu; simp only [List.mem_cons,List.not_mem_nil,or_false] at hu; subst hu; rfl) (by decide) (λq3 c3 s3 e3 m3=>?_)
 refine sP (.slice (some ⟨q3,0,none⟩) 1 c3) ?_
 refine Sy.nil<|Sy.in_<|Sy.then_<|Sy.region ?_
 refine sP (.int .i64 0)<|sP (.int .i64 1)<|sP (.int .i64 1) ?_
 refine Sy.nil<|Sy.again ?_
 refine Sy.loopXR (T:=(Nat×Nat×List Value)×(Nat×Nat×List Value)×(Nat×Nat×List Value)) 31 (λk1 y1=>[(1,.slice A n c),(3,.pointer (some ⟨g0,0,none⟩)),(5,.pointer (some ⟨g1,0,none⟩)),(7,.slice (some ⟨y1.1.1,0,none⟩) (k1+1) y1.1.2.1),(8,.slice (some ⟨y1.2.1.1,0,none⟩) (k1+1) y1.2.1.2.1),(9,.slice (some ⟨y1.2.2.1,0,none⟩) (k1+1) y1.2.2.2.1),(10,.int .i64 ((k1+1:Nat):Int))]) (λk1 y1=>[(g0,39,(key.map bv).toArray),(g1,38,((X++Y).map bv).toArray),(y1.1.1,5,((X.take k1).map bv++([bv (X.getD k1 0)]++y1.1.2.2)).toArray),(y1.2.1.1,5,((Y.take k1).map bv++([bv (Y.getD k1 0)]++y1.2.1.2.2)).toArray),(y1.2.2.1,5,((key.take k1).map bv++([bv (key.getD k1 0)]++y1.2.2.2.2)).toArray)]) (λk1 y1=>(y1.1.2.2.length+(k1+1)=y1.1.2.1∧y1.1.2.1≤maxLen)∧(y1.2.1.2.2.length+(k1+1)=y1.2.1.2.1∧y1.2.1.2.1≤maxLen)∧(y1.2.2.2.2.length+(k1+1)=y1.2.2.2.1∧y1.2.2.2.1≤maxLen)) ((q1,c1,s1),(q2,c2,s2),(q3,c3,s3)) [true,true,false,true,false,true,false,true] ⟨⟨e1,m1⟩,⟨e2,m2⟩,e3,m3⟩ (all_cons kR (all_cons kR (all_cons kR (all_cons kR (all_cons kR (all_cons kR (all_cons kR all_nil))))))) kR (λk1 y1 hk1 hh1=>?_)
 refine Sy.seq<|sC ?_
 refine sP (.int .i64 ((k1+1:Nat):Int)) ?_
 obtain ⟨b1,hb1⟩:∃ z:Bool,z=decide (k1+1<32):=⟨_,rfl⟩
 refine sS (.bool b1) (Quiet.pure (exec_int .lss _ _ _ .i64 _ _ _ rfl rfl rfl (int_lss _ _ _ _ _ (by rw [hb1]; exact decide_eq_decide.2 (by omega))))) ?_
 refine sG ?_
 cases b1
 ·have lb1:¬ (k1+1<32):=of_decide_eq_false hb1.symm
  refine sU<|Sy.exit<|Sy.then_exit<|Sy.then_exit ?_
  obtain rfl:k1=31:=by omega
  have hc1:32≤y1.1.2.1∧y1.1.2.1≤9223372036854775807:=by
   have q:=hh1.1
   simp only [maxLen] at q
   exact ⟨by omega,by omega⟩
  have hc2_:32≤y1.2.1.2.1∧y1.2.1.2.1≤9223372036854775807:=by
   have q:=hh1.2.1
   simp only [maxLen] at q
   exact ⟨by omega,by omega⟩
  have hc3:32≤y1.2.2.2.1∧y1.2.2.2.1≤9223372036854775807:=by
   have q:=hh1.2.2
   simp only [maxLen] at q
   exact ⟨by omega,by omega⟩
  have lvX:valB X<K4:=valB_lt32 X hX
  refine Sy.in_exit<|Sy.then_ ?_
  refine Sy.tidyC (G:=[(1,.slice A n c),(3,.pointer (some ⟨g0,0,none⟩)),(5,.pointer (some ⟨g1,0,none⟩)),(7,.slice (some ⟨y1.1.1,0,none⟩) 32 y1.1.2.1),(8,.slice (some ⟨y1.2.1.1,0,none⟩) 32 y1.2.1.2.1),(9,.slice (some ⟨y1.2.2.1,0,none⟩) 32 y1.2.2.2.1)]) (N:=[(g0,39,(key.map bv).toArray),(g1,38,((X++Y).map bv).toArray),(y1.1.1,5,(X.map bv++y1.1.2.2).toArray),(y1.2.1.1,5,(Y.map bv++y1.2.1.2.2).toArray),(y1.2.2.1,5,(key.map bv++y1.2.2.2.2).toArray)]) [true,true,true,true,true] rfl (bcons rfl (bcons rfl (bcons (beq (congrArg List.toArray (apd_full X 31 hX))) (bcons (beq (congrArg List.toArray (apd_full Y 31 hY))) (bcons (beq (congrArg List.toArray (apd_full key 31 hkey))) rfl))))) (all_cons kR (all_cons kR (all_cons kR (all_cons kR (all_cons kR (all_cons kR all_nil)))))) ?_
  refine sC ?_
  refine sS (.agg (key.map bv).toArray) (Quiet.load 0 g0 0 32 39 39 (key.map bv).toArray _ _ rfl kR kR Tryz.underlying39 rfl kR _ (key_whole key hkey) (key_size key hkey)) ?_
  obtain ⟨b2,hb2⟩:∃ z:Bool,z=liftB key:=⟨_,rfl⟩
  obtain ⟨R1,hR1⟩:∃ P:Pt,P=liftP key:=⟨_,rfl⟩
  have oR1:Ec.On R1:=by rw [hR1]; exact liftP_on _
  refine sS (.tuple #[pv (pX R1) (pY R1) (pI R1),.bool b2]) (qF 116 #[.agg (key.map bv).toArray] (λw=>by rw [← ptv_parts,hR1,hb2]; exact liftR_any w key hkey))<|sP (.tuple #[pv (pX R1) (pY R1) (pI R1),.bool b2])<|sP (pv (pX R1) (pY R1) (pI R1))<|sP (.bool b2) ?_
  refine sM 83 (pcs 0 0 false) (λg5=>?_)
  refine sW 5 g5 83 (pcs 0 0 false) (pcs (pX R1) (pY R1) (pI R1)) (wS 0 83 (pcs (pX R1) (pY R1) (pI R1)) rfl)<|sP (.bool b2) ?_
  refine sA ?_
  refine sP (.slice (some ⟨y1.1.1,0,none⟩) 32 y1.1.2.1)<|sS (fv (valB X)) (qG 117 #[.slice (some ⟨y1.1.1,0,none⟩) 32 y1.1.2.1] (λw hw=>numberR_any w y1.1.1 y1.1.2.1 X hX (hw.get (i:=2) rfl).lt (own_cell (hw.get (i:=2) rfl)) hc1.1 hc1.2)) ?_
  refine sM 164 (fcs 0) (λg6=>?_)
  refine sW 6 g6 164 (fcs 0) (fcs (valB X)) (wS 0 164 (fcs (valB X)) rfl) ?_
  refine sH (λj=>false) ?_
  refine sD 0 rfl (.agg modcs) (qF 119 #[] (refP_any))<|sD 1 rfl (fv (valB X)) (qL 6 g6 0 4 164 164 (fcs (valB X)) rfl Tryz.underlying164) ?_
  obtain ⟨b3,hb3⟩:∃ z:Bool,z=decide (valB X<pM):=⟨_,rfl⟩
  refine sD 2 rfl (.bool b3) (qF 118 #[.agg modcs,fv (valB X)] (λw=>by rw [hb3]; exact rightR_any w (valB X) (valB_lt32 X hX)))<|sZ 3 rfl (.bool b3) ?_
  refine sE ?_
  refine sB ?_
  refine sP (.slice (some ⟨y1.2.1.1,0,none⟩) 32 y1.2.1.2.1) ?_
  obtain ⟨b4,hb4⟩:∃ z:Bool,z=(Sc.readS Y).2:=⟨_,rfl⟩
  have lrY:(Sc.readS Y).1<K4:=readS_lt Y
  refine sS (.tuple #[fv ((Sc.readS Y).1),.bool b4]) (qG 120 #[.slice (some ⟨y1.2.1.1,0,none⟩) 32 y1.2.1.2.1] (λw hw=>by rw [hb4]; exact rdR_any w y1.2.1.1 y1.2.1.2.1 Y hY (hw.get (i:=3) rfl).lt (own_cell (hw.get (i:=3) rfl)) hc2_.1 hc2_.2))<|sP (.tuple #[fv ((Sc.readS Y).1),.bool b4])<|sP (fv ((Sc.readS Y).1))<|sP (.bool b4) ?_
  refine sM 36 (fcs 0) (λg7=>?_)
  refine sW 7 g7 36 (fcs 0) (fcs ((Sc.readS Y).1)) (wS 0 36 (fcs ((Sc.readS Y).1)) rfl)<|sP (.bool b4) ?_
  refine sG<|Sy.seq<|sC ?_
  refine sP (.bool b2) ?_
  cases b2
  ·refine sP (.bool true)<|sP (.bool true) ?_
   refine sN<|sN ?_
   refine sP (.bool true)<|sP (.bool true) ?_
   refine sN<|sN ?_
   refine sP (.bool true) ?_
   refine sG<|sT<|sC ?_
   refine sP (.bool false) ?_
   refine sG<|Sy.ret<|Sy.then_ret ?_
   rw [show (.bool (refC key m X Y):Value)=.bool false from by unfold refC; rw [← hb2, ← hb3, ← hb4] <;> rfl]
   exact rV (.bool false) rfl
  ·refine sP (.bool false)<|sP (.bool false)<|sP (.bool b3) ?_
   cases b3
   ·refine sP (.bool true)<|sP (.bool true)<|sP (.bool true) ?_
    refine sN<|sN ?_
    refine sP (.bool true) ?_
    refine sG<|sT<|sC ?_
    refine sP (.bool false) ?_
    refine sG<|Sy.ret<|Sy.then_ret ?_
    rw [show (.bool (refC key m X Y):Value)=.bool false from by unfold refC; rw [← hb2, ← hb3, ← hb4] <;> rfl]
    exact rV (.bool false) rfl
   ·refine sP (.bool false)<|sP (.bool false)<|sP (.bool false)<|sP (.bool b4) ?_
    cases b4
    ·refine sP (.bool true)<|sP (.bool true) ?_
     refine sG<|sT<|sC ?_
     refine sP (.bool false) ?_
     refine sG<|Sy.ret<|Sy.then_ret ?_
     rw [show (.bool (refC key m X Y):Value)=.bool false from by unfold refC; rw [← hb2, ← hb3, ← hb4] <;> rfl]
     exact rV (.bool false) rfl
    ·refine sP (.bool false)<|sP (.bool false) ?_
     refine sG<|sU<|Sy.skip<|sB ?_
     refine sP (.slice (some ⟨y1.1.1,0,none⟩) 32 y1.1.2.1)<|sP (.slice (some ⟨y1.2.2.1,0,none⟩) 32 y1.2.2.2.1)<|sP (.slice A n c) ?_
     refine Sy.make kR 22 #[.slice (some ⟨y1.1.1,0,none⟩) 32 y1.1.2.1,.slice (some ⟨y1.2.2.1,0,none⟩) 32 y1.2.2.2.1,.slice A n c] (λg=>.slice (some ⟨g,0,none⟩) 3 3) kF (λg8=>?_)
     obtain ⟨z1,hz1⟩:∃ z:Nat,z=chalS X key m:=⟨_,rfl⟩
     have lz1:z1<K4:=by rw [hz1]; exact Sc.mod_lt _
     refine sS (fv z1) (qG 121 #[.string challengeNm,.slice (some ⟨g8,0,none⟩) 3 3] (λw hw=>by rw [hz1]; exact red3_c (by decide) hX hkey hn hm hc hc2 (hw.get (i:=2) rfl) hc1 (hw.get (i:=4) rfl) hc3 (hs.below hw.below) (hw.get (i:=8) rfl) (htr.below hw.below htr.lt))) ?_
     refine sM 36 (fcs 0) (λg9=>?_)
     refine sW 9 g9 36 (fcs 0) (fcs z1) (wS 0 36 (fcs z1) rfl) ?_
     refine sH (λj=>j == 9) ?_
     refine sD 0 rfl (fv ((Sc.readS Y).1)) (qL 7 g7 0 4 36 36 (fcs ((Sc.readS Y).1)) rfl Tryz.underlying36)<|sD 1 rfl (pv (pX bP) (pY bP) (pI bP)) (qF 124 #[] (λw=>by rw [← ptv_parts]; exact baseR_c w)) ?_
     obtain ⟨R2,hR2⟩:∃ P:Pt,P=Ec.nm finv ((Sc.readS Y).1%Sc.pM) bP:=⟨_,rfl⟩
     have oR2:Ec.On R2:=by rw [hR2]; exact bP_on.nm fld _
     refine sD 2 rfl (pv (pX R2) (pY R2) (pI R2)) (qF 123 #[fv ((Sc.readS Y).1),pv (pX bP) (pY bP) (pI bP)] (mulR_of lP lP lP (dec_parts bP_on) hR2.symm))<|sD 3 rfl (fv z1) (qL 9 g9 0 4 36 36 (fcs z1) rfl Tryz.underlying36)<|sD 4 rfl (pv (pX R1) (pY R1) (pI R1)) (qL 5 g5 0 9 83 83 (pcs (pX R1) (pY R1) (pI R1)) rfl Tryz.underlying83) ?_
     obtain ⟨R3,hR3⟩:∃ P:Pt,P=Ec.nm finv (z1%Sc.pM) R1:=⟨_,rfl⟩
     have oR3:Ec.On R3:=by rw [hR3]; exact oR1.nm fld _
     refine sD 5 rfl (pv (pX R3) (pY R3) (pI R3)) (qF 123 #[fv z1,pv (pX R1) (pY R1) (pI R1)] (mulR_of lP lP lP (dec_parts oR1) hR3.symm)) ?_
     obtain ⟨R4,hR4⟩:∃ P:Pt,P=Ec.neg R3:=⟨_,rfl⟩
     have oR4:Ec.On R4:=by rw [hR4]; exact oR3.neg
     refine sD 6 rfl (pv (pX R4) (pY R4) (pI R4)) (qF 125 #[pv (pX R3) (pY R3) (pI R3)] (negR_of lP lP (dec_parts oR3) hR4.symm)) ?_
     obtain ⟨R5,hR5⟩:∃ P:Pt,P=Ec.add finv R2 R4:=⟨_,rfl⟩
     have oR5:Ec.On R5:=by rw [hR5]; exact Ec.On.add fld oR2 oR4
     obtain ⟨ax,ay,ai,lax,lay,ea,da,ra⟩:=ptv_raw R5 oR5
     refine sD 7 rfl (pv ax ay ai) (qF 122 #[pv (pX R2) (pY R2) (pI R2),pv (pX R4) (pY R4) (pI R4)] (add_raw lP lP lP lP (dec_parts oR2) (dec_parts oR4) hR5.symm ea)) ?_
     refine sO 8 rfl 83 (pcs 0 0 false) (λg10=>?_)
     refine sX 9 rfl 10 g10 83 (pcs 0 0 false) (pcs ax ay ai) (wS 0 83 (pcs ax ay ai) rfl) ?_
     refine sE ?_
     refine sR (λj=>false) ?_
     refine sZ 0 rfl (.pointer (some ⟨g10,8,none⟩))<|sD 1 rfl (.bool ai) (qC 10 g10 8 83 4 (pcs ax ay ai) rfl Tryz.underlying4) ?_
     cases ai
     ·refine sZ 2 rfl (.bool true)<|sZ 3 rfl (.bool true)<|sZ 4 rfl (.pointer (some ⟨g10,4,none⟩))<|sZ 5 rfl (.pointer (some ⟨g10,4,none⟩))<|sD 6 rfl (qv (ay%18446744073709551616)) (qC 10 g10 4 83 26 (pcs ax ay false) rfl Tryz.underlying26)<|sD 7 rfl (.int .u64 (((ay%18446744073709551616)%2:Nat):Int)) (Quiet.pure (λw=>rem2 w _ _ _ _ (ay%18446744073709551616) rfl rfl rfl (Nat.mod_lt _ (by decide)))) ?_
      obtain ⟨b5,hb5⟩:∃ z:Bool,z=decide ((ay%18446744073709551616)%2=0):=⟨_,rfl⟩
      refine sD 8 rfl (.bool b5) (Quiet.pure (exec_int .eql _ _ _ .u64 _ _ _ rfl rfl rfl (int_eql _ _ _ _ _ (by rw [hb5]; exact decide_eq_decide.2 (by omega)))))<|sZ 9 rfl (.bool b5)<|sZ 10 rfl (.bool b5) ?_
      cases b5
      ·have lb5:¬ ((ay%18446744073709551616)%2=0):=of_decide_eq_false hb5.symm
       refine sQ 11 rfl<|sQ 12 rfl<|sQ 13 rfl<|sQ 14 rfl<|sQ 15 rfl<|sZ 16 rfl (.bool false)<|sZ 17 rfl (.bool false) ?_
       refine sI ?_
       refine Sy.ret ?_
       rw [show (.bool (refC key m X Y):Value)=.bool false from by unfold refC; rw [← hb2, ← hb3, ← hb4, ← hz1, ← hR1, ← hR2, ← hR3, ← hR4, ← hR5,okR_raw da ra]; rw [← hb5] <;> rfl]
       exact rV (.bool false) rfl
      ·have lb5:(ay%18446744073709551616)%2=0:=of_decide_eq_true hb5.symm
       refine sZ 11 rfl (.pointer (some ⟨g10,0,none⟩))<|sD 12 rfl (fv ax) (qL 10 g10 0 4 83 81 (pcs ax ay false) rfl Tryz.underlying81)<|sD 13 rfl (fv (valB X)) (qL 6 g6 0 4 164 164 (fcs (valB X)) rfl Tryz.underlying164)<|sD 14 rfl (fv (valB X)) (qF 126 #[fv (valB X)] (λw=>refFe_any w (valB X) (by first | assumption | exact Sc.mod_lt _ | exact lt4 _ | exact valB_lt32 _ (by first | assumption | exact bytesS_length _) | decide +kernel))) ?_
       obtain ⟨b6,hb6⟩:∃ z:Bool,z=decide (ax=(valB X)):=⟨_,rfl⟩
       refine sD 15 rfl (.bool b6) (Quiet.pure (λw=>by rw [hb6]; exact eql_fe w _ _ _ _ _ _ rfl rfl rfl lK lK))<|sZ 16 rfl (.bool b6)<|sZ 17 rfl (.bool b6) ?_
       refine sI ?_
       refine Sy.ret ?_
       rw [show (.bool (refC key m X Y):Value)=.bool b6 from by unfold refC; rw [← hb2, ← hb3, ← hb4, ← hz1, ← hR1, ← hR2, ← hR3, ← hR4, ← hR5,okR_raw da ra]; rw [← hb5, ← hb6] <;> rfl]
       exact rV (.bool b6) rfl
     ·refine sZ 2 rfl (.bool false)<|sZ 3 rfl (.bool false)<|sQ 4 rfl<|sQ 5 rfl<|sQ 6 rfl<|sQ 7 rfl<|sQ 8 rfl<|sZ 9 rfl (.bool false) ?_
      refine sZ 10 rfl (.bool false)<|sQ 11 rfl<|sQ 12 rfl<|sQ 13 rfl<|sQ 14 rfl<|sQ 15 rfl<|sZ 16 rfl (.bool false)<|sZ 17 rfl (.bool false) ?_
      refine sI ?_
      refine Sy.ret ?_
      rw [show (.bool (refC key m X Y):Value)=.bool false from by unfold refC; rw [← hb2, ← hb3, ← hb4, ← hz1, ← hR1, ← hR2, ← hR3, ← hR4, ← hR5,okR_raw da ra]; rfl]
      exact rV (.bool false) rfl
 ·have lb1:k1+1<32:=of_decide_eq_true hb1.symm
  refine sT<|Sy.skip<|Sy.then_<|Sy.seq<|Sy.block<|sC ?_
  refine sP (.slice (some ⟨y1.1.1,0,none⟩) (k1+1) y1.1.2.1)<|sP (.int .i64 ((k1+1:Nat):Int))<|sS (.pointer (some ⟨g1,0+(k1+1)*1,none⟩)) (Quiet.pure (exec_atA 38 _ _ _ g1 0 _ (k1+1) 1 .i64 rfl rfl rfl Tryz.underlying38 kF (by omega)))<|sS (bv (X.getD (k1+1) 0)) (Quiet.cell 1 g1 (0+(k1+1)*1) 38 5 ((X++Y).map bv).toArray _ _ rfl kR kR Tryz.underlying5 rfl _ ((key_sym (cat_length hX hY) (k:=k1+1) (by omega) (by omega)).trans (congrArg (λz=>some (bv z)) (cat_get1 hX (by omega))))) ?_
  refine Sy.make kR 5 #[bv (X.getD (k1+1) 0)] (λg=>.slice (some ⟨g,0,none⟩) 1 1) kF (λg11=>?_)
  refine Sy.append kR 22 5 _ _ Tryz.underlying22 info_u8 rfl rfl rfl rfl _ _ rfl 2 y1.1.1 (k1+1) y1.1.2.1 ((X.take k1).map bv++([bv (X.getD k1 0)]++y1.1.2.2)).toArray ((X.take (k1+1)).map bv) kR kR (apd_take X k1 hX y1.1.2.2 (by omega)) (apd_len X k1 hX (by omega)) (apd_size X k1 hX y1.1.2.2 hh1.1.1 (by omega)) hh1.1.2 5 g11 0 1 1 5 #[bv (X.getD (k1+1) 0)] [bv (X.getD (k1+1) 0)] kR kR kR rfl (by intro u hu; simp only [List.mem_cons,List.not_mem_nil,or_false] at hu; subst hu; rfl) (by omega) (λq4 c4 s4 e4 m4=>?_)
  refine sP (.slice (some ⟨q4,0,none⟩) (k1+1+1) c4) ?_
  refine sA ?_
  refine sP (.slice (some ⟨y1.2.1.1,0,none⟩) (k1+1) y1.2.1.2.1)<|sP (.int .i64 ((k1+1:Nat):Int))<|sS (.int .i64 ((32+(k1+1):Nat):Int)) (Quiet.pure (exec_int .add _ _ _ .i64 _ _ _ rfl rfl rfl (int_add _ _ _ _ _ ((wrap_i64 (by omega) (by omega)).trans (by omega)))))<|sS (.pointer (some ⟨g1,0+(32+(k1+1))*1,none⟩)) (Quiet.pure (exec_atA 38 _ _ _ g1 0 _ (32+(k1+1)) 1 .i64 rfl rfl rfl Tryz.underlying38 kF (by omega)))<|sS (bv (Y.getD (k1+1) 0)) (Quiet.cell 1 g1 (0+(32+(k1+1))*1) 38 5 ((X++Y).map bv).toArray _ _ rfl kR kR Tryz.underlying5 rfl _ ((key_sym (cat_length hX hY) (k:=32+(k1+1)) (by omega) (by omega)).trans (congrArg (λz=>some (bv z)) (cat_get2 hX)))) ?_
  refine Sy.make kR 5 #[bv (Y.getD (k1+1) 0)] (λg=>.slice (some ⟨g,0,none⟩) 1 1) kF (λg12=>?_)
  refine Sy.append kR 22 5 _ _ Tryz.underlying22 info_u8 rfl rfl rfl rfl _ _ rfl 3 y1.2.1.1 (k1+1) y1.2.1.2.1 ((Y.take k1).map bv++([bv (Y.getD k1 0)]++y1.2.1.2.2)).toArray ((Y.take (k1+1)).map bv) kR kR (apd_take Y k1 hY y1.2.1.2.2 (by omega)) (apd_len Y k1 hY (by omega)) (apd_size Y k1 hY y1.2.1.2.2 hh1.2.1.1 (by omega)) hh1.2.1.2 6 g12 0 1 1 5 #[bv (Y.getD (k1+1) 0)] [bv (Y.getD (k1+1) 0)] kR kR kR rfl (by intro u hu; simp only [List.mem_cons,List.not_mem_nil,or_false] at hu; subst hu; rfl) (by omega) (λq5 c5 s5 e5 m5=>?_)
  refine sP (.slice (some ⟨q5,0,none⟩) (k1+1+1) c5) ?_
  refine sG<|Sy.region ?_
  refine sP (.slice (some ⟨y1.2.2.1,0,none⟩) (k1+1) y1.2.2.2.1)<|sP (.int .i64 ((k1+1:Nat):Int))<|sS (.pointer (some ⟨g0,0+(k1+1)*1,none⟩)) (Quiet.pure (exec_atA 39 _ _ _ g0 0 _ (k1+1) 1 .i64 rfl rfl rfl Tryz.underlying39 kF (by omega)))<|sS (bv (key.getD (k1+1) 0)) (Quiet.cell 0 g0 (0+(k1+1)*1) 39 5 (key.map bv).toArray _ _ rfl kR kR Tryz.underlying5 rfl _ (key_sym hkey (k:=k1+1) (by omega) (by omega))) ?_
  refine Sy.make kR 5 #[bv (key.getD (k1+1) 0)] (λg=>.slice (some ⟨g,0,none⟩) 1 1) kF (λg13=>?_)
  refine Sy.append kR 22 5 _ _ Tryz.underlying22 info_u8 rfl rfl rfl rfl _ _ rfl 4 y1.2.2.1 (k1+1) y1.2.2.2.1 ((key.take k1).map bv++([bv (key.getD k1 0)]++y1.2.2.2.2)).toArray ((key.take (k1+1)).map bv) kR kR (apd_take key k1 hkey y1.2.2.2.2 (by omega)) (apd_len key k1 hkey (by omega)) (apd_size key k1 hkey y1.2.2.2.2 hh1.2.2.1 (by omega)) hh1.2.2.2 7 g13 0 1 1 5 #[bv (key.getD (k1+1) 0)] [bv (key.getD (k1+1) 0)] kR kR kR rfl (by intro u hu; simp only [List.mem_cons,List.not_mem_nil,or_false] at hu; subst hu; rfl) (by omega) (λq6 c6 s6 e6 m6=>?_)
  refine sP (.slice (some ⟨q6,0,none⟩) (k1+1+1) c6) ?_
  refine Sy.nil<|Sy.in_<|Sy.then_<|Sy.region ?_
  refine sP (.int .i64 ((k1+1:Nat):Int))<|sS (.int .i64 (((k1+1)+1:Nat):Int)) (Quiet.pure (exec_int .add _ _ _ .i64 _ _ _ rfl rfl rfl (int_add _ _ _ _ _ ((wrap_i64 (by omega) (by omega)).trans (by omega)))))<|sP (.int .i64 (((k1+1)+1:Nat):Int)) ?_
  refine Sy.nil ?_
  exact Sy.againX (((q4,c4,s4),(q5,c5,s5),(q6,c6,s6))) [true,true,true,true,true,false,false,false] (by omega) (⟨⟨e4,m4⟩,⟨e5,m5⟩,e6,m6⟩) (all_cons kR (all_cons kR (all_cons kR (all_cons kR (all_cons kR (all_cons kR (all_cons kR all_nil))))))) kR
end Cu
end
section
namespace Pg
open Go.RowKit Sy
set_option maxRecDepth 100000
set_option maxHeartbeats 4000000
open Wr
theorem verR13:VerR13:=λw key s hkey hs64 X m n e hn hm he he2 hs htr=>by
 have h1:(s.take 32).length=32:=by rw [List.length_take]; omega
 have h2:(s.drop 32).length=32:=by rw [List.length_drop]; omega
 have q:=Cu.verR_any w key (s.take 32) (s.drop 32) hkey h1 h2 X m n e hn hm he he2 hs htr
 rw [Cu.refC_is key m _ _ h1 h2,Cu.ref_ver key m _ (by rw [List.length_append]; omega),List.take_append_drop] at q
 exact q
theorem ofR13:OfR13:=λw A b c hs hl ht=>(Sh.ofR_any w A b c hs hl ht).mono λe w' he=>⟨he.1,he.2⟩
theorem run_getR (h:Nat) (hh:h<18446744073709551616) (m:Byt) (hm:m.length=32) (w:World) (pv wv:Value) (p:Byt) (zs:List (Value×Byt)) (hp:BytR (rdW w) pv p) (hz:Arg (rdW w) (rdW w) wv zs) (ht:TbS w):Calls Tryz.prog 11 #[pv,wv,.agg (m.map bv).toArray,.int .u64 ((h:Nat):Int)] w (Gets w (.int .i64 ((run (envOf m h) p (zs.map (·.2)):Nat):Int))) :=
 (run_any (Tb:=TbS) (envOf m h) m hm (show h<18446744073709551616 from hh) (Base.of w) ht [] [] (λ_ h=>h) pv wv p zs (hp.le rdW_base) (arg_le hz rdW_base rdW_base) (λx hx=>ef_all h hh m hm x (parse_ok p x hx)) w (St.start w)).mono λe w' he=>by
  obtain ⟨v,M,rfl,⟨rfl,rfl⟩,hst⟩:=he
  exact ⟨rfl,hst.below⟩
theorem run13_get (h:Nat) (m:Byt) (hm:m.length=32) (w:World) (pv wv:Value) (p:Byt) (zs:List (Value×Byt)) (hp:BytR (rdW w) pv p) (hz:Arg (rdW w) (rdW w) wv zs) (ht:Sh.TabAt w 0):Calls Tryz.prog 12 #[pv,wv,.agg (m.map bv).toArray,.int .u64 ((h:Nat):Int)] w (Gets w (.int .i64 ((run (envOf m h) p (zs.map (·.2)):Nat):Int))) :=
 (run13_any verR13 ofR13 (Base.of w) ht m hm h pv wv p zs (hp.le rdW_base) (arg_le hz rdW_base rdW_base) w (St.start w)).mono λe w' he=>by
  obtain ⟨v,M,rfl,⟨rfl,rfl⟩,hst⟩:=he
  exact ⟨rfl,hst.below⟩
theorem law_scriptruns (w:World) (pv:Value) (p:Byt) (hv:BytR (rdW w) pv p) (cs:List Value) (c:Cas) (hc:repCas (rdW w) cs c) (ht:TbS w) (ht2:Sh.TabAt w 0):Calls Tryz.prog 3 #[pv,.agg cs.toArray] w (Gets w (.bool true)):=by
 obtain ⟨v,hcs,hw0,hmsg,hh⟩:=hc
 obtain ⟨wit,msg,h⟩:=c
 dsimp only at hcs hw0 hmsg hh
 obtain ⟨zs,hz0,hzl⟩:=lst_arg hw0
 have hml:(msg.map bv).length=32:=by rw [List.length_map,hmsg]
 have hcl:cs.length=34:=by rw [hcs,List.length_cons,List.length_append,hml]; rfl
 refine Sy.enter (args:=[pv,.agg cs.toArray]) Tryz.func3 rfl kL ?_
 refine sC ?_
 refine sM 28 cs.toArray (λg4=>?_) kR (λw=>run_boxR rfl rfl (by kernel_rfl) hcl w)
 refine Sy.permS (M:=[(g4,28,cs.toArray)]) (List.Perm.of_eq rfl) ?_
 have cx:XAt (rdC (Base.of w) [(g4,28,cs.toArray)]) g4 0 (v::(msg.map bv++[.int .u64 ((h:Nat):Int)])):=λj u hu=>.inr ⟨_,_,List.mem_singleton.2 rfl,by rw [Nat.zero_add,List.getElem?_toArray,hcs]; exact hu⟩
 have c0:=cx.one
 have cm:=cx.tail.left
 have ch:=(cx.tail.right (n:=32) hml).one
 obtain ⟨e,he⟩:∃ e,e=run (envOf msg h) p (zs.map (·.2)):=⟨_,rfl⟩
 refine sP (.bool false) ?_
 refine sG<|Sy.seq ?_
 refine Sy.regionD (λ_=>false) kR ?_
 have hzw:∀ w1,St (Base.of w) w1 [(g4,28,cs.toArray)]→Arg (rdW w1) (rdW w1) v zs:=λw1 hw1=>arg_le hz0 (λg o u hu=>rdC_world (R:=[]) hw1 (λ_ h=>by cases h) g o u (.inl hu)) (λg o u hu=>rdC_world (R:=[]) hw1 (λ_ h=>by cases h) g o u (.inl hu))
 refine sD 0 rfl (.bool true) (qg (λw _=>alive13 w))<|sa 1 rfl rfl<|sa 2 rfl rfl<|sb 3 rfl (.pointer (some ⟨g4,0,none⟩))<|sD 4 rfl v (cellC (R:=[(g4,28,cs.toArray)]) c0 (λ_ h=>h) rfl Tryz.underlying23)<|sb 5 rfl (.pointer (some ⟨g4,1,none⟩))<|sD 6 rfl (.agg (msg.map bv).toArray) (rowC (R:=[(g4,28,cs.toArray)]) cm (λ_ h=>h) hml rfl Tryz.underlying25)<|sb 7 rfl (.pointer (some ⟨g4,33,none⟩))<|sD 8 rfl (.int .u64 ((h:Nat):Int)) (cellC (R:=[(g4,28,cs.toArray)]) ch (λ_ h=>h) rfl Tryz.underlying26)<|sD 9 rfl (.int .i64 ((e:Nat):Int)) (qg (λw1 hw1=>by rw [he]; exact run_getR h hh msg hmsg w1 pv v p zs (hv.at hw1) (hzw w1 hw1) (tb_st ht hw1)))<|sa 10 rfl rfl<|sb 11 rfl (.pointer (some ⟨g4,0,none⟩))<|sD 12 rfl v (cellC (R:=[(g4,28,cs.toArray)]) c0 (λ_ h=>h) rfl Tryz.underlying23)<|sb 13 rfl (.pointer (some ⟨g4,1,none⟩))<|sD 14 rfl (.agg (msg.map bv).toArray) (rowC (R:=[(g4,28,cs.toArray)]) cm (λ_ h=>h) hml rfl Tryz.underlying25)<|sb 15 rfl (.pointer (some ⟨g4,33,none⟩))<|sD 16 rfl (.int .u64 ((h:Nat):Int)) (cellC (R:=[(g4,28,cs.toArray)]) ch (λ_ h=>h) rfl Tryz.underlying26)<|sD 17 rfl (.int .i64 ((e:Nat):Int)) (qg (λw1 hw1=>by rw [he]; exact run13_get h msg hmsg w1 pv v p zs (hv.at hw1) (hzw w1 hw1) (ht2.below hw1.below ht2.lt)))<|sv 18 rfl (.bool true) (exec_int .eql _ _ _ .i64 _ _ _ rfl rfl rfl (int_eql _ _ _ _ _ (decide_eq_true rfl)))<|sb 19 rfl (.bool true)<|sa 20 rfl rfl ?_
 refine sE ?_
 refine Sy.then_<|Sy.ret ?_
 exact rV (.bool true) rfl
end Pg
end
end Go.Proofs.YtnbenphcpenbeaaGreatDoor
