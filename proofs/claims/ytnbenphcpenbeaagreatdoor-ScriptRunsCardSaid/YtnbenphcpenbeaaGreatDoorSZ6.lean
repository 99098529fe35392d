/-
  Texts of ours, put together: CrvP, CrvQ, EcW, CrvR, CrvS, CrvT, CrvU, ScBase, ScOps, SigA, ScEq, ScB32, SigB, SymX, SigC, SymV, ScProd, ScMul, Concat, SigD, SigE, CrvY, RefNumber, CrvE, CrvZ, SigF, SigG, ScpO, ScpP, ScqA, ScpT, ScpS.
-/
import Derived.Test.YtnbenphcpenbeaaGreatDoorSZ5
set_option linter.unusedVariables false
set_option linter.unusedSimpArgs false
namespace Go.Proofs.YtnbenphcpenbeaaGreatDoor
section
namespace Cu
open Go.RowKit Sy
set_option maxRecDepth 100000
set_option maxHeartbeats 4000000
def dg (m j:Nat):Nat:=m / 16 ^ (63 - j)%16
def dgA (m j:Nat):List Value:=[.int .u8 ((dg m j:Nat):Int)]
theorem dgA_len (m:Nat):∀ j,(dgA m j).length=1:=λ_=>rfl
theorem byte_get (m k:Nat) (hk:k<32):((bytesS m).getD k 0).toNat=m / 2 ^ (8*(31 - k))%256:=by
 have h:∀ n j,j<n→(lowB m n).getD j 0=byteN m (n - 1 - j):=by
  intro n
  induction n with
  | zero=>intro j hj; omega
  | succ n ih =>
   intro j hj
   cases j with
   | zero=>rfl
   | succ j =>
    show (lowB m n).getD j 0=_
    rw [ih j (by omega)]
    congr 1
    omega
 unfold bytesS
 rw [h 32 k hk,show 32 - 1 - k=31 - k by omega]
 unfold byteN
 rw [UInt8.toNat_ofNat']
 omega
theorem p16 (k:Nat):(2:Nat) ^ (8*k)=16 ^ (2*k):=by
 rw [show 8*k=4*(2*k) by omega,Nat.pow_mul]
theorem dg_hi (m k:Nat) (hk:k<32):((bytesS m).getD k 0).toNat / 16=dg m (2*k):=by
 rw [byte_get m k hk,p16]
 unfold dg
 rw [show 63 - 2*k=2*(31 - k)+1 by omega,Nat.pow_succ, ← Nat.div_div_eq_div_mul]
 omega
theorem dg_lo (m k:Nat) (hk:k<32):((bytesS m).getD k 0).toNat%16=dg m (2*k+1):=by
 rw [byte_get m k hk,p16]
 unfold dg
 rw [show 63 - (2*k+1)=2*(31 - k) by omega]
 omega
theorem exec_hi (F:Slots) (o:Oper) (t:TypeId) (x y:Operand) {yt:TypeId} (b:UInt8) (d:Nat) (ho:o.op=.binOp .shr t x y yt) (hx:evF F x=bv b) (hy:evF F y=.int .u64 4) (h:b.toNat / 16=d) (w:World):(execOp (evF F) o).run Tryz.prog w=.ok (.value (.int .u8 ((d:Nat):Int))) w :=
 exec_int .shr t x y .u8 (b.toNat:Int) 4 _ ho hx hy (int_shr t .u8 .u64 _ _ _ (by decide) (by
  show Int.fdiv (b.toNat:Int) ((16:Nat):Int)=_
  rw [← h,Int.fdiv_eq_ediv_of_nonneg _ (by omega)]
  omega)) w
theorem and15:∀ n:Fin 256,IntKind.u8.wrap ((BitVec.ofInt 8 ((n.val:Nat):Int) &&& BitVec.ofInt 8 15).toNat:Int)=((n.val%16:Nat):Int):=by decide +kernel
theorem exec_lo (F:Slots) (o:Oper) (t:TypeId) (x y:Operand) {yt:TypeId} (b:UInt8) (d:Nat) (ho:o.op=.binOp .and t x y yt) (hx:evF F x=bv b) (hy:evF F y=.int .u8 15) (h:b.toNat%16=d) (w:World):(execOp (evF F) o).run Tryz.prog w=.ok (.value (.int .u8 ((d:Nat):Int))) w :=
 exec_int .and t x y .u8 (b.toNat:Int) 15 _ ho hx hy (int_and t .u8 _ _ _ (by
  rw [← h]
  exact and15 ⟨b.toNat,b.toNat_lt⟩)) w
theorem digits_c (w:World) (x:Nat) (hx:x<K4):Calls Tryz.prog 145 #[fv x] w (Gets w (.agg (flat (dgA (x%Sc.pM)) 64).toArray)):=by
 obtain ⟨m,hm⟩:∃ m,m=x%Sc.pM:=⟨_,rfl⟩
 obtain ⟨l,hl0⟩:∃ l,l=bytesS m:=⟨_,rfl⟩
 have hl:l.length=32:=by rw [hl0]; exact bytesS_length m
 have cB:∀ w,Calls Tryz.prog 56 #[fv x] w (Gets w (.agg (l.map bv).toArray)):=λw=>by rw [hl0,hm]; exact Sc.bytes_any w x hx
 rw [← hm]
 refine Sy.enter (args:=[fv x]) Tryz.func145 rfl kL ?_
 refine sC ?_
 refine sM 36 (fcs x) (λg0=>?_)
 refine Sy.make kR 37 (flat (λ_=>[.int .u8 0]) 64).toArray ptr kF (λg1=>?_)
 refine sA ?_
 refine Sy.make kR 37 (flat (λ_=>[.int .u8 0]) 64).toArray ptr kF (λg2=>?_)
 refine sG<|Sy.seq<|sC ?_
 refine sS (fv x) (qL 0 g0 0 4 36 36 (fcs x) rfl Tryz.underlying36)<|sS (.agg (l.map bv).toArray) (qF 56 #[fv x] (cB))<|sP (.int .i64 0) ?_
 refine sG<|Sy.block ?_
 refine Sy.loopK 32 (λk1=>[(2,.pointer (some ⟨g1,0,none⟩)),(3,.pointer (some ⟨g2,0,none⟩)),(7,.agg (l.map bv).toArray),(8,.int .i64 ((k1:Nat):Int))]) (λk1=>[(g1,37,(flat (λ_=>[.int .u8 0]) 64).toArray),(g2,37,(flat (upto (2*k1) (dgA m) [.int .u8 0]) 64).toArray)]) [false,true,true] (M:=[(g1,37,(flat (λ_=>[.int .u8 0]) 64).toArray),(g2,37,(flat (λ_=>[.int .u8 0]) 64).toArray)]) (all_cons kR (all_cons kR (all_cons kR (all_cons kR all_nil)))) kR (bcons rfl (bcons (beq (upto_zero)) rfl)) (λk1 hk1=>?_)
 refine sC ?_
 obtain ⟨b1,hb1⟩:∃ z:Bool,z=decide (k1<32):=⟨_,rfl⟩
 refine sS (.bool b1) (Quiet.pure (exec_int .lss _ _ _ .i64 _ _ _ rfl rfl rfl (int_lss _ _ _ _ _ (by rw [hb1]; exact decide_eq_decide.2 (by omega))))) ?_
 refine sG<|Sy.seq ?_
 cases b1
 ·have lb1:¬ (k1<32):=of_decide_eq_false hb1.symm
  refine sU<|Sy.exit<|Sy.then_exit<|Sy.then_exit ?_
  obtain rfl:k1=32:=by omega
  refine Sy.in_exit<|sB ?_
  refine sS (.agg (flat (upto (2*32) (dgA m) [.int .u8 0]) 64).toArray) (Quiet.load 1 g2 0 64 37 37 (flat (upto (2*32) (dgA m) [.int .u8 0]) 64).toArray _ _ rfl kR kR Tryz.underlying37 rfl kR _ (flat_whole (upto_len (dgA_len m) rfl _) rfl) (flat_wsize (upto_len (dgA_len m) rfl _) rfl)) ?_
  refine Sy.write kR 0 g1 37 (flat (λ_=>[.int .u8 0]) 64).toArray (flat (upto (2*32) (dgA m) [.int .u8 0]) 64).toArray kR (Writes.store 0 37 (flat (upto (2*32) (dgA m) [.int .u8 0]) 64).toArray _ _ rfl kR kR (flat_info (upto_len (dgA_len m) rfl _) kR) (flat_over (upto_len (dgA_len m) rfl _) rfl kR) (flat_one (upto_len (dgA_len m) rfl _) _ (upto_one (λ_ u hu=>by rw [List.mem_singleton.1 hu]; rfl) (λu hu=>by rw [List.mem_singleton.1 hu]; rfl) _)) (flat_put (upto_len (dgA_len m) rfl _) kR)) ?_
  refine sG<|Sy.ret ?_
  rw [show (.agg (flat (dgA m) 64).toArray:Value)=.agg (flat (upto (2*32) (dgA m) [.int .u8 0]) 64).toArray from congrArg Value.agg upto_all.symm]
  exact Sy.ret1 rfl (v:=.agg (flat (upto (2*32) (dgA m) [.int .u8 0]) 64).toArray) (.inl (Res.cell (ty':=37) g1 0 (flat (upto (2*32) (dgA m) [.int .u8 0]) 64).toArray _ kR kR Tryz.underlying37 rfl (flat_info (upto_len (dgA_len m) rfl _) kR) rfl))
 ·have lb1:k1<32:=of_decide_eq_true hb1.symm
  refine sT<|Sy.skip<|Sy.then_<|Sy.seq<|Sy.block<|sC ?_
  refine sP (.int .i64 ((k1:Nat):Int))<|sS (bv (l.getD k1 0)) (Quiet.pure (exec_idx _ _ _ _ _ 32 k1 .i64 _ _ rfl rfl rfl Tryz.underlying24 Tryz.underlying5 rfl kF (by omega) (key_at l hl k1 (by omega))))<|sP (.int .i64 ((k1:Nat):Int))<|sP (bv (l.getD k1 0)) ?_
  refine sG<|Sy.region ?_
  refine sP (.int .i64 ((k1:Nat):Int))<|sS (.int .i64 ((2*k1:Nat):Int)) (Quiet.pure (exec_int .mul _ _ _ .i64 _ _ _ rfl rfl rfl (int_mul _ _ _ _ _ ((wrap_i64 (by omega) (by omega)).trans (by omega)))))<|sP (.int .i64 ((k1:Nat):Int))<|sS (.int .i64 ((2*k1:Nat):Int)) (Quiet.pure (exec_int .mul _ _ _ .i64 _ _ _ rfl rfl rfl (int_mul _ _ _ _ _ ((wrap_i64 (by omega) (by omega)).trans (by omega)))))<|sS (.int .i64 (((2*k1)+1:Nat):Int)) (Quiet.pure (exec_int .add _ _ _ .i64 _ _ _ rfl rfl rfl (int_add _ _ _ _ _ ((wrap_i64 (by omega) (by omega)).trans (by omega)))))<|sP (bv (l.getD k1 0))<|sS (.int .u8 ((dg m (2*k1):Nat):Int)) (Quiet.pure (exec_hi _ _ _ _ _ (l.getD k1 0) _ rfl rfl rfl (by rw [hl0]; exact dg_hi m k1 (by omega))))<|sP (bv (l.getD k1 0)) ?_
  refine sS (.int .u8 ((dg m (2*k1+1):Nat):Int)) (Quiet.pure (exec_lo _ _ _ _ _ (l.getD k1 0) _ rfl rfl rfl (by rw [hl0]; exact dg_lo m k1 (by omega))))<|sS (.pointer (some ⟨g2,0+(2*k1)*1,none⟩)) (Quiet.pure (exec_atA 37 _ _ _ g2 0 _ (2*k1) 1 .i64 rfl rfl rfl Tryz.underlying37 kF (by omega))) ?_
  refine Sy.write kR 1 g2 37 (flat (upto (2*k1) (dgA m) [.int .u8 0]) 64).toArray (flat (upto (2*k1+1) (dgA m) [.int .u8 0]) 64).toArray kR (Writes.one (0+(2*k1)*1) 5 (.int .u8 ((dg m (2*k1):Nat):Int)) _ _ rfl kR kR kR rfl rfl (flat_lt1 (upto_len (dgA_len m) rfl _) (k:=2*k1) (by omega) (by omega)) ((congrArg (Array.setIfInBounds _ · _) (show 0+(2*k1)*1=2*k1 by omega)).trans (upto_set1 (dgA_len m) (rfl) (by omega)))) ?_
  refine sS (.pointer (some ⟨g2,0+((2*k1)+1)*1,none⟩)) (Quiet.pure (exec_atA 37 _ _ _ g2 0 _ ((2*k1)+1) 1 .i64 rfl rfl rfl Tryz.underlying37 kF (by omega))) ?_
  refine Sy.write kR 1 g2 37 (flat (upto (2*k1+1) (dgA m) [.int .u8 0]) 64).toArray (flat (upto (2*k1+1+1) (dgA m) [.int .u8 0]) 64).toArray kR (Writes.one (0+((2*k1)+1)*1) 5 (.int .u8 ((dg m (2*k1+1):Nat):Int)) _ _ rfl kR kR kR rfl rfl (flat_lt1 (upto_len (dgA_len m) rfl _) (k:=2*k1+1) (by omega) (by omega)) ((congrArg (Array.setIfInBounds _ · _) (show 0+((2*k1)+1)*1=2*k1+1 by omega)).trans (upto_set1 (dgA_len m) (rfl) (by omega)))) ?_
  refine Sy.nil<|Sy.in_<|Sy.then_<|Sy.region ?_
  refine sS (.int .i64 ((k1+1:Nat):Int)) (Quiet.pure (exec_int .add _ _ _ .i64 _ _ _ rfl rfl rfl (int_add _ _ _ _ _ ((wrap_i64 (by omega) (by omega)).trans (by omega)))))<|sP (.int .i64 ((k1+1:Nat):Int)) ?_
  refine Sy.nil ?_
  exact Sy.againK [true,true] (M:=[(g1,37,(flat (λ_=>[.int .u8 0]) 64).toArray),(g2,37,(flat (upto (2*k1+1+1) (dgA m) [.int .u8 0]) 64).toArray)]) (by omega) (all_cons kR (all_cons kR (all_cons kR (all_cons kR all_nil)))) kR (bcons rfl (bcons (beq (congrArg (λt=>(flat (upto t (dgA m) [.int .u8 0]) 64).toArray) (show 2*k1+1+1=2*(k1+1) by omega))) rfl))
def tws (x y z:Nat):List Value:=fws x++(fws y++fws z)
def jws (a:J):List Value:=tws a.x.val a.y.val a.z.val
def fewL (a:J):Nat→J
 | 0=>⟨0,0,0⟩
 | k+1=>addJ (fewL a k) a
theorem fewL_rep {a:J} {P:Pt} (hP:Ec.On P) (h:Ec.Rep a P):∀ k,Ec.Rep (fewL a k) (Ec.nm finv k P)
 | 0=>rfl
 | k+1=>addJ_rep (hP.nm fld k) hP (fewL_rep hP h k) h
def fewA (a:J) (j:Nat):List Value:=jws (fewL a j)
theorem fewA_len (a:J):∀ j,(fewA a j).length=12:=λ_=>rfl
theorem few_first (a:J):(flat (λ_=>tws 0 0 0) 16).toArray=(flat (upto 1 (fewA a) (tws 0 0 0)) 16).toArray:=congrArg List.toArray (flat_congr λj _=>by
 unfold upto
 split
 ·obtain rfl:j=0:=by omega
  rfl
 ·rfl)
theorem jws_one (a:J):∀ u∈jws a,u.oneCell'=true:=λu hu=>by
 unfold jws tws fws at hu
 simp [qv] at hu
 rcases hu with rfl | rfl | rfl | rfl | rfl | rfl | rfl | rfl | rfl | rfl | rfl | rfl <;> rfl
theorem few_c (w:World) (P:Pt) (x y:Nat) (i:Bool) (hP:ptv P=pv x y i):Calls Tryz.prog 146 #[pv x y i] w (Gets w (.agg (flat (fewA (threeJ P)) 16).toArray)):=by
 obtain ⟨a,ha⟩:∃ a,a=threeJ P:=⟨_,rfl⟩
 have c3:∀ w,Calls Tryz.prog 178 #[pv x y i] w (Gets w (tv a.x.val a.y.val a.z.val)):=λw=>by
  have h:=three_c w P
  rw [hP, ← ha] at h
  exact h
 rw [← ha]
 refine Sy.enter (args:=[pv x y i]) Tryz.func146 rfl kL ?_
 refine sC ?_
 refine sM 83 (pcs x y i) (λg0=>?_)
 refine Sy.make kR 200 (flat (λ_=>tws 0 0 0) 16).toArray ptr kF (λg1=>?_)
 refine sA ?_
 refine Sy.make kR 200 (flat (λ_=>tws 0 0 0) 16).toArray ptr kF (λg2=>?_)
 refine sA ?_
 refine sS (pv x y i) (qL 0 g0 0 9 83 83 (pcs x y i) rfl Tryz.underlying83)<|sS (tv a.x.val a.y.val a.z.val) (qF 178 #[pv x y i] (c3)) ?_
 refine sM 157 (tcs 0 0 0) (λg3=>?_)
 refine sW 3 g3 157 (tcs 0 0 0) (tcs a.x.val a.y.val a.z.val) (wS 0 157 (tcs a.x.val a.y.val a.z.val) rfl) ?_
 refine sG<|Sy.seq<|sC ?_
 refine sP (.int .i64 1) ?_
 refine sG<|Sy.block ?_
 refine Sy.loopK 15 (λk1=>[(2,.pointer (some ⟨g1,0,none⟩)),(3,.pointer (some ⟨g2,0,none⟩)),(4,.pointer (some ⟨g3,0,none⟩)),(5,.int .i64 ((k1+1:Nat):Int))]) (λk1=>[(g1,200,(flat (λ_=>tws 0 0 0) 16).toArray),(g2,200,(flat (upto (k1+1) (fewA a) (tws 0 0 0)) 16).toArray),(g3,157,(tcs a.x.val a.y.val a.z.val))]) [false,true,true,true] (M:=[(g1,200,(flat (λ_=>tws 0 0 0) 16).toArray),(g2,200,(flat (λ_=>tws 0 0 0) 16).toArray),(g3,157,(tcs a.x.val a.y.val a.z.val))]) (all_cons kR (all_cons kR (all_cons kR (all_cons kR all_nil)))) kR (bcons rfl (bcons (beq (few_first a)) (bcons rfl rfl))) (λk1 hk1=>?_)
 refine Sy.seq<|sC ?_
 refine sP (.int .i64 ((k1+1:Nat):Int)) ?_
 obtain ⟨b1,hb1⟩:∃ z:Bool,z=decide (k1+1<16):=⟨_,rfl⟩
 refine sS (.bool b1) (Quiet.pure (exec_int .lss _ _ _ .i64 _ _ _ rfl rfl rfl (int_lss _ _ _ _ _ (by rw [hb1]; exact decide_eq_decide.2 (by omega))))) ?_
 refine sG ?_
 cases b1
 ·have lb1:¬ (k1+1<16):=of_decide_eq_false hb1.symm
  refine sU<|Sy.exit<|Sy.then_exit<|Sy.then_exit ?_
  obtain rfl:k1=15:=by omega
  refine Sy.in_exit<|sB ?_
  refine sS (.agg (flat (upto (15+1) (fewA a) (tws 0 0 0)) 16).toArray) (Quiet.load 1 g2 0 192 200 200 (flat (upto (15+1) (fewA a) (tws 0 0 0)) 16).toArray _ _ rfl kR kR Tryz.underlying200 rfl kR _ (flat_whole (upto_len (fewA_len a) rfl _) rfl) (flat_wsize (upto_len (fewA_len a) rfl _) rfl)) ?_
  refine Sy.write kR 0 g1 200 (flat (λ_=>tws 0 0 0) 16).toArray (flat (upto (15+1) (fewA a) (tws 0 0 0)) 16).toArray kR (Writes.store 0 200 (flat (upto (15+1) (fewA a) (tws 0 0 0)) 16).toArray _ _ rfl kR kR (flat_info (upto_len (fewA_len a) rfl _) kR) (flat_over (upto_len (fewA_len a) rfl _) rfl kR) (flat_one (upto_len (fewA_len a) rfl _) _ (upto_one (λ_=>jws_one _) (jws_one ⟨0,0,0⟩) _)) (flat_put (upto_len (fewA_len a) rfl _) kR)) ?_
  refine sG<|Sy.ret ?_
  rw [show (.agg (flat (fewA a) 16).toArray:Value)=.agg (flat (upto (15+1) (fewA a) (tws 0 0 0)) 16).toArray from congrArg Value.agg upto_all.symm]
  exact Sy.ret1 rfl (v:=.agg (flat (upto (15+1) (fewA a) (tws 0 0 0)) 16).toArray) (.inl (Res.cell (ty':=200) g1 0 (flat (upto (15+1) (fewA a) (tws 0 0 0)) 16).toArray _ kR kR Tryz.underlying200 rfl (flat_info (upto_len (fewA_len a) rfl _) kR) rfl))
 ·have lb1:k1+1<16:=of_decide_eq_true hb1.symm
  refine sT<|Sy.skip<|Sy.then_<|Sy.seq<|Sy.block ?_
  refine Sy.regionD (λj=>j == 8) kR ?_
  refine sZ 0 rfl (.int .i64 ((k1+1:Nat):Int))<|sZ 1 rfl (.int .i64 ((k1+1:Nat):Int))<|sD 2 rfl (.int .i64 (((k1+1) - 1:Nat):Int)) (Quiet.pure (exec_int .sub _ _ _ .i64 _ _ _ rfl rfl rfl (int_sub _ _ _ _ _ ((wrap_i64 (by omega) (by omega)).trans (by omega)))))<|sD 3 rfl (.pointer (some ⟨g2,0+((k1+1) - 1)*12,none⟩)) (Quiet.pure (exec_atA 200 _ _ _ g2 0 _ ((k1+1) - 1) 12 .i64 rfl rfl rfl Tryz.underlying200 kF (by omega)))<|sD 4 rfl (tv ((fewL a ((k1+1) - 1)).x.val) ((fewL a ((k1+1) - 1)).y.val) ((fewL a ((k1+1) - 1)).z.val)) (Quiet.load 1 g2 (0+((k1+1) - 1)*12) 12 200 157 (flat (upto (k1+1) (fewA a) (tws 0 0 0)) 16).toArray _ _ rfl kR kR Tryz.underlying157 rfl kR _ ((flat_load (upto_len (fewA_len a) rfl _) (k:=(k1+1) - 1) (by omega) (by omega)).trans ((congrArg (λl:List Value=>Value.agg l.toArray) (upto_lt (by omega))).trans kR)) (flat_fit (upto_len (fewA_len a) rfl _) (k:=(k1+1) - 1) (by omega) (by omega)))<|sD 5 rfl (tv a.x.val a.y.val a.z.val) (qL 2 g3 0 12 157 157 (tcs a.x.val a.y.val a.z.val) rfl Tryz.underlying157) ?_
  obtain ⟨j1,hj1⟩:∃ z:J,z=addJ (fewL a ((k1+1) - 1)) a:=⟨_,rfl⟩
  refine sD 6 rfl (tv j1.x.val j1.y.val j1.z.val) (qF 99 #[tv ((fewL a ((k1+1) - 1)).x.val) ((fewL a ((k1+1) - 1)).y.val) ((fewL a ((k1+1) - 1)).z.val),tv a.x.val a.y.val a.z.val] (λw=>by rw [hj1]; exact addJ_c w (fewL a ((k1+1) - 1)) a))<|sD 7 rfl (.pointer (some ⟨g2,0+(k1+1)*12,none⟩)) (Quiet.pure (exec_atA 200 _ _ _ g2 0 _ (k1+1) 12 .i64 rfl rfl rfl Tryz.underlying200 kF (by omega))) ?_
  refine Sy.writeD 8 rfl kR (by rfl) kR 1 g2 200 (flat (upto (k1+1) (fewA a) (tws 0 0 0)) 16).toArray (flat (upto (k1+1+1) (fewA a) (tws 0 0 0)) 16).toArray kR (Writes.store (0+(k1+1)*12) 157 (tcs j1.x.val j1.y.val j1.z.val) _ _ rfl kR kR kR (flat_fit (upto_len (fewA_len a) rfl _) (k:=k1+1) (by omega) (by omega)) kR (upto_set (v:=(tcs j1.x.val j1.y.val j1.z.val).toList) (fewA_len a) rfl (by rw [hj1]; rfl) (by omega) (by omega))) ?_
  refine sE ?_
  refine Sy.in_<|Sy.then_<|Sy.region ?_
  refine sP (.int .i64 ((k1+1:Nat):Int))<|sS (.int .i64 (((k1+1)+1:Nat):Int)) (Quiet.pure (exec_int .add _ _ _ .i64 _ _ _ rfl rfl rfl (int_add _ _ _ _ _ ((wrap_i64 (by omega) (by omega)).trans (by omega)))))<|sP (.int .i64 (((k1+1)+1:Nat):Int)) ?_
  refine Sy.nil ?_
  exact Sy.againK [true,true,true] (M:=[(g1,200,(flat (λ_=>tws 0 0 0) 16).toArray),(g2,200,(flat (upto (k1+1+1) (fewA a) (tws 0 0 0)) 16).toArray),(g3,157,(tcs a.x.val a.y.val a.z.val))]) (by omega) (all_cons kR (all_cons kR (all_cons kR (all_cons kR all_nil)))) kR (bcons rfl (bcons rfl (bcons rfl rfl)))
end Cu
end
section
namespace Cu
open Go.RowKit Sy
set_option maxRecDepth 100000
set_option maxHeartbeats 4000000
structure Trm where
 k:Nat
 x:Nat
 y:Nat
 i:Bool
def trcs (k x y:Nat) (i:Bool):Array Value:=(fws k++(fws x++(fws y++[Value.bool i]))).toArray
def trv (k x y:Nat) (i:Bool):Value:=.agg (trcs k x y i)
def Trm.cells (t:Trm):List Value:=fws t.k++(fws t.x++(fws t.y++[Value.bool t.i]))
def Trm.ok (t:Trm):Prop:=t.k<K4∧t.x<K4∧t.y<K4
def Trm.pt (t:Trm):Pt:=dec t.x t.y t.i
def Trm.kn (t:Trm):Nat:=t.k%Sc.pM
def tmA (t:Trm):List Value:=flat (dgA t.kn) 64++flat (fewA (threeJ t.pt)) 16
def tmcs (t:Trm):Array Value:=(tmA t).toArray
theorem tmA_len (T:Nat→Trm):∀ j,(tmA (T j)).length=256:=λ_=>by
 unfold tmA
 rw [List.length_append,flat_len (dgA_len _),flat_len (fewA_len _)]
def zt:List Value:=List.replicate 64 (.int .u8 0)++List.replicate 192 (.int .u64 0)
noncomputable def infTm:TypeInfo:=(Tryz.prog.info? 203).getD default
theorem info_tm:Tryz.prog.info? 203=some infTm:=by kernel_rfl
theorem dg_lt (m j:Nat):dg m j<16:=Nat.mod_lt _ (by decide)
theorem few_p (w:World) (P:Pt):Calls Tryz.prog 146 #[ptv P] w (Gets w (.agg (flat (fewA (threeJ P)) 16).toArray)):=by
 rcases P with _ | ⟨u,v⟩
 ·exact few_c w none 0 0 true rfl
 ·exact few_c w (some (u,v)) u.val v.val false rfl
def dbN (a:J):Nat→J
 | 0=>a
 | j+1=>dblJ (dbN a j)
def inJ (T:Nat→Trm) (i:Nat) (a:J):Nat→J
 | 0=>a
 | j+1=>addJ (inJ T i a j) (fewL (threeJ (T j).pt) (dg (T j).kn i))
def muJ (T:Nat→Trm) (n:Nat):Nat→J
 | 0=>⟨0,0,0⟩
 | i+1=>inJ T i (dbN (muJ T n i) 4) n
theorem at_c (w:World) (g off i:Nat) (t:Trm) (hg:g<w.heap.size) (hi:i<64) (hr:w.rangeAt g off (tmA t)):Calls Tryz.prog 147 #[.pointer (some ⟨g,off,none⟩),.int .i64 ((i:Nat):Int)] w (Gets w (tv (fewL (threeJ t.pt) (dg t.kn i)).x.val (fewL (threeJ t.pt) (dg t.kn i)).y.val (fewL (threeJ t.pt) (dg t.kn i)).z.val)):=by
 have hd:=dg_lt t.kn i
 refine Sy.enter (args:=[.pointer (some ⟨g,off,none⟩),.int .i64 ((i:Nat):Int)]) Tryz.func147 rfl kL ?_
 refine sC ?_
 refine sM 157 (tcs 0 0 0) (λg0=>?_)
 refine sH (λj=>j == 11) ?_
 refine sZ 0 rfl (.pointer (some ⟨g,off,none⟩))<|sZ 1 rfl (.pointer (some ⟨g,off,none⟩))<|sZ 2 rfl (.int .i64 ((i:Nat):Int))<|sZ 3 rfl (.pointer (some ⟨g,off,none⟩))<|sZ 4 rfl (.pointer (some ⟨g,off,none⟩))<|sD 5 rfl (.pointer (some ⟨g,off+i*1,none⟩)) (Quiet.pure (exec_atA 37 _ _ _ g off _ i 1 .i64 rfl rfl rfl Tryz.underlying37 kF (by omega)))<|sD 6 rfl (.int .u8 ((dg t.kn i:Nat):Int)) (Quiet.thereOne g (off+i*1) 5 _ _ rfl kR hg _ (range_flat (range_left hr) (dgA_len t.kn) hi 0 _ rfl) Tryz.underlying5 rfl)<|sZ 7 rfl (.pointer (some ⟨g,off,none⟩)) ?_
 refine sZ 8 rfl (.pointer (some ⟨g,off+64,none⟩))<|sD 9 rfl (.pointer (some ⟨g,off+64+(dg t.kn i)*12,none⟩)) (Quiet.pure (exec_atA 200 _ _ _ g (off+64) _ (dg t.kn i) 12 .u8 rfl rfl rfl Tryz.underlying200 kF (by omega)))<|sD 10 rfl (tv ((fewL (threeJ t.pt) (dg t.kn i)).x.val) ((fewL (threeJ t.pt) (dg t.kn i)).y.val) ((fewL (threeJ t.pt) (dg t.kn i)).z.val)) (Quiet.there g (off+64+(dg t.kn i)*12) 12 157 (fewA (threeJ t.pt) (dg t.kn i)) _ _ rfl kR hg (range_flat (range_right hr (flat_len (dgA_len t.kn) 64)) (fewA_len _) hd) Tryz.underlying157 rfl kR rfl _ kR)<|sX 11 rfl 0 g0 157 (tcs 0 0 0) (tcs ((fewL (threeJ t.pt) (dg t.kn i)).x.val) ((fewL (threeJ t.pt) (dg t.kn i)).y.val) ((fewL (threeJ t.pt) (dg t.kn i)).z.val)) (wS 0 157 (tcs ((fewL (threeJ t.pt) (dg t.kn i)).x.val) ((fewL (threeJ t.pt) (dg t.kn i)).y.val) ((fewL (threeJ t.pt) (dg t.kn i)).z.val)) rfl) ?_
 refine sI ?_
 refine Sy.ret ?_
 exact rC (v:=tv ((fewL (threeJ t.pt) (dg t.kn i)).x.val) ((fewL (threeJ t.pt) (dg t.kn i)).y.val) ((fewL (threeJ t.pt) (dg t.kn i)).z.val)) 157 g0 0 (tcs ((fewL (threeJ t.pt) (dg t.kn i)).x.val) ((fewL (threeJ t.pt) (dg t.kn i)).y.val) ((fewL (threeJ t.pt) (dg t.kn i)).z.val)) rfl Tryz.underlying157
theorem multi_c (w:World) (b o n c:Nat) (T:Nat→Trm) (hb:b<w.heap.size) (hn:n≤32) (hok:∀ j,(T j).ok) (hT:∀ j,j<n→w.rangeAt b (o+j*13) (T j).cells):Calls Tryz.prog 100 #[.slice (some ⟨b,o,none⟩) n c] w (Gets w (tv (muJ T n 64).x.val (muJ T n 64).y.val (muJ T n 64).z.val)):=by
 refine Sy.enter (args:=[.slice (some ⟨b,o,none⟩) n c]) Tryz.func100 rfl kL ?_
 refine sC ?_
 refine sM 157 (tcs 0 0 0) (λg0=>?_)
 refine sA ?_
 refine sP (.slice (some ⟨b,o,none⟩) n c)<|sP (.int .i64 ((n:Nat):Int)) ?_
 refine Sy.make kR 203 (flat (λ_=>zt) n).toArray (λg=>.slice (some ⟨g,0,none⟩) n n) (Makes.slice 198 203 _ (.agg zt.toArray) 256 1600 _ _ .i64 .i64 n zt rfl rfl rfl Tryz.underlying198 info_tm kR kR (by decide) kR kR kR (by omega) (by omega)) (λg1=>?_)
 refine sP (.slice (some ⟨g1,0,none⟩) n n) ?_
 refine sG<|Sy.seq<|sC ?_
 refine sP (.slice (some ⟨b,o,none⟩) n c)<|sP (.int .i64 ((n:Nat):Int))<|sP (.int .i64 0) ?_
 refine sG<|Sy.block ?_
 refine Sy.loopK n (λk1=>[(2,.pointer (some ⟨g0,0,none⟩)),(3,.slice (some ⟨g1,0,none⟩) n n),(12,.slice (some ⟨b,o,none⟩) n c),(13,.int .i64 ((n:Nat):Int)),(14,.int .i64 ((k1:Nat):Int))]) (λk1=>[(g0,157,(tcs 0 0 0)),(g1,203,(flat (upto k1 (λj=>tmA (T j)) zt) n).toArray)]) [true,true] (M:=[(g0,157,(tcs 0 0 0)),(g1,203,(flat (λ_=>zt) n).toArray)]) (all_cons kR (all_cons kR (all_cons kR (all_cons kR (all_cons kR all_nil))))) kR (bcons rfl (bcons (beq (upto_zero)) rfl)) (λk1 hk1=>?_)
 refine sC ?_
 obtain ⟨b1,hb1⟩:∃ z:Bool,z=decide (k1<n):=⟨_,rfl⟩
 refine sS (.bool b1) (Quiet.pure (exec_int .lss _ _ _ .i64 _ _ _ rfl rfl rfl (int_lss _ _ _ _ _ (by rw [hb1]; exact decide_eq_decide.2 (by omega))))) ?_
 refine sG<|Sy.seq ?_
 cases b1
 ·have lb1:¬ (k1<n):=of_decide_eq_false hb1.symm
  refine sU<|Sy.exit<|Sy.then_exit<|Sy.then_exit ?_
  obtain rfl:n=k1:=by omega
  refine Sy.in_exit<|sB ?_
  refine sM 157 (tcs 0 0 0) (λg2=>?_)
  refine sG<|Sy.seq<|sC ?_
  refine sP (.int .i64 0) ?_
  refine sG<|Sy.block ?_
  refine Sy.loopK 64 (λk2=>[(2,.pointer (some ⟨g0,0,none⟩)),(3,.slice (some ⟨g1,0,none⟩) n n),(6,.pointer (some ⟨g2,0,none⟩)),(31,.int .i64 ((k2:Nat):Int))]) (λk2=>[(g0,157,(tcs 0 0 0)),(g1,203,(flat ((λj=>tmA (T j))) n).toArray),(g2,157,(tcs ((muJ T n k2).x.val) ((muJ T n k2).y.val) ((muJ T n k2).z.val)))]) [true,true,true] (M:=[(g0,157,(tcs 0 0 0)),(g1,203,(flat (upto n (λj=>tmA (T j)) zt) n).toArray),(g2,157,(tcs 0 0 0))]) (all_cons kR (all_cons kR (all_cons kR (all_cons kR all_nil)))) kR (bcons rfl (bcons (beq (upto_all)) (bcons rfl rfl))) (λk2 hk2=>?_)
  refine sC ?_
  obtain ⟨b2,hb2⟩:∃ z:Bool,z=decide (k2<64):=⟨_,rfl⟩
  refine sS (.bool b2) (Quiet.pure (exec_int .lss _ _ _ .i64 _ _ _ rfl rfl rfl (int_lss _ _ _ _ _ (by rw [hb2]; exact decide_eq_decide.2 (by omega))))) ?_
  refine sG<|Sy.seq ?_
  cases b2
  ·have lb2:¬ (k2<64):=of_decide_eq_false hb2.symm
   refine sU<|Sy.exit<|Sy.then_exit<|Sy.then_exit ?_
   obtain rfl:k2=64:=by omega
   refine Sy.in_exit<|sB ?_
   refine sS (tv ((muJ T n 64).x.val) ((muJ T n 64).y.val) ((muJ T n 64).z.val)) (qL 2 g2 0 12 157 157 (tcs ((muJ T n 64).x.val) ((muJ T n 64).y.val) ((muJ T n 64).z.val)) rfl Tryz.underlying157)<|sW 0 g0 157 (tcs 0 0 0) (tcs ((muJ T n 64).x.val) ((muJ T n 64).y.val) ((muJ T n 64).z.val)) (wS 0 157 (tcs ((muJ T n 64).x.val) ((muJ T n 64).y.val) ((muJ T n 64).z.val)) rfl) ?_
   refine sG<|Sy.ret ?_
   exact rC (v:=tv ((muJ T n 64).x.val) ((muJ T n 64).y.val) ((muJ T n 64).z.val)) 157 g0 0 (tcs ((muJ T n 64).x.val) ((muJ T n 64).y.val) ((muJ T n 64).z.val)) rfl Tryz.underlying157
  ·have lb2:k2<64:=of_decide_eq_true hb2.symm
   refine sT<|Sy.skip<|Sy.then_<|Sy.seq<|Sy.block<|sC ?_
   refine sP (.int .i64 ((k2:Nat):Int))<|sP (.int .i64 ((k2:Nat):Int)) ?_
   refine sG<|Sy.seq<|sC ?_
   refine sP (.int .i64 0) ?_
   refine sG<|Sy.block ?_
   refine Sy.loopK 4 (λk3=>[(2,.pointer (some ⟨g0,0,none⟩)),(3,.slice (some ⟨g1,0,none⟩) n n),(6,.pointer (some ⟨g2,0,none⟩)),(7,.int .i64 ((k2:Nat):Int)),(31,.int .i64 ((k2:Nat):Int)),(34,.int .i64 ((k3:Nat):Int))]) (λk3=>[(g0,157,(tcs 0 0 0)),(g1,203,(flat ((λj=>tmA (T j))) n).toArray),(g2,157,(tcs ((dbN (muJ T n k2) k3).x.val) ((dbN (muJ T n k2) k3).y.val) ((dbN (muJ T n k2) k3).z.val)))]) [true,true,true] (M:=[(g0,157,(tcs 0 0 0)),(g1,203,(flat ((λj=>tmA (T j))) n).toArray),(g2,157,(tcs ((muJ T n k2).x.val) ((muJ T n k2).y.val) ((muJ T n k2).z.val)))]) (all_cons kR (all_cons kR (all_cons kR (all_cons kR (all_cons kR (all_cons kR all_nil)))))) kR (bcons rfl (bcons rfl (bcons rfl rfl))) (λk3 hk3=>?_)
   refine sC ?_
   obtain ⟨b3,hb3⟩:∃ z:Bool,z=decide (k3<4):=⟨_,rfl⟩
   refine sS (.bool b3) (Quiet.pure (exec_int .lss _ _ _ .i64 _ _ _ rfl rfl rfl (int_lss _ _ _ _ _ (by rw [hb3]; exact decide_eq_decide.2 (by omega))))) ?_
   refine sG<|Sy.seq ?_
   cases b3
   ·have lb3:¬ (k3<4):=of_decide_eq_false hb3.symm
    refine sU<|Sy.exit<|Sy.then_exit<|Sy.then_exit ?_
    obtain rfl:k3=4:=by omega
    refine Sy.in_exit<|sB ?_
    refine sP (.slice (some ⟨g1,0,none⟩) n n)<|sP (.int .i64 ((n:Nat):Int))<|sP (.int .i64 0) ?_
    refine sG<|Sy.block ?_
    refine Sy.loopK n (λk4=>[(2,.pointer (some ⟨g0,0,none⟩)),(3,.slice (some ⟨g1,0,none⟩) n n),(6,.pointer (some ⟨g2,0,none⟩)),(7,.int .i64 ((k2:Nat):Int)),(31,.int .i64 ((k2:Nat):Int)),(40,.int .i64 ((n:Nat):Int)),(41,.int .i64 ((k4:Nat):Int))]) (λk4=>[(g0,157,(tcs 0 0 0)),(g1,203,(flat ((λj=>tmA (T j))) n).toArray),(g2,157,(tcs ((inJ T k2 (dbN (muJ T n k2) 4) k4).x.val) ((inJ T k2 (dbN (muJ T n k2) 4) k4).y.val) ((inJ T k2 (dbN (muJ T n k2) 4) k4).z.val)))]) [true,true,true] (M:=[(g0,157,(tcs 0 0 0)),(g1,203,(flat ((λj=>tmA (T j))) n).toArray),(g2,157,(tcs ((dbN (muJ T n k2) 4).x.val) ((dbN (muJ T n k2) 4).y.val) ((dbN (muJ T n k2) 4).z.val)))]) (all_cons kR (all_cons kR (all_cons kR (all_cons kR (all_cons kR (all_cons kR (all_cons kR all_nil))))))) kR (bcons rfl (bcons rfl (bcons rfl rfl))) (λk4 hk4=>?_)
    refine sC ?_
    obtain ⟨b4,hb4⟩:∃ z:Bool,z=decide (k4<n):=⟨_,rfl⟩
    refine sS (.bool b4) (Quiet.pure (exec_int .lss _ _ _ .i64 _ _ _ rfl rfl rfl (int_lss _ _ _ _ _ (by rw [hb4]; exact decide_eq_decide.2 (by omega))))) ?_
    refine sG<|Sy.seq ?_
    cases b4
    ·have lb4:¬ (k4<n):=of_decide_eq_false hb4.symm
     refine sU<|Sy.exit<|Sy.then_exit<|Sy.then_exit ?_
     obtain rfl:n=k4:=by omega
     refine Sy.in_exit<|Sy.in_<|Sy.then_<|Sy.region ?_
     refine sS (.int .i64 ((k2+1:Nat):Int)) (Quiet.pure (exec_int .add _ _ _ .i64 _ _ _ rfl rfl rfl (int_add _ _ _ _ _ ((wrap_i64 (by omega) (by omega)).trans (by omega)))))<|sP (.int .i64 ((k2+1:Nat):Int)) ?_
     refine Sy.nil ?_
     exact Sy.againK [true,true,true] (M:=[(g0,157,(tcs 0 0 0)),(g1,203,(flat ((λj=>tmA (T j))) n).toArray),(g2,157,(tcs ((inJ T k2 (dbN (muJ T n k2) 4) n).x.val) ((inJ T k2 (dbN (muJ T n k2) 4) n).y.val) ((inJ T k2 (dbN (muJ T n k2) 4) n).z.val)))]) (by omega) (all_cons kR (all_cons kR (all_cons kR (all_cons kR all_nil)))) kR (bcons rfl (bcons rfl (bcons rfl rfl)))
    ·have lb4:k4<n:=of_decide_eq_true hb4.symm
     refine sT<|Sy.skip<|Sy.then_<|Sy.seq<|Sy.block<|sC ?_
     refine sP (.int .i64 ((k4:Nat):Int))<|sP (.int .i64 ((k4:Nat):Int)) ?_
     refine sG ?_
     refine Sy.regionD (λj=>j == 7) kR ?_
     refine sD 0 rfl (tv ((inJ T k2 (dbN (muJ T n k2) 4) k4).x.val) ((inJ T k2 (dbN (muJ T n k2) 4) k4).y.val) ((inJ T k2 (dbN (muJ T n k2) 4) k4).z.val)) (qL 2 g2 0 12 157 157 (tcs ((inJ T k2 (dbN (muJ T n k2) 4) k4).x.val) ((inJ T k2 (dbN (muJ T n k2) 4) k4).y.val) ((inJ T k2 (dbN (muJ T n k2) 4) k4).z.val)) rfl Tryz.underlying157)<|sZ 1 rfl (.slice (some ⟨g1,0,none⟩) n n)<|sZ 2 rfl (.int .i64 ((k4:Nat):Int))<|sD 3 rfl (.pointer (some ⟨g1,0+k4*256,none⟩)) (Quiet.pure (exec_at 198 _ _ _ g1 0 n n k4 256 .i64 rfl rfl rfl Tryz.underlying198 kF (by omega)))<|sZ 4 rfl (.int .i64 ((k2:Nat):Int))<|sD 5 rfl (tv ((fewL (threeJ (T k4).pt) (dg (T k4).kn k2)).x.val) ((fewL (threeJ (T k4).pt) (dg (T k4).kn k2)).y.val) ((fewL (threeJ (T k4).pt) (dg (T k4).kn k2)).z.val)) (Quiet.callS 147 #[.pointer (some ⟨g1,0+k4*256,none⟩),.int .i64 ((k2:Nat):Int)] kF (λw hw=>at_c w g1 (0+k4*256) k2 (T k4) (hw.get (i:=1) rfl).lt (by omega) (blk_range (hw.get (i:=1) rfl) (flat_at (tmA_len T) (k:=k4) (by omega) (by omega))))) ?_
     obtain ⟨j1,hj1⟩:∃ z:J,z=addJ (inJ T k2 (dbN (muJ T n k2) 4) k4) (fewL (threeJ (T k4).pt) (dg (T k4).kn k2)):=⟨_,rfl⟩
     refine sD 6 rfl (tv j1.x.val j1.y.val j1.z.val) (qF 99 #[tv ((inJ T k2 (dbN (muJ T n k2) 4) k4).x.val) ((inJ T k2 (dbN (muJ T n k2) 4) k4).y.val) ((inJ T k2 (dbN (muJ T n k2) 4) k4).z.val),tv ((fewL (threeJ (T k4).pt) (dg (T k4).kn k2)).x.val) ((fewL (threeJ (T k4).pt) (dg (T k4).kn k2)).y.val) ((fewL (threeJ (T k4).pt) (dg (T k4).kn k2)).z.val)] (λw=>by rw [hj1]; exact addJ_c w (inJ T k2 (dbN (muJ T n k2) 4) k4) (fewL (threeJ (T k4).pt) (dg (T k4).kn k2))))<|sX 7 rfl 2 g2 157 (tcs ((inJ T k2 (dbN (muJ T n k2) 4) k4).x.val) ((inJ T k2 (dbN (muJ T n k2) 4) k4).y.val) ((inJ T k2 (dbN (muJ T n k2) 4) k4).z.val)) (tcs j1.x.val j1.y.val j1.z.val) (wS 0 157 (tcs j1.x.val j1.y.val j1.z.val) rfl) ?_
     refine sE ?_
     refine Sy.in_<|Sy.then_<|Sy.region ?_
     refine sS (.int .i64 ((k4+1:Nat):Int)) (Quiet.pure (exec_int .add _ _ _ .i64 _ _ _ rfl rfl rfl (int_add _ _ _ _ _ ((wrap_i64 (by omega) (by omega)).trans (by omega)))))<|sP (.int .i64 ((k4+1:Nat):Int)) ?_
     refine Sy.nil ?_
     exact Sy.againK [true,true,true] (M:=[(g0,157,(tcs 0 0 0)),(g1,203,(flat ((λj=>tmA (T j))) n).toArray),(g2,157,(tcs j1.x.val j1.y.val j1.z.val))]) (by omega) (all_cons kR (all_cons kR (all_cons kR (all_cons kR (all_cons kR (all_cons kR (all_cons kR all_nil))))))) kR (bcons rfl (bcons rfl (bcons (beq (by rw [hj1]; rfl)) rfl)))
   ·have lb3:k3<4:=of_decide_eq_true hb3.symm
    refine sT<|Sy.skip<|Sy.then_<|Sy.seq<|Sy.block<|Sy.region ?_
    refine sS (tv ((dbN (muJ T n k2) k3).x.val) ((dbN (muJ T n k2) k3).y.val) ((dbN (muJ T n k2) k3).z.val)) (qL 2 g2 0 12 157 157 (tcs ((dbN (muJ T n k2) k3).x.val) ((dbN (muJ T n k2) k3).y.val) ((dbN (muJ T n k2) k3).z.val)) rfl Tryz.underlying157) ?_
    obtain ⟨j2,hj2⟩:∃ z:J,z=dblJ (dbN (muJ T n k2) k3):=⟨_,rfl⟩
    refine sS (tv j2.x.val j2.y.val j2.z.val) (qF 144 #[tv ((dbN (muJ T n k2) k3).x.val) ((dbN (muJ T n k2) k3).y.val) ((dbN (muJ T n k2) k3).z.val)] (λw=>by rw [hj2]; exact double_c w (dbN (muJ T n k2) k3)))<|sW 2 g2 157 (tcs ((dbN (muJ T n k2) k3).x.val) ((dbN (muJ T n k2) k3).y.val) ((dbN (muJ T n k2) k3).z.val)) (tcs j2.x.val j2.y.val j2.z.val) (wS 0 157 (tcs j2.x.val j2.y.val j2.z.val) rfl) ?_
    refine Sy.nil<|Sy.in_<|Sy.then_<|Sy.region ?_
    refine sS (.int .i64 ((k3+1:Nat):Int)) (Quiet.pure (exec_int .add _ _ _ .i64 _ _ _ rfl rfl rfl (int_add _ _ _ _ _ ((wrap_i64 (by omega) (by omega)).trans (by omega)))))<|sP (.int .i64 ((k3+1:Nat):Int)) ?_
    refine Sy.nil ?_
    exact Sy.againK [true,true,true] (M:=[(g0,157,(tcs 0 0 0)),(g1,203,(flat ((λj=>tmA (T j))) n).toArray),(g2,157,(tcs j2.x.val j2.y.val j2.z.val))]) (by omega) (all_cons kR (all_cons kR (all_cons kR (all_cons kR (all_cons kR (all_cons kR all_nil)))))) kR (bcons rfl (bcons rfl (bcons (beq (by rw [hj2]; rfl)) rfl)))
 ·have lb1:k1<n:=of_decide_eq_true hb1.symm
  refine sT<|Sy.skip<|Sy.then_<|Sy.seq<|Sy.block<|sC ?_
  refine sP (.int .i64 ((k1:Nat):Int))<|sS (.pointer (some ⟨b,o+k1*13,none⟩)) (Quiet.pure (exec_at 123 _ _ _ b o n c k1 13 .i64 rfl rfl rfl Tryz.underlying123 kF (by omega)))<|sS (trv ((T k1).k) ((T k1).x) ((T k1).y) ((T k1).i)) (Quiet.there b (o+k1*13) 13 122 (T k1).cells _ _ rfl kR hb (hT k1 (by omega)) Tryz.underlying122 rfl kR rfl _ kR) ?_
  refine sM 122 (trcs 0 0 0 false) (λg3=>?_)
  refine sP (.int .i64 ((k1:Nat):Int))<|sW 2 g3 122 (trcs 0 0 0 false) (trcs ((T k1).k) ((T k1).x) ((T k1).y) ((T k1).i)) (wS 0 122 (trcs ((T k1).k) ((T k1).x) ((T k1).y) ((T k1).i)) rfl) ?_
  refine sG ?_
  refine Sy.regionD (λj=>j == 11) kR ?_
  refine sZ 0 rfl (.slice (some ⟨g1,0,none⟩) n n)<|sZ 1 rfl (.int .i64 ((k1:Nat):Int))<|sZ 2 rfl (.pointer (some ⟨g3,0,none⟩))<|sD 3 rfl (fv ((T k1).k)) (qL 2 g3 0 4 122 36 (trcs ((T k1).k) ((T k1).x) ((T k1).y) ((T k1).i)) rfl Tryz.underlying36)<|sD 4 rfl (.agg (flat ((dgA (T k1).kn)) 64).toArray) (qF 145 #[fv ((T k1).k)] (λw=>digits_c w (T k1).k (hok k1).1))<|sZ 5 rfl (.pointer (some ⟨g3,4,none⟩))<|sD 6 rfl (pv ((T k1).x) ((T k1).y) ((T k1).i)) (qL 2 g3 4 9 122 83 (trcs ((T k1).k) ((T k1).x) ((T k1).y) ((T k1).i)) rfl Tryz.underlying83)<|sD 7 rfl (ptv (T k1).pt) (qF 74 #[pv ((T k1).x) ((T k1).y) ((T k1).i)] (λw=>right_c w (T k1).x (T k1).y (T k1).i (hok k1).2.1 (hok k1).2.2)) ?_
  refine sD 8 rfl (.agg (flat ((fewA (threeJ (T k1).pt))) 16).toArray) (qF 146 #[ptv (T k1).pt] (λw=>few_p w (T k1).pt))<|sZ 9 rfl (.agg (tmcs (T k1)))<|sD 10 rfl (.pointer (some ⟨g1,0+k1*256,none⟩)) (Quiet.pure (exec_at 198 _ _ _ g1 0 n n k1 256 .i64 rfl rfl rfl Tryz.underlying198 kF (by omega)))<|sX 11 rfl 1 g1 203 (flat (upto k1 (λj=>tmA (T j)) zt) n).toArray (flat (upto (k1+1) (λj=>tmA (T j)) zt) n).toArray (Writes.store (0+k1*256) 203 (tmcs (T k1)) _ _ rfl kR kR kR (flat_fit (upto_len (tmA_len T) rfl _) (k:=k1) (by omega) (by omega)) kR (upto_set (v:=(tmcs (T k1)).toList) (tmA_len T) rfl (rfl) (by omega) (by omega))) ?_
  refine sE ?_
  refine Sy.in_<|Sy.then_<|Sy.region ?_
  refine sS (.int .i64 ((k1+1:Nat):Int)) (Quiet.pure (exec_int .add _ _ _ .i64 _ _ _ rfl rfl rfl (int_add _ _ _ _ _ ((wrap_i64 (by omega) (by omega)).trans (by omega)))))<|sP (.int .i64 ((k1+1:Nat):Int)) ?_
  refine Sy.nil ?_
  exact Sy.againK [true,true,false] (M:=[(g0,157,(tcs 0 0 0)),(g1,203,(flat (upto (k1+1) (λj=>tmA (T j)) zt) n).toArray)]) (by omega) (all_cons kR (all_cons kR (all_cons kR (all_cons kR (all_cons kR all_nil))))) kR (bcons rfl (bcons rfl rfl))
end Cu
end
section
namespace Ec
variable {n:Nat} [NeZero n] {inv:Fin n→Fin n} {α:Type}
def sumF (inv:Fin n→Fin n) (f:α→Pt n) (s:Pt n):List α→Pt n
 | []=>s
 | x::l=>sumF inv f (add inv s (f x)) l
def sumL (inv:Fin n→Fin n) (f:α→Pt n) (l:List α):Pt n:=sumF inv f none l
theorem On.sumF (H:Fld n inv) {f:α→Pt n}:∀ (l:List α) {s:Pt n},On s→(∀ x∈l,On (f x))→On (Ec.sumF inv f s l)
 | [],_,hs,_=>hs
 | x::l,_,hs,hf=>On.sumF H l (On.add H hs (hf x (List.mem_cons_self ..))) λy hy=>hf y (List.mem_cons_of_mem _ hy)
theorem sumF_start (H:Fld n inv) {f:α→Pt n}:∀ (l:List α) {s t:Pt n},On s→On t→(∀ x∈l,On (f x))→sumF inv f (add inv s t) l=add inv s (sumF inv f t l)
 | [],_,_,_,_,_=>rfl
 | x::l,s,t,hs,ht,hf=>by
  have hx:=hf x (List.mem_cons_self ..)
  show sumF inv f (add inv (add inv s t) (f x)) l=add inv s (sumF inv f (add inv t (f x)) l)
  rw [assoc H hs ht hx]
  exact sumF_start H l hs (On.add H ht hx) λy hy=>hf y (List.mem_cons_of_mem _ hy)
theorem sumF_is (H:Fld n inv) {f:α→Pt n} (l:List α) {s:Pt n} (hs:On s) (hf:∀ x∈l,On (f x)):sumF inv f s l=add inv s (sumL inv f l):=by
 have:=sumF_start H l hs (show On none from trivial) hf
 rwa [add_zero] at this
theorem On.sumL (H:Fld n inv) {f:α→Pt n} (l:List α) (hf:∀ x∈l,On (f x)):On (Ec.sumL inv f l):=On.sumF H l trivial hf
theorem sumL_cons (H:Fld n inv) {f:α→Pt n} (x:α) (l:List α) (hf:∀ y∈x::l,On (f y)):sumL inv f (x::l)=add inv (f x) (sumL inv f l):=by
 show sumF inv f (add inv none (f x)) l=_
 rw [zero_add]
 exact sumF_is H l (hf x (List.mem_cons_self ..)) λy hy=>hf y (List.mem_cons_of_mem _ hy)
theorem sumL_append (H:Fld n inv) {f:α→Pt n}:∀ (l m:List α),(∀ x∈l++m,On (f x))→sumL inv f (l++m)=add inv (sumL inv f l) (sumL inv f m)
 | [],m,_=>(zero_add _).symm
 | x::l,m,h=>by
  have h1:∀ y∈l++m,On (f y):=λy hy=>h y (List.mem_cons_of_mem _ hy)
  have h2:∀ y∈x::l,On (f y):=λy hy=>h y (by rcases List.mem_cons.1 hy with rfl | hy; exact List.mem_cons_self ..; exact List.mem_cons_of_mem _ (List.mem_append_left _ hy))
  rw [List.cons_append,sumL_cons H x (l++m) (λy hy=>h y (by rw [List.cons_append]; exact hy)),sumL_append H l m h1,sumL_cons H x l h2,
   assoc H (h x (List.mem_cons_self ..)) (On.sumL H l λy hy=>h1 y (List.mem_append_left _ hy)) (On.sumL H m λy hy=>h1 y (List.mem_append_right _ hy))]
theorem sumL_add (H:Fld n inv) {f g:α→Pt n}:∀ (l:List α),(∀ x∈l,On (f x))→(∀ x∈l,On (g x))→sumL inv (λx=>add inv (f x) (g x)) l=add inv (sumL inv f l) (sumL inv g l)
 | [],_,_=>rfl
 | x::l,hf,hg=>by
  have f1:=hf x (List.mem_cons_self ..)
  have g1:=hg x (List.mem_cons_self ..)
  have hf':∀ y∈l,On (f y):=λy hy=>hf y (List.mem_cons_of_mem _ hy)
  have hg':∀ y∈l,On (g y):=λy hy=>hg y (List.mem_cons_of_mem _ hy)
  rw [sumL_cons H x l (λy hy=>On.add H (hf y hy) (hg y hy)),sumL_cons H x l hf,sumL_cons H x l hg,sumL_add H l hf' hg']
  exact add4 H f1 g1 (On.sumL H l hf') (On.sumL H l hg')
theorem sumL_nm (H:Fld n inv) {f:α→Pt n} (k:Nat):∀ (l:List α),(∀ x∈l,On (f x))→sumL inv (λx=>nm inv k (f x)) l=nm inv k (sumL inv f l)
 | [],_=>(nm_none k).symm
 | x::l,hf=>by
  have f1:=hf x (List.mem_cons_self ..)
  have hf':∀ y∈l,On (f y):=λy hy=>hf y (List.mem_cons_of_mem _ hy)
  rw [sumL_cons H x l (λy hy=>On.nm H (hf y hy) k),sumL_cons H x l hf,sumL_nm H k l hf',nm_sum H f1 (On.sumL H l hf')]
theorem sumL_congr (H:Fld n inv) {f g:α→Pt n}:∀ (l:List α),(∀ x∈l,On (f x))→(∀ x∈l,f x=g x)→sumL inv f l=sumL inv g l
 | [],_,_=>rfl
 | x::l,hf,he=>by
  have hg:∀ y∈x::l,On (g y):=λy hy=>he y hy ▸ hf y hy
  rw [sumL_cons H x l hf,sumL_cons H x l hg,he x (List.mem_cons_self ..),sumL_congr H l (λy hy=>hf y (List.mem_cons_of_mem _ hy)) λy hy=>he y (List.mem_cons_of_mem _ hy)]
theorem horner (H:Fld n inv) {p:α→Pt n} (k:α→Nat) (q:Nat) (l:List α) (hp:∀ x∈l,On (p x)) :
  add inv (nm inv 16 (sumL inv (λx=>nm inv (k x / (16*q)) (p x)) l)) (sumL inv (λx=>nm inv (k x / q%16) (p x)) l)=sumL inv (λx=>nm inv (k x / q) (p x)) l:=by
 rw [← sumL_nm H 16 l λx hx=>On.nm H (hp x hx) _, ← sumL_add H l (λx hx=>On.nm H (On.nm H (hp x hx) _) _) λx hx=>On.nm H (hp x hx) _]
 refine sumL_congr H l (λx hx=>On.add H (On.nm H (On.nm H (hp x hx) _) _) (On.nm H (hp x hx) _)) λx hx=>?_
 rw [← nm_mul H (hp x hx), ← nm_add H (hp x hx)]
 congr 1
 rw [Nat.mul_comm 16 q, ← Nat.div_div_eq_div_mul]
 omega
theorem nm_two (P:Pt n):nm inv 2 P=add inv P P:=by
 show add inv (nm inv 1 P) P=_
 rw [nm_one]
theorem bit_step (H:Fld n inv) {P:Pt n} (hP:On P) (k q:Nat):add inv (add inv (nm inv (k / (2*q)) P) (nm inv (k / (2*q)) P)) (nm inv (k / q%2) P)=nm inv (k / q) P:=by
 rw [← nm_two, ← nm_mul H hP, ← nm_add H hP]
 congr 1
 rw [Nat.mul_comm 2 q, ← Nat.div_div_eq_div_mul]
 omega
end Ec
end
section
namespace Cu
open Go.RowKit Sy
theorem sumF_snoc {α:Type} (f:α→Pt):∀ (l:List α) (s:Pt) (x:α),Ec.sumF finv f s (l++[x])=Ec.add finv (Ec.sumF finv f s l) (f x)
 | [],_,_=>rfl
 | y::l,s,x=>sumF_snoc f l (Ec.add finv s (f y)) x
theorem sumL_none {α:Type} (f:α→Pt):∀ (l:List α),(∀ x∈l,f x=none)→Ec.sumL finv f l=none
 | [],_=>rfl
 | x::l,h=>by
  show Ec.sumF finv f (Ec.add finv none (f x)) l=none
  rw [h x (List.mem_cons_self ..),Ec.add_zero]
  exact sumL_none f l λy hy=>h y (List.mem_cons_of_mem _ hy)
theorem sumL_map {α β:Type} (f:β→Pt) (g:α→β) (l:List α):Ec.sumL finv f (l.map g)=Ec.sumL finv (λx=>f (g x)) l:=by
 have h:∀ (l:List α) (s:Pt),Ec.sumF finv f s (l.map g)=Ec.sumF finv (λx=>f (g x)) s l:=by
  intro l
  induction l with
  | nil=>intro _; rfl
  | cons x l ih=>intro s; exact ih _
 exact h l none
theorem dbN_rep {a:J} {P:Pt} (hP:Ec.On P) (h:Ec.Rep a P):∀ j,Ec.Rep (dbN a j) (Ec.nm finv (2 ^ j) P)
 | 0=>by rw [Nat.pow_zero,Ec.nm_one]; exact h
 | j+1=>by
  rw [show 2 ^ (j+1)=2 ^ j+2 ^ j by omega,Ec.nm_add fld hP]
  exact dblJ_rep (hP.nm fld _) (dbN_rep hP h j)
theorem Trm.on (t:Trm):Ec.On t.pt:=dec_on t.x t.y t.i
theorem inJ_rep (T:Nat→Trm) (i:Nat) {a:J} {s:Pt} (hs:Ec.On s) (h:Ec.Rep a s):∀ j,Ec.Rep (inJ T i a j) (Ec.sumF finv (λt=>Ec.nm finv (dg (T t).kn i) (T t).pt) s (List.range j))
 | 0=>h
 | j+1=>by
  rw [List.range_succ,sumF_snoc]
  exact addJ_rep (Ec.On.sumF fld _ hs λx _=>(T x).on.nm fld _) ((T j).on.nm fld _) (inJ_rep T i hs h j) (fewL_rep (T j).on (threeJ_rep _) _)
theorem kn_lt (t:Trm):t.kn<16 ^ 64:=Nat.lt_trans (Nat.mod_lt _ (by decide)) (by decide)
theorem muJ_rep (T:Nat→Trm) (n:Nat):∀ i,i≤64→Ec.Rep (muJ T n i) (Ec.sumL finv (λt=>Ec.nm finv ((T t).kn / 16 ^ (64 - i)) (T t).pt) (List.range n))
 | 0,_=>by
  rw [sumL_none _ _ λx _=>by rw [Nat.sub_zero,Nat.div_eq_of_lt (kn_lt (T x))]; rfl]
  rfl
 | i+1,hi=>by
  have hS:Ec.On (Ec.sumL finv (λt=>Ec.nm finv ((T t).kn / 16 ^ (64 - i)) (T t).pt) (List.range n)):=Ec.On.sumL fld _ λx _=>(T x).on.nm fld _
  have h1:=dbN_rep hS (muJ_rep T n i (by omega)) 4
  have h2:=inJ_rep T i (hS.nm fld _) h1 n
  rw [Ec.sumF_is fld _ (hS.nm fld _) λx _=>(T x).on.nm fld _] at h2
  have e1:16 ^ (64 - i)=16*16 ^ (63 - i):=by rw [show 64 - i=(63 - i)+1 by omega,Nat.pow_succ,Nat.mul_comm]
  have h3:=Ec.horner fld (p:=λt=>(T t).pt) (λt=>(T t).kn) (16 ^ (63 - i)) (List.range n) λx _=>(T x).on
  rw [show 64 - (i+1)=63 - i by omega, ← h3, ← e1]
  exact h2
theorem multi_rep (T:Nat→Trm) (n:Nat):Ec.Rep (muJ T n 64) (Ec.sumL finv (λt=>Ec.nm finv (T t).kn (T t).pt) (List.range n)):=by
 have h:=muJ_rep T n 64 (Nat.le_refl _)
 simpa using h
def szC (n c:Nat):Nat:=min 32 (n - c*32)
def chJ (T:Nat→Trm) (n:Nat) (s:J) (c:Nat):J:=addJ s (muJ (λj=>T (c*32+j)) (szC n c) 64)
def chL (T:Nat→Trm) (n:Nat) (l:List Nat):J:=l.foldl (chJ T n) ⟨0,0,0⟩
theorem chL_snoc (T:Nat→Trm) (n:Nat) (l:List Nat) (c:Nat):chL T n (l++[c])=chJ T n (chL T n l) c:=by simp [chL,List.foldl_append]
theorem chL_rep (T:Nat→Trm) (n:Nat):∀ c,Ec.Rep (chL T n (List.range c)) (Ec.sumL finv (λt=>Ec.nm finv (T t).kn (T t).pt) (List.range (min n (c*32))))
 | 0=>by rw [Nat.zero_mul,Nat.min_zero]; rfl
 | c+1=>by
  have hon:∀ l,Ec.On (Ec.sumL finv (λt=>Ec.nm finv (T t).kn (T t).pt) l):=λl=>Ec.On.sumL fld _ λx _=>(T x).on.nm fld _
  have h1:=chL_rep T n c
  have h2:=multi_rep (λj=>T (c*32+j)) (szC n c)
  have h3:=addJ_rep (hon _) (Ec.On.sumL fld _ λx _=>(T (c*32+x)).on.nm fld _) h1 h2
  rw [List.range_succ,chL_snoc]
  show Ec.Rep (addJ _ _) _
  have e:min n ((c+1)*32)=min n (c*32)+szC n c:=by unfold szC; omega
  rcases Nat.lt_or_ge (c*32) n with hlt | hge
  ·rw [e,List.range_add,Ec.sumL_append fld _ _ λx _=>(T x).on.nm fld _,sumL_map]
   rw [show min n (c*32)=c*32 by omega] at h3 ⊢
   exact h3
  ·have ez:szC n c=0:=by unfold szC; omega
   rw [e,ez,Nat.add_zero]
   rw [ez] at h3
   have e0:∀ f:Nat→Pt,Ec.sumL finv f (List.range 0)=none:=λ_=>rfl
   rw [e0,Ec.add_zero] at h3
   exact h3
theorem chL_all (T:Nat→Trm) (n:Nat):Ec.Rep (chL T n (List.range ((n+31) / 32))) (Ec.sumL finv (λt=>Ec.nm finv (T t).kn (T t).pt) (List.range n)):=by
 have h:=chL_rep T n ((n+31) / 32)
 rwa [show min n ((n+31) / 32*32)=n by omega] at h
end Cu
end
section
namespace Cu
open Go.RowKit Sy
set_option maxRecDepth 100000
set_option maxHeartbeats 4000000
def chV (b off m c:Nat):Value:=.slice (some ⟨b,off+32*c*13,none⟩) (szC m c) (szC m c)
def chE (b off m:Nat) {N:Nat} (x:Fin N):Array Value:=#[chV b off m x.val]
set_option maxHeartbeats 1000000 in
theorem chunk_any (w : World) (A : Option Addr) (m cap : Nat) :
    Calls Tryz.prog 98 #[.slice A m cap,.int .i64 32] w (GetsN w λv M=>∃ g1 g2,v=.func (.func 142) #[] #[.pointer (some ⟨g1,0,none⟩),.pointer (some ⟨g2,0,none⟩)]∧M=[(g1,123,#[.slice A m cap]),(g2,3,#[.int .i64 32])]):=by
  go_enter Tryz.func98,Tryz.ntmps98
  go_wp2
  go_ret
  refine ⟨_,_,rfl,⟨_,_,rfl,rfl⟩,below_alloc2 w _ _,λg t cs hm=>?_,?_⟩
  · simp only [List.mem_cons,List.not_mem_nil,or_false,Prod.mk.injEq] at hm
    rcases hm with ⟨rfl,rfl,rfl⟩ | ⟨rfl,rfl,rfl⟩
    · exact ⟨Nat.le_refl _,(Blk.new w _ _).alloc _⟩
    · exact ⟨by omega,blk_new2 w _ _ _⟩
  · simp
theorem chunk1_in (n l Bs Bn n₀ b off m cap N : Nat) (hN0 : N = (m + 31) / 32) (hm : m ≤ cap) (hm2 : m ≤ 4611686018427387904) (J Jx : List (Fin N) → World → Prop) (W : World) (hJ : AbidesFrom W.heap.size J) (hJx : AbidesFrom W.heap.size Jx)
    (hY:∀ pre x W1,J pre W1→pre.length<N→YieldAt Fence.wide (n - 1) Tryz.prog l (chE b off m x) W1 λe W'=>(e=.returned (.bool true)∧J (pre++[x]) W'∧KpL n₀ [(Bs,123,#[.slice (some ⟨b,off,none⟩) m cap]),(Bn,3,#[.int .i64 32])] W1 W')∨(e=.returned (.bool false)∧Jx (pre++[x]) W'))
    (hS:Blk W Bs 123 #[.slice (some ⟨b,off,none⟩) m cap]) (hN:Blk W Bn 3 #[.int .i64 32]) (h0:J [] W) :
    CallsIn Fence.wide n Tryz.prog 142 #[.func (.yield l) #[] #[],.pointer (some ⟨Bs,0,none⟩),.pointer (some ⟨Bn,0,none⟩)] W λe W'=>(∃ v,e=.returned v)∧((∃ ys:List (Fin N),ys.map (·.1)=List.range N∧J ys W')∨(∃ pre:List (Fin N),(∃ k,k≤N∧pre.map (·.1)=List.range k)∧Jx pre W')):=by
  refine Sy.enterP (args:=[.func (.yield l) #[] #[],.pointer (some ⟨Bs,0,none⟩),.pointer (some ⟨Bn,0,none⟩)]) Tryz.func142 rfl kL ?_
  refine sC ?_
  refine sP (.int .i64 0) ?_
  refine sG<|Sy.block ?_
  refine Sy.loopP N (λk1=>[(0,.func (.yield l) #[] #[]),(1,.pointer (some ⟨Bs,0,none⟩)),(2,.pointer (some ⟨Bn,0,none⟩)),(4,.int .i64 ((32*k1:Nat):Int))]) (λk1 w=>∃ pre:List (Fin N),pre.map (·.1)=List.range k1∧J pre w∧Blk w Bs 123 #[.slice (some ⟨b,off,none⟩) m cap]∧Blk w Bn 3 #[.int .i64 32]) (all_cons kR (all_cons kR (all_cons kR (all_cons kR all_nil)))) (λw hg=>⟨[],rfl,abides_gr hJ h0 hg,hg.blk hS,hg.blk hN⟩) (λk1 wr hk1 hz=>?_)
  clear hS hN
  obtain ⟨pre,hpre,hj,hS,hN⟩:=hz
  have hlen:pre.length=k1:=by have:=congrArg List.length hpre; rwa [List.length_map,List.length_range] at this
  refine Sy.seq<|sC ?_
  refine sP (.int .i64 ((32*k1:Nat):Int))<|sS (.slice (some ⟨b,off,none⟩) m cap) (Quiet.thereOne Bs 0 123 _ _ rfl kR hS.lt _ (hS.cell 0) Tryz.underlying123 rfl)<|sP (.int .i64 ((m:Nat):Int)) ?_
  obtain ⟨b1,hb1⟩:∃ z:Bool,z=decide (32*k1<m):=⟨_,rfl⟩
  refine sS (.bool b1) (Quiet.pure (exec_int .lss _ _ _ .i64 _ _ _ rfl rfl rfl (int_lss _ _ _ _ _ (by rw [hb1]; exact decide_eq_decide.2 (by omega))))) ?_
  refine sG ?_
  cases b1
  · have lb1:¬ (32*k1<m):=of_decide_eq_false hb1.symm
    refine sU<|Sy.exit<|Sy.then_exit<|Sy.then_exit ?_
    obtain rfl:N=k1:=by omega
    refine Sy.in_exit ?_
    exact Sy.retP rfl (λv w3 hg=>⟨⟨_,rfl⟩,.inl ⟨pre,hpre,abides_gr hJ hj hg⟩⟩) (.inr rfl)
  · have lb1 : 32 * k1 < m := of_decide_eq_true hb1.symm
    refine sT<|Sy.skip<|Sy.then_<|Sy.seq<|Sy.block<|Sy.seq ?_
    refine Sy.regionD (λj=>false) kR ?_
    refine sD 0 rfl (.int .i64 ((32:Nat):Int)) (Quiet.thereOne Bn 0 3 _ _ rfl kR hN.lt _ (hN.cell 0) Tryz.underlying3 rfl)<|sD 1 rfl (.slice (some ⟨b,off,none⟩) m cap) (Quiet.thereOne Bs 0 123 _ _ rfl kR hS.lt _ (hS.cell 0) Tryz.underlying123 rfl)<|sZ 2 rfl (.int .i64 ((32*k1:Nat):Int))<|sD 3 rfl (.slice (some ⟨b,off+(32*k1)*13,none⟩) (m - (32*k1)) (cap - (32*k1))) (Quiet.pure (exec_sl1 _ _ _ b off m cap (32*k1) 13 .i64 rfl rfl rfl kR kF (by omega) (by omega)))<|sZ 4 rfl (.int .i64 (((m - (32*k1)):Nat):Int)) ?_
    obtain ⟨sz,hsz⟩:∃ z,z=szC m k1:=⟨_,rfl⟩
    have hs:0<sz∧32*k1+sz≤m:=by rw [hsz]; unfold szC; omega
    refine sD 5 rfl (.int .i64 ((sz:Nat):Int)) (Quiet.pure (exec_min _ _ .i64 32 (m - (32*k1)) sz rfl rfl rfl (by rw [hsz]; unfold szC; omega)))<|sZ 6 rfl (.int .i64 ((sz:Nat):Int)) ?_
    refine sI ?_
    refine Sy.seq ?_
    have hx:k1<N:=by omega
    refine Sy.regionY 10 (by rintro ⟨_,_,⟨_,hv⟩,_⟩; cases hv) kR ?_
    refine sP (.func (.yield l) #[] #[])<|sS (.slice (some ⟨b,off,none⟩) m cap) (Quiet.thereOne Bs 0 123 _ _ rfl kR hS.lt _ (hS.cell 0) Tryz.underlying123 rfl)<|sP (.int .i64 ((32*k1:Nat):Int))<|sP (.int .i64 ((32*k1:Nat):Int))<|sP (.int .i64 ((sz:Nat):Int))<|sS (.int .i64 (((32*k1)+sz:Nat):Int)) (Quiet.pure (exec_int .add _ _ _ .i64 _ _ _ rfl rfl rfl (int_add _ _ _ _ _ ((wrap_i64 (by omega) (by omega)).trans (by omega)))))<|sP (.int .i64 ((32*k1:Nat):Int))<|sP (.int .i64 ((sz:Nat):Int)) ?_
    refine sS (.int .i64 (((32*k1)+sz:Nat):Int)) (Quiet.pure (exec_int .add _ _ _ .i64 _ _ _ rfl rfl rfl (int_add _ _ _ _ _ ((wrap_i64 (by omega) (by omega)).trans (by omega)))))<|sS (.slice (some ⟨b,off+(32*k1)*13,none⟩) (((32*k1)+sz) - (32*k1)) (((32*k1)+sz) - (32*k1))) (Quiet.pure (exec_sl3 _ _ _ _ _ b off m cap (32*k1) ((32*k1)+sz) ((32*k1)+sz) 13 .i64 .i64 .i64 rfl rfl rfl rfl rfl kR kF (by have:=hs; omega) (by have:=hs; omega) (by have:=hs; omega) (by have:=hs; omega))) ?_
    refine Sy.nil ?_
    refine Sy.yieldX (ro := none) rfl (by rintro ⟨_, _, ⟨_, hv⟩, _⟩; cases hv) kR kR l #[.slice (some ⟨b, off + (32 * k1) * 13, none⟩) (((32 * k1) + sz) - (32 * k1)) (((32 * k1) + sz) - (32 * k1))] kF (fun e W' => (e = .returned (.bool true) ∧ J (pre ++ [⟨k1, hx⟩]) W' ∧ Blk W' Bs 123 #[.slice (some ⟨b, off, none⟩) m cap] ∧ Blk W' Bn 3 #[.int .i64 32]) ∨ (e = .returned (.bool false) ∧ Jx (pre ++ [⟨k1, hx⟩]) W')) (fun w hg => by
            have e:chE b off m ⟨k1,hx⟩=#[.slice (some ⟨b,off+32*k1*13,none⟩) (32*k1+sz - 32*k1) (32*k1+sz - 32*k1)]:=by unfold chE chV; rw [← hsz,Nat.add_sub_cancel_left]
            have y:=hY pre ⟨k1,hx⟩ w (abides_gr hJ hj hg) (by omega)
            rw [e] at y
            exact yield_mono y (λe w' q=>q.imp (λq=>⟨q.1,q.2.1,q.2.2.2 (Bs,123,_) (by simp) (hg.blk hS),q.2.2.2 (Bn,3,_) (by simp) (hg.blk hN)⟩) id)) (λe w' q=>q.elim (λq=>⟨_,q.1⟩) (λq=>⟨_,q.1⟩)) rfl (λw2 b hr=>?_)
    cases b
    · have hx2:=hr.elim (λq=>by cases q.1) (λq=>q.2)
      refine sP (.bool true) ?_
      refine sG<|sT<|Sy.ret<|Sy.in_ret<|Sy.then_ret<|Sy.then_ret<|Sy.in_ret ?_
      exact Sy.retP rfl (λv w3 hg=>⟨⟨_,rfl⟩,.inr ⟨pre++[⟨k1,hx⟩],⟨k1+1,by omega,by rw [List.map_append,hpre,List.range_succ]; rfl⟩,abides_gr hJx hx2 hg⟩⟩) (.inl rfl)
    · clear hS hN hj
      obtain ⟨hj,hS,hN⟩:=hr.elim (λq=>q.2) (λq=>by cases q.1)
      refine sP (.bool false) ?_
      refine sG<|sU<|Sy.skip<|Sy.in_<|Sy.then_<|Sy.region ?_
      refine sP (.int .i64 ((32*k1:Nat):Int))<|sS (.int .i64 ((32:Nat):Int)) (Quiet.thereOne Bn 0 3 _ _ rfl kR hN.lt _ (hN.cell 0) Tryz.underlying3 rfl)<|sS (.int .i64 (((32*k1)+32:Nat):Int)) (Quiet.pure (exec_int .add _ _ _ .i64 _ _ _ rfl rfl rfl (int_add _ _ _ _ _ ((wrap_i64 (by omega) (by omega)).trans (by omega)))))<|sP (.int .i64 (((32*k1)+32:Nat):Int)) ?_
      refine Sy.nil ?_
      exact Sy.againP (by omega) (all_cons kR (all_cons kR (all_cons kR (all_cons kR all_nil)))) (λw3 hg=>⟨pre++[⟨k1,hx⟩],by rw [List.map_append,hpre,List.range_succ]; rfl,abides_gr hJ hj hg,hg.blk hS,hg.blk hN⟩)
theorem chunk0_in (n l Bs Bn cap : Nat) (A : Option Addr) (J Jx : List (Fin 0) → World → Prop) (W : World) (hJ : AbidesFrom W.heap.size J)
    (hS:Blk W Bs 123 #[.slice A 0 cap]) (hN:Blk W Bn 3 #[.int .i64 32]) (h0:J [] W) :
    CallsIn Fence.wide n Tryz.prog 142 #[.func (.yield l) #[] #[],.pointer (some ⟨Bs,0,none⟩),.pointer (some ⟨Bn,0,none⟩)] W λe W'=>(∃ v,e=.returned v)∧((∃ ys:List (Fin 0),ys.map (·.1)=List.range 0∧J ys W')∨(∃ pre:List (Fin 0),(∃ k,k≤0∧pre.map (·.1)=List.range k)∧Jx pre W')):=by
  refine Sy.enterP (args:=[.func (.yield l) #[] #[],.pointer (some ⟨Bs,0,none⟩),.pointer (some ⟨Bn,0,none⟩)]) Tryz.func142 rfl kL ?_
  refine sC ?_
  refine sP (.int .i64 0) ?_
  refine sG<|Sy.block ?_
  refine Sy.loopP 0 (λk1=>[(0,.func (.yield l) #[] #[]),(1,.pointer (some ⟨Bs,0,none⟩)),(2,.pointer (some ⟨Bn,0,none⟩)),(4,.int .i64 ((32*k1:Nat):Int))]) (λk1 w=>J [] w∧Blk w Bs 123 #[.slice A 0 cap]∧Blk w Bn 3 #[.int .i64 32]) (all_cons kR (all_cons kR (all_cons kR (all_cons kR all_nil)))) (λw hg=>⟨abides_gr hJ h0 hg,hg.blk hS,hg.blk hN⟩) (λk1 wr hk1 hz=>?_)
  clear hS hN
  obtain ⟨hj,hS,hN⟩:=hz
  refine Sy.seq<|sC ?_
  refine sP (.int .i64 ((32*k1:Nat):Int))<|sS (.slice A 0 cap) (Quiet.thereOne Bs 0 123 _ _ rfl kR hS.lt _ (hS.cell 0) Tryz.underlying123 rfl)<|sP (.int .i64 ((0:Nat):Int)) ?_
  obtain ⟨b1,hb1⟩:∃ z:Bool,z=decide (32*k1<0):=⟨_,rfl⟩
  refine sS (.bool b1) (Quiet.pure (exec_int .lss _ _ _ .i64 _ _ _ rfl rfl rfl (int_lss _ _ _ _ _ (by rw [hb1]; exact decide_eq_decide.2 (by omega))))) ?_
  refine sG ?_
  cases b1
  · have lb1:¬ (32*k1<0):=of_decide_eq_false hb1.symm
    refine sU<|Sy.exit<|Sy.then_exit<|Sy.then_exit ?_
    obtain rfl:k1=0:=by omega
    refine Sy.in_exit ?_
    exact Sy.retP rfl (λv w3 hg=>⟨⟨_,rfl⟩,.inl ⟨[],rfl,abides_gr hJ hj hg⟩⟩) (.inr rfl)
  · have lb1:32*k1<0:=of_decide_eq_true hb1.symm
    refine sT<|Sy.skip<|Sy.then_<|Sy.seq ?_
    exact absurd lb1 (by omega)
def TSrc (w:World) (A:Option Addr) (n:Nat) (T:Nat→Trm) (b o:Nat):Prop:=0<n→A=some ⟨b,o,none⟩∧b<w.heap.size∧∀ j,j<n→w.rangeAt b (o+j*13) (T j).cells
theorem chunk_stops (n Bs Bn n₀ b off m cap N : Nat) (A : Option Addr) (hN0 : N = (m + 31) / 32) (hm : m ≤ cap) (hm2 : m ≤ 4611686018427387904) (hA : 0 < m → A = some ⟨b, off, none⟩) (w : World) (hS : Blk w Bs 123 #[.slice A m cap]) (hN : Blk w Bn 3 #[.int .i64 32]) :
    SeqStopsK Fence.wide n Tryz.prog 142 #[.pointer (some ⟨Bs,0,none⟩),.pointer (some ⟨Bn,0,none⟩)] (chE b off m (N:=N)) (KpL n₀ [(Bs,123,#[.slice A m cap]),(Bn,3,#[.int .i64 32])]) (λys=>ys.map (·.1)=List.range N) (λpre=>∃ k,k≤N∧pre.map (·.1)=List.range k) N w:=λl J Jx W hW hJ hJx hY h0=>by
  have hS':=hS.below hW hS.lt
  have hN':=hN.below hW hN.lt
  rcases Nat.eq_zero_or_pos m with h | h
  · subst h
    obtain rfl:N=0:=hN0
    exact chunk0_in n l Bs Bn cap A J Jx W hJ hS' hN' h0
  · obtain rfl:=hA h
    exact chunk1_in n l Bs Bn n₀ b off m cap N hN0 hm hm2 J Jx W hJ hJx hY hS' hN' h0
end Cu
end
section
namespace Cu
open Go.RowKit Sy
theorem rangeN2 {w w':World} {g o o':Nat} {vs:List Value} (h:w.rangeAt g o vs) (hb:Below w.heap.size w w') (hg:g<w.heap.size) (e:o'=o):w'.rangeAt g o' vs:=λj v hj=>by
 rw [e]
 exact (Below.cell (p:=⟨g,o+j,none⟩) hb hg).trans (h j v hj)
set_option maxHeartbeats 4000000 in
set_option maxRecDepth 100000 in
theorem multi_any (w:World) (A:Option Addr) (b o n c:Nat) (T:Nat→Trm) (hnc:n≤c) (hc:n≤4611686018427387904) (hok:∀ j,(T j).ok) (hT:TSrc w A n T b o):Calls Tryz.prog 67 #[.slice A n c] w (Gets w (ptv (Ec.sumL finv (λt=>Ec.nm finv (T t).kn (T t).pt) (List.range n)))):=by
 obtain ⟨N,hN0⟩:∃ N,N=(n+31) / 32:=⟨_,rfl⟩
 obtain ⟨R,hR⟩:∃ R,R=ptJ (chL T n (List.range N)):=⟨_,rfl⟩
 have hRs:Ec.sumL finv (λt=>Ec.nm finv (T t).kn (T t).pt) (List.range n)=R:=by rw [hR,hN0]; exact (ptJ_rep (chL_all T n)).symm
 rw [hRs]
 have hRo:Ec.On R:=by rw [← hRs]; exact Ec.On.sumL fld _ λx _=>(T x).on.nm fld _
 obtain ⟨rx,ry,ri,_,_,eR,_,_⟩:=ptv_raw R hRo
 rw [eR]
 refine Sy.enterM (args:=[.slice A n c]) Tryz.func67 rfl kL ?_
 refine sC ?_
 refine sM 83 (pcs 0 0 false) (λg0=>?_)
 refine sA ?_
 refine sM 157 (tcs 0 0 0) (λg1=>?_)
 refine sG<|Sy.seq<|sC ?_
 refine sP (.slice A n c) ?_
 refine Sy.callN kR 98 #[.slice A n c,.int .i64 32] kF (λv M=>∃ g1 g2,v=.func (.func 142) #[] #[.pointer (some ⟨g1,0,none⟩),.pointer (some ⟨g2,0,none⟩)]∧M=[(g1,123,#[.slice A n c]),(g2,3,#[.int .i64 32])]) (λw _=>chunk_any w _ _ _) (λv M hR0=>?_)
 obtain ⟨u1,u2,rfl,rfl⟩:=hR0
 refine sG<|Sy.block ?_
 refine Sy.rangeF (α:=Fin N) 142 #[.pointer (some ⟨u1,0,none⟩),.pointer (some ⟨u2,0,none⟩)] kR kR (enters_of Tryz.func142 kR rfl) (chE b o n) [(u1,123,(#[.slice A n c])),(u2,3,(#[.int .i64 32]))] (λys=>ys.map (·.1)=List.range N) (λpre=>∃ k,k≤N∧pre.map (·.1)=List.range k) N (λ_=>rfl) (by decide) [g0,g1,u1,u2] (λ_=>True) (trivial) (λpre=>[(g0,83,(pcs 0 0 false)),(g1,157,(tcs ((chL T n (pre.map (·.1))).x.val) ((chL T n (pre.map (·.1))).y.val) ((chL T n (pre.map (·.1))).z.val))),(u1,123,(#[.slice A n c])),(u2,3,(#[.int .i64 32]))]) (λpre=>[(g0,83,(pcs 0 0 false)),(g1,157,(tcs ((chL T n (pre.map (·.1))).x.val) ((chL T n (pre.map (·.1))).y.val) ((chL T n (pre.map (·.1))).z.val))),(u1,123,(#[.slice A n c])),(u2,3,(#[.int .i64 32]))]) (λ_=>False) [true,true,true,true] kR (λ_=>rfl) ?_ ?_ 0 (λx gs=>[(3,.pointer (some ⟨g1,0,none⟩)),(4,chV b o n x.val)]) (λx gs=>[]) (λx gs h=>by cases gs with | nil=>rfl | cons _ _=>cases h) ?_ ?_ ?_ ?_
 ·intro w hw
  have hS:=hw.get (i:=2) rfl
  have hN:=hw.get (i:=3) rfl
  exact ⟨w,Below.refl _ _,chunk_stops 8 u1 u2 _ b o n c N A hN0 hnc hc (λh=>(hT h).1) w hS hN⟩
 ·intro p hp pre
  simp only [List.mem_cons,List.not_mem_nil,or_false] at hp ⊢
  rcases hp with rfl | rfl <;> simp
 ·intro l fz pre x
  refine Sy.regionR (by rintro ⟨_,_,h⟩; exact h) kR ⟨_,rfl⟩ ?_
  refine sP (chV b o n x.val) ?_
  refine Sy.nil ?_
  exact Sy.apN [] rfl (all_cons kR (all_cons kR all_nil)) [true,true,true,true] kR
 ·intro l fz pre x gs hgs hlen hH
  obtain rfl:gs=[]:=List.eq_nil_of_length_eq_zero hgs
  have hxN:=x.isLt
  have hn0:0<n:=by omega
  refine Sy.block ?_
  refine Sy.regionRD (by rintro ⟨_,_,h⟩; exact h) kR ⟨_,rfl⟩ (λj=>j == 4) kR ?_
  refine sD 0 rfl (tv ((chL T n (pre.map (·.1))).x.val) ((chL T n (pre.map (·.1))).y.val) ((chL T n (pre.map (·.1))).z.val)) (qL 1 g1 0 12 157 157 (tcs ((chL T n (pre.map (·.1))).x.val) ((chL T n (pre.map (·.1))).y.val) ((chL T n (pre.map (·.1))).z.val)) rfl Tryz.underlying157)<|sZ 1 rfl (chV b o n x.val) ?_
  obtain ⟨j1,hj1⟩:∃ z:J,z=muJ (λj=>T (x.val*32+j)) (szC n x.val) 64:=⟨_,rfl⟩
  refine sD 2 rfl (tv j1.x.val j1.y.val j1.z.val) (qG 100 #[chV b o n x.val] (λw hw=>by rw [hj1]; exact multi_c w b (o+32*x.val*13) (szC n x.val) (szC n x.val) (λj=>T (x.val*32+j)) (Nat.lt_of_lt_of_le (hT hn0).2.1 hw.below.size) (by unfold szC; omega) (λj=>hok _) (λj hj=>rangeN2 ((hT hn0).2.2 (x.val*32+j) (by unfold szC at hj; omega)) hw.below (hT hn0).2.1 (by omega)))) ?_
  obtain ⟨j2,hj2⟩:∃ z:J,z=addJ (chL T n (pre.map (·.1))) j1:=⟨_,rfl⟩
  refine sD 3 rfl (tv j2.x.val j2.y.val j2.z.val) (qF 99 #[tv ((chL T n (pre.map (·.1))).x.val) ((chL T n (pre.map (·.1))).y.val) ((chL T n (pre.map (·.1))).z.val),tv j1.x.val j1.y.val j1.z.val] (λw=>by rw [hj2]; exact addJ_c w (chL T n (pre.map (·.1))) j1))<|sX 4 rfl 1 g1 157 (tcs ((chL T n (pre.map (·.1))).x.val) ((chL T n (pre.map (·.1))).y.val) ((chL T n (pre.map (·.1))).z.val)) (tcs j2.x.val j2.y.val j2.z.val) (wS 0 157 (tcs j2.x.val j2.y.val j2.z.val) rfl) ?_
  refine sE ?_
  refine Sy.in_ ?_
  exact Sy.bpN [true,true,true,true] (M:=[(g0,83,(pcs 0 0 false)),(g1,157,(tcs j2.x.val j2.y.val j2.z.val)),(u1,123,(#[.slice A n c])),(u2,3,(#[.int .i64 32]))]) kR (bcons rfl (bcons (beq (by rw [hj2,hj1,List.map_append,List.map_singleton,chL_snoc]; rfl)) (bcons rfl (bcons rfl rfl)))) (trivial)
 ·intro D fz xs hS hH hD hm
  have hS0:xs.map (·.1)=List.range N:=hS
  refine Sy.in_<|sB ?_
  refine sS (tv ((chL T n (xs.map (·.1))).x.val) ((chL T n (xs.map (·.1))).y.val) ((chL T n (xs.map (·.1))).z.val)) (qL 1 g1 0 12 157 157 (tcs ((chL T n (xs.map (·.1))).x.val) ((chL T n (xs.map (·.1))).y.val) ((chL T n (xs.map (·.1))).z.val)) rfl Tryz.underlying157)<|sS (pv rx ry ri) (qF 101 #[tv ((chL T n (xs.map (·.1))).x.val) ((chL T n (xs.map (·.1))).y.val) ((chL T n (xs.map (·.1))).z.val)] (λw=>by rw [← eR,hR, ← hS0]; exact point_c w _))<|sW 0 g0 83 (pcs 0 0 false) (pcs rx ry ri) (wS 0 83 (pcs rx ry ri) rfl) ?_
  refine sG<|Sy.ret ?_
  exact Sy.retM1 (v:=pv rx ry ri) rfl (.inl (Res.cell (ty':=83) g0 0 (pcs rx ry ri) _ kR kR Tryz.underlying83 rfl kR kR)) hD hm
 ·intro D fz pre hS hx hD hm
  exact hx.elim
end Cu
end
section
namespace Cu
open Go.RowKit Sy
def pX:Pt→Nat
 | none=>0
 | some (x,_)=>x.val
def pY:Pt→Nat
 | none=>0
 | some (_,y)=>y.val
def pI:Pt→Bool
 | none=>true
 | some _=>false
theorem ptv_parts:∀ P:Pt,ptv P=pv (pX P) (pY P) (pI P)
 | none=>rfl
 | some (_,_)=>rfl
theorem pX_lt:∀ P:Pt,pX P<K4
 | none=>by show 0<_; decide
 | some (x,_)=>lt4 x
theorem pY_lt:∀ P:Pt,pY P<K4
 | none=>by show 0<_; decide
 | some (_,y)=>lt4 y
theorem dec_parts:∀ {P:Pt},Ec.On P→dec (pX P) (pY P) (pI P)=P
 | none,_=>dec_zero
 | some (x,y),h=>dec_fin x y h
end Cu
end
section
namespace Sc
open Go.RowKit Go.Lib
end Sc
end
section
namespace Sc
open Go.RowKit Go.Lib
set_option maxRecDepth 100000
set_option maxHeartbeats 1000000 in
theorem negF_any (w:World) (x:Nat) (hx:x<(2^256)):Calls Tryz.prog 55 #[fv x] w λe w'=>e=.returned (fv (negP x))∧Below w.heap.size w w':=by
 obtain ⟨o,ho⟩:∃ o,o=115792089237316195423570985008687907852837564279074904382605163141518161494337:=⟨_,rfl⟩
 obtain ⟨p,hp⟩:∃ p,p=x%pM:=⟨_,rfl⟩
 obtain ⟨z,hz⟩:∃ z,z=negP x:=⟨_,rfl⟩
 have lp:p<115792089237316195423570985008687907852837564279074904382605163141518161494337:=by rw [hp]; exact mod_lt_p x
 obtain ⟨s,hs⟩:∃ s,s=o - p:=⟨_,rfl⟩
 have hzs:z=s%pM:=by rw [hz,negP,hs,ho,hp]; rfl
 have co:=λw=>order_at w o ho
 have cx:∀ w,Calls Tryz.prog 79 #[fv x] w λe w'=>e=.returned (fv p)∧Below w.heap.size w w':=by
  intro w; rw [hp]; exact norm_any w x hx
 have cm:=λw=>minus_fv w o p s 0 (by omega) (by omega) (by omega) (by omega)
 have cz:∀ w,Calls Tryz.prog 79 #[fv s] w λe w'=>e=.returned (fv z)∧Below w.heap.size w w':=by
  intro w; rw [hzs]; exact norm_any w s (by omega)
 obtain ⟨x0,x1,x2,x3,fx⟩:=words_fv x hx
 have FX:=Lib.hid fx
 rw [fx, ← hz]
 clear fx hx ho hp hz lp hs hzs
 go_enter Tryz.func55,Tryz.ntmps55
 go_wp2
 refine wp_region_G (λj=>j == 8) kR ?_
 try simp only [Act.put]
 refine tkw 0 rfl (YieldsG.call (v:=fv o) (by rfl) 78 _ (λw9=>by go_simp; try (first | with_reducible rfl | rfl)) (λw9 h9=>co w9)) ?_
 try simp only [Act.put,aA,aZ,aS]
 refine tkw 1 rfl (YieldsG.loadF (by rfl) _ _ rfl (w.heap.size) rfl (x) _ _ ((Blk.new w _ _).alloc _) (FX.out) Tryz.underlying36 rfl kR) ?_
 try simp only [Act.put,aA,aZ,aS]
 refine tkw 2 rfl (YieldsG.call (v:=fv p) (by rfl) 79 _ (λw9=>by go_simp; try (first | with_reducible rfl | rfl)) (λw9 h9=>cx w9)) ?_
 try simp only [Act.put,aA,aZ,aS]
 refine tkw 3 rfl (YieldsG.call (v:=.tuple #[fv s,.int .u64 ((0:Nat):Int)]) (by rfl) 77 _ (λw9=>by go_simp; try (first | with_reducible rfl | rfl)) (λw9 h9=>cm w9)) ?_
 try simp only [Act.put,aA,aZ,aS]
 refine tk 4 rfl ?_
 try simp only [Act.put,aA,aZ,aS]
 refine tk 5 rfl ?_
 try simp only [Act.put,aA,aZ,aS]
 refine wpAnyG_takeA 6 rfl kR (λ_ _ _ h=>h) (λ_=>YieldsG.pure (by rfl) (λw9 _=>by go_simp; try with_reducible rfl)) ?_
 try simp only [Act.put,aA,aZ,aS]
 refine wpAnyG_sole 7 rfl kR (by rfl) (λw3 h3 K hK=>?_)
 go_simp
 refine hK _ _ (λ_=>gr_alloc _ _) ?_
 clear hK K
 try simp only [Act.put,aA,aZ,aS]
 refine wpAnyG_store 8 rfl kR (by rfl) _ _ _ rfl (w3.heap.size) (fcs (s)) rfl rfl _ _ (Blk.new w3 _ _) kR (by rfl) (fcs_one _) rfl (λw6 h6 w7 hB7 hL7=>?_)
 try simp only [Act.put]
 refine wpAnyG_takeA 9 rfl kR (λ_ _ _ h=>h) (λ_=>YieldsG.pure (by rfl) (λw9 _=>by go_simp; try with_reducible rfl)) ?_
 try simp only [Act.put,aA,aZ,aS]
 refine wpAnyG_done kR (λw8 h8=>?_)
 have BS:=Gr.blk h8 hL7
 have hsz:w.heap.size+2≤w3.heap.size:=by have:=h3.size; simp at this; omega
 have BR:Blk w8 (w.heap.size+1) 36 _:=Gr.blk h8 (Blk.below (B:=w3.heap.size) (Gr.blk h6 (Blk.alloc (Gr.blk h3 (blk_new2 w _ _ _)) _)) (hB7 _ (Nat.le_refl _)) (by omega))
 have hB:Below w.heap.size w w8:=Below.gr ((Below.gr ((Below.gr (below_alloc2 w _ _) h3).alloc (by omega) _) h6).trans (hB7 _ (by omega))) h8
 clear h3 h6 hB7 hL7 h8 cm co cx
 go_wp2_with (first | ((with_reducible refine here_load (d:=some 12) ?_); refine wpList_load_fv rfl _ _ rfl (w3.heap.size) rfl (s) _ _ _ (BS) (fv_fcs s) Tryz.underlying36 rfl kR ?_))
 refine (cz _).mono ?_
 rintro e w9 ⟨rfl,hb⟩
 have BR9:=Gr.blk hb BR
 have hB9:=Below.gr hB hb
 go_wp2_with (first | ((with_reducible refine here_store ?_); refine wpList_store_blk rfl _ _ _ rfl (w.heap.size+1) (fcs (z)) rfl rfl _ _ (BR9) kR (by rfl) (fcs_one _) ?_; intro wz hL hBz hKz))
 exact bodyPost_ret (results_cell_row rfl _ _ (w.heap.size+1) _ _ (0,0) _ rfl hL Tryz.underlying36 rfl kR) rfl ⟨rfl,hB9.trans (hBz _ (by omega))⟩
end Sc
end
section
namespace Cu
open Go.RowKit Sy
set_option maxRecDepth 100000
set_option maxHeartbeats 4000000
end Cu
end
section
namespace Sc
open Go.RowKit Go.Lib
theorem run_equalIn_fv (W:World) (n m:Nat) (hn:n<(2^256)) (hm:m<(2^256)):(Op.equalIn 10000 36 (fv n) (fv m)).run Tryz.prog W=.ok (decide (n=m)) W:=by
 rw [fv_wl,fv_wl]
 have h:=run_equalIn_words W 9998 36 26 4 Tryz.underlying36 Tryz.underlying26 (λW=>by kernel_rfl) (wl n) (wl m) rfl rfl
 rw [wl_beq hn hm] at h
 exact h
theorem run_neq_fv (W:World) (n m:Nat) (hn:n<(2^256)) (hm:m<(2^256)):(binOp .neq 36 (fv n) (fv m)).run Tryz.prog W=.ok (.bool (decide (n≠m))) W:=by
 have h:=run_equalIn_fv W n m hn hm
 rw [fv_wl,fv_wl] at h ⊢
 rw [run_neq_struct,h]
 by_cases e:n=m <;> simp [e]
theorem run_eqGuard_fv (op:BinOp) (x y:Operand) (n m:Nat) (W:World):(eqGuard op 36 x y (fv n) (fv m)).run Tryz.prog W=.ok () W:=by
 rw [fv_fcs,fv_fcs]
 go_simp
end Sc
end
section
namespace Sc
open Go.RowKit Go.Lib
set_option maxHeartbeats 8000000 in
set_option maxRecDepth 100000 in
theorem words_any (w:World) (l:List UInt8) (hl:l.length=32):Calls Tryz.prog 89 #[.agg (l.map bv).toArray] w λe w'=>e=.returned (fv (valB l))∧Below w.heap.size w w':=by
 have HL:=Lib.hid hl
 clear hl
 go_enter Tryz.func89,Tryz.ntmps89
 go_wp2_with (first | ((with_reducible refine here_load (d:=some 6) ?_); refine wpList_load_blk rfl _ _ rfl w.heap.size rfl _ _ _ (((Blk.new w _ _).alloc _).alloc _) Tryz.underlying24 rfl (b32_info HL.out) ?_))
 go_loopw [7] (λi wr=>∃ k y0 y1 y2 y3:Nat,k≤32∧i=.int .i64 (k:Int)∧Hid (y0=wdB l k 0∧y1=wdB l k 1∧y2=wdB l k 2∧y3=wdB l k 3)∧Below w.heap.size w wr∧Blk wr (w.heap.size+2) 36 #[.int .u64 (y3:Int),.int .u64 (y2:Int),.int .u64 (y1:Int),.int .u64 (y0:Int)]∧Blk wr (w.heap.size+1) 36 #[.int .u64 0,.int .u64 0,.int .u64 0,.int .u64 0]) (λi _=>32 - (intOf i).toNat)
 case atStart=>exact ⟨0,0,0,0,0,by omega,rfl,Lib.hid ⟨(wdB_zero l 0).symm,(wdB_zero l 1).symm,(wdB_zero l 2).symm,(wdB_zero l 3).symm⟩,below_alloc3 w _ _ _,blk_new3 w _ _ _ _,(blk_new2 w _ _ _).alloc _⟩
 case round =>
  obtain ⟨k,y0,y1,y2,y3,hk,rfl,HY,hb,hP,hR⟩:=hrel
  have q3:wr.cell? ⟨w.heap.size+1+1,0,none⟩=some (.int .u64 (y3:Int)):=hP.cell 0
  have q2:wr.cell? ⟨w.heap.size+1+1,1,none⟩=some (.int .u64 (y2:Int)):=hP.cell 1
  have q1:wr.cell? ⟨w.heap.size+1+1,2,none⟩=some (.int .u64 (y1:Int)):=hP.cell 2
  have q0:wr.cell? ⟨w.heap.size+1+1,3,none⟩=some (.int .u64 (y0:Int)):=hP.cell 3
  have ff:∀ j,wr.frozen? ⟨w.heap.size+1+1,j,none⟩=false:=λj=>hP.frozen j
  by_cases hlt:k<32
  ·obtain ⟨c,hc⟩:∃ c,l[k]? = some c:=⟨l[k]'(by rw [HL.out]; exact hlt),List.getElem?_eq_getElem _⟩
   have HC:=Lib.hid hc
   obtain ⟨m,hm⟩:∃ m,m=c.toNat:=⟨_,rfl⟩
   have hm8:m<256:=by rw [hm]; exact c.toNat_lt
   have hI:∀ W,(Instr.index 24 (.agg (l.map bv).toArray) (.int .i64 (k:Int))).run Tryz.prog W=.ok (.int .u8 (m:Int)) W:=λW=>by
    rw [run_index_b32 W l k c hc hlt,hm]; rfl
   have HM:=Lib.hid hm
   have HR:=Lib.hid (And.intro hb (And.intro hP hR))
   clear hb hP hR hc hk hm
   rcases (show k=0∨k=1∨k=2∨k=3∨k=4∨k=5∨k=6∨k=7∨k=8∨k=9∨k=10∨k=11∨k=12∨k=13∨k=14∨k=15∨k=16∨k=17∨k=18∨k=19∨k=20∨k=21∨k=22∨k=23∨k=24∨k=25∨k=26∨k=27∨k=28∨k=29∨k=30∨k=31 by omega) with rfl | rfl | rfl | rfl | rfl | rfl | rfl | rfl | rfl | rfl | rfl | rfl | rfl | rfl | rfl | rfl | rfl | rfl | rfl | rfl | rfl | rfl | rfl | rfl | rfl | rfl | rfl | rfl | rfl | rfl | rfl | rfl
   all_goals
    simp only [Int.cast_ofNat_Int] at hI
   all_goals
    first
    | ((have hy:y0<72057594037927936:=by rw [HY.out.1]; exact wdB_lt l _ 0 (by decide)); (have ho:=or_add y0 m hy hm8); go_wp2; (refine ⟨⟨_,y0*256+m,y1,y2,y3,by decide,rfl,Lib.hid ⟨by rw [HY.out.1,HM.out]; exact (wdB_step l _ 0 c HC.out (by decide)).symm,by rw [HY.out.2.1]; exact (wdB_same l _ 1 (by decide)).symm,by rw [HY.out.2.2.1]; exact (wdB_same l _ 2 (by decide)).symm,by rw [HY.out.2.2.2]; exact (wdB_same l _ 3 (by decide)).symm⟩,HR.out.1.setCell (by show w.heap.size≤w.heap.size+1+1; omega) _,Blk.eq_ (HR.out.2.1.set_ 3 _) (by rw [show ((y0*256+m:Nat):Int)=(y0:Int)*256+(m:Int) by omega]; rfl),HR.out.2.2.far (by show w.heap.size+1≠w.heap.size+1+1; omega) _⟩,by simp [intOf]⟩))
    | ((have hy:y1<72057594037927936:=by rw [HY.out.2.1]; exact wdB_lt l _ 1 (by decide)); (have ho:=or_add y1 m hy hm8); go_wp2; (refine ⟨⟨_,y0,y1*256+m,y2,y3,by decide,rfl,Lib.hid ⟨by rw [HY.out.1]; exact (wdB_same l _ 0 (by decide)).symm,by rw [HY.out.2.1,HM.out]; exact (wdB_step l _ 1 c HC.out (by decide)).symm,by rw [HY.out.2.2.1]; exact (wdB_same l _ 2 (by decide)).symm,by rw [HY.out.2.2.2]; exact (wdB_same l _ 3 (by decide)).symm⟩,HR.out.1.setCell (by show w.heap.size≤w.heap.size+1+1; omega) _,Blk.eq_ (HR.out.2.1.set_ 2 _) (by rw [show ((y1*256+m:Nat):Int)=(y1:Int)*256+(m:Int) by omega]; rfl),HR.out.2.2.far (by show w.heap.size+1≠w.heap.size+1+1; omega) _⟩,by simp [intOf]⟩))
    | ((have hy:y2<72057594037927936:=by rw [HY.out.2.2.1]; exact wdB_lt l _ 2 (by decide)); (have ho:=or_add y2 m hy hm8); go_wp2; (refine ⟨⟨_,y0,y1,y2*256+m,y3,by decide,rfl,Lib.hid ⟨by rw [HY.out.1]; exact (wdB_same l _ 0 (by decide)).symm,by rw [HY.out.2.1]; exact (wdB_same l _ 1 (by decide)).symm,by rw [HY.out.2.2.1,HM.out]; exact (wdB_step l _ 2 c HC.out (by decide)).symm,by rw [HY.out.2.2.2]; exact (wdB_same l _ 3 (by decide)).symm⟩,HR.out.1.setCell (by show w.heap.size≤w.heap.size+1+1; omega) _,Blk.eq_ (HR.out.2.1.set_ 1 _) (by rw [show ((y2*256+m:Nat):Int)=(y2:Int)*256+(m:Int) by omega]; rfl),HR.out.2.2.far (by show w.heap.size+1≠w.heap.size+1+1; omega) _⟩,by simp [intOf]⟩))
    | ((have hy:y3<72057594037927936:=by rw [HY.out.2.2.2]; exact wdB_lt l _ 3 (by decide)); (have ho:=or_add y3 m hy hm8); go_wp2; (refine ⟨⟨_,y0,y1,y2,y3*256+m,by decide,rfl,Lib.hid ⟨by rw [HY.out.1]; exact (wdB_same l _ 0 (by decide)).symm,by rw [HY.out.2.1]; exact (wdB_same l _ 1 (by decide)).symm,by rw [HY.out.2.2.1]; exact (wdB_same l _ 2 (by decide)).symm,by rw [HY.out.2.2.2,HM.out]; exact (wdB_step l _ 3 c HC.out (by decide)).symm⟩,HR.out.1.setCell (by show w.heap.size≤w.heap.size+1+1; omega) _,Blk.eq_ (HR.out.2.1.set_ 0 _) (by rw [show ((y3*256+m:Nat):Int)=(y3:Int)*256+(m:Int) by omega]; rfl),HR.out.2.2.far (by show w.heap.size+1≠w.heap.size+1+1; omega) _⟩,by simp [intOf]⟩))
  ·have p1:¬ (k:Int)<32:=by omega
   obtain rfl:k=32:=by omega
   have b0:y0<18446744073709551616:=by rw [HY.out.1]; exact wdB_lt8 l _ _
   have b1:y1<18446744073709551616:=by rw [HY.out.2.1]; exact wdB_lt8 l _ _
   have b2:y2<18446744073709551616:=by rw [HY.out.2.2.1]; exact wdB_lt8 l _ _
   have b3:y3<18446744073709551616:=by rw [HY.out.2.2.2]; exact wdB_lt8 l _ _
   obtain ⟨z,hz⟩:∃ z,z=y3+18446744073709551616*y2+340282366920938463463374607431768211456*y1+6277101735386680763835789423207666416102355444464034512896*y0:=⟨_,rfl⟩
   have fz:=fv_mk y3 y2 y1 y0 b3 b2 b1 b0
   rw [← hz] at fz
   have hzv:valB l=z:=by rw [wdB_all l HL.out,hz,HY.out.1,HY.out.2.1,HY.out.2.2.1,HY.out.2.2.2]
   have HZ:=Lib.hid hzv
   have FZ:=Lib.hid fz.symm
   have HP:=Lib.hid hP
   have HR:=Lib.hid hR
   clear HY b0 b1 b2 b3 hz fz hzv q0 q1 q2 q3 ff hP hR
   go_wp2_with (first | ((with_reducible refine here_load (d:=some 25) ?_); refine wpList_load_fv rfl _ _ rfl (w.heap.size+2) rfl (z) _ _ _ (HP.out) (FZ.out) Tryz.underlying36 rfl (by kernel_rfl) ?_) | ((with_reducible refine here_store ?_); refine wpList_store_blk rfl _ _ _ rfl (w.heap.size+1) (fcs (z)) rfl rfl _ _ (HR.out) (by kernel_rfl) (by rfl) (fcs_one _) ?_; intro vz hLz hqz hKz))
   exact bodyPost_ret (results_cell_row rfl _ _ (w.heap.size+1) _ _ (0,0) _ rfl hLz Tryz.underlying36 rfl (by kernel_rfl)) rfl ⟨by rw [HZ.out]; rfl,hb.trans (hqz _ (by omega))⟩
def readS (l:List UInt8):Nat×Bool:=if valB l<pM then (valB l,true) else (0,false)
set_option maxHeartbeats 2000000 in
set_option maxRecDepth 100000 in
theorem read_any (w:World) (l:List UInt8) (hl:l.length=32):Calls Tryz.prog 66 #[.agg (l.map bv).toArray] w λe w'=>e=.returned (.tuple #[fv (readS l).1,.bool (readS l).2])∧Below w.heap.size w w':=by
 obtain ⟨z,hz⟩:∃ z,z=valB l:=⟨_,rfl⟩
 have hzl:z<(2^256):=by rw [hz]; exact valB_lt32 l hl
 obtain ⟨n,hn⟩:∃ n,n=z%pM:=⟨_,rfl⟩
 have hnl:n<(2^256):=by rw [hn]; exact mod_lt z
 obtain ⟨b,hbd⟩:∃ b,b=decide (n≠z):=⟨_,rfl⟩
 have eb:∀ W,(binOp .neq 36 (fv n) (fv z)).run Tryz.prog W=.ok (.bool b) W:=λW=>by rw [hbd]; exact run_neq_fv W n z hnl hzl
 have cw:∀ w,Calls Tryz.prog 89 #[.agg (l.map bv).toArray] w λe w'=>e=.returned (fv z)∧Below w.heap.size w w':=by
  intro w; rw [hz]; exact words_any w l hl
 have cn:∀ w,Calls Tryz.prog 79 #[fv z] w λe w'=>e=.returned (fv n)∧Below w.heap.size w w':=by
  intro w; rw [hn]; exact norm_any w z hzl
 have hS:readS l=if b=true then (0,false) else (z,true):=by
  unfold readS
  rw [← hz,hbd,hn]
  by_cases h:z<pM
  ·rw [if_pos h,Nat.mod_eq_of_lt h]; simp
  ·have h2:z%pM≠z:=λe=>h (by rw [← e]; exact mod_lt_p z)
   rw [if_neg h]; simp [h2]
 have HS:=Lib.hid hS
 have HL:=Lib.hid hl
 clear hl hz hzl hn hnl hbd hS
 go_enter Tryz.func66,Tryz.ntmps66
 go_wp2_with (first | ((with_reducible refine here_load (d:=some 5) ?_); refine wpList_load_blk rfl _ _ rfl w.heap.size rfl _ _ _ ((Blk.new w _ _).alloc _) Tryz.underlying24 rfl (b32_info HL.out) ?_))
 refine (cw _).mono ?_
 rintro e w1 ⟨rfl,k1⟩
 have BR:=Gr.blk k1 (blk_new2 w _ _ _)
 have sz:=BR.lt
 have hB:=Below.gr (below_alloc2 w _ _) k1
 clear k1 cw
 go_wp2_with (first | ((with_reducible refine here_store ?_); refine wpList_store_blk rfl _ _ _ rfl (w1.heap.size) (fcs (z)) rfl rfl _ _ (Blk.new w1 _ _) (by kernel_rfl) (by rfl) (fcs_one _) ?_; intro w2 hL2 hq2 hK2; have CR:=hK2 _ (by omega) _ _ (BR.alloc _); have hB2:=(hB.alloc (by omega) _).trans (hq2 _ (by omega))))
 refine wp_region_G (λ_=>false) (by kernel_rfl) ?_
 try simp only [Act.put]
 refine tkw 0 rfl (YieldsG.loadF (by rfl) _ _ rfl (w1.heap.size) rfl (z) _ _ (hL2) (fv_fcs _) Tryz.underlying36 rfl (by kernel_rfl)) ?_
 try simp only [Act.put,aA,aZ,aS]
 refine tkw 1 rfl (YieldsG.call (v:=fv n) (by rfl) 79 _ (λw9=>by go_simp; try (first | with_reducible rfl | rfl)) (λw9 h9=>cn w9)) ?_
 try simp only [Act.put,aA,aZ,aS]
 refine tkw 2 rfl (YieldsG.loadF (by rfl) _ _ rfl (w1.heap.size) rfl (z) _ _ (hL2) (fv_fcs _) Tryz.underlying36 rfl (by kernel_rfl)) ?_
 try simp only [Act.put,aA,aZ,aS]
 refine tkw 3 rfl (YieldsG.pure (v:=.bool b) (by rfl) (λw9 h9=>by go_simp; rw [run_eqGuard_fv]; simp only [Result.andThen_ok])) ?_
 try simp only [Act.put,aA,aZ,aS]
 refine wpAnyG_done (by kernel_rfl) (λu hu=>?_)
 have hbu:=Below.gr hB2 hu
 have BRu:=Gr.blk hu CR
 have BP:=Gr.blk hu hL2
 clear hu hB2 CR hL2 eb cn
 cases b
 ·have HT:Hid (readS l=(z,true)):=Lib.hid (by rw [HS.out]; rfl)
  clear HS
  go_wp2_with (first | ((with_reducible refine here_load (d:=some 12) ?_); refine wpList_load_fv rfl _ _ rfl (w1.heap.size) rfl (z) _ _ _ (BP) (fv_fcs _) Tryz.underlying36 rfl (by kernel_rfl) ?_) | ((with_reducible refine here_store ?_); refine wpList_store_blk rfl _ _ _ rfl (w.heap.size+1) (fcs (z)) rfl rfl _ _ (BRu) (by kernel_rfl) (by rfl) (fcs_one _) ?_; intro vz hLz hqz hKz))
  exact bodyPost_ret (res_cell_tmp rfl _ _ (w.heap.size+1) _ _ _ _ rfl hLz rfl Tryz.underlying36 rfl (by kernel_rfl)) rfl ⟨by rw [HT.out]; rfl,hbu.trans (hqz _ (by omega))⟩
 ·have HT:Hid (readS l=(0,false)):=Lib.hid (by rw [HS.out]; rfl)
  clear HS
  go_wp2_with (first | ((with_reducible refine here_store ?_); refine wpList_store_blk rfl _ _ _ rfl (w.heap.size+1) _ rfl rfl _ _ (BRu) (by kernel_rfl) (by rfl) (by simp [Value.oneCell']) ?_; intro vz hLz hqz hKz))
  exact bodyPost_ret (res_cell_tmp rfl _ _ (w.heap.size+1) _ _ _ _ rfl hLz rfl Tryz.underlying36 rfl (by kernel_rfl)) rfl ⟨by rw [HT.out]; rfl,hbu.trans (hqz _ (by omega))⟩
set_option maxHeartbeats 2000000 in
set_option maxRecDepth 100000 in
theorem reduceB_any (w:World) (l:List UInt8) (hl:l.length=32):Calls Tryz.prog 61 #[.agg (l.map bv).toArray] w λe w'=>e=.returned (fv (valB l%pM))∧Below w.heap.size w w':=by
 obtain ⟨z,hz⟩:∃ z,z=valB l:=⟨_,rfl⟩
 have hzl:z<(2^256):=by rw [hz]; exact valB_lt32 l hl
 obtain ⟨n,hn⟩:∃ n,n=z%pM:=⟨_,rfl⟩
 have cw:∀ w,Calls Tryz.prog 89 #[.agg (l.map bv).toArray] w λe w'=>e=.returned (fv z)∧Below w.heap.size w w':=by
  intro w; rw [hz]; exact words_any w l hl
 have cn:∀ w,Calls Tryz.prog 79 #[fv z] w λe w'=>e=.returned (fv n)∧Below w.heap.size w w':=by
  intro w; rw [hn]; exact norm_any w z hzl
 rw [← hz, ← hn]
 have HL:=Lib.hid hl
 clear hl hz hzl hn
 go_enter Tryz.func61,Tryz.ntmps61
 go_wp2_with (first | ((with_reducible refine here_load (d:=some 3) ?_); refine wpList_load_blk rfl _ _ rfl w.heap.size rfl _ _ _ ((Blk.new w _ _).alloc _) Tryz.underlying24 rfl (b32_info HL.out) ?_))
 refine (cw _).mono ?_
 rintro e w1 ⟨rfl,k1⟩
 go_wp2_with fail
 refine (cn _).mono ?_
 rintro e w2 ⟨rfl,k2⟩
 have BR:=Gr.blk k2 (Gr.blk k1 (blk_new2 w _ _ _))
 have hB:=Below.gr (Below.gr (below_alloc2 w _ _) k1) k2
 clear k1 k2 cw cn
 go_wp2_with (first | ((with_reducible refine here_store ?_); refine wpList_store_blk rfl _ _ _ rfl (w.heap.size+1) (fcs (n)) rfl rfl _ _ (BR) (by kernel_rfl) (by rfl) (fcs_one _) ?_; intro vz hLz hqz hKz))
 exact bodyPost_ret (results_cell_row rfl _ _ (w.heap.size+1) _ _ (0,0) _ rfl hLz Tryz.underlying36 rfl (by kernel_rfl)) rfl ⟨rfl,hB.trans (hqz _ (by omega))⟩
end Sc
end
section
namespace Cu
open Go.RowKit Sy
def challengeNm:ByteArray:=⟨#[66,73,80,48,51,52,48,47,99,104,97,108,108,101,110,103,101]⟩
theorem texts_blk {w:World} {g:Nat} {t:TypeId} {ts:List Sh.Tx} (hb:Blk w g t (ts.map Sh.Tx.val).toArray) (hok:∀ x∈ts,x.ok w):Sh.Texts w (some ⟨g,0,none⟩) ts:=λ_ =>
 ⟨g,0,rfl,hb.lt,λj y hy=>by
  rw [Nat.zero_add]
  refine ⟨(hb.cell j).trans ?_,hok y (List.mem_of_getElem? hy)⟩
  rw [List.getElem?_toArray,List.getElem?_map,hy]
  rfl⟩
theorem tag_c (w:World) (nm:ByteArray) (hnm:nm.size≤1000000000) (g:Nat) (t:TypeId) (ts:List Sh.Tx) (n ct:Nat) (X:List UInt8) (hX:Sh.cat ts=X) (hn:ts.length=n) (hb:Blk w g t (ts.map Sh.Tx.val).toArray) (hok:∀ x∈ts,x.ok w) (hl:X.length≤1000000000) (hn2:n≤1000000000) (ht:Sh.TabAt w 1) :
  Calls Tryz.prog 60 #[.string nm,.slice (some ⟨g,0,none⟩) n ct] w (Gets w (.agg ((Sh.taggedS nm.data.toList X).map bv).toArray)):=by
 subst hX hn
 exact Sh.tagged_any w nm _ ts ct (texts_blk hb hok) ht hnm hl hn2
theorem ok_key {w:World} {g:Nat} {t:TypeId} {l:List UInt8} (hb:Blk w g t (l.map bv).toArray) (hl:l.length=32):(Sh.Tx.mk (some ⟨g,0,none⟩) l 32).ok w:=⟨Sh.Src.of_blk hb,by show l.length≤32; omega,by show 32≤9223372036854775807; omega⟩
theorem val_key {g:Nat} {l:List UInt8} (hl:l.length=32):(Sh.Tx.mk (some ⟨g,0,none⟩) l 32).val=.slice (some ⟨g,0,none⟩) 32 32:=by
 unfold Sh.Tx.val
 rw [hl]
theorem ok3 {w:World} {a b c:Sh.Tx} (ha:a.ok w) (hb:b.ok w) (hc:c.ok w):∀ x∈[a,b,c],x.ok w:=λx hx=>by
 simp only [List.mem_cons,List.not_mem_nil,or_false] at hx
 rcases hx with rfl | rfl | rfl <;> assumption
theorem tag3_c (w:World) (nm:ByteArray) (hnm:nm.size≤1000000000) (g g1 g2:Nat) (t t1 t2:TypeId) (x y m:List UInt8) (A:Option Addr) (c:Nat) (hx:x.length=32) (hy:y.length=32) (n:Nat) (hn:m.length=n) (hm:n≤999999900) (hc:n≤c) (hc2:c≤9223372036854775807)
  (h1:Blk w g1 t1 (x.map bv).toArray) (h2:Blk w g2 t2 (y.map bv).toArray) (hs:Sh.Src w A m) (hb:Blk w g t #[.slice (some ⟨g1,0,none⟩) 32 32,.slice (some ⟨g2,0,none⟩) 32 32,.slice A n c]) (ht:Sh.TabAt w 1) :
  Calls Tryz.prog 60 #[.string nm,.slice (some ⟨g,0,none⟩) 3 3] w (Gets w (.agg ((Sh.taggedS nm.data.toList (x++y++m)).map bv).toArray)):=by
 subst hn
 refine tag_c w nm hnm g t [⟨some ⟨g1,0,none⟩,x,32⟩,⟨some ⟨g2,0,none⟩,y,32⟩,⟨A,m,c⟩] 3 3 (x++y++m) (by simp [Sh.cat]) rfl ?_ (ok3 (ok_key h1 hx) (ok_key h2 hy) ⟨hs,hc,hc2⟩) (by rw [List.length_append,List.length_append,hx,hy]; omega) (by decide) ht
 rw [List.map_cons,List.map_cons,List.map_cons,List.map_nil,val_key hx,val_key hy]
 exact hb
def chalS (x key m:List UInt8):Nat:=valB (Sh.taggedS challengeNm.data.toList (x++key++m))%Sc.pM
theorem tagS_length (nm m:List UInt8):(Sh.taggedS nm m).length=32:=Sh.sum_length _
set_option maxHeartbeats 4000000 in
set_option maxRecDepth 100000 in
theorem challenge_any (w:World) (x key:List UInt8) (hx:x.length=32) (hkey:key.length=32) (A:Option Addr) (m:List UInt8) (n c:Nat) (hn:m.length=n) (hm:n≤999999900) (hc:n≤c) (hc2:c≤9223372036854775807) (hs:Sh.Src w A m) (ht:Sh.TabAt w 1):Calls Tryz.prog 39 #[.agg (x.map bv).toArray,.agg (key.map bv).toArray,.slice A n c] w (Gets w (fv (chalS x key m))):=by
 refine Sy.enter (args:=[.agg (x.map bv).toArray,.agg (key.map bv).toArray,.slice A n c]) Tryz.func39 rfl kL ?_
 refine sC ?_
 refine sM 39 (x.map bv).toArray (λg0=>?_)
 refine sM 39 (key.map bv).toArray (λg1=>?_)
 refine sM 36 (fcs 0) (λg2=>?_)
 refine sH (λj=>j == 6) ?_
 refine sZ 0 rfl (.slice (some ⟨g0,0,none⟩) 32 32)<|sZ 1 rfl (.slice (some ⟨g1,0,none⟩) 32 32)<|sZ 2 rfl (.slice A n c) ?_
 refine Sy.makeD 3 rfl kR kR 22 #[.slice (some ⟨g0,0,none⟩) 32 32,.slice (some ⟨g1,0,none⟩) 32 32,.slice A n c] (λg=>.slice (some ⟨g,0,none⟩) 3 3) kF (λg3=>?_)
 refine sD 4 rfl (.agg ((Sh.taggedS challengeNm.data.toList (x++key++m)).map bv).toArray) (qG 60 #[.string challengeNm,.slice (some ⟨g3,0,none⟩) 3 3] (λw hw=>tag3_c w challengeNm (by decide) g3 g0 g1 _ _ _ x key m A c hx hkey n hn hm hc hc2 (hw.get (i:=0) rfl) (hw.get (i:=1) rfl) (hs.below hw.below) (hw.get (i:=3) rfl) (ht.below hw.below ht.lt)))<|sD 5 rfl (fv (valB (Sh.taggedS challengeNm.data.toList (x++key++m))%Sc.pM)) (qF 61 #[.agg ((Sh.taggedS challengeNm.data.toList (x++key++m)).map bv).toArray] (λw=>Sc.reduceB_any w (Sh.taggedS challengeNm.data.toList (x++key++m)) (tagS_length _ _)))<|sX 6 rfl 2 g2 36 (fcs 0) (fcs (valB (Sh.taggedS challengeNm.data.toList (x++key++m))%Sc.pM)) (wS 0 36 (fcs (valB (Sh.taggedS challengeNm.data.toList (x++key++m))%Sc.pM)) rfl) ?_
 refine sI ?_
 refine Sy.ret ?_
 exact rC (v:=fv (valB (Sh.taggedS challengeNm.data.toList (x++key++m))%Sc.pM)) 36 g2 2 (fcs (valB (Sh.taggedS challengeNm.data.toList (x++key++m))%Sc.pM)) rfl Tryz.underlying36
end Cu
end
section
namespace Sy
open Go.RowKit
section
variable {P:Program} {w0:Base} {n:Nat} {Q:Exit→Act→World→Prop} {F:Slots} {L:Blocks}
theorem loopIR {c:Code} (N:Nat) (I:Nat→Act→World→Prop) (h0:∀ a w,Fr w0.ds a n F→St w0 w L→I 0 a w)
  (hr:∀ i,i≤N→∀ a w,I i a w→c.wpIn w0.fence w0.room P (Exit.then (λa w=>i<N∧I (i+1) a w) Q) a w):wpR P w0 n c Q (N+1) F L:=λa w ha hw=>by
 have key:∀ k i,i+k=N→∀ a w,I i a w→Code.roundsIn w0.fence w0.room P c Q (k+1) a w:=by
  intro k
  induction k with
  | zero =>
   intro i hi a w h
   refine wpIn_mono (hr i (by omega) a w h) λe a w hq=>?_
   cases e <;> first | exact hq | exact absurd hq.1 (by omega)
  | succ k ih =>
   intro i hi a w h
   refine wpIn_mono (hr i (by omega) a w h) λe a w hq=>?_
   cases e <;> first | exact hq | exact ih (i+1) (by omega) a w hq.2
 exact key N 0 (by omega) a w (h0 a w ha hw)
theorem loopXR {T:Type} {c:Code} (N:Nat) (FF:Nat→T→Slots) (LL:Nat→T→Blocks) (H:Nat→T→Prop) (x0:T) (m:List Bool) (h0:H 0 x0) (hF:∀ p∈FF 0 x0,F.lookup p.1=some p.2) (hL:sel L m=LL 0 x0)
  (hr:∀ k x,k≤N→H k x→wpC P w0 n (Exit.then (NextX w0 n N FF LL H k) Q) (FF k x) (LL k x) c):wpR P w0 n c Q (N+1) F L :=
 loopIR N (λk a w=>∃ x,H k x∧Fr w0.ds a n (FF k x)∧St w0 w (LL k x)) (λ_ _ ha hw=>⟨x0,h0,ha.all hF,hL ▸ hw.less (sel_sub L m)⟩)
  λk hk a w ⟨x,hx,ha,hw⟩=>hr k x hk hx a w ha hw
end
theorem apd_take (l:List UInt8) (k:Nat) {n:Nat} (hl:l.length=n) (s:List Value) (hk:k<n):((l.take k).map bv++([bv (l.getD k 0)]++s)).toArray.toList.take (k+1)=(l.take (k+1)).map bv:=by
 have hlt:k<l.length:=by omega
 have e:((l.take k).map bv).length=k:=by simp; omega
 rw [show ((l.take k).map bv++([bv (l.getD k 0)]++s)).toArray.toList=(l.take k).map bv++([bv (l.getD k 0)]++s) from rfl,List.take_append,e,List.take_of_length_le (by omega),Nat.add_sub_cancel_left,List.take_succ_eq_append_getElem hlt,List.map_append]
 congr 1
 simp [List.getD,hlt]
theorem apd_len (l:List UInt8) (k:Nat) {n:Nat} (hl:l.length=n) (hk:k<n):((l.take (k+1)).map bv).length=k+1:=by simp; omega
theorem apd_size (l:List UInt8) (k:Nat) {n:Nat} (hl:l.length=n) (s:List Value) {c:Nat} (hc:s.length+(k+1)=c) (hk:k<n):((l.take k).map bv++([bv (l.getD k 0)]++s)).toArray.size=c:=by simp; omega
theorem apd_full (l:List UInt8) (k:Nat) (hl:l.length=k+1) {s:List Value}:((l.take k).map bv++([bv (l.getD k 0)]++s))=l.map bv++s:=by
 have hlt:k<l.length:=by omega
 have e:l=l.take k++[l.getD k 0]:=by
  have h2:=List.take_succ_eq_append_getElem hlt
  rw [List.take_of_length_le (by omega)] at h2
  rw [List.getD_eq_getElem?_getD,List.getElem?_eq_getElem hlt]
  exact h2
 conv=>rhs; rw [e,List.map_append,List.append_assoc]
 rfl
theorem key_sym {l:List UInt8} {n:Nat} (h:l.length=n) {k o:Nat} (hk:k<n) (ho:o=k):((l.map bv).toArray)[o]? = some (bv (l.getD k 0)):=by
 subst h ho
 rw [List.getElem?_toArray,List.getElem?_map,List.getD_eq_getElem?_getD,List.getElem?_eq_getElem hk]
 rfl
end Sy
end
section
namespace Cu
open Go.RowKit Sy
end Cu
end
section
namespace Sy
open Go.RowKit
section
variable {P:Program} {w0:Base} {n:Nat} {Q:Exit→Act→World→Prop} {F:Slots} {L:Blocks} {ops:Array Oper} {V:List (Nat×Obj)} {fuel:Nat} {listed:Array Bool}
end
end Sy
end
section
namespace Sc
open Go.RowKit Go.Lib
end Sc
namespace Fz
open Go.RowKit Go.Lib Sy
end Fz
namespace Sc
open Go.RowKit Go.Lib
end Sc
end
section
namespace Sc
open Go.RowKit Go.Lib
end Sc
end
section
namespace Sh
open Go.RowKit Sp
end Sh
end
section
namespace Cu
open Go.RowKit Sy
set_option maxRecDepth 100000
set_option maxHeartbeats 4000000
theorem chalS_lt (x key m:List UInt8):chalS x key m<K4:=Sc.mod_lt _
theorem cat_length {x y:List UInt8} (hx:x.length=32) (hy:y.length=32):(x++y).length=64:=by rw [List.length_append,hx,hy]
end Cu
end
section
namespace Cu
open Go.RowKit Sy
set_option maxRecDepth 100000
set_option maxHeartbeats 4000000
end Cu
end
section
namespace Cu
open Go.RowKit Sy
set_option maxRecDepth 100000
set_option maxHeartbeats 4000000
section
variable {P:Program} {w0:Base} {n:Nat} {F:Slots} {L:Blocks}
end
theorem rem2 (w:World) (F:Slots) (o:Oper) (x y:Operand) (n:Nat) {yt:TypeId} (ho:o.op=.binOp .rem 26 x y yt) (hx:evF F x=.int .u64 (n:Int)) (hy:evF F y=.int .u64 2) (hn:n<18446744073709551616):(execOp (evF F) o).run Tryz.prog w=.ok (.value (.int .u64 ((n%2:Nat):Int))) w:=by
 have h:(binOp .rem 26 (.int .u64 (n:Int)) (.int .u64 2)).run Tryz.prog w=.ok (.int .u64 ((n%2:Nat):Int)) w:=by
  go_simp
  exact Int.tmod_eq_emod_of_nonneg (by omega)
 have h1:(eqGuard .rem 26 x y (.int .u64 (n:Int)) (.int .u64 2)).run Tryz.prog w=.ok () w:=by go_simp
 unfold execOp
 simp only [ho,hx,hy,Sem.run_bind,h1,h,Result.andThen_ok,Sem.run_pure]
end Cu
end
section
section
open Go.RowKit Go.Lib
set_option maxHeartbeats 8000000 in
set_option maxRecDepth 100000 in
theorem numberR_any (w:World) (g cap:Nat) (l:List UInt8) (hl:l.length=32) (hg:g<w.heap.size) (hcell:∀ j u,l[j]? = some u→w.cell? ⟨g,j,none⟩=some (bv u)) (_:32≤cap) (_:cap≤9223372036854775807):Calls Tryz.prog 117 #[.slice (some ⟨g,0,none⟩) 32 cap] w λe w'=>e=.returned (fv (valB l))∧Below w.heap.size w w':=by
 have HL:=Lib.hid hl
 have HG:=Lib.hid hcell
 clear hl hcell
 go_enter Tryz.func117,Tryz.ntmps117
 go_wp2_with fail
 go_loopw [4] (λi wr=>∃ k y0 y1 y2 y3:Nat,k≤32∧i=.int .i64 (k:Int)∧Hid (y0=wdB l k 0∧y1=wdB l k 1∧y2=wdB l k 2∧y3=wdB l k 3)∧Below w.heap.size w wr∧Blk wr (w.heap.size+1) 164 #[.int .u64 (y3:Int),.int .u64 (y2:Int),.int .u64 (y1:Int),.int .u64 (y0:Int)]∧Blk wr w.heap.size 164 #[.int .u64 0,.int .u64 0,.int .u64 0,.int .u64 0]) (λi _=>32 - (intOf i).toNat)
 case atStart=>exact ⟨0,0,0,0,0,by omega,rfl,Lib.hid ⟨(wdB_zero l 0).symm,(wdB_zero l 1).symm,(wdB_zero l 2).symm,(wdB_zero l 3).symm⟩,below_alloc2 w _ _,blk_new2 w _ _ _,(Blk.new w _ _).alloc _⟩
 case round =>
  obtain ⟨k,y0,y1,y2,y3,hk,rfl,HY,hb,hP,hR⟩:=hrel
  have q3:wr.cell? ⟨w.heap.size+1,0,none⟩=some (.int .u64 (y3:Int)):=hP.cell 0
  have q2:wr.cell? ⟨w.heap.size+1,1,none⟩=some (.int .u64 (y2:Int)):=hP.cell 1
  have q1:wr.cell? ⟨w.heap.size+1,2,none⟩=some (.int .u64 (y1:Int)):=hP.cell 2
  have q0:wr.cell? ⟨w.heap.size+1,3,none⟩=some (.int .u64 (y0:Int)):=hP.cell 3
  have ff:∀ j,wr.frozen? ⟨w.heap.size+1,j,none⟩=false:=λj=>hP.frozen j
  by_cases hlt:k<32
  ·obtain ⟨c,hc⟩:∃ c,l[k]? = some c:=⟨l[k]'(by rw [HL.out]; exact hlt),List.getElem?_eq_getElem _⟩
   have HC:=Lib.hid hc
   obtain ⟨m,hm⟩:∃ m,m=c.toNat:=⟨_,rfl⟩
   have hm8:m<256:=by rw [hm]; exact c.toNat_lt
   have hI:wr.cell? ⟨g,k,none⟩=some (.int .u8 (m:Int)):=by
    rw [hm]
    exact (hb.cell (p:=⟨g,k,none⟩) hg).trans (HG.out k c hc)
   have HM:=Lib.hid hm
   have HR:=Lib.hid (And.intro hb (And.intro hP hR))
   clear hb hP hR hc hk hm
   rcases (show k=0∨k=1∨k=2∨k=3∨k=4∨k=5∨k=6∨k=7∨k=8∨k=9∨k=10∨k=11∨k=12∨k=13∨k=14∨k=15∨k=16∨k=17∨k=18∨k=19∨k=20∨k=21∨k=22∨k=23∨k=24∨k=25∨k=26∨k=27∨k=28∨k=29∨k=30∨k=31 by omega) with rfl | rfl | rfl | rfl | rfl | rfl | rfl | rfl | rfl | rfl | rfl | rfl | rfl | rfl | rfl | rfl | rfl | rfl | rfl | rfl | rfl | rfl | rfl | rfl | rfl | rfl | rfl | rfl | rfl | rfl | rfl | rfl
   all_goals
    first
    | ((have hy:y0<72057594037927936:=by rw [HY.out.1]; exact wdB_lt l _ 0 (by decide)); go_wp2; go_region; all_goals go_wp2; all_goals (refine ⟨⟨_,y0*256+m,y1,y2,y3,by decide,rfl,Lib.hid ⟨by rw [HY.out.1,HM.out]; exact (wdB_step l _ 0 c HC.out (by decide)).symm,by rw [HY.out.2.1]; exact (wdB_same l _ 1 (by decide)).symm,by rw [HY.out.2.2.1]; exact (wdB_same l _ 2 (by decide)).symm,by rw [HY.out.2.2.2]; exact (wdB_same l _ 3 (by decide)).symm⟩,(HR.out.1.setCell (by show w.heap.size≤w.heap.size+1; omega) _).drew,Blk.drew (Blk.eq_ (HR.out.2.1.set_ 3 _) (by rw [show ((y0*256+m:Nat):Int)=(y0:Int)*256+(m:Int) by omega]; rfl)),Blk.drew (HR.out.2.2.far (by show w.heap.size≠w.heap.size+1; omega) _)⟩,by simp [intOf]⟩))
    | ((have hy:y1<72057594037927936:=by rw [HY.out.2.1]; exact wdB_lt l _ 1 (by decide)); go_wp2; go_region; all_goals go_wp2; all_goals (refine ⟨⟨_,y0,y1*256+m,y2,y3,by decide,rfl,Lib.hid ⟨by rw [HY.out.1]; exact (wdB_same l _ 0 (by decide)).symm,by rw [HY.out.2.1,HM.out]; exact (wdB_step l _ 1 c HC.out (by decide)).symm,by rw [HY.out.2.2.1]; exact (wdB_same l _ 2 (by decide)).symm,by rw [HY.out.2.2.2]; exact (wdB_same l _ 3 (by decide)).symm⟩,(HR.out.1.setCell (by show w.heap.size≤w.heap.size+1; omega) _).drew,Blk.drew (Blk.eq_ (HR.out.2.1.set_ 2 _) (by rw [show ((y1*256+m:Nat):Int)=(y1:Int)*256+(m:Int) by omega]; rfl)),Blk.drew (HR.out.2.2.far (by show w.heap.size≠w.heap.size+1; omega) _)⟩,by simp [intOf]⟩))
    | ((have hy:y2<72057594037927936:=by rw [HY.out.2.2.1]; exact wdB_lt l _ 2 (by decide)); go_wp2; go_region; all_goals go_wp2; all_goals (refine ⟨⟨_,y0,y1,y2*256+m,y3,by decide,rfl,Lib.hid ⟨by rw [HY.out.1]; exact (wdB_same l _ 0 (by decide)).symm,by rw [HY.out.2.1]; exact (wdB_same l _ 1 (by decide)).symm,by rw [HY.out.2.2.1,HM.out]; exact (wdB_step l _ 2 c HC.out (by decide)).symm,by rw [HY.out.2.2.2]; exact (wdB_same l _ 3 (by decide)).symm⟩,(HR.out.1.setCell (by show w.heap.size≤w.heap.size+1; omega) _).drew,Blk.drew (Blk.eq_ (HR.out.2.1.set_ 1 _) (by rw [show ((y2*256+m:Nat):Int)=(y2:Int)*256+(m:Int) by omega]; rfl)),Blk.drew (HR.out.2.2.far (by show w.heap.size≠w.heap.size+1; omega) _)⟩,by simp [intOf]⟩))
    | ((have hy:y3<72057594037927936:=by rw [HY.out.2.2.2]; exact wdB_lt l _ 3 (by decide)); go_wp2; go_region; all_goals go_wp2; all_goals (refine ⟨⟨_,y0,y1,y2,y3*256+m,by decide,rfl,Lib.hid ⟨by rw [HY.out.1]; exact (wdB_same l _ 0 (by decide)).symm,by rw [HY.out.2.1]; exact (wdB_same l _ 1 (by decide)).symm,by rw [HY.out.2.2.1]; exact (wdB_same l _ 2 (by decide)).symm,by rw [HY.out.2.2.2,HM.out]; exact (wdB_step l _ 3 c HC.out (by decide)).symm⟩,(HR.out.1.setCell (by show w.heap.size≤w.heap.size+1; omega) _).drew,Blk.drew (Blk.eq_ (HR.out.2.1.set_ 0 _) (by rw [show ((y3*256+m:Nat):Int)=(y3:Int)*256+(m:Int) by omega]; rfl)),Blk.drew (HR.out.2.2.far (by show w.heap.size≠w.heap.size+1; omega) _)⟩,by simp [intOf]⟩))
  ·have p1:¬ (k:Int)<32:=by omega
   obtain rfl:k=32:=by omega
   have b0:y0<18446744073709551616:=by rw [HY.out.1]; exact wdB_lt8 l _ _
   have b1:y1<18446744073709551616:=by rw [HY.out.2.1]; exact wdB_lt8 l _ _
   have b2:y2<18446744073709551616:=by rw [HY.out.2.2.1]; exact wdB_lt8 l _ _
   have b3:y3<18446744073709551616:=by rw [HY.out.2.2.2]; exact wdB_lt8 l _ _
   obtain ⟨z,hz⟩:∃ z,z=y3+18446744073709551616*y2+340282366920938463463374607431768211456*y1+6277101735386680763835789423207666416102355444464034512896*y0:=⟨_,rfl⟩
   have fz:=fv_mk y3 y2 y1 y0 b3 b2 b1 b0
   rw [← hz] at fz
   have hzv:valB l=z:=by rw [wdB_all l HL.out,hz,HY.out.1,HY.out.2.1,HY.out.2.2.1,HY.out.2.2.2]
   have HZ:=Lib.hid hzv
   have FZ:=Lib.hid fz.symm
   have HP:=Lib.hid hP
   have HR:=Lib.hid hR
   clear HY b0 b1 b2 b3 hz fz hzv q0 q1 q2 q3 ff hP hR
   go_wp2_with (first | ((with_reducible refine here_load (d:=some 31) ?_); refine wpList_load_fv rfl _ _ rfl (w.heap.size+1) rfl (z) _ _ _ (HP.out) (FZ.out) Tryz.underlying164 rfl (by kernel_rfl) ?_) | ((with_reducible refine here_store ?_); refine wpList_store_blk rfl _ _ _ rfl (w.heap.size) (fcs (z)) rfl rfl _ _ (HR.out) (by kernel_rfl) (by rfl) (fcs_one _) ?_; intro vz hLz hqz hKz))
   exact bodyPost_ret (results_cell_row rfl _ _ w.heap.size _ _ (0,0) _ rfl hLz Tryz.underlying164 rfl (by kernel_rfl)) rfl ⟨by rw [HZ.out]; rfl,hb.trans (hqz _ (by omega))⟩
end
end
section
namespace Cu
open Go.RowKit Sy
theorem own_cellE {w:World} {g:Nat} {t:TypeId} {m:List UInt8} {sp:List Value} (hb:Blk w g t (m.map bv++sp).toArray) (j:Nat) (u:UInt8) (hj:m[j]? = some u):w.cell? ⟨g,j,none⟩=some (bv u):=by
 refine (hb.cell j).trans ?_
 have hl:=(List.getElem?_eq_some_iff.1 hj).1
 rw [List.getElem?_toArray,List.getElem?_append_left (by rw [List.length_map]; exact hl),List.getElem?_map,hj]
 rfl
set_option maxHeartbeats 4000000 in
set_option maxRecDepth 100000 in
theorem liftR_any (w:World) (l:List UInt8) (hl:l.length=32):Calls Tryz.prog 116 #[.agg (l.map bv).toArray] w (Gets w (.tuple #[ptv (liftP l),.bool (liftB l)])):=by
 have hv:=valB_lt32 l hl
 refine Sy.enter (args:=[.agg (l.map bv).toArray]) Tryz.func116 rfl kL ?_
 refine sC ?_
 refine sM 39 (l.map bv).toArray (λg0=>?_)
 refine sM 83 (pcs 0 0 false) (λg1=>?_)
 refine sP (.bool false) ?_
 refine sA ?_
 refine sP (.slice none 0 0) ?_
 refine sG<|Sy.seq<|sC ?_
 refine sP (.int .i64 0) ?_
 refine sG<|Sy.block ?_
 refine Sy.loopN (31+1+1) ?_
 refine Sy.round<|Sy.seq<|sC ?_
 refine sP (.int .i64 0)<|sP (.bool true) ?_
 refine sG<|sT<|Sy.skip<|Sy.then_<|Sy.seq<|Sy.block<|Sy.region ?_
 refine sP (.slice none 0 0)<|sP (.int .i64 0)<|sP (.pointer (some ⟨g0,0,none⟩))<|sS (bv (l.getD 0 0)) (Quiet.cell 0 g0 0 39 5 (l.map bv).toArray _ _ rfl kR kR Tryz.underlying5 rfl _ (key_at l hl 0 (by decide))) ?_
 refine Sy.make kR 5 #[bv (l.getD 0 0)] (λg=>.slice (some ⟨g,0,none⟩) 1 1) kF (λg2=>?_)
 refine Sy.appendNil kR 22 5 _ _ Tryz.underlying22 info_u8 rfl rfl rfl rfl _ _ rfl kR 2 g2 0 1 1 5 #[bv (l.getD 0 0)] [bv (l.getD 0 0)] kR kR kR rfl (by decide) (by intro u hu; simp only [List.mem_cons,List.not_mem_nil,or_false] at hu; subst hu; rfl) (by decide) (λq1 c1 s1 e1 m1=>?_)
 refine sP (.slice (some ⟨q1,0,none⟩) 1 c1) ?_
 refine Sy.nil<|Sy.in_<|Sy.then_<|Sy.region ?_
 refine sP (.int .i64 0)<|sP (.int .i64 1)<|sP (.int .i64 1) ?_
 refine Sy.nil<|Sy.again ?_
 refine Sy.loopXR (T:=Nat×Nat×List Value) 31 (λk1 y1=>[(1,.pointer (some ⟨g0,0,none⟩)),(2,.pointer (some ⟨g1,0,none⟩)),(4,.slice (some ⟨y1.1,0,none⟩) (k1+1) y1.2.1),(5,.int .i64 ((k1+1:Nat):Int))]) (λk1 y1=>[(g0,39,(l.map bv).toArray),(g1,83,(pcs 0 0 false)),(y1.1,5,((l.take k1).map bv++([bv (l.getD k1 0)]++y1.2.2)).toArray)]) (λk1 y1=>y1.2.2.length+(k1+1)=y1.2.1∧y1.2.1≤maxLen) (q1,c1,s1) [true,true,false,true] ⟨e1,m1⟩ (all_cons kR (all_cons kR (all_cons kR (all_cons kR all_nil)))) kR (λk1 y1 hk1 hh1=>?_)
 refine Sy.seq<|sC ?_
 refine sP (.int .i64 ((k1+1:Nat):Int)) ?_
 obtain ⟨b1,hb1⟩:∃ z:Bool,z=decide (k1+1<32):=⟨_,rfl⟩
 refine sS (.bool b1) (Quiet.pure (exec_int .lss _ _ _ .i64 _ _ _ rfl rfl rfl (int_lss _ _ _ _ _ (by rw [hb1]; exact decide_eq_decide.2 (by omega))))) ?_
 refine sG ?_
 cases b1
 ·have lb1:¬ (k1+1<32):=of_decide_eq_false hb1.symm
  refine sU<|Sy.exit<|Sy.then_exit<|Sy.then_exit ?_
  obtain rfl:k1=31:=by omega
  have hcp:32≤y1.2.1∧y1.2.1≤9223372036854775807:=by
   have q:=hh1
   simp only [maxLen] at q
   exact ⟨by omega,by omega⟩
  refine Sy.in_exit<|Sy.then_ ?_
  refine Sy.tidyC (G:=[(1,.pointer (some ⟨g0,0,none⟩)),(2,.pointer (some ⟨g1,0,none⟩)),(4,.slice (some ⟨y1.1,0,none⟩) 32 y1.2.1)]) (N:=[(g0,39,(l.map bv).toArray),(g1,83,(pcs 0 0 false)),(y1.1,5,(l.map bv++y1.2.2).toArray)]) [true,true,true] rfl (bcons rfl (bcons rfl (bcons (beq (congrArg List.toArray (apd_full l 31 hl))) rfl))) (all_cons kR (all_cons kR (all_cons kR all_nil))) ?_
  refine sC ?_
  refine sP (.slice (some ⟨y1.1,0,none⟩) 32 y1.2.1)<|sS (fv (valB l)) (qG 117 #[.slice (some ⟨y1.1,0,none⟩) 32 y1.2.1] (λw hw=>numberR_any w y1.1 y1.2.1 l hl (hw.get (i:=2) rfl).lt (own_cellE (hw.get (i:=2) rfl)) hcp.1 hcp.2)) ?_
  refine sM 164 (fcs 0) (λg3=>?_)
  refine sW 3 g3 164 (fcs 0) (fcs (valB l)) (wS 0 164 (fcs (valB l)) rfl) ?_
  refine sA ?_
  refine sS (fv (valB l)) (qL 3 g3 0 4 164 164 (fcs (valB l)) rfl Tryz.underlying164) ?_
  obtain ⟨z1,hz1⟩:∃ z:Nat,z=cubeN (valB l):=⟨_,rfl⟩
  have lz1:z1<K4:=by rw [hz1]; exact cubeN_lt _
  refine sS (fv z1) (qF 153 #[fv (valB l)] (λw=>by rw [hz1]; exact cubeR_n w (valB l) lK)) ?_
  obtain ⟨r1,hr1⟩:∃ z:Nat,z=(sqrtS z1).1:=⟨_,rfl⟩
  obtain ⟨k1,hk1⟩:∃ z:Bool,z=(sqrtS z1).2:=⟨_,rfl⟩
  have lr1:r1<K4:=by rw [hr1]; exact sqrt_lt _
  refine sS (.tuple #[fv r1,.bool k1]) (qF 152 #[fv z1] (λw=>by rw [hr1,hk1, ← sqrt_is]; exact sqrtR_any w z1 lK))<|sP (.tuple #[fv r1,.bool k1])<|sP (fv r1)<|sP (.bool k1) ?_
  refine sM 164 (fcs 0) (λg4=>?_)
  refine sW 4 g4 164 (fcs 0) (fcs r1) (wS 0 164 (fcs r1) rfl)<|sP (.bool k1) ?_
  refine sH (λj=>false) ?_
  refine sD 0 rfl (.agg modcs) (qF 119 #[] (refP_any))<|sD 1 rfl (fv (valB l)) (qL 3 g3 0 4 164 164 (fcs (valB l)) rfl Tryz.underlying164) ?_
  obtain ⟨b2,hb2⟩:∃ z:Bool,z=decide ((valB l)<pM):=⟨_,rfl⟩
  refine sD 2 rfl (.bool b2) (qF 118 #[.agg modcs,fv (valB l)] (λw=>by rw [hb2]; exact rightR_any w (valB l) lK))<|sZ 3 rfl (.bool b2) ?_
  refine sI ?_
  refine Sy.seq<|sC ?_
  refine sP (.bool k1) ?_
  cases k1
  ·refine sP (.bool true)<|sP (.bool true) ?_
   refine sN<|sN ?_
   refine sP (.bool true) ?_
   refine sG<|sT<|sC ?_
   refine sS (pv 0 0 true) (qF 154 #[] (zeroR_c))<|sW 1 g1 83 (pcs 0 0 false) (pcs 0 0 true) (wS 0 83 (pcs 0 0 true) rfl)<|sP (.bool false) ?_
   refine sG<|Sy.ret<|Sy.then_ret ?_
   rw [show (.tuple #[ptv (liftP l),.bool (liftB l)]:Value)=.tuple #[pv 0 0 true,.bool false] from by
    have hb:liftB l=false:=by unfold liftB; rw [← hz1, ← hk1]; simp
    rw [hb,lift_no hb]; rfl]
   exact Sy.ret2 (v:=pv 0 0 true) (u:=.bool false) rfl (.inl (Res.cell (ty':=83) g1 1 (pcs 0 0 true) _ kR kR Tryz.underlying83 rfl kR kR)) (.inl (show _=_ by kernel_rfl))
  ·refine sP (.bool false)<|sP (.bool false)<|sP (.bool b2) ?_
   cases b2
   ·refine sP (.bool true)<|sP (.bool true) ?_
    refine sG<|sT<|sC ?_
    refine sS (pv 0 0 true) (qF 154 #[] (zeroR_c))<|sW 1 g1 83 (pcs 0 0 false) (pcs 0 0 true) (wS 0 83 (pcs 0 0 true) rfl)<|sP (.bool false) ?_
    refine sG<|Sy.ret<|Sy.then_ret ?_
    rw [show (.tuple #[ptv (liftP l),.bool (liftB l)]:Value)=.tuple #[pv 0 0 true,.bool false] from by
     have hb:liftB l=false:=by unfold liftB; rw [← hb2]; simp
     rw [hb,lift_no hb]; rfl]
    exact Sy.ret2 (v:=pv 0 0 true) (u:=.bool false) rfl (.inl (Res.cell (ty':=83) g1 1 (pcs 0 0 true) _ kR kR Tryz.underlying83 rfl kR kR)) (.inl (show _=_ by kernel_rfl))
   ·refine sP (.bool false)<|sP (.bool false) ?_
    refine sG<|sU<|Sy.skip<|sB ?_
    refine sS (fv (valB l)) (qL 3 g3 0 4 164 164 (fcs (valB l)) rfl Tryz.underlying164)<|sS (fv r1) (qL 4 g4 0 4 164 164 (fcs r1) rfl Tryz.underlying164)<|sS (pv (valB l) r1 false) (qF 155 #[fv (valB l),fv r1] (λw=>pointR_c w (valB l) r1 lK lK))<|sW 1 g1 83 (pcs 0 0 false) (pcs (valB l) r1 false) (wS 0 83 (pcs (valB l) r1 false) rfl)<|sP (.bool true) ?_
    refine sG<|Sy.ret ?_
    rw [show (.tuple #[ptv (liftP l),.bool (liftB l)]:Value)=.tuple #[pv (valB l) r1 false,.bool true] from by
     have hb:liftB l=true:=by unfold liftB; rw [← hz1, ← hk1, ← hb2]; rfl
     obtain ⟨u2,y2,e1,e2,e3,_,_⟩:=lift_yes hb
     rw [hb,e3]
     unfold ptv
     simp only
     rw [e1,e2, ← hz1, ← hr1]]
    exact Sy.ret2 (v:=pv (valB l) r1 false) (u:=.bool true) rfl (.inl (Res.cell (ty':=83) g1 1 (pcs (valB l) r1 false) _ kR kR Tryz.underlying83 rfl kR kR)) (.inl (show _=_ by kernel_rfl))
 ·have lb1:k1+1<32:=of_decide_eq_true hb1.symm
  refine sT<|Sy.skip<|Sy.then_<|Sy.seq<|Sy.block<|Sy.region ?_
  refine sP (.slice (some ⟨y1.1,0,none⟩) (k1+1) y1.2.1)<|sP (.int .i64 ((k1+1:Nat):Int))<|sS (.pointer (some ⟨g0,0+(k1+1)*1,none⟩)) (Quiet.pure (exec_atA 39 _ _ _ g0 0 _ (k1+1) 1 .i64 rfl rfl rfl Tryz.underlying39 kF (by omega)))<|sS (bv (l.getD (k1+1) 0)) (Quiet.cell 0 g0 (0+(k1+1)*1) 39 5 (l.map bv).toArray _ _ rfl kR kR Tryz.underlying5 rfl _ (key_sym hl (k:=k1+1) (by omega) (by omega))) ?_
  refine Sy.make kR 5 #[bv (l.getD (k1+1) 0)] (λg=>.slice (some ⟨g,0,none⟩) 1 1) kF (λg5=>?_)
  refine Sy.append kR 22 5 _ _ Tryz.underlying22 info_u8 rfl rfl rfl rfl _ _ rfl 2 y1.1 (k1+1) y1.2.1 ((l.take k1).map bv++([bv (l.getD k1 0)]++y1.2.2)).toArray ((l.take (k1+1)).map bv) kR kR (apd_take l k1 hl y1.2.2 (by omega)) (apd_len l k1 hl (by omega)) (apd_size l k1 hl y1.2.2 hh1.1 (by omega)) hh1.2 3 g5 0 1 1 5 #[bv (l.getD (k1+1) 0)] [bv (l.getD (k1+1) 0)] kR kR kR rfl (by intro u hu; simp only [List.mem_cons,List.not_mem_nil,or_false] at hu; subst hu; rfl) (by omega) (λq2 c2 s2 e2 m2=>?_)
  refine sP (.slice (some ⟨q2,0,none⟩) (k1+1+1) c2) ?_
  refine Sy.nil<|Sy.in_<|Sy.then_<|Sy.region ?_
  refine sP (.int .i64 ((k1+1:Nat):Int))<|sS (.int .i64 (((k1+1)+1:Nat):Int)) (Quiet.pure (exec_int .add _ _ _ .i64 _ _ _ rfl rfl rfl (int_add _ _ _ _ _ ((wrap_i64 (by omega) (by omega)).trans (by omega)))))<|sP (.int .i64 (((k1+1)+1:Nat):Int)) ?_
  refine Sy.nil ?_
  exact Sy.againX ((q2,c2,s2)) [true,true,true,false] (by omega) (⟨e2,m2⟩) (all_cons kR (all_cons kR (all_cons kR (all_cons kR all_nil)))) kR
end Cu
end
section
namespace Cu
open Go.RowKit Sy
set_option maxRecDepth 100000
set_option maxHeartbeats 4000000
section
variable {P:Program} {w0:Base} {F:Slots} {L:Blocks} {o:Oper}
theorem Quiet.read {v:Value} (h:∀ w,St w0 w L→(execOp (evF F) o).run P w=.ok (.value v) w):Quiet P w0 F L o v:=λw hw=>by
 unfold Gives; rw [h w hw]; exact ⟨rfl,Gr.refl _⟩
end
theorem str_of {w:World} {A:Option Addr} {m:List UInt8} {c:Nat} (h:Src w A m) (hm:m≠[]) :
  (convert 22 9 (.slice A m.length c)).run Tryz.prog w=.ok (.string ⟨m.toArray⟩) w:=by
 obtain ⟨b,o,rfl,_,hc⟩:=h hm
 refine run_convert_bytes_back w 22 9 5 _ c m Tryz.underlying22 Tryz.underlying5 Tryz.underlying9 (λj hj=>?_)
 rw [addr_off]
 exact hc j _ (List.getElem?_eq_getElem hj)
theorem str_src {w0:Base} {F:Slots} {L:Blocks} {o:Oper} (A:Option Addr) (m:List UInt8) (k c:Nat) (x:Operand) (ho:o.op=.convert 22 9 x) (hx:evF F x=.slice A k c) (hm:m.length=k) (hk:k≠0) (hs:Src w0.world A m):Quiet Tryz.prog w0 F L o (.string ⟨m.toArray⟩):=Quiet.read λw hw=>by
 have h:=str_of (c:=c) (hs.below hw.below) (by intro e; rw [e] at hm; exact hk hm.symm)
 rw [hm] at h
 unfold execOp
 simp only [ho,hx,Sem.run_bind,h,Result.andThen_ok,Sem.run_pure]
theorem eql_str (w:World) (F:Slots) (o:Oper) (x y:Operand) (a b:List UInt8) {yt:TypeId} (ho:o.op=.binOp .eql 9 x y yt) (hx:evF F x=.string ⟨a.toArray⟩) (hy:evF F y=.string ⟨b.toArray⟩):(execOp (evF F) o).run Tryz.prog w=.ok (.value (.bool (decide (a=b)))) w:=by
 have h1:(eqGuard .eql 9 x y (.string ⟨a.toArray⟩) (.string ⟨b.toArray⟩)).run Tryz.prog w=.ok () w:=by go_simp
 have h2:(binOp .eql 9 (.string ⟨a.toArray⟩) (.string ⟨b.toArray⟩)).run Tryz.prog w=.ok (.bool (decide (a=b))) w:=by
  by_cases e:a=b <;> simp [go_sem,ByteArray.toList_eq,e]
 unfold execOp
 simp only [ho,hx,hy,Sem.run_bind,h1,h2,Result.andThen_ok,Sem.run_pure]
end Cu
end
section
namespace Cu
open Go.RowKit Sy
set_option maxRecDepth 100000
set_option maxHeartbeats 4000000
theorem equal_any (w:World) (A A2:Option Addr) (l m:List UInt8) (n k c d:Nat) (hl:l.length=n) (hm:m.length=k) (hn:n≠0) (hk:k≠0) (hs:Src w A l) (ht:Src w A2 m):Calls Tryz.prog 68 #[.slice A n c,.slice A2 k d] w (Gets w (.bool (decide (l=m)))):=by
 refine Sy.enter (args:=[.slice A n c,.slice A2 k d]) Tryz.func68 rfl kL ?_
 refine sC ?_
 refine sP (.bool false) ?_
 refine sA ?_
 refine sP (.slice A n c)<|sS (.string ⟨l.toArray⟩) (str_src A l n c _ rfl rfl hl hn hs)<|sP (.slice A2 k d)<|sS (.string ⟨m.toArray⟩) (str_src A2 m k d _ rfl rfl hm hk ht)<|sS (.bool (decide (l=m))) (Quiet.pure (λw=>eql_str w _ _ _ _ l m rfl rfl rfl))<|sP (.bool (decide (l=m))) ?_
 refine sG<|Sy.ret ?_
 exact rV (.bool (decide (l=m))) rfl
theorem src_part {w:World} {g:Nat} {t:TypeId} {l:List UInt8} (hb:Blk w g t (l.map bv).toArray) (k n:Nat):Src w (some ⟨g,k,none⟩) ((l.drop k).take n):=λ_=>⟨g,k,rfl,hb.lt,λj u hj=>by
 refine (hb.cell (k+j)).trans ?_
 rw [List.getElem?_take] at hj
 split at hj
 ·rw [List.getElem?_drop] at hj
  rw [List.getElem?_toArray,List.getElem?_map,hj]
  rfl
 ·cases hj⟩
theorem key_part {l:List UInt8} (k n:Nat):Value.agg ((((l.map bv).toArray).toList.drop k).take n).toArray=.agg (((l.drop k).take n).map bv).toArray:=by
 rw [List.map_take,List.map_drop]
theorem part_size {l:List UInt8} {N:Nat} (h:l.length=N) {k n:Nat} (hk:k+n≤N):k+n≤((l.map bv).toArray).size:=by
 rw [key_sz l h]; exact hk
theorem part_len {l:List UInt8} {N:Nat} (h:l.length=N) {k n:Nat} (hk:k+n≤N):((l.drop k).take n).length=n:=by
 rw [List.length_take,List.length_drop,h]; omega
def trl (k x y:Nat) (i:Bool):List Value:=fws k++(fws x++(fws y++[Value.bool i]))
def two (z e px py:Nat) (pi:Bool) (j:Nat):Trm:=if j=0 then ⟨z,gx.val,gy.val,false⟩ else ⟨e,px,py,pi⟩
def rPt (z e px py:Nat) (pi:Bool):Pt:=Ec.add finv (Ec.nm finv (z%Sc.pM) bP) (Ec.nm finv (e%Sc.pM) (dec px py pi))
theorem rPt_on (z e px py:Nat) (pi:Bool):Ec.On (rPt z e px py pi):=Ec.On.add fld (bP_on.nm fld _) ((dec_on _ _ _).nm fld _)
theorem two_c (w:World) (g:Nat) (t:TypeId) (z e px py:Nat) (pi:Bool) (hz:z<K4) (he:e<K4) (hx:px<K4) (hy:py<K4) (hb:Blk w g t (trl z gx.val gy.val false++trl e px py pi).toArray):Calls Tryz.prog 67 #[.slice (some ⟨g,0,none⟩) 2 2] w (Gets w (ptv (rPt z e px py pi))):=by
 have hr:w.rangeAt g 0 (trl z gx.val gy.val false++trl e px py pi):=blk_range hb (by rw [List.drop_zero]; exact List.take_of_length_le (Nat.le_refl _))
 have h:=multi_any w (some ⟨g,0,none⟩) g 0 2 2 (two z e px py pi) (Nat.le_refl _) (by decide) (λj=>by
  unfold two
  split
  ·exact ⟨hz,lt4 _,lt4 _⟩
  ·exact ⟨he,hx,hy⟩) (λ_=>⟨rfl,hb.lt,λj hj=>by
  rcases j with _ | _ | j
  ·exact range_left hr
  ·exact range_right hr rfl
  ·omega⟩)
 have e0:Ec.sumL finv (λt=>Ec.nm finv (two z e px py pi t).kn (two z e px py pi t).pt) (List.range 2)=rPt z e px py pi:=by
  have d0:dec gx.val gy.val false=bP:=dec_fin gx gy bP_on
  unfold rPt
  rw [← d0]
  show Ec.add finv (Ec.add finv none (Ec.nm finv (z%Sc.pM) (dec gx.val gy.val false))) (Ec.nm finv (e%Sc.pM) (dec px py pi))=_
  rw [Ec.zero_add]
 rw [e0] at h
 exact h
def ansB (s:List UInt8) (e px py:Nat) (pi:Bool):Bool :=
 (Sc.readS ((s.drop 32).take 32)).2 && (decide ((encS (rPt (Sc.readS ((s.drop 32).take 32)).1 (Sc.negP e) px py pi)).getD 0 0=UInt8.ofNat 2) && decide (((encS (rPt (Sc.readS ((s.drop 32).take 32)).1 (Sc.negP e) px py pi)).drop 1).take 32=(s.drop 0).take 32))
theorem readS_lt (l:List UInt8):(Sc.readS l).1<K4:=by
 unfold Sc.readS
 split
 ·exact Nat.lt_trans (by assumption) (by decide)
 ·show 0<_; decide
theorem enc_any' (w:World) {R:Pt} (h:Ec.On R):Calls Tryz.prog 52 #[pv (pX R) (pY R) (pI R)] w (Gets w (.agg ((encS R).map bv).toArray)):=by
 have q:=enc_any w (pX R) (pY R) (pI R) (pX_lt R) (pY_lt R)
 rw [dec_parts h] at q
 exact q
theorem answers_any (w:World) (s:List UInt8) (hs:s.length=64) (e:Nat) (he:e<K4) (px py:Nat) (pi:Bool) (hpx:px<K4) (hpy:py<K4):Calls Tryz.prog 38 #[.agg (s.map bv).toArray,fv e,pv px py pi] w (Gets w (.bool (ansB s e px py pi))):=by
 refine Sy.enter (args:=[.agg (s.map bv).toArray,fv e,pv px py pi]) Tryz.func38 rfl kL ?_
 refine sC ?_
 refine sM 38 (s.map bv).toArray (λg0=>?_)
 refine sM 36 (fcs e) (λg1=>?_)
 refine sM 83 (pcs px py pi) (λg2=>?_)
 refine sP (.bool false) ?_
 refine sA ?_
 refine sP (.slice (some ⟨g0,32,none⟩) 32 32)<|sP (.pointer (some ⟨g0,32,none⟩))<|sS (.agg (((s.drop 32).take 32).map bv).toArray) (Quiet.load 0 g0 32 32 38 24 (s.map bv).toArray _ _ rfl kR kR Tryz.underlying24 rfl kR _ (key_part 32 32) (part_size hs (by decide))) ?_
 obtain ⟨b1,hb1⟩:∃ z:Bool,z=(Sc.readS ((s.drop 32).take 32)).2:=⟨_,rfl⟩
 refine sS (.tuple #[fv ((Sc.readS ((s.drop 32).take 32)).1),.bool b1]) (qF 66 #[.agg (((s.drop 32).take 32).map bv).toArray] (λw=>by rw [hb1]; exact Sc.read_any w _ (part_len hs (by decide))))<|sP (.tuple #[fv ((Sc.readS ((s.drop 32).take 32)).1),.bool b1])<|sP (fv ((Sc.readS ((s.drop 32).take 32)).1))<|sP (.bool b1) ?_
 refine sM 36 (fcs 0) (λg3=>?_)
 refine sW 3 g3 36 (fcs 0) (fcs ((Sc.readS ((s.drop 32).take 32)).1)) (wS 0 36 (fcs ((Sc.readS ((s.drop 32).take 32)).1)) rfl)<|sP (.bool b1) ?_
 refine sG<|Sy.seq<|sC ?_
 refine sP (.bool b1) ?_
 cases b1
 ·refine sP (.bool true) ?_
  refine sG<|sT<|sC ?_
  refine sP (.bool false) ?_
  refine sG<|Sy.ret<|Sy.then_ret ?_
  rw [show (.bool (ansB s e px py pi):Value)=.bool false from by unfold ansB; rw [← hb1]; rfl]
  exact rV (.bool false) rfl
 ·refine sP (.bool false) ?_
  refine sG<|sU<|Sy.skip ?_
  refine sR (λj=>j == 11) ?_
  refine sD 0 rfl (fv ((Sc.readS ((s.drop 32).take 32)).1)) (qL 3 g3 0 4 36 36 (fcs ((Sc.readS ((s.drop 32).take 32)).1)) rfl Tryz.underlying36)<|sD 1 rfl (pv gx.val gy.val false) (qF 54 #[] (base_c))<|sZ 2 rfl (trv ((Sc.readS ((s.drop 32).take 32)).1) gx.val gy.val false)<|sD 3 rfl (fv e) (qL 1 g1 0 4 36 36 (fcs e) rfl Tryz.underlying36)<|sD 4 rfl (fv (Sc.negP e)) (qF 55 #[fv e] (λw=>Sc.negF_any w e he))<|sD 5 rfl (pv px py pi) (qL 2 g2 0 9 83 83 (pcs px py pi) rfl Tryz.underlying83)<|sZ 6 rfl (trv (Sc.negP e) px py pi) ?_
  refine Sy.joinD (λgq=>[(0,.agg (s.map bv).toArray),(1,fv e),(2,pv px py pi),(3,.pointer (some ⟨g0,0,none⟩)),(4,.pointer (some ⟨g1,0,none⟩)),(5,.pointer (some ⟨g2,0,none⟩)),(6,.bool false),(7,.pointer (some ⟨g3,0,none⟩)),(8,.bool true),(9,.pointer (some ⟨(gq 1),0,none⟩)),(10,.tuple #[fv ((Sc.readS ((s.drop 32).take 32)).1),.bool true]),(11,.slice (some ⟨g0,32,none⟩) 32 32),(12,.pointer (some ⟨g0,32,none⟩)),(13,.agg (((s.drop 32).take 32).map bv).toArray),(14,.tuple #[fv ((Sc.readS ((s.drop 32).take 32)).1),.bool true]),(15,fv ((Sc.readS ((s.drop 32).take 32)).1)),(16,.bool true),(17,.bool true),(18,.bool false),(19,fv ((Sc.readS ((s.drop 32).take 32)).1)),(20,pv gx.val gy.val false),(21,trv ((Sc.readS ((s.drop 32).take 32)).1) gx.val gy.val false),(22,fv e),(23,fv (Sc.negP e)),(24,pv px py pi),(25,trv (Sc.negP e) px py pi),(26,.slice (some ⟨(gq 0),0,none⟩) 2 2),(27,pv (pX (rPt (Sc.readS ((s.drop 32).take 32)).1 (Sc.negP e) px py pi)) (pY (rPt (Sc.readS ((s.drop 32).take 32)).1 (Sc.negP e) px py pi)) (pI (rPt (Sc.readS ((s.drop 32).take 32)).1 (Sc.negP e) px py pi))),(28,.agg ((encS (rPt (Sc.readS ((s.drop 32).take 32)).1 (Sc.negP e) px py pi)).map bv).toArray)]) (λgq=>[(g0,38,(s.map bv).toArray),(g1,36,(fcs e)),(g2,83,(pcs px py pi)),(g3,36,(fcs ((Sc.readS ((s.drop 32).take 32)).1))),((gq 0),122,(trl ((Sc.readS ((s.drop 32).take 32)).1) gx.val gy.val false++(trl (Sc.negP e) px py pi)).toArray),((gq 1),104,(Zl 33).toArray)]) 1 #[true,true,true,true,true,true,true,true,true,true,true,false] (λgq=>?_) (λfin=>?_)
  ·refine Sy.writeD 11 rfl kR (by rfl) kR 5 (gq 1) 104 (Zl 33).toArray ((encS (rPt (Sc.readS ((s.drop 32).take 32)).1 (Sc.negP e) px py pi)).map bv).toArray kR (Writes.store 0 104 ((encS (rPt (Sc.readS ((s.drop 32).take 32)).1 (Sc.negP e) px py pi)).map bv).toArray _ _ rfl kR kR (by rw [key_sz (encS (rPt (Sc.readS ((s.drop 32).take 32)).1 (Sc.negP e) px py pi)) (encS_length _)]; kernel_rfl) (by rw [key_sz (encS (rPt (Sc.readS ((s.drop 32).take 32)).1 (Sc.negP e) px py pi)) (encS_length _)]; exact Nat.le_of_ble_eq_true kR) (key_one _) (key_set _ _ (by rw [(encS_length _)]; kernel_rfl))) ?_
   refine sE ?_
   refine sR (λj=>false) ?_
   refine sZ 0 rfl (.pointer (some ⟨(gq 1),0,none⟩))<|sD 1 rfl (bv ((encS (rPt (Sc.readS ((s.drop 32).take 32)).1 (Sc.negP e) px py pi)).getD 0 0)) (Quiet.cell 5 (gq 1) 0 104 5 ((encS (rPt (Sc.readS ((s.drop 32).take 32)).1 (Sc.negP e) px py pi)).map bv).toArray _ _ rfl kR kR Tryz.underlying5 rfl _ (key_at (encS (rPt (Sc.readS ((s.drop 32).take 32)).1 (Sc.negP e) px py pi)) (encS_length _) 0 (by decide))) ?_
   obtain ⟨b2,hb2⟩:∃ z:Bool,z=decide (((encS (rPt (Sc.readS ((s.drop 32).take 32)).1 (Sc.negP e) px py pi)).getD 0 0)=UInt8.ofNat 2):=⟨_,rfl⟩
   refine sD 2 rfl (.bool b2) (Quiet.pure (λw=>by rw [hb2]; exact eql_u8 w _ _ _ _ _ 2 (by decide) rfl rfl rfl))<|sZ 3 rfl (.bool b2) ?_
   cases b2
   ·refine sQ 4 rfl<|sQ 5 rfl<|sQ 6 rfl<|sZ 7 rfl (.bool false)<|sZ 8 rfl (.bool false) ?_
    refine sI ?_
    refine Sy.ret ?_
    rw [show (.bool (ansB s e px py pi):Value)=.bool false from by unfold ansB; rw [← hb1, ← hb2]; rfl]
    exact rV (.bool false) rfl
   ·refine sZ 4 rfl (.slice (some ⟨(gq 1),1,none⟩) 32 32)<|sZ 5 rfl (.slice (some ⟨g0,0,none⟩) 32 64) ?_
    obtain ⟨b3,hb3⟩:∃ z:Bool,z=decide (((encS (rPt (Sc.readS ((s.drop 32).take 32)).1 (Sc.negP e) px py pi)).drop 1).take 32=(s.drop 0).take 32):=⟨_,rfl⟩
    refine sD 6 rfl (.bool b3) (qG 68 #[.slice (some ⟨(gq 1),1,none⟩) 32 32,.slice (some ⟨g0,0,none⟩) 32 64] (λw hw=>by rw [hb3]; exact equal_any w _ _ _ _ 32 32 _ _ (part_len (encS_length _) (by decide)) (part_len hs (by decide)) (by decide) (by decide) (src_part (hw.get (i:=5) rfl) 1 32) (src_part (hw.get (i:=0) rfl) 0 32)))<|sZ 7 rfl (.bool b3)<|sZ 8 rfl (.bool b3) ?_
    refine sI ?_
    refine Sy.ret ?_
    rw [show (.bool (ansB s e px py pi):Value)=.bool b3 from by unfold ansB; rw [← hb1, ← hb2, ← hb3]; rfl]
    exact rV (.bool b3) rfl
  ·refine Sy.anyOf [7,10] kR (by decide) (Sy.each2 ?_ ?_)
   ·refine Sy.oneMake rfl kR 122 (trl ((Sc.readS ((s.drop 32).take 32)).1) gx.val gy.val false++(trl (Sc.negP e) px py pi)).toArray (λg=>.slice (some ⟨g,0,none⟩) 2 2) kF (λg4=>?_)
    refine Sy.anyOf [8,10] kR (by decide) (Sy.each2 ?_ ?_)
    ·refine Sy.oneQuiet rfl kR (pv (pX (rPt (Sc.readS ((s.drop 32).take 32)).1 (Sc.negP e) px py pi)) (pY (rPt (Sc.readS ((s.drop 32).take 32)).1 (Sc.negP e) px py pi)) (pI (rPt (Sc.readS ((s.drop 32).take 32)).1 (Sc.negP e) px py pi))) (qG 67 #[.slice (some ⟨g4,0,none⟩) 2 2] (λw hw=>by rw [← ptv_parts]; exact two_c w g4 _ _ _ px py pi (readS_lt _) (Sc.mod_lt _) hpx hpy (hw.get (i:=4) rfl))) ?_
     refine Sy.anyOf [9,10] kR (by decide) (Sy.each2 ?_ ?_)
     ·refine Sy.oneQuiet rfl kR (.agg ((encS (rPt (Sc.readS ((s.drop 32).take 32)).1 (Sc.negP e) px py pi)).map bv).toArray) (qF 52 #[pv (pX (rPt (Sc.readS ((s.drop 32).take 32)).1 (Sc.negP e) px py pi)) (pY (rPt (Sc.readS ((s.drop 32).take 32)).1 (Sc.negP e) px py pi)) (pI (rPt (Sc.readS ((s.drop 32).take 32)).1 (Sc.negP e) px py pi))] (λw=>enc_any' w (rPt_on _ _ _ _ _))) ?_
      refine Sy.anyOf [10] kR (by decide) (Sy.each1 ?_)
      ·refine Sy.oneMake rfl kR 104 (Zl 33).toArray ptr kF (λg5=>?_)
       exact Sy.leafI fin (λi=>if i=0 then g4 else g5) kR (all_cons kR (all_cons kR (all_cons kR (all_cons kR (all_cons kR (all_cons kR (all_cons kR (all_cons kR (all_cons kR (all_cons kR (all_cons kR (all_cons kR (all_cons kR (all_cons kR (all_cons kR (all_cons kR (all_cons kR (all_cons kR (all_cons kR (all_cons kR (all_cons kR (all_cons kR (all_cons kR (all_cons kR (all_cons kR (all_cons kR (all_cons kR (all_cons kR (all_cons kR all_nil))))))))))))))))))))))))))))) kR
     ·refine Sy.oneMake rfl kR 104 (Zl 33).toArray ptr kF (λg6=>?_)
      refine Sy.anyOf [9] kR (by decide) (Sy.each1 ?_)
      ·refine Sy.oneQuiet rfl kR (.agg ((encS (rPt (Sc.readS ((s.drop 32).take 32)).1 (Sc.negP e) px py pi)).map bv).toArray) (qF 52 #[pv (pX (rPt (Sc.readS ((s.drop 32).take 32)).1 (Sc.negP e) px py pi)) (pY (rPt (Sc.readS ((s.drop 32).take 32)).1 (Sc.negP e) px py pi)) (pI (rPt (Sc.readS ((s.drop 32).take 32)).1 (Sc.negP e) px py pi))] (λw=>enc_any' w (rPt_on _ _ _ _ _))) ?_
       exact Sy.leafI fin (λi=>if i=0 then g4 else g6) kR (all_cons kR (all_cons kR (all_cons kR (all_cons kR (all_cons kR (all_cons kR (all_cons kR (all_cons kR (all_cons kR (all_cons kR (all_cons kR (all_cons kR (all_cons kR (all_cons kR (all_cons kR (all_cons kR (all_cons kR (all_cons kR (all_cons kR (all_cons kR (all_cons kR (all_cons kR (all_cons kR (all_cons kR (all_cons kR (all_cons kR (all_cons kR (all_cons kR (all_cons kR all_nil))))))))))))))))))))))))))))) kR
    ·refine Sy.oneMake rfl kR 104 (Zl 33).toArray ptr kF (λg7=>?_)
     refine Sy.anyOf [8] kR (by decide) (Sy.each1 ?_)
     ·refine Sy.oneQuiet rfl kR (pv (pX (rPt (Sc.readS ((s.drop 32).take 32)).1 (Sc.negP e) px py pi)) (pY (rPt (Sc.readS ((s.drop 32).take 32)).1 (Sc.negP e) px py pi)) (pI (rPt (Sc.readS ((s.drop 32).take 32)).1 (Sc.negP e) px py pi))) (qG 67 #[.slice (some ⟨g4,0,none⟩) 2 2] (λw hw=>by rw [← ptv_parts]; exact two_c w g4 _ _ _ px py pi (readS_lt _) (Sc.mod_lt _) hpx hpy (hw.get (i:=4) rfl))) ?_
      refine Sy.anyOf [9] kR (by decide) (Sy.each1 ?_)
      ·refine Sy.oneQuiet rfl kR (.agg ((encS (rPt (Sc.readS ((s.drop 32).take 32)).1 (Sc.negP e) px py pi)).map bv).toArray) (qF 52 #[pv (pX (rPt (Sc.readS ((s.drop 32).take 32)).1 (Sc.negP e) px py pi)) (pY (rPt (Sc.readS ((s.drop 32).take 32)).1 (Sc.negP e) px py pi)) (pI (rPt (Sc.readS ((s.drop 32).take 32)).1 (Sc.negP e) px py pi))] (λw=>enc_any' w (rPt_on _ _ _ _ _))) ?_
       exact Sy.leafI fin (λi=>if i=0 then g4 else g7) kR (all_cons kR (all_cons kR (all_cons kR (all_cons kR (all_cons kR (all_cons kR (all_cons kR (all_cons kR (all_cons kR (all_cons kR (all_cons kR (all_cons kR (all_cons kR (all_cons kR (all_cons kR (all_cons kR (all_cons kR (all_cons kR (all_cons kR (all_cons kR (all_cons kR (all_cons kR (all_cons kR (all_cons kR (all_cons kR (all_cons kR (all_cons kR (all_cons kR (all_cons kR all_nil))))))))))))))))))))))))))))) kR
   ·refine Sy.oneMake rfl kR 104 (Zl 33).toArray ptr kF (λg8=>?_)
    refine Sy.anyOf [7] kR (by decide) (Sy.each1 ?_)
    ·refine Sy.oneMake rfl kR 122 (trl ((Sc.readS ((s.drop 32).take 32)).1) gx.val gy.val false++(trl (Sc.negP e) px py pi)).toArray (λg=>.slice (some ⟨g,0,none⟩) 2 2) kF (λg9=>?_)
     refine Sy.anyOf [8] kR (by decide) (Sy.each1 ?_)
     ·refine Sy.oneQuiet rfl kR (pv (pX (rPt (Sc.readS ((s.drop 32).take 32)).1 (Sc.negP e) px py pi)) (pY (rPt (Sc.readS ((s.drop 32).take 32)).1 (Sc.negP e) px py pi)) (pI (rPt (Sc.readS ((s.drop 32).take 32)).1 (Sc.negP e) px py pi))) (qG 67 #[.slice (some ⟨g9,0,none⟩) 2 2] (λw hw=>by rw [← ptv_parts]; exact two_c w g9 _ _ _ px py pi (readS_lt _) (Sc.mod_lt _) hpx hpy (hw.get (i:=5) rfl))) ?_
      refine Sy.anyOf [9] kR (by decide) (Sy.each1 ?_)
      ·refine Sy.oneQuiet rfl kR (.agg ((encS (rPt (Sc.readS ((s.drop 32).take 32)).1 (Sc.negP e) px py pi)).map bv).toArray) (qF 52 #[pv (pX (rPt (Sc.readS ((s.drop 32).take 32)).1 (Sc.negP e) px py pi)) (pY (rPt (Sc.readS ((s.drop 32).take 32)).1 (Sc.negP e) px py pi)) (pI (rPt (Sc.readS ((s.drop 32).take 32)).1 (Sc.negP e) px py pi))] (λw=>enc_any' w (rPt_on _ _ _ _ _))) ?_
       exact Sy.leafS (M:=[(g0,38,(s.map bv).toArray),(g1,36,(fcs e)),(g2,83,(pcs px py pi)),(g3,36,(fcs ((Sc.readS ((s.drop 32).take 32)).1)))]) (x:=(g9,122,(trl ((Sc.readS ((s.drop 32).take 32)).1) gx.val gy.val false++(trl (Sc.negP e) px py pi)).toArray)) (y:=(g8,104,(Zl 33).toArray)) fin (λi=>if i=0 then g9 else g8) kR (all_cons kR (all_cons kR (all_cons kR (all_cons kR (all_cons kR (all_cons kR (all_cons kR (all_cons kR (all_cons kR (all_cons kR (all_cons kR (all_cons kR (all_cons kR (all_cons kR (all_cons kR (all_cons kR (all_cons kR (all_cons kR (all_cons kR (all_cons kR (all_cons kR (all_cons kR (all_cons kR (all_cons kR (all_cons kR (all_cons kR (all_cons kR (all_cons kR (all_cons kR all_nil))))))))))))))))))))))))))))) kR kR
end Cu
end
section
namespace Cu
open Go.RowKit Sy
def verB (key m s:List UInt8):Bool:=liftB key && ansB s (chalS ((s.drop 0).take 32) key m) (pX (liftP key)) (pY (liftP key)) (pI (liftP key))
set_option maxHeartbeats 4000000 in
set_option maxRecDepth 100000 in
theorem verify_any (w:World) (key s:List UInt8) (hkey:key.length=32) (hss:s.length=64) (A:Option Addr) (m:List UInt8) (n c:Nat) (hn:m.length=n) (hm:n≤999999900) (hc:n≤c) (hc2:c≤9223372036854775807) (hs:Sh.Src w A m) (ht:Sh.TabAt w 1):Calls Tryz.prog 21 #[.agg (key.map bv).toArray,.slice A n c,.agg (s.map bv).toArray] w (Gets w (.bool (verB key m s))):=by
 refine Sy.enter (args:=[.agg (key.map bv).toArray,.slice A n c,.agg (s.map bv).toArray]) Tryz.func21 rfl kL ?_
 refine sC ?_
 refine sM 39 (key.map bv).toArray (λg0=>?_)
 refine sM 38 (s.map bv).toArray (λg1=>?_)
 refine sP (.bool false) ?_
 refine sA ?_
 refine sS (.agg (key.map bv).toArray) (Quiet.load 0 g0 0 32 39 39 (key.map bv).toArray _ _ rfl kR kR Tryz.underlying39 rfl kR _ (key_whole key hkey) (key_size key hkey)) ?_
 obtain ⟨b1,hb1⟩:∃ z:Bool,z=liftB key:=⟨_,rfl⟩
 refine sS (.tuple #[pv (pX (liftP key)) (pY (liftP key)) (pI (liftP key)),.bool b1]) (qF 37 #[.agg (key.map bv).toArray] (λw=>by rw [← ptv_parts,hb1]; exact lift_any w key hkey))<|sP (.tuple #[pv (pX (liftP key)) (pY (liftP key)) (pI (liftP key)),.bool b1])<|sP (pv (pX (liftP key)) (pY (liftP key)) (pI (liftP key)))<|sP (.bool b1) ?_
 refine sM 83 (pcs 0 0 false) (λg2=>?_)
 refine sW 2 g2 83 (pcs 0 0 false) (pcs (pX (liftP key)) (pY (liftP key)) (pI (liftP key))) (wS 0 83 (pcs (pX (liftP key)) (pY (liftP key)) (pI (liftP key))) rfl)<|sP (.bool b1) ?_
 refine sH (λj=>false) ?_
 refine sZ 0 rfl (.bool b1)<|sZ 1 rfl (.bool b1) ?_
 cases b1
 ·refine sQ 2 rfl<|sQ 3 rfl<|sQ 4 rfl<|sQ 5 rfl<|sQ 6 rfl<|sQ 7 rfl<|sQ 8 rfl<|sQ 9 rfl ?_
  refine sQ 10 rfl<|sZ 11 rfl (.bool false)<|sZ 12 rfl (.bool false) ?_
  refine sI ?_
  refine Sy.ret ?_
  rw [show (.bool (verB key m s):Value)=.bool false from by unfold verB; rw [← hb1]; rfl]
  exact rV (.bool false) rfl
 ·refine sD 2 rfl (.agg (s.map bv).toArray) (Quiet.load 1 g1 0 64 38 38 (s.map bv).toArray _ _ rfl kR kR Tryz.underlying38 rfl kR _ (key_whole s hss) (key_size s hss))<|sZ 3 rfl (.slice (some ⟨g1,0,none⟩) 32 64)<|sZ 4 rfl (.pointer (some ⟨g1,0,none⟩))<|sD 5 rfl (.agg (((s.drop 0).take 32).map bv).toArray) (Quiet.load 1 g1 0 32 38 39 (s.map bv).toArray _ _ rfl kR kR Tryz.underlying39 rfl kR _ (key_part 0 32) (part_size hss (by decide)))<|sD 6 rfl (.agg (key.map bv).toArray) (Quiet.load 0 g0 0 32 39 39 (key.map bv).toArray _ _ rfl kR kR Tryz.underlying39 rfl kR _ (key_whole key hkey) (key_size key hkey))<|sZ 7 rfl (.slice A n c)<|sD 8 rfl (fv (chalS ((s.drop 0).take 32) key m)) (qG 39 #[.agg (((s.drop 0).take 32).map bv).toArray,.agg (key.map bv).toArray,.slice A n c] (λw hw=>challenge_any w _ key (part_len hss (by decide)) hkey A m n c hn hm hc hc2 (hs.below hw.below) (ht.below hw.below ht.lt)))<|sD 9 rfl (pv (pX (liftP key)) (pY (liftP key)) (pI (liftP key))) (qL 2 g2 0 9 83 83 (pcs (pX (liftP key)) (pY (liftP key)) (pI (liftP key))) rfl Tryz.underlying83) ?_
  obtain ⟨b2,hb2⟩:∃ z:Bool,z=ansB s (chalS ((s.drop 0).take 32) key m) (pX (liftP key)) (pY (liftP key)) (pI (liftP key)):=⟨_,rfl⟩
  refine sD 10 rfl (.bool b2) (qF 38 #[.agg (s.map bv).toArray,fv (chalS ((s.drop 0).take 32) key m),pv (pX (liftP key)) (pY (liftP key)) (pI (liftP key))] (λw=>by rw [hb2]; exact answers_any w s hss _ (chalS_lt _ _ _) _ _ _ (pX_lt _) (pY_lt _)))<|sZ 11 rfl (.bool b2)<|sZ 12 rfl (.bool b2) ?_
  refine sI ?_
  refine Sy.ret ?_
  rw [show (.bool (verB key m s):Value)=.bool b2 from by unfold verB; rw [← hb1, ← hb2]; rfl]
  exact rV (.bool b2) rfl
end Cu
end
section
namespace Pg
open Go.RowKit Sy
set_option maxRecDepth 100000
set_option maxHeartbeats 4000000
open Wr
abbrev TbS (w:World):Prop:=Sh.TabAt w 1
def envOf (m:Byt) (h:Nat):Env:=⟨λkey s=>Cu.verB key m s,λb=>Sp.sum b,h⟩
theorem src_byt {w:World} {A:Option Addr} {n cp:Nat} {b:Byt} (h:BytR (rdW w) (.slice A n cp) b):Sh.Src w A b:=λhne=>by
 obtain ⟨A',n',cp',e,h2,h3,h4,h5⟩:=h
 injection e with e1 e2 e3
 subst e1
 obtain ⟨g,o,rfl,hq⟩:=h5 hne
 have hlt:0<b.length:=List.length_pos_iff.2 hne
 exact ⟨g,o,rfl,(hq 0 _ (List.getElem?_eq_getElem hlt)).1,λj u hu=>(hq j u hu).2⟩
theorem tb_st {w0:Base} {w:World} {L:Blocks} (ht:TbS w0.world) (hw:St w0 w L):TbS w:=ht.below hw.below ht.lt
theorem hash_ef (hh:Nat) (m:Byt) (hm:m.length=32) (x:Opn) (hx:x.1.toNat=102):EfC TbS (envOf m hh) m x 109:=by
 intro w0 g s r T la l hT hok hsm hr hl hla w hw
 rw [show needs x=1 by unfold needs; rw [hx]; rfl] at hl
 have mA:∀ b∈s.bl++T,b∈MS g s m (envOf m hh).h r 0 T:=λb hb=>List.mem_append_right _ hb
 have mT:∀ b∈T,b∈MS g s m (envOf m hh).h r 0 T:=λb hb=>List.mem_append_right _ (List.mem_append_right _ hb)
 obtain ⟨z,rfl⟩:=List.length_eq_one_iff.1 hl
 obtain ⟨A,n,cp,rfl,a1,a2,a3,a4⟩:=hla
 obtain ⟨ga,oa,rfl,aq⟩:=a4 (by simp)
 have hn:n=1:=a1.symm
 obtain ⟨c0,d0⟩:=aq 0 z rfl
 refine Sy.enterT (args:=[ptr g,.slice (some ⟨ga,oa,Option.none⟩) n cp]) hw Tryz.func109 rfl kL ?_
 refine sC ?_
 refine sP (.slice none 0 0)<|sP (.int .i64 0) ?_
 obtain ⟨zA,zn,zc,ez,z2,z3,z4,z5⟩:=d0
 have d0:BytR (rdC w0 T) z.1 z.2:=⟨zA,zn,zc,ez,z2,z3,z4,z5⟩
 have hz9:z.2.length≤256:=hsm z (by simp)
 obtain ⟨d,hd⟩:∃ d,d=Sp.sum z.2:=⟨_,rfl⟩
 have hdl:d.length=32:=by rw [hd]; exact Sh.sum_length _
 refine sA ?_
 refine sp rfl<|sS (.pointer (some ⟨ga,oa+0*1,Option.none⟩)) (Quiet.pure (exec_at 23 22 _ _ ga oa n cp 0 1 .i64 rfl rfl rfl Tryz.underlying23 kF (by omega)))<|sS (.slice zA zn zc) (by rw [← ez]; exact cellC (R:=s.bl++T) c0 mA rfl Tryz.underlying22)<|sS (.agg (d.map bv).toArray) (by rw [hd]; exact qg (λw hw=>by
  have q:=d0.le (rdC_world hw mT)
  rw [ez] at q
  have h:=Sh.of_any w zA z.2 zc (src_byt q) (tb_st (w0:=w0.inn) hT hw) (by omega) (by simp only [maxLen] at z4; omega) (by omega)
  rw [z2] at h
  exact h)) ?_
 refine sM 25 ((List.replicate 32 (0:UInt8)).map bv).toArray (λg6=>?_)
 refine Sy.movT ?_
 refine sw 1 rfl (d.map bv).toArray (Writes.row 25 (d.map bv) 32 _ _ rfl kR kR kR (by rw [List.length_map,hdl]) (by simp) (λu hu=>by obtain ⟨b,_,rfl⟩:=List.mem_map.1 hu; rfl)) ?_
 refine Sy.setT ?_
 refine sA ?_
 refine sP (.slice (some ⟨g6,0,Option.none⟩) 32 32) ?_
 refine Sy.make kR 22 #[.slice (some ⟨g6,0,Option.none⟩) 32 32] (λg=>.slice (some ⟨g,0,Option.none⟩) 1 1) kF (λg2=>?_)
 refine sp rfl<|sP (.int .i64 0) ?_
 refine sG<|Sy.ret ?_
 have e2:does (envOf m hh) x [z.2]=(0,[d]):=by unfold does; rw [hx,hd]; rfl
 exact Sy.retT2 (MS g s m (envOf m hh).h r 0 ([(g2,22,#[.slice (some ⟨g6,0,Option.none⟩) 32 32])]++(T++[(g6,25,(d.map bv).toArray)]))) rfl (.inl (show _=some (.slice (some ⟨g2,0,Option.none⟩) 1 1) by kernel_rfl)) (.inl (show _=some (.int .i64 0) by kernel_rfl)) (λ_ h=>h.perm (Sy.flat_perm (ls:=[[(g,66,(mcs s.v m (envOf m hh).h r 0).toArray)],[(g6,25,(d.map bv).toArray)],s.bl,T,[(g2,22,#[.slice (some ⟨g6,0,Option.none⟩) 32 32])]]) (ms:=[[(g,66,(mcs s.v m (envOf m hh).h r 0).toArray)],s.bl,[(g2,22,#[.slice (some ⟨g6,0,Option.none⟩) 32 32])],T,[(g6,25,(d.map bv).toArray)]]) [0,2,4,3,1] kR rfl (by simp) (by simp)))
  ⟨⟨.slice (some ⟨g2,0,Option.none⟩) 1 1,[(g2,22,#[.slice (some ⟨g6,0,Option.none⟩) 32 32])]⟩,[(g6,25,(d.map bv).toArray)],[(.slice (some ⟨g6,0,Option.none⟩) 32 32,d)],by show _=Value.tuple #[_,.int .i64 (((does (envOf m hh) x [z.2]).1:Nat):Int)]; rw [e2]; rfl,by rw [skp_no _ (by omega) (by omega)],StkY.one (byt_blk (λj v hv=>.inr ⟨_,_,List.mem_append_right _ (List.mem_singleton.2 rfl),hv⟩) hdl (by decide)) (by omega),by show _=(does (envOf m hh) x [z.2]).2; rw [e2]; rfl⟩
theorem signed_any (w0:Base) (hT:TbS w0.world) (g:Nat) (s:Slc) (m:Byt) (hm:m.length=32) (h k:Nat) (r:Value) (T:Blocks) (sv kv:Value) (sby kby:Byt) (hs:BytR (rdC w0 T) sv sby) (hk:BytR (rdC w0 T) kv kby) (w:World) (hw:St w0 w (MS g s m h r k T)):Calls Tryz.prog 150 #[ptr g,sv,kv] w (Turns w0 (λv M=>v=.bool (sgn (envOf m h) sby kby)∧M=MS g s m h r k T)):=by
 obtain ⟨sA_,sn,sc,rfl,s2,s3,s4,s5⟩:=hs
 obtain ⟨kA,kn,kc,rfl,k2,k3,k4,k5⟩:=hk
 have mT:∀ b∈T,b∈MS g s m h r k T:=λb hb=>List.mem_append_right _ (List.mem_append_right _ hb)
 refine Sy.enterT (args:=[ptr g,.slice sA_ sn sc,.slice kA kn kc]) hw Tryz.func150 rfl kL ?_
 have hsm:sc<9223372036854775808:=by simp only [maxLen] at s4; omega
 have hkm:kc<9223372036854775808:=by simp only [maxLen] at k4; omega
 refine sC ?_
 refine sP (.bool false) ?_
 refine Sy.nil<|Sy.then_<|Sy.seq ?_
 refine Sy.regionD (λ_=>false) kR ?_
 obtain ⟨b1,hb1⟩:∃ t_:Bool,t_=decide (kn=32):=⟨_,rfl⟩
 refine sa 0 rfl rfl<|sb 1 rfl (.int .i64 (kn:Int))<|sv 2 rfl (.bool b1) (exec_int .eql _ _ _ .i64 _ _ _ rfl rfl rfl (int_eql _ _ _ _ _ (by rw [hb1]; exact decide_eq_decide.2 (by omega))))<|sa 3 rfl rfl ?_
 cases b1
 case' false =>
  have l1:¬ kn=32:=of_decide_eq_false hb1.symm
  refine sQ 4 rfl<|sQ 5 rfl<|sQ 6 rfl<|sZ 7 rfl (.bool false)<|sZ 8 rfl (.bool false)<|sQ 9 rfl<|sQ 10 rfl<|sQ 11 rfl<|sQ 12 rfl<|sQ 13 rfl<|sQ 14 rfl<|sQ 15 rfl<|sQ 16 rfl<|sQ 17 rfl<|sQ 18 rfl<|sQ 19 rfl<|sZ 20 rfl (.bool false)<|sZ 21 rfl (.bool false) ?_
  refine sI ?_
  refine Sy.ret ?_
  have e:sgn (envOf m h) sby kby=false:=by unfold sgn; rw [decide_eq_false (by omega)]; rfl
  exact Sy.retT1 _ rfl (.inl (show _=some (.bool false) by kernel_rfl)) (λ_ h=>h) ⟨by rw [e],rfl⟩
 have l1:kn=32:=of_decide_eq_true hb1.symm
 obtain ⟨b2,hb2⟩:∃ t_:Bool,t_=decide (sn=64):=⟨_,rfl⟩
 refine sa 4 rfl rfl<|sb 5 rfl (.int .i64 (sn:Int))<|sv 6 rfl (.bool b2) (exec_int .eql _ _ _ .i64 _ _ _ rfl rfl rfl (int_eql _ _ _ _ _ (by rw [hb2]; exact decide_eq_decide.2 (by omega))))<|sb 7 rfl (.bool b2)<|sa 8 rfl rfl ?_
 cases b2
 case' false =>
  have l2:¬ sn=64:=of_decide_eq_false hb2.symm
  refine sQ 9 rfl<|sQ 10 rfl<|sQ 11 rfl<|sQ 12 rfl<|sQ 13 rfl<|sQ 14 rfl<|sQ 15 rfl<|sQ 16 rfl<|sQ 17 rfl<|sQ 18 rfl<|sQ 19 rfl<|sZ 20 rfl (.bool false)<|sZ 21 rfl (.bool false) ?_
  refine sI ?_
  refine Sy.ret ?_
  have e:sgn (envOf m h) sby kby=false:=by unfold sgn; rw [decide_eq_false (p:=sby.length=64) (by omega)]; simp
  exact Sy.retT1 _ rfl (.inl (show _=some (.bool false) by kernel_rfl)) (λ_ h=>h) ⟨by rw [e],rfl⟩
 have l2:sn=64:=of_decide_eq_true hb2.symm
 subst l1
 subst l2
 obtain ⟨gk,ok,rfl,kq⟩:=k5 (by intro e; rw [e] at k2; cases k2)
 obtain ⟨gs,os,rfl,sq⟩:=s5 (by intro e; rw [e] at s2; cases s2)
 have kx:XAt (rdC w0 T) gk ok (kby.map bv):=λj u hu=>by
  rw [List.getElem?_map] at hu
  cases hx:kby[j]? with
  | none=>rw [hx] at hu; cases hu
  | some y=>rw [hx] at hu; cases hu; exact kq j y hx
 have sx_:XAt (rdC w0 T) gs os (sby.map bv):=λj u hu=>by
  rw [List.getElem?_map] at hu
  cases hx:sby[j]? with
  | none=>rw [hx] at hu; cases hu
  | some y=>rw [hx] at hu; cases hu; exact sq j y hx
 have e:sgn (envOf m h) sby kby=Cu.verB kby m sby:=by unfold sgn; rw [decide_eq_true k2,decide_eq_true s2]; rfl
 obtain ⟨b,hb⟩:∃ b,b=Cu.verB kby m sby:=⟨_,rfl⟩
 rw [e, ← hb]
 refine sa 9 rfl rfl<|sv 10 rfl (.pointer (some ⟨gk,ok,none⟩)) (exec_array 39 5 _ (some ⟨gk,ok,none⟩) 32 32 kc rfl rfl Tryz.underlying39 (Nat.le_refl _))<|sD 11 rfl (.agg (kby.map bv).toArray) (rowC (R:=T) (cs:=kby.map bv) kx mT (by rw [List.length_map,k2]) rfl Tryz.underlying39)<|sa 12 rfl rfl<|sa 13 rfl rfl<|sb 14 rfl (.pointer (some ⟨g,1,none⟩))<|sb 15 rfl (.slice (some ⟨g,1,none⟩) 32 32)<|sa 16 rfl rfl<|sv 17 rfl (.pointer (some ⟨gs,os,none⟩)) (exec_array 38 5 _ (some ⟨gs,os,none⟩) 64 64 sc rfl rfl Tryz.underlying38 (Nat.le_refl _))<|sD 18 rfl (.agg (sby.map bv).toArray) (rowC (R:=T) (cs:=sby.map bv) sx_ mT (by rw [List.length_map,s2]) rfl Tryz.underlying38)<|sD 19 rfl (.bool b) (by rw [hb]; exact qg (λw hw=>by
  have hbk:=(hw.blk g 66 _ (List.mem_append_left _ (List.mem_singleton.2 rfl))).2
  refine Cu.verify_any w kby sby k2 s2 (some ⟨g,1,none⟩) m 32 32 hm (by decide) (Nat.le_refl _) (by decide) (λ_=>⟨g,1,rfl,hbk.lt,λj u hu=>(hbk.cell _).trans ?_⟩) (tb_st (w0:=w0.inn) hT hw)
  have hj:=(List.getElem?_eq_some_iff.1 hu).1
  unfold mcs
  rw [List.getElem?_toArray,Nat.add_comm,List.getElem?_cons_succ,List.getElem?_append_left (by rw [List.length_map]; exact hj),List.getElem?_map,hu]
  rfl))<|sb 20 rfl (.bool b)<|sZ 21 rfl (.bool b) ?_
 refine sI ?_
 refine Sy.ret ?_
 exact Sy.retT1 _ rfl (.inl (show _=some (.bool b) by kernel_rfl)) (λ_ h=>h) ⟨rfl,rfl⟩
theorem sig_ef (hh:Nat) (m:Byt) (hm:m.length=32) (x:Opn) (hx:x.1.toNat=103):EfC TbS (envOf m hh) m x 110:=by
 intro w0 g s r T la l hT hok hsm hr hl hla w hw
 rw [show needs x=2 by unfold needs; rw [hx]; rfl] at hl
 have mA:∀ b∈s.bl++T,b∈MS g s m (envOf m hh).h r 0 T:=λb hb=>List.mem_append_right _ hb
 have mT:∀ b∈T,b∈MS g s m (envOf m hh).h r 0 T:=λb hb=>List.mem_append_right _ (List.mem_append_right _ hb)
 obtain ⟨z,y,rfl⟩:=len2 hl
 obtain ⟨A,n,cp,rfl,a1,a2,a3,a4⟩:=hla
 obtain ⟨ga,oa,rfl,aq⟩:=a4 (by simp)
 have hn:n=2:=a1.symm
 obtain ⟨c0,d0⟩:=aq 0 z rfl
 obtain ⟨c1,d1⟩:=aq 1 y rfl
 refine Sy.enterT (args:=[ptr g,.slice (some ⟨ga,oa,Option.none⟩) n cp]) hw Tryz.func110 rfl kL ?_
 refine sC ?_
 refine sP (.slice none 0 0)<|sP (.int .i64 0) ?_
 refine Sy.nil<|Sy.then_<|Sy.seq ?_
 refine Sy.regionD (λj=>j == 7 || j == 8) kR ?_
 obtain ⟨b,hb⟩:∃ b,b=sgn (envOf m hh) z.2 y.2:=⟨_,rfl⟩
 refine sa 0 rfl rfl<|sa 1 rfl rfl<|sv 2 rfl (.pointer (some ⟨ga,oa+0*1,Option.none⟩)) (exec_at 23 22 _ _ ga oa n cp 0 1 .i64 rfl rfl rfl Tryz.underlying23 kF (by omega))<|se 3 [7,8,9,10,11,12] rfl z.1 (cellC (R:=s.bl++T) c0 mA rfl Tryz.underlying22)<|sa 4 rfl rfl<|sv 5 rfl (.pointer (some ⟨ga,oa+1*1,Option.none⟩)) (exec_at 23 22 _ _ ga oa n cp 1 1 .i64 rfl rfl rfl Tryz.underlying23 kF (by omega))<|se 6 [7,8,9,10,11,12] rfl y.1 (cellC (R:=s.bl++T) c1 mA rfl Tryz.underlying22) ?_
 refine Sy.soleD 7 rfl (λQ2 hq2=>?_)
 refine Sy.callT (λw hw=>signed_any w0.inn hT g s m hm hh 0 r T z.1 y.1 z.2 y.2 d0 d1 w hw) (λv M hM=>?_)
 obtain ⟨rfl,rfl⟩:=hM
 rw [← hb]
 refine hq2 _ _ ?_
 refine Sy.soleD 8 rfl (λQ2 hq2=>?_)
 refine Sy.callT (λw hw=>result_any w0.inn _ b w hw) (λv M hM=>?_)
 obtain ⟨g1,g2,n1,rfl,rfl,hn1⟩:=hM
 refine hq2 _ _ ?_
 refine sa 9 rfl rfl<|sa 10 rfl rfl<|sa 11 rfl rfl<|sa 12 rfl rfl ?_
 refine sI ?_
 refine Sy.ret ?_
 exact Sy.retT2 _ rfl (.inl (show _=some (.slice (some ⟨g2,0,Option.none⟩) 1 1) by kernel_rfl)) (.inl (show _=some (.int .i64 0) by kernel_rfl)) (λ_ h=>RsR.st h) (RsR.ef (E:=envOf m hh) (by rw [hb]; unfold does; rw [hx]; rfl) (skp_no _ (by omega) (by omega)) hn1)
end Pg
end
section
namespace Pg
open Go.RowKit Sy
set_option maxRecDepth 100000
set_option maxHeartbeats 4000000
open Wr
theorem exec_toT {P:Program} {F:Slots} {o:Oper} (t:TypeId) (x kx:Operand) (A:Option Addr) (n cp k:Nat) (ht:P.underlying t=some (.slice (P.elem t))) (hs:∀ w,(sizeOf (P.elem t)).run P w=.ok 1 w) (ho:o.op=.slice t x none (some kx) none) (hx:evF F x=.slice A n cp) (hk:evF F kx=.int .i64 (k:Int)) (h:k≤cp) (w:World):(execOp (evF F) o).run P w=.ok (.value (sliced A 0 k cp 1)) w:=by
 have e:(Instr.sliceAt t (.slice A n cp) none (some (.int .i64 (k:Int))) none).run P w=.ok (sliced A 0 k cp 1) w:=by
  rw [run_sliceAt_slice w t _ _ _ _ ht,run_slice_h w t A n cp ht .i64 k (by omega) (by omega),hs,Result.andThen_ok,Int.toNat_natCast]
 unfold execOp
 simp only [ho,hx,hk,Option.map_some,Option.map_none,e,Sem.run_bind,Sem.run_pure,Result.andThen_ok]
theorem Arg.take {C D:Rdr} {A:Option Addr} {n cp k:Nat} {l:List (Value×Byt)} (h:Arg C D (.slice A n cp) l) (hk:k≤n):Arg C D (sliced A 0 k cp 1) (l.take k):=by
 obtain ⟨A',n',cp',e,h2,h3,h4,h5⟩:=h
 injection e with e1 e2 e3
 subst e1 e2 e3
 refine ⟨_,_,_,rfl,by rw [List.length_take]; omega,by omega,by omega,λhne=>?_⟩
 have hl:l≠[]:=λe=>hne (by rw [e,List.take_nil])
 obtain ⟨g,o,rfl,hq⟩:=h5 hl
 have hl0:0<l.length:=List.length_pos_iff.2 hl
 refine ⟨g,o,?_,λj z hz=>?_⟩
 ·rw [if_neg (by omega),Option.map_some,addr_off,Nat.zero_mul,Nat.add_zero]
 ·have hj:j<k:=by
   have:=(List.getElem?_eq_some_iff.1 hz).1
   rw [List.length_take] at this; omega
  rw [List.getElem?_take_of_lt hj] at hz
  exact hq j z hz
theorem shr_step {E:Env} {A B:List Byt} {i:Nat} {s k:Byt} (ha:A[i]? = some s) (hb:B[i]? = some k):shr E (A.drop i) (B.drop i)=if s=[] then shr E (A.drop (i+1)) (B.drop (i+1)) else if sgn E s k then (shr E (A.drop (i+1)) (B.drop (i+1))).map (·+1) else none:=by
 obtain ⟨h1,h2⟩:=List.getElem?_eq_some_iff.1 ha
 obtain ⟨h3,h4⟩:=List.getElem?_eq_some_iff.1 hb
 rw [List.drop_eq_getElem_cons h1,List.drop_eq_getElem_cons h3,h2,h4]
 rfl
theorem share_ef (hh:Nat) (m:Byt) (hm:m.length=32) (x:Opn) (hx:x.1.toNat=104):EfC TbS (envOf m hh) m x 111:=by
 intro w0 g s r T la l hT hok hsm hr hl hla w hw
 have mA:∀ b∈s.bl++T,b∈MS g s m (envOf m hh).h r 0 T:=λb hb=>List.mem_append_right _ hb
 have mT:∀ b∈T,b∈MS g s m (envOf m hh).h r 0 T:=λb hb=>List.mem_append_right _ (List.mem_append_right _ hb)
 refine Sy.enterT (args:=[ptr g,la]) hw Tryz.func111 rfl kL ?_
 refine sC ?_
 refine sP (.slice none 0 0)<|sP (.int .i64 0) ?_
 have hl2:x.2.length=2:=by
  have h1:okO x:=hok
  unfold okO follow at h1
  rw [if_neg (by omega),if_pos hx] at h1
  exact (Option.some.inj h1).symm
 obtain ⟨rA,rn,rc,rfl,r2,r3,r4,r5⟩:=hr
 obtain ⟨go,oo,rfl,rq⟩:=r5 (by intro e; rw [e] at hl2; cases hl2)
 obtain ⟨u0,u1,hu⟩:=len2 hl2
 have hu0:x.2[0]? = some u0:=by rw [hu]; rfl
 have hu1:x.2[1]? = some u1:=by rw [hu]; rfl
 have hc0:=u0.toNat_lt
 have hc1:=u1.toNat_lt
 obtain ⟨t,ht⟩:∃ t,t=u0.toNat:=⟨_,rfl⟩
 obtain ⟨q,hq⟩:∃ q,q=u1.toNat:=⟨_,rfl⟩
 have hnd:needs x=2*q:=by unfold needs; rw [hx,hu,hq]; rfl
 rw [hnd] at hl
 have hla0:=hla
 obtain ⟨A,n,cp,rfl,a1,a2,a3,a4⟩:=hla
 have hn:n=2*q:=by omega
 refine Sy.nil<|Sy.then_<|Sy.seq ?_
 refine Sy.regionD (λ_=>false) kR ?_
 refine sa 0 rfl rfl<|sa 1 rfl rfl<|sb 2 rfl (.pointer (some ⟨g,34,Option.none⟩))<|sD 3 rfl (.slice (some ⟨go,oo,Option.none⟩) rn rc) (Quiet.cell 0 g 34 66 22 _ _ _ rfl kR rfl Tryz.underlying22 rfl _ (mcs_r hm))<|sv 4 rfl (.pointer (some ⟨go,oo+0*1,Option.none⟩)) (exec_at 22 5 _ _ go oo rn rc 0 1 .i64 rfl rfl rfl Tryz.underlying22 kF (by omega))<|sD 5 rfl (bv u0) (cellC (R:=T) (rq 0 u0 hu0) mT rfl Tryz.underlying5)<|sv 6 rfl (.int .i64 ((t:Nat):Int)) (λw=>by rw [ht]; exact conv_8i w _ _ _ u0 rfl rfl)<|sa 7 rfl rfl<|sa 8 rfl rfl<|sb 9 rfl (.pointer (some ⟨g,34,Option.none⟩))<|sD 10 rfl (.slice (some ⟨go,oo,Option.none⟩) rn rc) (Quiet.cell 0 g 34 66 22 _ _ _ rfl kR rfl Tryz.underlying22 rfl _ (mcs_r hm))<|sv 11 rfl (.pointer (some ⟨go,oo+1*1,Option.none⟩)) (exec_at 22 5 _ _ go oo rn rc 1 1 .i64 rfl rfl rfl Tryz.underlying22 kF (by omega))<|sD 12 rfl (bv u1) (cellC (R:=T) (rq 1 u1 hu1) mT rfl Tryz.underlying5)<|sv 13 rfl (.int .i64 ((q:Nat):Int)) (λw=>by rw [hq]; exact conv_8i w _ _ _ u1 rfl rfl)<|sa 14 rfl rfl<|sa 15 rfl rfl ?_
 refine sI ?_
 refine sC ?_
 refine sP (.int .i64 0) ?_
 refine sG<|Sy.seq<|sC ?_
 have htk:=hla0.take (k:=q) (by omega)
 obtain ⟨B,n2,cp2,eB,b2,b3,b4,b5⟩:=htk
 have hn2:n2=q:=by rw [← b2,List.length_take]; omega
 subst hn2
 have hcm:cp<9223372036854775808:=by simp only [maxLen] at a3; omega
 have hcm2:cp2<9223372036854775808:=by simp only [maxLen] at b4; omega
 refine sp rfl<|sp rfl<|sS (.slice B n2 cp2) (by rw [← eB]; exact Quiet.pure (exec_toT 23 _ _ A n cp n2 Tryz.underlying23 kF rfl rfl rfl (by omega)))<|sP (.int .i64 (n2:Int))<|sP (.int .i64 0) ?_
 refine sG<|Sy.block ?_
 obtain ⟨lo,hlo⟩:∃ lo,lo=((l.take n2).map (·.2)):=⟨_,rfl⟩
 obtain ⟨ks,hks⟩:∃ ks,ks=((l.drop n2).map (·.2)):=⟨_,rfl⟩
 have hlol:lo.length=n2:=by rw [hlo,List.length_map,b2]
 have hksl:ks.length=n2:=by rw [hks,List.length_map,List.length_drop]; omega
 have hfin:∀ v:Bool,(match shr (envOf m hh) lo ks with | Option.none=>false | some c=>decide (t≤c))=v→does (envOf m hh) x (l.map (·.2))=(0,[rS v]):=λv hv=>by
  unfold does
  rw [hx]
  show (0,[rS (share (envOf m hh) (x.2.getD 0 0).toNat (x.2.getD 1 0).toNat (l.map (·.2)))])=_
  unfold share
  rw [hu]
  show (0,[rS (match shr (envOf m hh) ((l.map (·.2)).take u1.toNat) ((l.map (·.2)).drop u1.toNat) with | Option.none=>false | some c=>decide (u0.toNat≤c))])=_
  rw [← hq, ← ht, ← List.map_take, ← List.map_drop, ← hlo, ← hks,hv]
 refine Sy.loopT (Y:=Nat) n2 (λi c=>[(0,ptr g),(1,.slice A n cp),(6,.int .i64 ((t:Nat):Int)),(7,.int .i64 ((n2:Nat):Int)),(8,.int .i64 ((c:Nat):Int)),(27,.slice B n2 cp2),(28,.int .i64 (n2:Int)),(29,.int .i64 (i:Int))]) (λ_ _=>MS g s m (envOf m hh).h (.slice (some ⟨go,oo,Option.none⟩) rn rc) 0 T) (λi c=>c≤i∧shr (envOf m hh) lo ks=(shr (envOf m hh) (lo.drop i) (ks.drop i)).map (c+·)) 0 ⟨Nat.le_refl _,by
  rw [List.drop_zero,List.drop_zero]
  cases shr (envOf m hh) lo ks with
  | none=>rfl
  | some c=>show some c=some (0+c); rw [Nat.zero_add]⟩ (all_cons kR (all_cons kR (all_cons kR (all_cons kR (all_cons kR (all_cons kR (all_cons kR (all_cons kR all_nil)))))))) (λ_ h=>h) (λi c hi hy=>?_)
 obtain ⟨hy1,hy⟩:=hy
 refine sC ?_
 obtain ⟨b2,hb2⟩:∃ t_:Bool,t_=decide (i<n2):=⟨_,rfl⟩
 refine sS (.bool b2) (Quiet.pure (exec_int .lss _ _ _ .i64 _ _ _ rfl rfl rfl (int_lss _ _ _ _ _ (by rw [hb2]; exact decide_eq_decide.2 (by omega))))) ?_
 refine sG<|Sy.seq ?_
 cases b2
 case' false =>
  have l2:¬ i<n2:=of_decide_eq_false hb2.symm
  obtain rfl:i=n2:=by omega
  rw [List.drop_of_length_le (by omega),List.drop_of_length_le (by omega)] at hy
  refine sU<|Sy.exit<|Sy.then_exit<|Sy.then_exit<|Sy.in_exit<|Sy.then_<|sC ?_
  obtain ⟨b3,hb3⟩:∃ t_:Bool,t_=decide (t≤c):=⟨_,rfl⟩
  refine sp rfl<|sp rfl<|sS (.bool b3) (Quiet.pure (exec_int .geq _ _ _ .i64 _ _ _ rfl rfl rfl (int_geq _ _ _ _ _ (by rw [hb3]; exact decide_eq_decide.2 (by omega))))) ?_
  refine Sy.callT (λw hw=>result_any w0.inn _ b3 w hw) (λv M hM=>?_)
  obtain ⟨g1,g2,n1,rfl,rfl,hn1⟩:=hM
  refine sp rfl<|sp rfl<|sp rfl<|sp rfl ?_
  refine sG<|Sy.ret ?_
  exact Sy.retT2 _ rfl (.inl (show _=some (.slice (some ⟨g2,0,Option.none⟩) 1 1) by kernel_rfl)) (.inl (show _=some (.int .i64 0) by kernel_rfl)) (λ_ h=>RsR.st h) (RsR.ef (E:=envOf m hh) (hfin b3 (by rw [hy,hb3]; rfl)) (skp_no _ (by omega) (by omega)) hn1)
 have l2:i<n2:=of_decide_eq_true hb2.symm
 obtain ⟨z,hz⟩:∃ z,(l.take n2)[i]? = some z:=⟨_,List.getElem?_eq_getElem (by omega)⟩
 obtain ⟨y,hyy⟩:∃ y,l[n2+i]? = some y:=⟨_,List.getElem?_eq_getElem (by omega)⟩
 obtain ⟨gb,ob,rfl,bq⟩:=b5 (by intro e; rw [e] at hz; cases hz)
 obtain ⟨ga,oa,rfl,aq⟩:=a4 (by intro e; rw [e] at hyy; cases hyy)
 obtain ⟨c0,d0⟩:=bq i z hz
 obtain ⟨c1,d1⟩:=aq (n2+i) y hyy
 have hloi:lo[i]? = some z.2:=by rw [hlo,List.getElem?_map,hz]; rfl
 have hksi:ks[i]? = some y.2:=by rw [hks,List.getElem?_map,List.getElem?_drop,hyy]; rfl
 rw [shr_step hloi hksi] at hy
 obtain ⟨zA,zn,zc,ez,z2,z3,z4,z5⟩:=d0
 have d0:BytR (rdC w0 T) z.1 z.2:=⟨zA,zn,zc,ez,z2,z3,z4,z5⟩
 have hzm:zc<9223372036854775808:=by simp only [maxLen] at z4; omega
 refine sT<|Sy.skip<|Sy.then_<|Sy.seq<|Sy.block<|sC ?_
 refine sp rfl<|sS (.pointer (some ⟨gb,ob+i*1,Option.none⟩)) (Quiet.pure (exec_at 23 22 _ _ gb ob n2 cp2 i 1 .i64 rfl rfl rfl Tryz.underlying23 kF l2))<|sS (.slice zA zn zc) (by rw [← ez]; exact cellC (R:=s.bl++T) (show rdC w0 (s.bl++T) gb (ob+i*1) z.1 by rw [Nat.mul_one]; exact c0) mA rfl Tryz.underlying22)<|sp rfl<|sp rfl ?_
 refine sG<|Sy.seq<|sC ?_
 obtain ⟨b3,hb3⟩:∃ t_:Bool,t_=decide (zn=0):=⟨_,rfl⟩
 refine sp rfl<|sP (.int .i64 (zn:Int))<|sS (.bool b3) (Quiet.pure (exec_int .eql _ _ _ .i64 _ _ _ rfl rfl rfl (int_eql _ _ _ _ _ (by rw [hb3]; exact decide_eq_decide.2 (by omega))))) ?_
 refine sG ?_
 cases b3
 case' true =>
  have l3:zn=0:=of_decide_eq_true hb3.symm
  rw [if_pos (List.eq_nil_of_length_eq_zero (by omega))] at hy
  refine sT<|Sy.exit<|Sy.then_exit<|Sy.in_exit<|Sy.then_<|Sy.region ?_
  refine sS (.int .i64 ((i+1:Nat):Int)) (Quiet.pure (exec_int .add _ _ _ .i64 _ _ _ rfl rfl rfl (int_add _ _ _ _ _ ((wrap_i64 (by omega) (by omega)).trans (by omega)))))<|sp rfl ?_
  refine Sy.nil ?_
  exact Sy.againT c l2 ⟨by omega,hy⟩ (all_cons kR (all_cons kR (all_cons kR (all_cons kR (all_cons kR (all_cons kR (all_cons kR (all_cons kR all_nil)))))))) (λw h=>h)
 have l3:¬ zn=0:=of_decide_eq_false hb3.symm
 rw [if_neg (by intro e; rw [e] at z2; exact l3 z2.symm)] at hy
 refine sU<|Sy.skip<|Sy.then_<|Sy.seq<|sC ?_
 obtain ⟨b,hb⟩:∃ b,b=sgn (envOf m hh) z.2 y.2:=⟨_,rfl⟩
 refine sp rfl<|sp rfl<|sp rfl<|sp rfl<|sp rfl<|sS (.int .i64 ((n2+i:Nat):Int)) (Quiet.pure (exec_int .add _ _ _ .i64 _ _ _ rfl rfl rfl (int_add _ _ _ _ _ ((wrap_i64 (by omega) (by omega)).trans (by omega)))))<|sS (.pointer (some ⟨ga,oa+(n2+i)*1,Option.none⟩)) (Quiet.pure (exec_at 23 22 _ _ ga oa n cp (n2+i) 1 .i64 rfl rfl rfl Tryz.underlying23 kF (by omega)))<|sS y.1 (cellC (R:=s.bl++T) (show rdC w0 (s.bl++T) ga (oa+(n2+i)*1) y.1 by rw [Nat.mul_one]; exact c1) mA rfl Tryz.underlying22) ?_
 refine Sy.callT (args:=#[ptr g,.slice zA zn zc,y.1]) (λw hw=>by rw [← ez]; exact signed_any w0.inn hT g s m hm hh 0 (.slice (some ⟨go,oo,Option.none⟩) rn rc) T z.1 y.1 z.2 y.2 d0 d1 w hw) (λv M hM=>?_)
 obtain ⟨rfl,rfl⟩:=hM
 rw [← hb] at hy ⊢
 refine sP (.bool (!b)) ?_
 refine sG ?_
 cases b
 case' false =>
  rw [if_neg (by decide)] at hy
  refine sT<|sC ?_
  refine Sy.callT (λw hw=>result_any w0.inn _ false w hw) (λv M hM=>?_)
  obtain ⟨g1,g2,n1,rfl,rfl,hn1⟩:=hM
  refine sp rfl<|sp rfl<|sp rfl<|sp rfl ?_
  refine sG<|Sy.ret<|Sy.then_ret<|Sy.in_ret<|Sy.then_ret<|Sy.then_ret<|Sy.in_ret<|Sy.then_ret ?_
  exact Sy.retT2 _ rfl (.inl (show _=some (.slice (some ⟨g2,0,Option.none⟩) 1 1) by kernel_rfl)) (.inl (show _=some (.int .i64 0) by kernel_rfl)) (λ_ h=>RsR.st h) (RsR.ef (E:=envOf m hh) (hfin false (by rw [hy]; rfl)) (skp_no _ (by omega) (by omega)) hn1)
 rw [if_pos rfl] at hy
 refine sU<|Sy.skip<|Sy.then_<|Sy.region ?_
 refine sp rfl<|sS (.int .i64 ((c+1:Nat):Int)) (Quiet.pure (exec_int .add _ _ _ .i64 _ _ _ rfl rfl rfl (int_add _ _ _ _ _ ((wrap_i64 (by omega) (by omega)).trans (by omega)))))<|sp rfl ?_
 refine Sy.nil<|Sy.in_<|Sy.then_<|Sy.region ?_
 refine sS (.int .i64 ((i+1:Nat):Int)) (Quiet.pure (exec_int .add _ _ _ .i64 _ _ _ rfl rfl rfl (int_add _ _ _ _ _ ((wrap_i64 (by omega) (by omega)).trans (by omega)))))<|sp rfl ?_
 refine Sy.nil ?_
 exact Sy.againT (c+1) l2 ⟨by omega,by
  rw [hy]
  cases shr (envOf m hh) (lo.drop (i+1)) (ks.drop (i+1)) with
  | none=>rfl
  | some v=>show some (c+(v+1))=some (c+1+v); congr 1; omega⟩ (all_cons kR (all_cons kR (all_cons kR (all_cons kR (all_cons kR (all_cons kR (all_cons kR (all_cons kR all_nil)))))))) (λw h=>h)
theorem ef_all (hh:Nat) (hhl:hh<18446744073709551616) (m:Byt) (hm:m.length=32) (x:Opn) (hok:okO x):EfC TbS (envOf m hh) m x (fnOf x.1):=by
 by_cases h2:x.1.toNat=102
 ·rw [show fnOf x.1=109 by unfold fnOf; rw [h2]; rfl]
  exact hash_ef hh m hm x h2
 by_cases h3:x.1.toNat=103
 ·rw [show fnOf x.1=110 by unfold fnOf; rw [h3]; rfl]
  exact sig_ef hh m hm x h3
 by_cases h4:x.1.toNat=104
 ·rw [show fnOf x.1=111 by unfold fnOf; rw [h4]; rfl]
  exact share_ef hh m hm x h4
 exact ef_simple (envOf m hh) m hm hhl x hok h2 h3 h4
end Pg
end
section
namespace Pg
open Go.RowKit Sy
set_option maxRecDepth 100000
set_option maxHeartbeats 4000000
open Wr
theorem true13_any (w:World) (v:Value) (b:Byt) (hv:BytR (rdW w) v b):Calls Tryz.prog 31 #[v] w (Gets w (.bool (tru b))):=by
 obtain ⟨A,n,cp,rfl,h2,h3,h4,h5⟩:=hv
 refine Sy.enter (args:=[.slice A n cp]) Tryz.func31 rfl kL ?_
 have hmx:cp<9223372036854775808:=by simp only [maxLen] at h4; omega
 refine sC ?_
 refine sP (.bool false) ?_
 refine sG<|Sy.seq<|sC ?_
 refine sP (.int .i64 0) ?_
 refine sG<|Sy.block ?_
 refine Sy.loopT (Y:=Unit) n (λi _=>[(0,.slice A n cp),(3,.int .i64 (i:Int))]) (λ_ _=>[]) (λi _=>tru (b.take i)=false) () rfl (all_cons kR (all_cons kR all_nil)) (λ_ h=>h) (λi _ hi hy=>?_)
 refine Sy.seq<|sC ?_
 obtain ⟨b2,hb2⟩:∃ t_:Bool,t_=decide (i<n):=⟨_,rfl⟩
 refine sp rfl<|sp rfl<|sP (.int .i64 (n:Int))<|sS (.bool b2) (Quiet.pure (exec_int .lss _ _ _ .i64 _ _ _ rfl rfl rfl (int_lss _ _ _ _ _ (by rw [hb2]; exact decide_eq_decide.2 (by omega))))) ?_
 refine sG ?_
 cases b2
 case' false =>
  have l2:¬ i<n:=of_decide_eq_false hb2.symm
  rw [List.take_of_length_le (by omega)] at hy
  refine sU<|Sy.exit<|Sy.then_exit<|Sy.then_exit<|Sy.in_exit<|Sy.then_<|sC ?_
  refine sP (.bool false) ?_
  refine sG<|Sy.ret ?_
  rw [hy]
  exact rV (.bool false) rfl
 have l2:i<n:=of_decide_eq_true hb2.symm
 obtain ⟨u,hu⟩:∃ u,b[i]? = some u:=⟨_,List.getElem?_eq_getElem (by omega)⟩
 obtain ⟨g,o,rfl,hq⟩:=h5 (by intro e; rw [e] at hu; cases hu)
 have hu2:=u.toNat_lt
 refine sT<|Sy.skip<|Sy.then_<|Sy.seq<|Sy.block<|sC ?_
 obtain ⟨b3,hb3⟩:∃ t_:Bool,t_=decide (u.toNat≠0):=⟨_,rfl⟩
 refine sp rfl<|sp rfl<|sS (.pointer (some ⟨g,o+i*1,none⟩)) (Quiet.pure (exec_at 22 5 _ _ g o n cp i 1 .i64 rfl rfl rfl Tryz.underlying22 kF l2))<|sS (bv u) (Quiet.thereOne g (o+i*1) 5 _ _ rfl kR (hq i u hu).1 _ (by rw [Nat.mul_one]; exact (hq i u hu).2) Tryz.underlying5 rfl)<|sS (.bool b3) (Quiet.pure (exec_int .neq _ _ _ .u8 _ _ _ rfl rfl rfl (int_neq _ _ _ _ _ (by rw [hb3]; exact decide_eq_decide.2 (by omega))))) ?_
 refine sG ?_
 have e3:b3=(u != 0):=by
  rw [hb3]
  by_cases e:u=0
  ·subst e; rfl
  ·have:u.toNat≠0:=λh=>e (by rw [← UInt8.toNat_inj]; exact h)
   simp [e,this]
 have htk:=tru_take hu
 rw [hy,Bool.false_or, ← e3] at htk
 cases b3
 case' true =>
  refine sT<|sC ?_
  refine sP (.bool true) ?_
  refine sG<|Sy.ret<|Sy.in_ret<|Sy.then_ret<|Sy.then_ret<|Sy.in_ret<|Sy.then_ret ?_
  rw [tru_pre htk]
  exact rV (.bool true) rfl
 refine sU<|Sy.skip<|Sy.in_<|Sy.then_<|Sy.region ?_
 refine sp rfl<|sS (.int .i64 ((i+1:Nat):Int)) (Quiet.pure (exec_int .add _ _ _ .i64 _ _ _ rfl rfl rfl (int_add _ _ _ _ _ ((wrap_i64 (by omega) (by omega)).trans (by omega)))))<|sp rfl ?_
 refine Sy.nil ?_
 exact Sy.againT () l2 htk (all_cons kR (all_cons kR all_nil)) (λw h=>h)
theorem said13_any (w:World) (v:Value) (b:Byt) (h8:b.length≤8) (hv:BytR (rdW w) v b):Calls Tryz.prog 51 #[v] w (Gets w (.int .u64 ((said b:Nat):Int))):=by
 obtain ⟨A,n,cp,rfl,h2,h3,h4,h5⟩:=hv
 refine Sy.enter (args:=[.slice A n cp]) Tryz.func51 rfl kL ?_
 have hmx:cp<9223372036854775808:=by simp only [maxLen] at h4; omega
 refine sC ?_
 refine sP (.int .u64 0) ?_
 refine sA ?_
 refine sP (.int .u64 0) ?_
 refine sG<|Sy.seq<|sC ?_
 refine sP (.int .i64 0) ?_
 refine sG<|Sy.block ?_
 refine Sy.loopT (Y:=Nat) n (λi a=>[(0,.slice A n cp),(3,.int .u64 (a:Int)),(4,.int .i64 (i:Int))]) (λ_ _=>[]) (λi a=>a=said (b.take i)) 0 (by rw [List.take_zero]; rfl) (all_cons kR (all_cons kR (all_cons kR all_nil))) (λ_ h=>h) (λi a hi hy=>?_)
 refine Sy.seq<|sC ?_
 obtain ⟨b2,hb2⟩:∃ t_:Bool,t_=decide (i<n):=⟨_,rfl⟩
 refine sp rfl<|sp rfl<|sP (.int .i64 (n:Int))<|sS (.bool b2) (Quiet.pure (exec_int .lss _ _ _ .i64 _ _ _ rfl rfl rfl (int_lss _ _ _ _ _ (by rw [hb2]; exact decide_eq_decide.2 (by omega))))) ?_
 refine sG ?_
 cases b2
 case' false =>
  have l2:¬ i<n:=of_decide_eq_false hb2.symm
  rw [List.take_of_length_le (by omega)] at hy
  subst hy
  refine sU<|Sy.exit<|Sy.then_exit<|Sy.then_exit<|Sy.in_exit<|Sy.then_<|sC ?_
  refine sp rfl<|sp rfl ?_
  refine sG<|Sy.ret ?_
  exact rV (.int .u64 ((said b:Nat):Int)) rfl
 have l2:i<n:=of_decide_eq_true hb2.symm
 obtain ⟨u,hu⟩:∃ u,b[i]? = some u:=⟨_,List.getElem?_eq_getElem (by omega)⟩
 obtain ⟨g,o,rfl,hq⟩:=h5 (by intro e; rw [e] at hu; cases hu)
 have ha:a<72057594037927936:=by rw [hy]; exact said_lt8 b i (by omega)
 have hu2:=u.toNat_lt
 refine sT<|Sy.skip<|Sy.then_<|Sy.seq<|Sy.block<|Sy.region ?_
 refine sp rfl<|sS (.int .u64 ((256*a:Nat):Int)) (Quiet.pure (exec_int .mul _ _ _ .u64 _ _ _ rfl rfl rfl (int_mul _ _ _ _ _ ((wrap_u64 (by omega) (by omega)).trans (by omega)))))<|sp rfl<|sp rfl<|sS (.pointer (some ⟨g,o+i*1,none⟩)) (Quiet.pure (exec_at 22 5 _ _ g o n cp i 1 .i64 rfl rfl rfl Tryz.underlying22 kF l2))<|sS (bv u) (Quiet.thereOne g (o+i*1) 5 _ _ rfl kR (hq i u hu).1 _ (by rw [Nat.mul_one]; exact (hq i u hu).2) Tryz.underlying5 rfl)<|sS (.int .u64 ((u.toNat:Nat):Int)) (Quiet.pure (λw=>conv_86 w _ _ _ u rfl rfl))<|sS (.int .u64 ((256*a+u.toNat:Nat):Int)) (Quiet.pure (exec_int .add _ _ _ .u64 _ _ _ rfl rfl rfl (int_add _ _ _ _ _ ((wrap_u64 (by omega) (by omega)).trans (by omega)))))<|sp rfl ?_
 refine Sy.nil<|Sy.in_<|Sy.then_<|Sy.region ?_
 refine sp rfl<|sS (.int .i64 ((i+1:Nat):Int)) (Quiet.pure (exec_int .add _ _ _ .i64 _ _ _ rfl rfl rfl (int_add _ _ _ _ _ ((wrap_i64 (by omega) (by omega)).trans (by omega)))))<|sp rfl ?_
 refine Sy.nil ?_
 exact Sy.againT (256*a+u.toNat) l2 (by show 256*a+u.toNat=_; rw [hy,said_take b i u hu]) (all_cons kR (all_cons kR (all_cons kR all_nil))) (λw h=>h)
def TrR (L:Blocks) (b:Bool) (v:Value) (M:Blocks):Prop:=∃ N,M=L++N∧BytR (rdB N) v (rS b)
theorem truth13_any (w0:Base) (L:Blocks) (b:Bool) (w:World) (hw:St w0 w L):Calls Tryz.prog 47 #[.bool b] w (Turns w0 (TrR L b)):=by
 refine Sy.enterT (args:=[.bool b]) hw Tryz.func47 rfl kL ?_
 refine sC ?_
 refine sP (.slice none 0 0) ?_
 refine sG<|Sy.seq<|sC ?_
 refine sp rfl ?_
 refine sG ?_
 cases b
 case' true =>
  refine sT<|sC ?_
  refine Sy.make kR 5 (([1]:Byt).map bv).toArray (λg=>.slice (some ⟨g,0,none⟩) 1 1) kF (λg1=>?_)
  refine sp rfl ?_
  refine sG<|Sy.ret<|Sy.then_ret ?_
  exact Sy.retT1 _ rfl (.inl (show _=some (.slice (some ⟨g1,0,none⟩) 1 1) by kernel_rfl)) (λ_ h=>h) ⟨[(g1,5,(([1]:Byt).map bv).toArray)],rfl,byt_blk (b:=[1]) (λj v hv=>⟨_,_,List.mem_singleton.2 rfl,hv⟩) rfl (by decide)⟩
 refine sU<|Sy.skip<|Sy.then_<|sC ?_
 refine sP (.slice none 0 0) ?_
 refine sG<|Sy.ret ?_
 exact Sy.retT1 L rfl (.inl (show _=some (.slice none 0 0) by kernel_rfl)) (λ_ h=>h) ⟨[],(List.append_nil _).symm,BytR.nil _⟩
theorem takes13_any (w:World) (x:Opn) (hok:okO x) (v:Value) (hv:BytR (rdW w) v x.2):Calls Tryz.prog 29 #[.agg #[bv x.1,v]] w (Gets w (.int .i64 ((needs x:Nat):Int))):=by
 have hc:=x.1.toNat_lt
 obtain ⟨rA,rn,rc,rfl,r2,r3,r4,r5⟩:=hv
 refine Sy.enter (args:=[.agg #[bv x.1,.slice rA rn rc]]) Tryz.func29 rfl kL ?_
 refine sC ?_
 refine sM 73 #[bv x.1,.slice rA rn rc] (λg1=>?_)
 refine sP (.int .i64 0) ?_
 refine sG<|Sy.seq<|sC ?_
 refine sP (.pointer (some ⟨g1,0,none⟩))<|sS (bv x.1) (qc 0 0 rfl rfl Tryz.underlying5) ?_
 refine sG<|Sy.block<|Sy.seq ?_
 obtain ⟨d1,hd1⟩:∃ t_:Bool,t_=decide (x.1.toNat=98∨x.1.toNat=101∨x.1.toNat=103):=⟨_,rfl⟩
 refine joinX (T:=Unit) (λ_=>[(1,ptr g1),(4,bv x.1),(5,.bool d1)]) (λ_=>[]++[(g1,73,#[bv x.1,.slice rA rn rc])]) (λ_=>True) (λ_ _=>?_) (λkont=>?_)
 case refine_2 =>
  refine sC ?_
  obtain ⟨b1,hb1⟩:∃ t_:Bool,t_=decide (x.1.toNat=98):=⟨_,rfl⟩
  refine sS (.bool b1) (Quiet.pure (exec_int .eql _ _ _ .u8 _ _ _ rfl rfl rfl (int_eql _ _ _ _ _ (by rw [hb1]; exact decide_eq_decide.2 (by omega)))))<|sp rfl ?_
  refine sG ?_
  cases b1
  case' true =>
   have l1:x.1.toNat=98:=of_decide_eq_true hb1.symm
   refine sT<|Sy.skip ?_
   exact leafX kont () trivial (by rw [hd1,decide_eq_true (.inl l1)]; exact all_cons kR (all_cons kR (all_cons kR all_nil))) (λ_ h=>h)
  have l1:¬ x.1.toNat=98:=of_decide_eq_false hb1.symm
  refine sU<|sC ?_
  obtain ⟨b2,hb2⟩:∃ t_:Bool,t_=decide (x.1.toNat=101):=⟨_,rfl⟩
  refine sS (.bool b2) (Quiet.pure (exec_int .eql _ _ _ .u8 _ _ _ rfl rfl rfl (int_eql _ _ _ _ _ (by rw [hb2]; exact decide_eq_decide.2 (by omega)))))<|sp rfl ?_
  refine sG ?_
  cases b2
  case' true =>
   have l2:x.1.toNat=101:=of_decide_eq_true hb2.symm
   refine sT<|Sy.skip ?_
   exact leafX kont () trivial (by rw [hd1,decide_eq_true (.inr (.inl l2))]; exact all_cons kR (all_cons kR (all_cons kR all_nil))) (λ_ h=>h)
  have l2:¬ x.1.toNat=101:=of_decide_eq_false hb2.symm
  refine sU<|Sy.region ?_
  have hd3:d1=decide (x.1.toNat=103):=by rw [hd1]; exact decide_eq_decide.2 (by omega)
  refine sS (.bool d1) (Quiet.pure (exec_int .eql _ _ _ .u8 _ _ _ rfl rfl rfl (int_eql _ _ _ _ _ (by rw [hd3]; exact decide_eq_decide.2 (by omega)))))<|sp rfl ?_
  refine Sy.nil ?_
  exact leafX kont () trivial (all_cons kR (all_cons kR (all_cons kR all_nil))) (λ_ h=>h)
 refine Sy.then_ ?_
 cases d1
 case' true =>
  have l1:x.1.toNat=98∨x.1.toNat=101∨x.1.toNat=103:=of_decide_eq_true hd1.symm
  refine sT<|sC ?_
  refine sP (.int .i64 2) ?_
  refine sG<|Sy.ret<|Sy.in_ret<|Sy.then_ret ?_
  have e:needs x=2:=by unfold needs; rw [if_neg (by omega),if_neg (by omega),if_pos l1]
  rw [e]
  exact rV (.int .i64 2) rfl
 have l1:¬ (x.1.toNat=98∨x.1.toNat=101∨x.1.toNat=103):=of_decide_eq_false hd1.symm
 refine sU<|sC ?_
 obtain ⟨b4,hb4⟩:∃ t_:Bool,t_=decide (x.1.toNat=104):=⟨_,rfl⟩
 refine sS (.bool b4) (Quiet.pure (exec_int .eql _ _ _ .u8 _ _ _ rfl rfl rfl (int_eql _ _ _ _ _ (by rw [hb4]; exact decide_eq_decide.2 (by omega)))))<|sp rfl ?_
 refine sG ?_
 cases b4
 case' true =>
  have l4:x.1.toNat=104:=of_decide_eq_true hb4.symm
  have hl2:x.2.length=2:=by
   have h1:okO x:=hok
   unfold okO follow at h1
   rw [if_neg (by omega),if_pos l4] at h1
   exact (Option.some.inj h1).symm
  obtain ⟨go,oo,rfl,rq⟩:=r5 (by intro e; rw [e] at hl2; cases hl2)
  obtain ⟨u0,u1,hu⟩:=len2 hl2
  have hu1:x.2[1]? = some u1:=by rw [hu]; rfl
  have hc1:=u1.toNat_lt
  refine sT<|sC ?_
  refine sP (.pointer (some ⟨g1,1,none⟩))<|sS (.slice (some ⟨go,oo,none⟩) rn rc) (qc 0 1 rfl rfl Tryz.underlying22)<|sS (.pointer (some ⟨go,oo+1*1,none⟩)) (Quiet.pure (exec_at 22 5 _ _ go oo rn rc 1 1 .i64 rfl rfl rfl Tryz.underlying22 kF (by omega)))<|sS (bv u1) (Quiet.thereOne go (oo+1*1) 5 _ _ rfl kR (rq 1 u1 hu1).1 _ (rq 1 u1 hu1).2 Tryz.underlying5 rfl)<|sS (.int .i64 ((u1.toNat:Nat):Int)) (Quiet.pure (λw=>conv_8i w _ _ _ u1 rfl rfl))<|sS (.int .i64 ((2*u1.toNat:Nat):Int)) (Quiet.pure (exec_int .mul _ _ _ .i64 _ _ _ rfl rfl rfl (int_mul _ _ _ _ _ ((wrap_i64 (by omega) (by omega)).trans (by omega)))))<|sp rfl ?_
  refine sG<|Sy.ret<|Sy.in_ret<|Sy.then_ret ?_
  have e:needs x=2*u1.toNat:=by unfold needs; rw [l4,hu]; rfl
  rw [e]
  exact rV (.int .i64 ((2*u1.toNat:Nat):Int)) rfl
 have l4:¬ x.1.toNat=104:=of_decide_eq_false hb4.symm
 refine sU<|Sy.seq ?_
 obtain ⟨d2,hd2⟩:∃ t_:Bool,t_=decide (x.1.toNat=107∨x.1.toNat=108):=⟨_,rfl⟩
 refine joinX (T:=Unit) (λ_=>[(1,ptr g1),(17,.bool d2)]) (λ_=>[]++[(g1,73,#[bv x.1,.slice rA rn rc])]) (λ_=>True) (λ_ _=>?_) (λkont=>?_)
 case refine_2 =>
  refine sC ?_
  obtain ⟨b1,hb1⟩:∃ t_:Bool,t_=decide (x.1.toNat=107):=⟨_,rfl⟩
  refine sS (.bool b1) (Quiet.pure (exec_int .eql _ _ _ .u8 _ _ _ rfl rfl rfl (int_eql _ _ _ _ _ (by rw [hb1]; exact decide_eq_decide.2 (by omega)))))<|sp rfl ?_
  refine sG ?_
  cases b1
  case' true =>
   have l5:x.1.toNat=107:=of_decide_eq_true hb1.symm
   refine sT<|Sy.skip ?_
   exact leafX kont () trivial (by rw [hd2,decide_eq_true (.inl l5)]; exact all_cons kR (all_cons kR all_nil)) (λ_ h=>h)
  have l5:¬ x.1.toNat=107:=of_decide_eq_false hb1.symm
  refine sU<|Sy.region ?_
  have hd4:d2=decide (x.1.toNat=108):=by rw [hd2]; exact decide_eq_decide.2 (by omega)
  refine sS (.bool d2) (Quiet.pure (exec_int .eql _ _ _ .u8 _ _ _ rfl rfl rfl (int_eql _ _ _ _ _ (by rw [hd4]; exact decide_eq_decide.2 (by omega)))))<|sp rfl ?_
  refine Sy.nil ?_
  exact leafX kont () trivial (all_cons kR (all_cons kR all_nil)) (λ_ h=>h)
 refine Sy.then_ ?_
 cases d2
 case' true =>
  have l5:x.1.toNat=107∨x.1.toNat=108:=of_decide_eq_true hd2.symm
  refine sT<|sC ?_
  refine sP (.int .i64 0) ?_
  refine sG<|Sy.ret<|Sy.in_ret<|Sy.then_ret ?_
  have e:needs x=0:=by unfold needs; rw [if_neg (by omega),if_neg l4,if_neg l1,if_pos l5]
  rw [e]
  exact rV (.int .i64 0) rfl
 have l5:¬ (x.1.toNat=107∨x.1.toNat=108):=of_decide_eq_false hd2.symm
 refine sU<|Sy.skip<|Sy.in_<|Sy.then_<|Sy.seq<|sC ?_
 obtain ⟨b6,hb6⟩:∃ t_:Bool,t_=decide (x.1.toNat≤64):=⟨_,rfl⟩
 refine sP (.pointer (some ⟨g1,0,none⟩))<|sS (bv x.1) (qc 0 0 rfl rfl Tryz.underlying5)<|sS (.bool b6) (Quiet.pure (exec_int .leq _ _ _ .u8 _ _ _ rfl rfl rfl (int_leq _ _ _ _ _ (by rw [hb6]; exact decide_eq_decide.2 (by omega))))) ?_
 refine sG ?_
 cases b6
 case' true =>
  have l6:x.1.toNat≤64:=of_decide_eq_true hb6.symm
  refine sT<|sC ?_
  refine sP (.int .i64 0) ?_
  refine sG<|Sy.ret<|Sy.then_ret ?_
  have e:needs x=0:=by unfold needs; rw [if_pos l6]
  rw [e]
  exact rV (.int .i64 0) rfl
 have l6:¬ x.1.toNat≤64:=of_decide_eq_false hb6.symm
 refine sU<|Sy.skip<|Sy.then_<|sC ?_
 refine sP (.int .i64 1) ?_
 refine sG<|Sy.ret ?_
 have e:needs x=1:=by unfold needs; rw [if_neg l6,if_neg l4,if_neg l1,if_neg l5]
 rw [e]
 exact rV (.int .i64 1) rfl
end Pg
end
section
namespace Pg
open Go.RowKit Sy
set_option maxRecDepth 100000
set_option maxHeartbeats 4000000
open Wr
section
variable {w0:Base} {n:Nat} {Q:Exit→Act→World→Prop} {F:Slots} {L:Blocks} {ops:Array Oper} {o:Oper} {l:List Oper}
theorem appB (hg:good ops n F o=true) (s x:Operand) (ho:o.op=.call { callee:=.builtin .append,args:=#[s,x],argTypes:=#[22,22] }) {y:Slc} {b b2:Byt} (hy:BS y b) (hs:evF F s=y.v) {A:Option Addr} {m cp:Nat} (hx:evF F x=.slice A m cp) {R:Blocks} (h2:BytR (rdC w0 R) (.slice A m cp) b2) (X:Blocks) (hL:L.Perm (X++(y.bl++[]))) (hR:∀ z∈R,z∈X) (hlen:b.length+b2.length≤70368744177664)
  (h:∀ y':Slc,BS y' (b++b2)→wpS Tryz.prog w0 n ops Q (putF F o.dst y'.v) (X++(y'.bl++[])) l):wpS Tryz.prog w0 n ops Q F L (o::l):=by
 have h20:=h2
 obtain ⟨A',m',cp',e,h3,h4,h5,h6⟩:=h2
 injection e with e1 e2 e3
 subst e1 e2 e3
 refine Sy.permS hL ?_
 exact Sy.appendM hg 22 5 _ _ 1 1 Tryz.underlying22 Cu.info_u8 rfl rfl rfl rfl (by decide) s x ho hy hs (byL_one b2) (byL_oneC b2) A m cp (by rw [byL_len,h3]) h4 hx (λr=>h20.from (λz hz=>List.mem_append_left _ (hR z hz))) (by rw [byL_len]; omega) (by rw [byL_len]; simp only [maxLen]; omega) (λy' hy'=>h y' (by
  show y'.Is 5 1 _
  rw [byL_app]
  exact hy'))
theorem appT (hg:good ops n F o=true) (s x:Operand) (ho:o.op=.call { callee:=.builtin .append,args:=#[s,x],argTypes:=#[23,23] }) {y:Slc} {zs ys:List (Value×Byt)} (hy:y.Is 22 1 (zs.map λz=>[z.1])) (hs:evF F s=y.v) {A:Option Addr} {m cp:Nat} (hx:evF F x=.slice A m cp) {R:Blocks} (h2:Arg (rdC w0 R) (rdC w0 R) (.slice A m cp) ys) (X:Blocks) (hL:L.Perm (X++(y.bl++[]))) (hR:∀ z∈R,z∈X) (hlen:zs.length+ys.length≤1000000000000)
  (h:∀ y':Slc,y'.Is 22 1 ((zs++ys).map λz=>[z.1])→wpS Tryz.prog w0 n ops Q (putF F o.dst y'.v) (X++(y'.bl++[])) l):wpS Tryz.prog w0 n ops Q F L (o::l):=by
 obtain ⟨A',m',cp',e,h3,h4,h5,h6⟩:=h2
 injection e with e1 e2 e3
 subst e1 e2 e3
 refine Sy.permS hL ?_
 refine Sy.appendM (ys:=ys.map λz=>[z.1]) hg 23 22 _ _ 1 24 Tryz.underlying23 info_sl rfl rfl rfl rfl (by decide) s x ho hy hs (λy hy=>by obtain ⟨z,_,rfl⟩:=List.mem_map.1 hy; rfl) (λy hy u hu=>?_) A m cp (by rw [List.length_map,h3]) h4 hx (λr w hw=>?_) (by rw [List.length_map]; omega) (by rw [List.length_map]; simp only [maxLen]; omega) (λy' hy'=>h y' (by rw [List.map_append]; exact hy'))
 ·obtain ⟨z,hz,rfl⟩:=List.mem_map.1 hy
  rw [List.mem_singleton.1 hu]
  obtain ⟨i,hi⟩:=List.getElem?_of_mem hz
  obtain ⟨g,o,_,hq⟩:=h6 (by intro e; rw [e] at hz; cases hz)
  exact (hq i z hi).2.cells.2
 ·have e1:∀ l:List (Value×Byt),(l.map λz=>[z.1]).flatten=l.map (·.1):=λl=>by
   induction l with
   | nil=>rfl
   | cons a l ih=>show a.1::(l.map λz=>[z.1]).flatten=_; rw [ih]; rfl
  rw [e1]
  rcases ys with _ | ⟨z,l⟩
  ·exact .inl rfl
  ·obtain ⟨g,o,e,hq⟩:=h6 (by simp)
   subst e
   refine .inr ⟨_,rfl,λj u hj=>?_⟩
   rw [addr_off]
   rw [List.getElem?_map] at hj
   cases hx:(z::l)[j]? with
   | none=>rw [hx] at hj; cases hj
   | some x =>
    rw [hx] at hj
    cases hj
    exact (rdC_world hw (λb hb=>List.mem_append_left _ (hR b hb)) _ _ _ (hq j x hx).1).2
end
end Pg
end
section
namespace Pg
open Go.RowKit Sy
set_option maxRecDepth 100000
set_option maxHeartbeats 4000000
open Wr
def TxR (L:Blocks) (d:Byt) (v:Value) (M:Blocks):Prop:=∃ y:Slc,v=y.v∧M=L++y.bl∧BS y d
theorem blk_key {w0:Base} {X:Blocks} {g n:Nat} {t:TypeId} {k:Byt} (hX:(g,t,(k.map bv).toArray)∈X) (hk:k.length=n) (hn:n≤1000000):BytR (rdC w0 X) (.slice (some ⟨g,0,none⟩) n n) k:=byt_blk (λj v hv=>.inr ⟨_,_,hX,hv⟩) hk hn
theorem blk_row {w0:Base} {X:Blocks} {g:Nat} {t:TypeId} {k:Byt} (hX:(g,t,(k.map bv).toArray)∈X):XAt (rdC w0 X) g 0 (k.map bv):=λj u hu=>.inr ⟨_,_,hX,by rw [Nat.zero_add,List.getElem?_toArray]; exact hu⟩
theorem text13_any (w0:Base) (L:Blocks) (d:Byt) (hd:d.length=32) (w:World) (hw:St w0 w L):Calls Tryz.prog 18 #[.agg (d.map bv).toArray] w (Turns w0 (TxR L d)):=by
 have hml:(d.map bv).length=32:=by rw [List.length_map,hd]
 refine Sy.enterT (args:=[.agg (d.map bv).toArray]) hw Tryz.func18 rfl kL ?_
 refine sC ?_
 refine sM 25 (d.map bv).toArray (λg1=>?_) kR (λw=>run_boxR rfl rfl (by kernel_rfl) hml w)
 obtain ⟨X,hX⟩:∃ X,X=L++[(g1,25,(d.map bv).toArray)]:=⟨_,rfl⟩
 rw [← hX]
 have h1:(g1,25,(d.map bv).toArray)∈X:=by rw [hX]; simp
 refine sP (.slice none 0 0) ?_
 refine sA ?_
 refine sP (.slice none 0 0) ?_
 refine sG<|Sy.seq<|sC ?_
 refine sP (.int .i64 0) ?_
 refine sG<|Sy.block ?_
 refine Sy.loopT (Y:=Slc) 32 (λi y=>[(1,ptr g1),(3,y.v),(4,.int .i64 (i:Int))]) (λ_ y=>X++(y.bl++[])) (λi y=>BS y (d.take i)) nilS (by rw [List.take_zero]; exact Slc.Is.nil _ _) (all_cons kR (all_cons kR (all_cons kR all_nil))) (λw h=>by show St _ w (X++([]++[])); simpa using h) (λi y hi hy=>?_)
 refine Sy.seq<|sC ?_
 obtain ⟨b2,hb2⟩:∃ t_:Bool,t_=decide (i<32):=⟨_,rfl⟩
 refine sp rfl<|sS (.bool b2) (Quiet.pure (exec_int .lss _ _ _ .i64 _ _ _ rfl rfl rfl (int_lss _ _ _ _ _ (by rw [hb2]; exact decide_eq_decide.2 (by omega))))) ?_
 refine sG ?_
 cases b2
 case' false =>
  have l2:¬ i<32:=of_decide_eq_false hb2.symm
  rw [List.take_of_length_le (by omega)] at hy
  refine sU<|Sy.exit<|Sy.then_exit<|Sy.then_exit<|Sy.in_exit<|Sy.then_<|sC ?_
  refine sp rfl<|sp rfl ?_
  refine sG<|Sy.ret ?_
  exact Sy.retT1 (L++y.bl) rfl (.inl (show _=some y.v by kernel_rfl)) (λw h=>by
   rw [hX] at h
   exact (Sy.St.parts (ls:=[L,[(g1,25,(d.map bv).toArray)],y.bl]) (ms:=[L,y.bl]) [[(g1,25,(d.map bv).toArray)]] [0,2,1] kR rfl (by simp) (by simp) h)) ⟨y,rfl,rfl,hy⟩
 have l2:i<32:=of_decide_eq_true hb2.symm
 obtain ⟨u,hu⟩:∃ u,d[i]? = some u:=⟨_,List.getElem?_eq_getElem (by omega)⟩
 refine sT<|Sy.skip<|Sy.then_<|Sy.seq<|Sy.block<|Sy.region ?_
 refine sp rfl<|sp rfl<|sS (.pointer (some ⟨g1,0+i*1,none⟩)) (Quiet.pure (exec_atA 25 5 _ _ g1 0 32 i 1 .i64 rfl rfl rfl Tryz.underlying25 kF l2))<|sS (bv u) (cellC (R:=X) (by
  have:=blk_row (w0:=w0.inn) h1 i (bv u) (by rw [List.getElem?_map,hu]; rfl)
  rwa [← Nat.mul_one i] at this) (λb hb=>List.mem_append_left _ hb) rfl Tryz.underlying5) ?_
 refine Sy.make kR 5 (([u]:Byt).map bv).toArray (λg=>.slice (some ⟨g,0,none⟩) 1 1) kF (λg2=>?_)
 refine appB (y:=y) (b2:=[u]) (A:=some ⟨g2,0,none⟩) (m:=1) (cp:=1) (X:=X++[(g2,5,(([u]:Byt).map bv).toArray)]) (R:=X++[(g2,5,(([u]:Byt).map bv).toArray)]) kR _ _ rfl hy kR kR (blk_key (t:=5) (k:=[u]) (by simp) rfl (by decide)) (Sy.flat_perm (ls:=[X,y.bl,[(g2,5,(([u]:Byt).map bv).toArray)]]) (ms:=[X,[(g2,5,(([u]:Byt).map bv).toArray)],y.bl]) [0,2,1] kR rfl (by simp) (by simp)) (λ_ h=>h) (by rw [List.length_take]; simp; omega) (λy1 hy1=>?_)
 refine sp rfl ?_
 refine Sy.nil<|Sy.in_<|Sy.then_<|Sy.region ?_
 refine sp rfl<|sS (.int .i64 ((i+1:Nat):Int)) (Quiet.pure (exec_int .add _ _ _ .i64 _ _ _ rfl rfl rfl (int_add _ _ _ _ _ ((wrap_i64 (by omega) (by omega)).trans (by omega)))))<|sp rfl ?_
 refine Sy.nil ?_
 exact Sy.againT y1 l2 (by
  show BS y1 (d.take (i+1))
  rw [List.take_add_one,hu]
  exact hy1) (all_cons kR (all_cons kR (all_cons kR all_nil))) (λw h=>(Sy.St.parts (ls:=[X,[(g2,5,(([u]:Byt).map bv).toArray)],y1.bl]) (ms:=[X,y1.bl]) [[(g2,5,(([u]:Byt).map bv).toArray)]] [0,2,1] kR rfl (by simp) (by simp) h))
end Pg
end
end Go.Proofs.YtnbenphcpenbeaaGreatDoor
