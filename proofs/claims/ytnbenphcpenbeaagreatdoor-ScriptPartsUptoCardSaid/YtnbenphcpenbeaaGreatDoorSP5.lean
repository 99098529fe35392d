/-
  Texts of ours, put together: CrvS, CrvT, CrvU, ScBase, ScOps, SigA, ScEq, ScB32, SigB, SymX, SigC, SymV, ScProd, ScMul, Concat, SigD, SigE, CrvY, RefNumber, CrvE, CrvZ, SigF, SigG, ScpO, ScpP, FeLift, ScpX, ScpQ, ScpR, ScpN, ScriptPartsL.
-/
import Derived.Test.YtnbenphcpenbeaaGreatDoorSP4
set_option linter.unusedVariables false
set_option linter.unusedSimpArgs false
namespace Go.Proofs.YtnbenphcpenbeaaGreatDoor
section
namespace Cu
open Go.RowKit Sy
set_option maxRecDepth 100000
set_option maxHeartbeats 4000000
def chV (b off m c:Nat):Value:=.slice (some ⟨b,off+32*c*13,none⟩) (szC m c) (szC m c)
def chE (b off m:Nat) {N:Nat} (x:Fin N):Array Value:=#[chV b off m x.val]
set_option maxHeartbeats 1000000 in
theorem chunk_any (w : World) (A : Option Addr) (m cap : Nat) :
    Calls Tryz.prog 98 #[.slice A m cap,.int .i64 32] w (GetsN w λv M=>∃ g1 g2,v=.func (.func 142) #[] #[.pointer (some ⟨g1,0,none⟩),.pointer (some ⟨g2,0,none⟩)]∧M=[(g1,123,#[.slice A m cap]),(g2,3,#[.int .i64 32])]):=by
  go_enter Tryz.func98,Tryz.ntmps98
  go_wp2
  go_ret
  refine ⟨_,_,rfl,⟨_,_,rfl,rfl⟩,below_alloc2 w _ _,λg t cs hm=>?_,?_⟩
  · simp only [List.mem_cons,List.not_mem_nil,or_false,Prod.mk.injEq] at hm
    rcases hm with ⟨rfl,rfl,rfl⟩ | ⟨rfl,rfl,rfl⟩
    · exact ⟨Nat.le_refl _,(Blk.new w _ _).alloc _⟩
    · exact ⟨by omega,blk_new2 w _ _ _⟩
  · simp
theorem chunk1_in (n l Bs Bn n₀ b off m cap N : Nat) (hN0 : N = (m + 31) / 32) (hm : m ≤ cap) (hm2 : m ≤ 4611686018427387904) (J Jx : List (Fin N) → World → Prop) (W : World) (hJ : AbidesFrom W.heap.size J) (hJx : AbidesFrom W.heap.size Jx)
    (hY:∀ pre x W1,J pre W1→pre.length<N→YieldAt Fence.wide (n - 1) Tryz.prog l (chE b off m x) W1 λe W'=>(e=.returned (.bool true)∧J (pre++[x]) W'∧KpL n₀ [(Bs,123,#[.slice (some ⟨b,off,none⟩) m cap]),(Bn,3,#[.int .i64 32])] W1 W')∨(e=.returned (.bool false)∧Jx (pre++[x]) W'))
    (hS:Blk W Bs 123 #[.slice (some ⟨b,off,none⟩) m cap]) (hN:Blk W Bn 3 #[.int .i64 32]) (h0:J [] W) :
    CallsIn Fence.wide n Tryz.prog 142 #[.func (.yield l) #[] #[],.pointer (some ⟨Bs,0,none⟩),.pointer (some ⟨Bn,0,none⟩)] W λe W'=>(∃ v,e=.returned v)∧((∃ ys:List (Fin N),ys.map (·.1)=List.range N∧J ys W')∨(∃ pre:List (Fin N),(∃ k,k≤N∧pre.map (·.1)=List.range k)∧Jx pre W')):=by
  refine Sy.enterP (args:=[.func (.yield l) #[] #[],.pointer (some ⟨Bs,0,none⟩),.pointer (some ⟨Bn,0,none⟩)]) Tryz.func142 rfl kL ?_
  refine sC ?_
  refine sP (.int .i64 0) ?_
  refine sG<|Sy.block ?_
  refine Sy.loopP N (λk1=>[(0,.func (.yield l) #[] #[]),(1,.pointer (some ⟨Bs,0,none⟩)),(2,.pointer (some ⟨Bn,0,none⟩)),(4,.int .i64 ((32*k1:Nat):Int))]) (λk1 w=>∃ pre:List (Fin N),pre.map (·.1)=List.range k1∧J pre w∧Blk w Bs 123 #[.slice (some ⟨b,off,none⟩) m cap]∧Blk w Bn 3 #[.int .i64 32]) (all_cons kR (all_cons kR (all_cons kR (all_cons kR all_nil)))) (λw hg=>⟨[],rfl,abides_gr hJ h0 hg,hg.blk hS,hg.blk hN⟩) (λk1 wr hk1 hz=>?_)
  clear hS hN
  obtain ⟨pre,hpre,hj,hS,hN⟩:=hz
  have hlen:pre.length=k1:=by have:=congrArg List.length hpre; rwa [List.length_map,List.length_range] at this
  refine Sy.seq<|sC ?_
  refine sP (.int .i64 ((32*k1:Nat):Int))<|sS (.slice (some ⟨b,off,none⟩) m cap) (Quiet.thereOne Bs 0 123 _ _ rfl kR hS.lt _ (hS.cell 0) Tryz.underlying123 rfl)<|sP (.int .i64 ((m:Nat):Int)) ?_
  obtain ⟨b1,hb1⟩:∃ z:Bool,z=decide (32*k1<m):=⟨_,rfl⟩
  refine sS (.bool b1) (Quiet.pure (exec_int .lss _ _ _ .i64 _ _ _ rfl rfl rfl (int_lss _ _ _ _ _ (by rw [hb1]; exact decide_eq_decide.2 (by omega))))) ?_
  refine sG ?_
  cases b1
  · have lb1:¬ (32*k1<m):=of_decide_eq_false hb1.symm
    refine sU<|Sy.exit<|Sy.then_exit<|Sy.then_exit ?_
    obtain rfl:N=k1:=by omega
    refine Sy.in_exit ?_
    exact Sy.retP rfl (λv w3 hg=>⟨⟨_,rfl⟩,.inl ⟨pre,hpre,abides_gr hJ hj hg⟩⟩) (.inr rfl)
  · have lb1 : 32 * k1 < m := of_decide_eq_true hb1.symm
    refine sT<|Sy.skip<|Sy.then_<|Sy.seq<|Sy.block<|Sy.seq ?_
    refine Sy.regionD (λj=>false) kR ?_
    refine sD 0 rfl (.int .i64 ((32:Nat):Int)) (Quiet.thereOne Bn 0 3 _ _ rfl kR hN.lt _ (hN.cell 0) Tryz.underlying3 rfl)<|sD 1 rfl (.slice (some ⟨b,off,none⟩) m cap) (Quiet.thereOne Bs 0 123 _ _ rfl kR hS.lt _ (hS.cell 0) Tryz.underlying123 rfl)<|sZ 2 rfl (.int .i64 ((32*k1:Nat):Int))<|sD 3 rfl (.slice (some ⟨b,off+(32*k1)*13,none⟩) (m - (32*k1)) (cap - (32*k1))) (Quiet.pure (exec_sl1 _ _ _ b off m cap (32*k1) 13 .i64 rfl rfl rfl kR kF (by omega) (by omega)))<|sZ 4 rfl (.int .i64 (((m - (32*k1)):Nat):Int)) ?_
    obtain ⟨sz,hsz⟩:∃ z,z=szC m k1:=⟨_,rfl⟩
    have hs:0<sz∧32*k1+sz≤m:=by rw [hsz]; unfold szC; omega
    refine sD 5 rfl (.int .i64 ((sz:Nat):Int)) (Quiet.pure (exec_min _ _ .i64 32 (m - (32*k1)) sz rfl rfl rfl (by rw [hsz]; unfold szC; omega)))<|sZ 6 rfl (.int .i64 ((sz:Nat):Int)) ?_
    refine sI ?_
    refine Sy.seq ?_
    have hx:k1<N:=by omega
    refine Sy.regionY 10 (by rintro ⟨_,_,⟨_,hv⟩,_⟩; cases hv) kR ?_
    refine sP (.func (.yield l) #[] #[])<|sS (.slice (some ⟨b,off,none⟩) m cap) (Quiet.thereOne Bs 0 123 _ _ rfl kR hS.lt _ (hS.cell 0) Tryz.underlying123 rfl)<|sP (.int .i64 ((32*k1:Nat):Int))<|sP (.int .i64 ((32*k1:Nat):Int))<|sP (.int .i64 ((sz:Nat):Int))<|sS (.int .i64 (((32*k1)+sz:Nat):Int)) (Quiet.pure (exec_int .add _ _ _ .i64 _ _ _ rfl rfl rfl (int_add _ _ _ _ _ ((wrap_i64 (by omega) (by omega)).trans (by omega)))))<|sP (.int .i64 ((32*k1:Nat):Int))<|sP (.int .i64 ((sz:Nat):Int)) ?_
    refine sS (.int .i64 (((32*k1)+sz:Nat):Int)) (Quiet.pure (exec_int .add _ _ _ .i64 _ _ _ rfl rfl rfl (int_add _ _ _ _ _ ((wrap_i64 (by omega) (by omega)).trans (by omega)))))<|sS (.slice (some ⟨b,off+(32*k1)*13,none⟩) (((32*k1)+sz) - (32*k1)) (((32*k1)+sz) - (32*k1))) (Quiet.pure (exec_sl3 _ _ _ _ _ b off m cap (32*k1) ((32*k1)+sz) ((32*k1)+sz) 13 .i64 .i64 .i64 rfl rfl rfl rfl rfl kR kF (by have:=hs; omega) (by have:=hs; omega) (by have:=hs; omega) (by have:=hs; omega))) ?_
    refine Sy.nil ?_
    refine Sy.yieldX (ro := none) rfl (by rintro ⟨_, _, ⟨_, hv⟩, _⟩; cases hv) kR kR l #[.slice (some ⟨b, off + (32 * k1) * 13, none⟩) (((32 * k1) + sz) - (32 * k1)) (((32 * k1) + sz) - (32 * k1))] kF (fun e W' => (e = .returned (.bool true) ∧ J (pre ++ [⟨k1, hx⟩]) W' ∧ Blk W' Bs 123 #[.slice (some ⟨b, off, none⟩) m cap] ∧ Blk W' Bn 3 #[.int .i64 32]) ∨ (e = .returned (.bool false) ∧ Jx (pre ++ [⟨k1, hx⟩]) W')) (fun w hg => by
            have e:chE b off m ⟨k1,hx⟩=#[.slice (some ⟨b,off+32*k1*13,none⟩) (32*k1+sz - 32*k1) (32*k1+sz - 32*k1)]:=by unfold chE chV; rw [← hsz,Nat.add_sub_cancel_left]
            have y:=hY pre ⟨k1,hx⟩ w (abides_gr hJ hj hg) (by omega)
            rw [e] at y
            exact yield_mono y (λe w' q=>q.imp (λq=>⟨q.1,q.2.1,q.2.2.2 (Bs,123,_) (by simp) (hg.blk hS),q.2.2.2 (Bn,3,_) (by simp) (hg.blk hN)⟩) id)) (λe w' q=>q.elim (λq=>⟨_,q.1⟩) (λq=>⟨_,q.1⟩)) rfl (λw2 b hr=>?_)
    cases b
    · have hx2:=hr.elim (λq=>by cases q.1) (λq=>q.2)
      refine sP (.bool true) ?_
      refine sG<|sT<|Sy.ret<|Sy.in_ret<|Sy.then_ret<|Sy.then_ret<|Sy.in_ret ?_
      exact Sy.retP rfl (λv w3 hg=>⟨⟨_,rfl⟩,.inr ⟨pre++[⟨k1,hx⟩],⟨k1+1,by omega,by rw [List.map_append,hpre,List.range_succ]; rfl⟩,abides_gr hJx hx2 hg⟩⟩) (.inl rfl)
    · clear hS hN hj
      obtain ⟨hj,hS,hN⟩:=hr.elim (λq=>q.2) (λq=>by cases q.1)
      refine sP (.bool false) ?_
      refine sG<|sU<|Sy.skip<|Sy.in_<|Sy.then_<|Sy.region ?_
      refine sP (.int .i64 ((32*k1:Nat):Int))<|sS (.int .i64 ((32:Nat):Int)) (Quiet.thereOne Bn 0 3 _ _ rfl kR hN.lt _ (hN.cell 0) Tryz.underlying3 rfl)<|sS (.int .i64 (((32*k1)+32:Nat):Int)) (Quiet.pure (exec_int .add _ _ _ .i64 _ _ _ rfl rfl rfl (int_add _ _ _ _ _ ((wrap_i64 (by omega) (by omega)).trans (by omega)))))<|sP (.int .i64 (((32*k1)+32:Nat):Int)) ?_
      refine Sy.nil ?_
      exact Sy.againP (by omega) (all_cons kR (all_cons kR (all_cons kR (all_cons kR all_nil)))) (λw3 hg=>⟨pre++[⟨k1,hx⟩],by rw [List.map_append,hpre,List.range_succ]; rfl,abides_gr hJ hj hg,hg.blk hS,hg.blk hN⟩)
theorem chunk0_in (n l Bs Bn cap : Nat) (A : Option Addr) (J Jx : List (Fin 0) → World → Prop) (W : World) (hJ : AbidesFrom W.heap.size J)
    (hS:Blk W Bs 123 #[.slice A 0 cap]) (hN:Blk W Bn 3 #[.int .i64 32]) (h0:J [] W) :
    CallsIn Fence.wide n Tryz.prog 142 #[.func (.yield l) #[] #[],.pointer (some ⟨Bs,0,none⟩),.pointer (some ⟨Bn,0,none⟩)] W λe W'=>(∃ v,e=.returned v)∧((∃ ys:List (Fin 0),ys.map (·.1)=List.range 0∧J ys W')∨(∃ pre:List (Fin 0),(∃ k,k≤0∧pre.map (·.1)=List.range k)∧Jx pre W')):=by
  refine Sy.enterP (args:=[.func (.yield l) #[] #[],.pointer (some ⟨Bs,0,none⟩),.pointer (some ⟨Bn,0,none⟩)]) Tryz.func142 rfl kL ?_
  refine sC ?_
  refine sP (.int .i64 0) ?_
  refine sG<|Sy.block ?_
  refine Sy.loopP 0 (λk1=>[(0,.func (.yield l) #[] #[]),(1,.pointer (some ⟨Bs,0,none⟩)),(2,.pointer (some ⟨Bn,0,none⟩)),(4,.int .i64 ((32*k1:Nat):Int))]) (λk1 w=>J [] w∧Blk w Bs 123 #[.slice A 0 cap]∧Blk w Bn 3 #[.int .i64 32]) (all_cons kR (all_cons kR (all_cons kR (all_cons kR all_nil)))) (λw hg=>⟨abides_gr hJ h0 hg,hg.blk hS,hg.blk hN⟩) (λk1 wr hk1 hz=>?_)
  clear hS hN
  obtain ⟨hj,hS,hN⟩:=hz
  refine Sy.seq<|sC ?_
  refine sP (.int .i64 ((32*k1:Nat):Int))<|sS (.slice A 0 cap) (Quiet.thereOne Bs 0 123 _ _ rfl kR hS.lt _ (hS.cell 0) Tryz.underlying123 rfl)<|sP (.int .i64 ((0:Nat):Int)) ?_
  obtain ⟨b1,hb1⟩:∃ z:Bool,z=decide (32*k1<0):=⟨_,rfl⟩
  refine sS (.bool b1) (Quiet.pure (exec_int .lss _ _ _ .i64 _ _ _ rfl rfl rfl (int_lss _ _ _ _ _ (by rw [hb1]; exact decide_eq_decide.2 (by omega))))) ?_
  refine sG ?_
  cases b1
  · have lb1:¬ (32*k1<0):=of_decide_eq_false hb1.symm
    refine sU<|Sy.exit<|Sy.then_exit<|Sy.then_exit ?_
    obtain rfl:k1=0:=by omega
    refine Sy.in_exit ?_
    exact Sy.retP rfl (λv w3 hg=>⟨⟨_,rfl⟩,.inl ⟨[],rfl,abides_gr hJ hj hg⟩⟩) (.inr rfl)
  · have lb1:32*k1<0:=of_decide_eq_true hb1.symm
    refine sT<|Sy.skip<|Sy.then_<|Sy.seq ?_
    exact absurd lb1 (by omega)
def TSrc (w:World) (A:Option Addr) (n:Nat) (T:Nat→Trm) (b o:Nat):Prop:=0<n→A=some ⟨b,o,none⟩∧b<w.heap.size∧∀ j,j<n→w.rangeAt b (o+j*13) (T j).cells
theorem chunk_stops (n Bs Bn n₀ b off m cap N : Nat) (A : Option Addr) (hN0 : N = (m + 31) / 32) (hm : m ≤ cap) (hm2 : m ≤ 4611686018427387904) (hA : 0 < m → A = some ⟨b, off, none⟩) (w : World) (hS : Blk w Bs 123 #[.slice A m cap]) (hN : Blk w Bn 3 #[.int .i64 32]) :
    SeqStopsK Fence.wide n Tryz.prog 142 #[.pointer (some ⟨Bs,0,none⟩),.pointer (some ⟨Bn,0,none⟩)] (chE b off m (N:=N)) (KpL n₀ [(Bs,123,#[.slice A m cap]),(Bn,3,#[.int .i64 32])]) (λys=>ys.map (·.1)=List.range N) (λpre=>∃ k,k≤N∧pre.map (·.1)=List.range k) N w:=λl J Jx W hW hJ hJx hY h0=>by
  have hS':=hS.below hW hS.lt
  have hN':=hN.below hW hN.lt
  rcases Nat.eq_zero_or_pos m with h | h
  · subst h
    obtain rfl:N=0:=hN0
    exact chunk0_in n l Bs Bn cap A J Jx W hJ hS' hN' h0
  · obtain rfl:=hA h
    exact chunk1_in n l Bs Bn n₀ b off m cap N hN0 hm hm2 J Jx W hJ hJx hY hS' hN' h0
end Cu
end
section
namespace Cu
open Go.RowKit Sy
theorem rangeN2 {w w':World} {g o o':Nat} {vs:List Value} (h:w.rangeAt g o vs) (hb:Below w.heap.size w w') (hg:g<w.heap.size) (e:o'=o):w'.rangeAt g o' vs:=λj v hj=>by
 rw [e]
 exact (Below.cell (p:=⟨g,o+j,none⟩) hb hg).trans (h j v hj)
set_option maxHeartbeats 4000000 in
set_option maxRecDepth 100000 in
theorem multi_any (w:World) (A:Option Addr) (b o n c:Nat) (T:Nat→Trm) (hnc:n≤c) (hc:n≤4611686018427387904) (hok:∀ j,(T j).ok) (hT:TSrc w A n T b o):Calls Tryz.prog 67 #[.slice A n c] w (Gets w (ptv (Ec.sumL finv (λt=>Ec.nm finv (T t).kn (T t).pt) (List.range n)))):=by
 obtain ⟨N,hN0⟩:∃ N,N=(n+31) / 32:=⟨_,rfl⟩
 obtain ⟨R,hR⟩:∃ R,R=ptJ (chL T n (List.range N)):=⟨_,rfl⟩
 have hRs:Ec.sumL finv (λt=>Ec.nm finv (T t).kn (T t).pt) (List.range n)=R:=by rw [hR,hN0]; exact (ptJ_rep (chL_all T n)).symm
 rw [hRs]
 have hRo:Ec.On R:=by rw [← hRs]; exact Ec.On.sumL fld _ λx _=>(T x).on.nm fld _
 obtain ⟨rx,ry,ri,_,_,eR,_,_⟩:=ptv_raw R hRo
 rw [eR]
 refine Sy.enterM (args:=[.slice A n c]) Tryz.func67 rfl kL ?_
 refine sC ?_
 refine sM 83 (pcs 0 0 false) (λg0=>?_)
 refine sA ?_
 refine sM 157 (tcs 0 0 0) (λg1=>?_)
 refine sG<|Sy.seq<|sC ?_
 refine sP (.slice A n c) ?_
 refine Sy.callN kR 98 #[.slice A n c,.int .i64 32] kF (λv M=>∃ g1 g2,v=.func (.func 142) #[] #[.pointer (some ⟨g1,0,none⟩),.pointer (some ⟨g2,0,none⟩)]∧M=[(g1,123,#[.slice A n c]),(g2,3,#[.int .i64 32])]) (λw _=>chunk_any w _ _ _) (λv M hR0=>?_)
 obtain ⟨u1,u2,rfl,rfl⟩:=hR0
 refine sG<|Sy.block ?_
 refine Sy.rangeF (α:=Fin N) 142 #[.pointer (some ⟨u1,0,none⟩),.pointer (some ⟨u2,0,none⟩)] kR kR (enters_of Tryz.func142 kR rfl) (chE b o n) [(u1,123,(#[.slice A n c])),(u2,3,(#[.int .i64 32]))] (λys=>ys.map (·.1)=List.range N) (λpre=>∃ k,k≤N∧pre.map (·.1)=List.range k) N (λ_=>rfl) (by decide) [g0,g1,u1,u2] (λ_=>True) (trivial) (λpre=>[(g0,83,(pcs 0 0 false)),(g1,157,(tcs ((chL T n (pre.map (·.1))).x.val) ((chL T n (pre.map (·.1))).y.val) ((chL T n (pre.map (·.1))).z.val))),(u1,123,(#[.slice A n c])),(u2,3,(#[.int .i64 32]))]) (λpre=>[(g0,83,(pcs 0 0 false)),(g1,157,(tcs ((chL T n (pre.map (·.1))).x.val) ((chL T n (pre.map (·.1))).y.val) ((chL T n (pre.map (·.1))).z.val))),(u1,123,(#[.slice A n c])),(u2,3,(#[.int .i64 32]))]) (λ_=>False) [true,true,true,true] kR (λ_=>rfl) ?_ ?_ 0 (λx gs=>[(3,.pointer (some ⟨g1,0,none⟩)),(4,chV b o n x.val)]) (λx gs=>[]) (λx gs h=>by cases gs with | nil=>rfl | cons _ _=>cases h) ?_ ?_ ?_ ?_
 ·intro w hw
  have hS:=hw.get (i:=2) rfl
  have hN:=hw.get (i:=3) rfl
  exact ⟨w,Below.refl _ _,chunk_stops 8 u1 u2 _ b o n c N A hN0 hnc hc (λh=>(hT h).1) w hS hN⟩
 ·intro p hp pre
  simp only [List.mem_cons,List.not_mem_nil,or_false] at hp ⊢
  rcases hp with rfl | rfl <;> simp
 ·intro l fz pre x
  refine Sy.regionR (by rintro ⟨_,_,h⟩; exact h) kR ⟨_,rfl⟩ ?_
  refine sP (chV b o n x.val) ?_
  refine Sy.nil ?_
  exact Sy.apN [] rfl (all_cons kR (all_cons kR all_nil)) [true,true,true,true] kR
 ·intro l fz pre x gs hgs hlen hH
  obtain rfl:gs=[]:=List.eq_nil_of_length_eq_zero hgs
  have hxN:=x.isLt
  have hn0:0<n:=by omega
  refine Sy.block ?_
  refine Sy.regionRD (by rintro ⟨_,_,h⟩; exact h) kR ⟨_,rfl⟩ (λj=>j == 4) kR ?_
  refine sD 0 rfl (tv ((chL T n (pre.map (·.1))).x.val) ((chL T n (pre.map (·.1))).y.val) ((chL T n (pre.map (·.1))).z.val)) (qL 1 g1 0 12 157 157 (tcs ((chL T n (pre.map (·.1))).x.val) ((chL T n (pre.map (·.1))).y.val) ((chL T n (pre.map (·.1))).z.val)) rfl Tryz.underlying157)<|sZ 1 rfl (chV b o n x.val) ?_
  obtain ⟨j1,hj1⟩:∃ z:J,z=muJ (λj=>T (x.val*32+j)) (szC n x.val) 64:=⟨_,rfl⟩
  refine sD 2 rfl (tv j1.x.val j1.y.val j1.z.val) (qG 100 #[chV b o n x.val] (λw hw=>by rw [hj1]; exact multi_c w b (o+32*x.val*13) (szC n x.val) (szC n x.val) (λj=>T (x.val*32+j)) (Nat.lt_of_lt_of_le (hT hn0).2.1 hw.below.size) (by unfold szC; omega) (λj=>hok _) (λj hj=>rangeN2 ((hT hn0).2.2 (x.val*32+j) (by unfold szC at hj; omega)) hw.below (hT hn0).2.1 (by omega)))) ?_
  obtain ⟨j2,hj2⟩:∃ z:J,z=addJ (chL T n (pre.map (·.1))) j1:=⟨_,rfl⟩
  refine sD 3 rfl (tv j2.x.val j2.y.val j2.z.val) (qF 99 #[tv ((chL T n (pre.map (·.1))).x.val) ((chL T n (pre.map (·.1))).y.val) ((chL T n (pre.map (·.1))).z.val),tv j1.x.val j1.y.val j1.z.val] (λw=>by rw [hj2]; exact addJ_c w (chL T n (pre.map (·.1))) j1))<|sX 4 rfl 1 g1 157 (tcs ((chL T n (pre.map (·.1))).x.val) ((chL T n (pre.map (·.1))).y.val) ((chL T n (pre.map (·.1))).z.val)) (tcs j2.x.val j2.y.val j2.z.val) (wS 0 157 (tcs j2.x.val j2.y.val j2.z.val) rfl) ?_
  refine sE ?_
  refine Sy.in_ ?_
  exact Sy.bpN [true,true,true,true] (M:=[(g0,83,(pcs 0 0 false)),(g1,157,(tcs j2.x.val j2.y.val j2.z.val)),(u1,123,(#[.slice A n c])),(u2,3,(#[.int .i64 32]))]) kR (bcons rfl (bcons (beq (by rw [hj2,hj1,List.map_append,List.map_singleton,chL_snoc]; rfl)) (bcons rfl (bcons rfl rfl)))) (trivial)
 ·intro D fz xs hS hH hD hm
  have hS0:xs.map (·.1)=List.range N:=hS
  refine Sy.in_<|sB ?_
  refine sS (tv ((chL T n (xs.map (·.1))).x.val) ((chL T n (xs.map (·.1))).y.val) ((chL T n (xs.map (·.1))).z.val)) (qL 1 g1 0 12 157 157 (tcs ((chL T n (xs.map (·.1))).x.val) ((chL T n (xs.map (·.1))).y.val) ((chL T n (xs.map (·.1))).z.val)) rfl Tryz.underlying157)<|sS (pv rx ry ri) (qF 101 #[tv ((chL T n (xs.map (·.1))).x.val) ((chL T n (xs.map (·.1))).y.val) ((chL T n (xs.map (·.1))).z.val)] (λw=>by rw [← eR,hR, ← hS0]; exact point_c w _))<|sW 0 g0 83 (pcs 0 0 false) (pcs rx ry ri) (wS 0 83 (pcs rx ry ri) rfl) ?_
  refine sG<|Sy.ret ?_
  exact Sy.retM1 (v:=pv rx ry ri) rfl (.inl (Res.cell (ty':=83) g0 0 (pcs rx ry ri) _ kR kR Tryz.underlying83 rfl kR kR)) hD hm
 ·intro D fz pre hS hx hD hm
  exact hx.elim
end Cu
end
section
namespace Cu
open Go.RowKit Sy
def pX:Pt→Nat
 | none=>0
 | some (x,_)=>x.val
def pY:Pt→Nat
 | none=>0
 | some (_,y)=>y.val
def pI:Pt→Bool
 | none=>true
 | some _=>false
theorem ptv_parts:∀ P:Pt,ptv P=pv (pX P) (pY P) (pI P)
 | none=>rfl
 | some (_,_)=>rfl
theorem pX_lt:∀ P:Pt,pX P<K4
 | none=>by show 0<_; decide
 | some (x,_)=>lt4 x
theorem pY_lt:∀ P:Pt,pY P<K4
 | none=>by show 0<_; decide
 | some (_,y)=>lt4 y
theorem dec_parts:∀ {P:Pt},Ec.On P→dec (pX P) (pY P) (pI P)=P
 | none,_=>dec_zero
 | some (x,y),h=>dec_fin x y h
end Cu
end
section
namespace Sc
open Go.RowKit Go.Lib
end Sc
end
section
namespace Sc
open Go.RowKit Go.Lib
set_option maxRecDepth 100000
set_option maxHeartbeats 1000000 in
theorem negF_any (w:World) (x:Nat) (hx:x<(2^256)):Calls Tryz.prog 55 #[fv x] w λe w'=>e=.returned (fv (negP x))∧Below w.heap.size w w':=by
 obtain ⟨o,ho⟩:∃ o,o=115792089237316195423570985008687907852837564279074904382605163141518161494337:=⟨_,rfl⟩
 obtain ⟨p,hp⟩:∃ p,p=x%pM:=⟨_,rfl⟩
 obtain ⟨z,hz⟩:∃ z,z=negP x:=⟨_,rfl⟩
 have lp:p<115792089237316195423570985008687907852837564279074904382605163141518161494337:=by rw [hp]; exact mod_lt_p x
 obtain ⟨s,hs⟩:∃ s,s=o - p:=⟨_,rfl⟩
 have hzs:z=s%pM:=by rw [hz,negP,hs,ho,hp]; rfl
 have co:=λw=>order_at w o ho
 have cx:∀ w,Calls Tryz.prog 79 #[fv x] w λe w'=>e=.returned (fv p)∧Below w.heap.size w w':=by
  intro w; rw [hp]; exact norm_any w x hx
 have cm:=λw=>minus_fv w o p s 0 (by omega) (by omega) (by omega) (by omega)
 have cz:∀ w,Calls Tryz.prog 79 #[fv s] w λe w'=>e=.returned (fv z)∧Below w.heap.size w w':=by
  intro w; rw [hzs]; exact norm_any w s (by omega)
 obtain ⟨x0,x1,x2,x3,fx⟩:=words_fv x hx
 have FX:=Lib.hid fx
 rw [fx, ← hz]
 clear fx hx ho hp hz lp hs hzs
 go_enter Tryz.func55,Tryz.ntmps55
 go_wp2
 refine wp_region_G (λj=>j == 8) kR ?_
 try simp only [Act.put]
 refine tkw 0 rfl (YieldsG.call (v:=fv o) (by rfl) 78 _ (λw9=>by go_simp; try (first | with_reducible rfl | rfl)) (λw9 h9=>co w9)) ?_
 try simp only [Act.put,aA,aZ,aS]
 refine tkw 1 rfl (YieldsG.loadF (by rfl) _ _ rfl (w.heap.size) rfl (x) _ _ ((Blk.new w _ _).alloc _) (FX.out) Tryz.underlying36 rfl kR) ?_
 try simp only [Act.put,aA,aZ,aS]
 refine tkw 2 rfl (YieldsG.call (v:=fv p) (by rfl) 79 _ (λw9=>by go_simp; try (first | with_reducible rfl | rfl)) (λw9 h9=>cx w9)) ?_
 try simp only [Act.put,aA,aZ,aS]
 refine tkw 3 rfl (YieldsG.call (v:=.tuple #[fv s,.int .u64 ((0:Nat):Int)]) (by rfl) 77 _ (λw9=>by go_simp; try (first | with_reducible rfl | rfl)) (λw9 h9=>cm w9)) ?_
 try simp only [Act.put,aA,aZ,aS]
 refine tk 4 rfl ?_
 try simp only [Act.put,aA,aZ,aS]
 refine tk 5 rfl ?_
 try simp only [Act.put,aA,aZ,aS]
 refine wpAnyG_takeA 6 rfl kR (λ_ _ _ h=>h) (λ_=>YieldsG.pure (by rfl) (λw9 _=>by go_simp; try with_reducible rfl)) ?_
 try simp only [Act.put,aA,aZ,aS]
 refine wpAnyG_sole 7 rfl kR (by rfl) (λw3 h3 K hK=>?_)
 go_simp
 refine hK _ _ (λ_=>gr_alloc _ _) ?_
 clear hK K
 try simp only [Act.put,aA,aZ,aS]
 refine wpAnyG_store 8 rfl kR (by rfl) _ _ _ rfl (w3.heap.size) (fcs (s)) rfl rfl _ _ (Blk.new w3 _ _) kR (by rfl) (fcs_one _) rfl (λw6 h6 w7 hB7 hL7=>?_)
 try simp only [Act.put]
 refine wpAnyG_takeA 9 rfl kR (λ_ _ _ h=>h) (λ_=>YieldsG.pure (by rfl) (λw9 _=>by go_simp; try with_reducible rfl)) ?_
 try simp only [Act.put,aA,aZ,aS]
 refine wpAnyG_done kR (λw8 h8=>?_)
 have BS:=Gr.blk h8 hL7
 have hsz:w.heap.size+2≤w3.heap.size:=by have:=h3.size; simp at this; omega
 have BR:Blk w8 (w.heap.size+1) 36 _:=Gr.blk h8 (Blk.below (B:=w3.heap.size) (Gr.blk h6 (Blk.alloc (Gr.blk h3 (blk_new2 w _ _ _)) _)) (hB7 _ (Nat.le_refl _)) (by omega))
 have hB:Below w.heap.size w w8:=Below.gr ((Below.gr ((Below.gr (below_alloc2 w _ _) h3).alloc (by omega) _) h6).trans (hB7 _ (by omega))) h8
 clear h3 h6 hB7 hL7 h8 cm co cx
 go_wp2_with (first | ((with_reducible refine here_load (d:=some 12) ?_); refine wpList_load_fv rfl _ _ rfl (w3.heap.size) rfl (s) _ _ _ (BS) (fv_fcs s) Tryz.underlying36 rfl kR ?_))
 refine (cz _).mono ?_
 rintro e w9 ⟨rfl,hb⟩
 have BR9:=Gr.blk hb BR
 have hB9:=Below.gr hB hb
 go_wp2_with (first | ((with_reducible refine here_store ?_); refine wpList_store_blk rfl _ _ _ rfl (w.heap.size+1) (fcs (z)) rfl rfl _ _ (BR9) kR (by rfl) (fcs_one _) ?_; intro wz hL hBz hKz))
 exact bodyPost_ret (results_cell_row rfl _ _ (w.heap.size+1) _ _ (0,0) _ rfl hL Tryz.underlying36 rfl kR) rfl ⟨rfl,hB9.trans (hBz _ (by omega))⟩
end Sc
end
section
namespace Cu
open Go.RowKit Sy
set_option maxRecDepth 100000
set_option maxHeartbeats 4000000
end Cu
end
section
namespace Sc
open Go.RowKit Go.Lib
theorem run_equalIn_fv (W:World) (n m:Nat) (hn:n<(2^256)) (hm:m<(2^256)):(Op.equalIn 10000 36 (fv n) (fv m)).run Tryz.prog W=.ok (decide (n=m)) W:=by
 rw [fv_wl,fv_wl]
 have h:=run_equalIn_words W 9998 36 26 4 Tryz.underlying36 Tryz.underlying26 (λW=>by kernel_rfl) (wl n) (wl m) rfl rfl
 rw [wl_beq hn hm] at h
 exact h
theorem run_neq_fv (W:World) (n m:Nat) (hn:n<(2^256)) (hm:m<(2^256)):(binOp .neq 36 (fv n) (fv m)).run Tryz.prog W=.ok (.bool (decide (n≠m))) W:=by
 have h:=run_equalIn_fv W n m hn hm
 rw [fv_wl,fv_wl] at h ⊢
 rw [run_neq_struct,h]
 by_cases e:n=m <;> simp [e]
theorem run_eqGuard_fv (op:BinOp) (x y:Operand) (n m:Nat) (W:World):(eqGuard op 36 x y (fv n) (fv m)).run Tryz.prog W=.ok () W:=by
 rw [fv_fcs,fv_fcs]
 go_simp
end Sc
end
section
namespace Sc
open Go.RowKit Go.Lib
set_option maxHeartbeats 8000000 in
set_option maxRecDepth 100000 in
theorem words_any (w:World) (l:List UInt8) (hl:l.length=32):Calls Tryz.prog 89 #[.agg (l.map bv).toArray] w λe w'=>e=.returned (fv (valB l))∧Below w.heap.size w w':=by
 have HL:=Lib.hid hl
 clear hl
 go_enter Tryz.func89,Tryz.ntmps89
 go_wp2_with (first | ((with_reducible refine here_load (d:=some 6) ?_); refine wpList_load_blk rfl _ _ rfl w.heap.size rfl _ _ _ (((Blk.new w _ _).alloc _).alloc _) Tryz.underlying24 rfl (b32_info HL.out) ?_))
 go_loopw [7] (λi wr=>∃ k y0 y1 y2 y3:Nat,k≤32∧i=.int .i64 (k:Int)∧Hid (y0=wdB l k 0∧y1=wdB l k 1∧y2=wdB l k 2∧y3=wdB l k 3)∧Below w.heap.size w wr∧Blk wr (w.heap.size+2) 36 #[.int .u64 (y3:Int),.int .u64 (y2:Int),.int .u64 (y1:Int),.int .u64 (y0:Int)]∧Blk wr (w.heap.size+1) 36 #[.int .u64 0,.int .u64 0,.int .u64 0,.int .u64 0]) (λi _=>32 - (intOf i).toNat)
 case atStart=>exact ⟨0,0,0,0,0,by omega,rfl,Lib.hid ⟨(wdB_zero l 0).symm,(wdB_zero l 1).symm,(wdB_zero l 2).symm,(wdB_zero l 3).symm⟩,below_alloc3 w _ _ _,blk_new3 w _ _ _ _,(blk_new2 w _ _ _).alloc _⟩
 case round =>
  obtain ⟨k,y0,y1,y2,y3,hk,rfl,HY,hb,hP,hR⟩:=hrel
  have q3:wr.cell? ⟨w.heap.size+1+1,0,none⟩=some (.int .u64 (y3:Int)):=hP.cell 0
  have q2:wr.cell? ⟨w.heap.size+1+1,1,none⟩=some (.int .u64 (y2:Int)):=hP.cell 1
  have q1:wr.cell? ⟨w.heap.size+1+1,2,none⟩=some (.int .u64 (y1:Int)):=hP.cell 2
  have q0:wr.cell? ⟨w.heap.size+1+1,3,none⟩=some (.int .u64 (y0:Int)):=hP.cell 3
  have ff:∀ j,wr.frozen? ⟨w.heap.size+1+1,j,none⟩=false:=λj=>hP.frozen j
  by_cases hlt:k<32
  ·obtain ⟨c,hc⟩:∃ c,l[k]? = some c:=⟨l[k]'(by rw [HL.out]; exact hlt),List.getElem?_eq_getElem _⟩
   have HC:=Lib.hid hc
   obtain ⟨m,hm⟩:∃ m,m=c.toNat:=⟨_,rfl⟩
   have hm8:m<256:=by rw [hm]; exact c.toNat_lt
   have hI:∀ W,(Instr.index 24 (.agg (l.map bv).toArray) (.int .i64 (k:Int))).run Tryz.prog W=.ok (.int .u8 (m:Int)) W:=λW=>by
    rw [run_index_b32 W l k c hc hlt,hm]; rfl
   have HM:=Lib.hid hm
   have HR:=Lib.hid (And.intro hb (And.intro hP hR))
   clear hb hP hR hc hk hm
   rcases (show k=0∨k=1∨k=2∨k=3∨k=4∨k=5∨k=6∨k=7∨k=8∨k=9∨k=10∨k=11∨k=12∨k=13∨k=14∨k=15∨k=16∨k=17∨k=18∨k=19∨k=20∨k=21∨k=22∨k=23∨k=24∨k=25∨k=26∨k=27∨k=28∨k=29∨k=30∨k=31 by omega) with rfl | rfl | rfl | rfl | rfl | rfl | rfl | rfl | rfl | rfl | rfl | rfl | rfl | rfl | rfl | rfl | rfl | rfl | rfl | rfl | rfl | rfl | rfl | rfl | rfl | rfl | rfl | rfl | rfl | rfl | rfl | rfl
   all_goals
    simp only [Int.cast_ofNat_Int] at hI
   all_goals
    first
    | ((have hy:y0<72057594037927936:=by rw [HY.out.1]; exact wdB_lt l _ 0 (by decide)); (have ho:=or_add y0 m hy hm8); go_wp2; (refine ⟨⟨_,y0*256+m,y1,y2,y3,by decide,rfl,Lib.hid ⟨by rw [HY.out.1,HM.out]; exact (wdB_step l _ 0 c HC.out (by decide)).symm,by rw [HY.out.2.1]; exact (wdB_same l _ 1 (by decide)).symm,by rw [HY.out.2.2.1]; exact (wdB_same l _ 2 (by decide)).symm,by rw [HY.out.2.2.2]; exact (wdB_same l _ 3 (by decide)).symm⟩,HR.out.1.setCell (by show w.heap.size≤w.heap.size+1+1; omega) _,Blk.eq_ (HR.out.2.1.set_ 3 _) (by rw [show ((y0*256+m:Nat):Int)=(y0:Int)*256+(m:Int) by omega]; rfl),HR.out.2.2.far (by show w.heap.size+1≠w.heap.size+1+1; omega) _⟩,by simp [intOf]⟩))
    | ((have hy:y1<72057594037927936:=by rw [HY.out.2.1]; exact wdB_lt l _ 1 (by decide)); (have ho:=or_add y1 m hy hm8); go_wp2; (refine ⟨⟨_,y0,y1*256+m,y2,y3,by decide,rfl,Lib.hid ⟨by rw [HY.out.1]; exact (wdB_same l _ 0 (by decide)).symm,by rw [HY.out.2.1,HM.out]; exact (wdB_step l _ 1 c HC.out (by decide)).symm,by rw [HY.out.2.2.1]; exact (wdB_same l _ 2 (by decide)).symm,by rw [HY.out.2.2.2]; exact (wdB_same l _ 3 (by decide)).symm⟩,HR.out.1.setCell (by show w.heap.size≤w.heap.size+1+1; omega) _,Blk.eq_ (HR.out.2.1.set_ 2 _) (by rw [show ((y1*256+m:Nat):Int)=(y1:Int)*256+(m:Int) by omega]; rfl),HR.out.2.2.far (by show w.heap.size+1≠w.heap.size+1+1; omega) _⟩,by simp [intOf]⟩))
    | ((have hy:y2<72057594037927936:=by rw [HY.out.2.2.1]; exact wdB_lt l _ 2 (by decide)); (have ho:=or_add y2 m hy hm8); go_wp2; (refine ⟨⟨_,y0,y1,y2*256+m,y3,by decide,rfl,Lib.hid ⟨by rw [HY.out.1]; exact (wdB_same l _ 0 (by decide)).symm,by rw [HY.out.2.1]; exact (wdB_same l _ 1 (by decide)).symm,by rw [HY.out.2.2.1,HM.out]; exact (wdB_step l _ 2 c HC.out (by decide)).symm,by rw [HY.out.2.2.2]; exact (wdB_same l _ 3 (by decide)).symm⟩,HR.out.1.setCell (by show w.heap.size≤w.heap.size+1+1; omega) _,Blk.eq_ (HR.out.2.1.set_ 1 _) (by rw [show ((y2*256+m:Nat):Int)=(y2:Int)*256+(m:Int) by omega]; rfl),HR.out.2.2.far (by show w.heap.size+1≠w.heap.size+1+1; omega) _⟩,by simp [intOf]⟩))
    | ((have hy:y3<72057594037927936:=by rw [HY.out.2.2.2]; exact wdB_lt l _ 3 (by decide)); (have ho:=or_add y3 m hy hm8); go_wp2; (refine ⟨⟨_,y0,y1,y2,y3*256+m,by decide,rfl,Lib.hid ⟨by rw [HY.out.1]; exact (wdB_same l _ 0 (by decide)).symm,by rw [HY.out.2.1]; exact (wdB_same l _ 1 (by decide)).symm,by rw [HY.out.2.2.1]; exact (wdB_same l _ 2 (by decide)).symm,by rw [HY.out.2.2.2,HM.out]; exact (wdB_step l _ 3 c HC.out (by decide)).symm⟩,HR.out.1.setCell (by show w.heap.size≤w.heap.size+1+1; omega) _,Blk.eq_ (HR.out.2.1.set_ 0 _) (by rw [show ((y3*256+m:Nat):Int)=(y3:Int)*256+(m:Int) by omega]; rfl),HR.out.2.2.far (by show w.heap.size+1≠w.heap.size+1+1; omega) _⟩,by simp [intOf]⟩))
  ·have p1:¬ (k:Int)<32:=by omega
   obtain rfl:k=32:=by omega
   have b0:y0<18446744073709551616:=by rw [HY.out.1]; exact wdB_lt8 l _ _
   have b1:y1<18446744073709551616:=by rw [HY.out.2.1]; exact wdB_lt8 l _ _
   have b2:y2<18446744073709551616:=by rw [HY.out.2.2.1]; exact wdB_lt8 l _ _
   have b3:y3<18446744073709551616:=by rw [HY.out.2.2.2]; exact wdB_lt8 l _ _
   obtain ⟨z,hz⟩:∃ z,z=y3+18446744073709551616*y2+340282366920938463463374607431768211456*y1+6277101735386680763835789423207666416102355444464034512896*y0:=⟨_,rfl⟩
   have fz:=fv_mk y3 y2 y1 y0 b3 b2 b1 b0
   rw [← hz] at fz
   have hzv:valB l=z:=by rw [wdB_all l HL.out,hz,HY.out.1,HY.out.2.1,HY.out.2.2.1,HY.out.2.2.2]
   have HZ:=Lib.hid hzv
   have FZ:=Lib.hid fz.symm
   have HP:=Lib.hid hP
   have HR:=Lib.hid hR
   clear HY b0 b1 b2 b3 hz fz hzv q0 q1 q2 q3 ff hP hR
   go_wp2_with (first | ((with_reducible refine here_load (d:=some 25) ?_); refine wpList_load_fv rfl _ _ rfl (w.heap.size+2) rfl (z) _ _ _ (HP.out) (FZ.out) Tryz.underlying36 rfl (by kernel_rfl) ?_) | ((with_reducible refine here_store ?_); refine wpList_store_blk rfl _ _ _ rfl (w.heap.size+1) (fcs (z)) rfl rfl _ _ (HR.out) (by kernel_rfl) (by rfl) (fcs_one _) ?_; intro vz hLz hqz hKz))
   exact bodyPost_ret (results_cell_row rfl _ _ (w.heap.size+1) _ _ (0,0) _ rfl hLz Tryz.underlying36 rfl (by kernel_rfl)) rfl ⟨by rw [HZ.out]; rfl,hb.trans (hqz _ (by omega))⟩
def readS (l:List UInt8):Nat×Bool:=if valB l<pM then (valB l,true) else (0,false)
set_option maxHeartbeats 2000000 in
set_option maxRecDepth 100000 in
theorem read_any (w:World) (l:List UInt8) (hl:l.length=32):Calls Tryz.prog 66 #[.agg (l.map bv).toArray] w λe w'=>e=.returned (.tuple #[fv (readS l).1,.bool (readS l).2])∧Below w.heap.size w w':=by
 obtain ⟨z,hz⟩:∃ z,z=valB l:=⟨_,rfl⟩
 have hzl:z<(2^256):=by rw [hz]; exact valB_lt32 l hl
 obtain ⟨n,hn⟩:∃ n,n=z%pM:=⟨_,rfl⟩
 have hnl:n<(2^256):=by rw [hn]; exact mod_lt z
 obtain ⟨b,hbd⟩:∃ b,b=decide (n≠z):=⟨_,rfl⟩
 have eb:∀ W,(binOp .neq 36 (fv n) (fv z)).run Tryz.prog W=.ok (.bool b) W:=λW=>by rw [hbd]; exact run_neq_fv W n z hnl hzl
 have cw:∀ w,Calls Tryz.prog 89 #[.agg (l.map bv).toArray] w λe w'=>e=.returned (fv z)∧Below w.heap.size w w':=by
  intro w; rw [hz]; exact words_any w l hl
 have cn:∀ w,Calls Tryz.prog 79 #[fv z] w λe w'=>e=.returned (fv n)∧Below w.heap.size w w':=by
  intro w; rw [hn]; exact norm_any w z hzl
 have hS:readS l=if b=true then (0,false) else (z,true):=by
  unfold readS
  rw [← hz,hbd,hn]
  by_cases h:z<pM
  ·rw [if_pos h,Nat.mod_eq_of_lt h]; simp
  ·have h2:z%pM≠z:=λe=>h (by rw [← e]; exact mod_lt_p z)
   rw [if_neg h]; simp [h2]
 have HS:=Lib.hid hS
 have HL:=Lib.hid hl
 clear hl hz hzl hn hnl hbd hS
 go_enter Tryz.func66,Tryz.ntmps66
 go_wp2_with (first | ((with_reducible refine here_load (d:=some 5) ?_); refine wpList_load_blk rfl _ _ rfl w.heap.size rfl _ _ _ ((Blk.new w _ _).alloc _) Tryz.underlying24 rfl (b32_info HL.out) ?_))
 refine (cw _).mono ?_
 rintro e w1 ⟨rfl,k1⟩
 have BR:=Gr.blk k1 (blk_new2 w _ _ _)
 have sz:=BR.lt
 have hB:=Below.gr (below_alloc2 w _ _) k1
 clear k1 cw
 go_wp2_with (first | ((with_reducible refine here_store ?_); refine wpList_store_blk rfl _ _ _ rfl (w1.heap.size) (fcs (z)) rfl rfl _ _ (Blk.new w1 _ _) (by kernel_rfl) (by rfl) (fcs_one _) ?_; intro w2 hL2 hq2 hK2; have CR:=hK2 _ (by omega) _ _ (BR.alloc _); have hB2:=(hB.alloc (by omega) _).trans (hq2 _ (by omega))))
 refine wp_region_G (λ_=>false) (by kernel_rfl) ?_
 try simp only [Act.put]
 refine tkw 0 rfl (YieldsG.loadF (by rfl) _ _ rfl (w1.heap.size) rfl (z) _ _ (hL2) (fv_fcs _) Tryz.underlying36 rfl (by kernel_rfl)) ?_
 try simp only [Act.put,aA,aZ,aS]
 refine tkw 1 rfl (YieldsG.call (v:=fv n) (by rfl) 79 _ (λw9=>by go_simp; try (first | with_reducible rfl | rfl)) (λw9 h9=>cn w9)) ?_
 try simp only [Act.put,aA,aZ,aS]
 refine tkw 2 rfl (YieldsG.loadF (by rfl) _ _ rfl (w1.heap.size) rfl (z) _ _ (hL2) (fv_fcs _) Tryz.underlying36 rfl (by kernel_rfl)) ?_
 try simp only [Act.put,aA,aZ,aS]
 refine tkw 3 rfl (YieldsG.pure (v:=.bool b) (by rfl) (λw9 h9=>by go_simp; rw [run_eqGuard_fv]; simp only [Result.andThen_ok])) ?_
 try simp only [Act.put,aA,aZ,aS]
 refine wpAnyG_done (by kernel_rfl) (λu hu=>?_)
 have hbu:=Below.gr hB2 hu
 have BRu:=Gr.blk hu CR
 have BP:=Gr.blk hu hL2
 clear hu hB2 CR hL2 eb cn
 cases b
 ·have HT:Hid (readS l=(z,true)):=Lib.hid (by rw [HS.out]; rfl)
  clear HS
  go_wp2_with (first | ((with_reducible refine here_load (d:=some 12) ?_); refine wpList_load_fv rfl _ _ rfl (w1.heap.size) rfl (z) _ _ _ (BP) (fv_fcs _) Tryz.underlying36 rfl (by kernel_rfl) ?_) | ((with_reducible refine here_store ?_); refine wpList_store_blk rfl _ _ _ rfl (w.heap.size+1) (fcs (z)) rfl rfl _ _ (BRu) (by kernel_rfl) (by rfl) (fcs_one _) ?_; intro vz hLz hqz hKz))
  exact bodyPost_ret (res_cell_tmp rfl _ _ (w.heap.size+1) _ _ _ _ rfl hLz rfl Tryz.underlying36 rfl (by kernel_rfl)) rfl ⟨by rw [HT.out]; rfl,hbu.trans (hqz _ (by omega))⟩
 ·have HT:Hid (readS l=(0,false)):=Lib.hid (by rw [HS.out]; rfl)
  clear HS
  go_wp2_with (first | ((with_reducible refine here_store ?_); refine wpList_store_blk rfl _ _ _ rfl (w.heap.size+1) _ rfl rfl _ _ (BRu) (by kernel_rfl) (by rfl) (by simp [Value.oneCell']) ?_; intro vz hLz hqz hKz))
  exact bodyPost_ret (res_cell_tmp rfl _ _ (w.heap.size+1) _ _ _ _ rfl hLz rfl Tryz.underlying36 rfl (by kernel_rfl)) rfl ⟨by rw [HT.out]; rfl,hbu.trans (hqz _ (by omega))⟩
set_option maxHeartbeats 2000000 in
set_option maxRecDepth 100000 in
theorem reduceB_any (w:World) (l:List UInt8) (hl:l.length=32):Calls Tryz.prog 61 #[.agg (l.map bv).toArray] w λe w'=>e=.returned (fv (valB l%pM))∧Below w.heap.size w w':=by
 obtain ⟨z,hz⟩:∃ z,z=valB l:=⟨_,rfl⟩
 have hzl:z<(2^256):=by rw [hz]; exact valB_lt32 l hl
 obtain ⟨n,hn⟩:∃ n,n=z%pM:=⟨_,rfl⟩
 have cw:∀ w,Calls Tryz.prog 89 #[.agg (l.map bv).toArray] w λe w'=>e=.returned (fv z)∧Below w.heap.size w w':=by
  intro w; rw [hz]; exact words_any w l hl
 have cn:∀ w,Calls Tryz.prog 79 #[fv z] w λe w'=>e=.returned (fv n)∧Below w.heap.size w w':=by
  intro w; rw [hn]; exact norm_any w z hzl
 rw [← hz, ← hn]
 have HL:=Lib.hid hl
 clear hl hz hzl hn
 go_enter Tryz.func61,Tryz.ntmps61
 go_wp2_with (first | ((with_reducible refine here_load (d:=some 3) ?_); refine wpList_load_blk rfl _ _ rfl w.heap.size rfl _ _ _ ((Blk.new w _ _).alloc _) Tryz.underlying24 rfl (b32_info HL.out) ?_))
 refine (cw _).mono ?_
 rintro e w1 ⟨rfl,k1⟩
 go_wp2_with fail
 refine (cn _).mono ?_
 rintro e w2 ⟨rfl,k2⟩
 have BR:=Gr.blk k2 (Gr.blk k1 (blk_new2 w _ _ _))
 have hB:=Below.gr (Below.gr (below_alloc2 w _ _) k1) k2
 clear k1 k2 cw cn
 go_wp2_with (first | ((with_reducible refine here_store ?_); refine wpList_store_blk rfl _ _ _ rfl (w.heap.size+1) (fcs (n)) rfl rfl _ _ (BR) (by kernel_rfl) (by rfl) (fcs_one _) ?_; intro vz hLz hqz hKz))
 exact bodyPost_ret (results_cell_row rfl _ _ (w.heap.size+1) _ _ (0,0) _ rfl hLz Tryz.underlying36 rfl (by kernel_rfl)) rfl ⟨rfl,hB.trans (hqz _ (by omega))⟩
end Sc
end
section
namespace Cu
open Go.RowKit Sy
def challengeNm:ByteArray:=⟨#[66,73,80,48,51,52,48,47,99,104,97,108,108,101,110,103,101]⟩
theorem texts_blk {w:World} {g:Nat} {t:TypeId} {ts:List Sh.Tx} (hb:Blk w g t (ts.map Sh.Tx.val).toArray) (hok:∀ x∈ts,x.ok w):Sh.Texts w (some ⟨g,0,none⟩) ts:=λ_ =>
 ⟨g,0,rfl,hb.lt,λj y hy=>by
  rw [Nat.zero_add]
  refine ⟨(hb.cell j).trans ?_,hok y (List.mem_of_getElem? hy)⟩
  rw [List.getElem?_toArray,List.getElem?_map,hy]
  rfl⟩
theorem tag_c (w:World) (nm:ByteArray) (hnm:nm.size≤1000000000) (g:Nat) (t:TypeId) (ts:List Sh.Tx) (n ct:Nat) (X:List UInt8) (hX:Sh.cat ts=X) (hn:ts.length=n) (hb:Blk w g t (ts.map Sh.Tx.val).toArray) (hok:∀ x∈ts,x.ok w) (hl:X.length≤1000000000) (hn2:n≤1000000000) (ht:Sh.TabAt w 1) :
  Calls Tryz.prog 60 #[.string nm,.slice (some ⟨g,0,none⟩) n ct] w (Gets w (.agg ((Sh.taggedS nm.data.toList X).map bv).toArray)):=by
 subst hX hn
 exact Sh.tagged_any w nm _ ts ct (texts_blk hb hok) ht hnm hl hn2
theorem ok_key {w:World} {g:Nat} {t:TypeId} {l:List UInt8} (hb:Blk w g t (l.map bv).toArray) (hl:l.length=32):(Sh.Tx.mk (some ⟨g,0,none⟩) l 32).ok w:=⟨Sh.Src.of_blk hb,by show l.length≤32; omega,by show 32≤9223372036854775807; omega⟩
theorem val_key {g:Nat} {l:List UInt8} (hl:l.length=32):(Sh.Tx.mk (some ⟨g,0,none⟩) l 32).val=.slice (some ⟨g,0,none⟩) 32 32:=by
 unfold Sh.Tx.val
 rw [hl]
theorem ok3 {w:World} {a b c:Sh.Tx} (ha:a.ok w) (hb:b.ok w) (hc:c.ok w):∀ x∈[a,b,c],x.ok w:=λx hx=>by
 simp only [List.mem_cons,List.not_mem_nil,or_false] at hx
 rcases hx with rfl | rfl | rfl <;> assumption
theorem tag3_c (w:World) (nm:ByteArray) (hnm:nm.size≤1000000000) (g g1 g2:Nat) (t t1 t2:TypeId) (x y m:List UInt8) (A:Option Addr) (c:Nat) (hx:x.length=32) (hy:y.length=32) (n:Nat) (hn:m.length=n) (hm:n≤999999900) (hc:n≤c) (hc2:c≤9223372036854775807)
  (h1:Blk w g1 t1 (x.map bv).toArray) (h2:Blk w g2 t2 (y.map bv).toArray) (hs:Sh.Src w A m) (hb:Blk w g t #[.slice (some ⟨g1,0,none⟩) 32 32,.slice (some ⟨g2,0,none⟩) 32 32,.slice A n c]) (ht:Sh.TabAt w 1) :
  Calls Tryz.prog 60 #[.string nm,.slice (some ⟨g,0,none⟩) 3 3] w (Gets w (.agg ((Sh.taggedS nm.data.toList (x++y++m)).map bv).toArray)):=by
 subst hn
 refine tag_c w nm hnm g t [⟨some ⟨g1,0,none⟩,x,32⟩,⟨some ⟨g2,0,none⟩,y,32⟩,⟨A,m,c⟩] 3 3 (x++y++m) (by simp [Sh.cat]) rfl ?_ (ok3 (ok_key h1 hx) (ok_key h2 hy) ⟨hs,hc,hc2⟩) (by rw [List.length_append,List.length_append,hx,hy]; omega) (by decide) ht
 rw [List.map_cons,List.map_cons,List.map_cons,List.map_nil,val_key hx,val_key hy]
 exact hb
def chalS (x key m:List UInt8):Nat:=valB (Sh.taggedS challengeNm.data.toList (x++key++m))%Sc.pM
theorem tagS_length (nm m:List UInt8):(Sh.taggedS nm m).length=32:=Sh.sum_length _
set_option maxHeartbeats 4000000 in
set_option maxRecDepth 100000 in
theorem challenge_any (w:World) (x key:List UInt8) (hx:x.length=32) (hkey:key.length=32) (A:Option Addr) (m:List UInt8) (n c:Nat) (hn:m.length=n) (hm:n≤999999900) (hc:n≤c) (hc2:c≤9223372036854775807) (hs:Sh.Src w A m) (ht:Sh.TabAt w 1):Calls Tryz.prog 39 #[.agg (x.map bv).toArray,.agg (key.map bv).toArray,.slice A n c] w (Gets w (fv (chalS x key m))):=by
 refine Sy.enter (args:=[.agg (x.map bv).toArray,.agg (key.map bv).toArray,.slice A n c]) Tryz.func39 rfl kL ?_
 refine sC ?_
 refine sM 39 (x.map bv).toArray (λg0=>?_)
 refine sM 39 (key.map bv).toArray (λg1=>?_)
 refine sM 36 (fcs 0) (λg2=>?_)
 refine sH (λj=>j == 6) ?_
 refine sZ 0 rfl (.slice (some ⟨g0,0,none⟩) 32 32)<|sZ 1 rfl (.slice (some ⟨g1,0,none⟩) 32 32)<|sZ 2 rfl (.slice A n c) ?_
 refine Sy.makeD 3 rfl kR kR 22 #[.slice (some ⟨g0,0,none⟩) 32 32,.slice (some ⟨g1,0,none⟩) 32 32,.slice A n c] (λg=>.slice (some ⟨g,0,none⟩) 3 3) kF (λg3=>?_)
 refine sD 4 rfl (.agg ((Sh.taggedS challengeNm.data.toList (x++key++m)).map bv).toArray) (qG 60 #[.string challengeNm,.slice (some ⟨g3,0,none⟩) 3 3] (λw hw=>tag3_c w challengeNm (by decide) g3 g0 g1 _ _ _ x key m A c hx hkey n hn hm hc hc2 (hw.get (i:=0) rfl) (hw.get (i:=1) rfl) (hs.below hw.below) (hw.get (i:=3) rfl) (ht.below hw.below ht.lt)))<|sD 5 rfl (fv (valB (Sh.taggedS challengeNm.data.toList (x++key++m))%Sc.pM)) (qF 61 #[.agg ((Sh.taggedS challengeNm.data.toList (x++key++m)).map bv).toArray] (λw=>Sc.reduceB_any w (Sh.taggedS challengeNm.data.toList (x++key++m)) (tagS_length _ _)))<|sX 6 rfl 2 g2 36 (fcs 0) (fcs (valB (Sh.taggedS challengeNm.data.toList (x++key++m))%Sc.pM)) (wS 0 36 (fcs (valB (Sh.taggedS challengeNm.data.toList (x++key++m))%Sc.pM)) rfl) ?_
 refine sI ?_
 refine Sy.ret ?_
 exact rC (v:=fv (valB (Sh.taggedS challengeNm.data.toList (x++key++m))%Sc.pM)) 36 g2 2 (fcs (valB (Sh.taggedS challengeNm.data.toList (x++key++m))%Sc.pM)) rfl Tryz.underlying36
end Cu
end
section
namespace Sy
open Go.RowKit
section
variable {P:Program} {w0:Base} {n:Nat} {Q:Exit→Act→World→Prop} {F:Slots} {L:Blocks}
end
end Sy
end
section
namespace Cu
open Go.RowKit Sy
end Cu
end
section
namespace Sy
open Go.RowKit
section
variable {P:Program} {w0:Base} {n:Nat} {Q:Exit→Act→World→Prop} {F:Slots} {L:Blocks} {ops:Array Oper} {V:List (Nat×Obj)} {fuel:Nat} {listed:Array Bool}
end
end Sy
end
section
namespace Sc
open Go.RowKit Go.Lib
end Sc
namespace Fz
open Go.RowKit Go.Lib Sy
end Fz
namespace Sc
open Go.RowKit Go.Lib
end Sc
end
section
namespace Sc
open Go.RowKit Go.Lib
end Sc
end
section
namespace Sh
open Go.RowKit Sp
end Sh
end
section
namespace Cu
open Go.RowKit Sy
set_option maxRecDepth 100000
set_option maxHeartbeats 4000000
theorem chalS_lt (x key m:List UInt8):chalS x key m<K4:=Sc.mod_lt _
end Cu
end
section
namespace Cu
open Go.RowKit Sy
set_option maxRecDepth 100000
set_option maxHeartbeats 4000000
end Cu
end
section
namespace Cu
open Go.RowKit Sy
set_option maxRecDepth 100000
set_option maxHeartbeats 4000000
section
variable {P:Program} {w0:Base} {n:Nat} {F:Slots} {L:Blocks}
end
end Cu
end
section
section
open Go.RowKit Go.Lib
end
end
section
namespace Cu
open Go.RowKit Sy
end Cu
end
section
namespace Cu
open Go.RowKit Sy
set_option maxRecDepth 100000
set_option maxHeartbeats 4000000
section
variable {P:Program} {w0:Base} {F:Slots} {L:Blocks} {o:Oper}
theorem Quiet.read {v:Value} (h:∀ w,St w0 w L→(execOp (evF F) o).run P w=.ok (.value v) w):Quiet P w0 F L o v:=λw hw=>by
 unfold Gives; rw [h w hw]; exact ⟨rfl,Gr.refl _⟩
end
theorem str_of {w:World} {A:Option Addr} {m:List UInt8} {c:Nat} (h:Src w A m) (hm:m≠[]) :
  (convert 22 9 (.slice A m.length c)).run Tryz.prog w=.ok (.string ⟨m.toArray⟩) w:=by
 obtain ⟨b,o,rfl,_,hc⟩:=h hm
 refine run_convert_bytes_back w 22 9 5 _ c m Tryz.underlying22 Tryz.underlying5 Tryz.underlying9 (λj hj=>?_)
 rw [addr_off]
 exact hc j _ (List.getElem?_eq_getElem hj)
theorem str_src {w0:Base} {F:Slots} {L:Blocks} {o:Oper} (A:Option Addr) (m:List UInt8) (k c:Nat) (x:Operand) (ho:o.op=.convert 22 9 x) (hx:evF F x=.slice A k c) (hm:m.length=k) (hk:k≠0) (hs:Src w0.world A m):Quiet Tryz.prog w0 F L o (.string ⟨m.toArray⟩):=Quiet.read λw hw=>by
 have h:=str_of (c:=c) (hs.below hw.below) (by intro e; rw [e] at hm; exact hk hm.symm)
 rw [hm] at h
 unfold execOp
 simp only [ho,hx,Sem.run_bind,h,Result.andThen_ok,Sem.run_pure]
theorem eql_str (w:World) (F:Slots) (o:Oper) (x y:Operand) (a b:List UInt8) {yt:TypeId} (ho:o.op=.binOp .eql 9 x y yt) (hx:evF F x=.string ⟨a.toArray⟩) (hy:evF F y=.string ⟨b.toArray⟩):(execOp (evF F) o).run Tryz.prog w=.ok (.value (.bool (decide (a=b)))) w:=by
 have h1:(eqGuard .eql 9 x y (.string ⟨a.toArray⟩) (.string ⟨b.toArray⟩)).run Tryz.prog w=.ok () w:=by go_simp
 have h2:(binOp .eql 9 (.string ⟨a.toArray⟩) (.string ⟨b.toArray⟩)).run Tryz.prog w=.ok (.bool (decide (a=b))) w:=by
  by_cases e:a=b <;> simp [go_sem,ByteArray.toList_eq,e]
 unfold execOp
 simp only [ho,hx,hy,Sem.run_bind,h1,h2,Result.andThen_ok,Sem.run_pure]
end Cu
end
section
namespace Cu
open Go.RowKit Sy
set_option maxRecDepth 100000
set_option maxHeartbeats 4000000
theorem equal_any (w:World) (A A2:Option Addr) (l m:List UInt8) (n k c d:Nat) (hl:l.length=n) (hm:m.length=k) (hn:n≠0) (hk:k≠0) (hs:Src w A l) (ht:Src w A2 m):Calls Tryz.prog 68 #[.slice A n c,.slice A2 k d] w (Gets w (.bool (decide (l=m)))):=by
 refine Sy.enter (args:=[.slice A n c,.slice A2 k d]) Tryz.func68 rfl kL ?_
 refine sC ?_
 refine sP (.bool false) ?_
 refine sA ?_
 refine sP (.slice A n c)<|sS (.string ⟨l.toArray⟩) (str_src A l n c _ rfl rfl hl hn hs)<|sP (.slice A2 k d)<|sS (.string ⟨m.toArray⟩) (str_src A2 m k d _ rfl rfl hm hk ht)<|sS (.bool (decide (l=m))) (Quiet.pure (λw=>eql_str w _ _ _ _ l m rfl rfl rfl))<|sP (.bool (decide (l=m))) ?_
 refine sG<|Sy.ret ?_
 exact rV (.bool (decide (l=m))) rfl
theorem src_part {w:World} {g:Nat} {t:TypeId} {l:List UInt8} (hb:Blk w g t (l.map bv).toArray) (k n:Nat):Src w (some ⟨g,k,none⟩) ((l.drop k).take n):=λ_=>⟨g,k,rfl,hb.lt,λj u hj=>by
 refine (hb.cell (k+j)).trans ?_
 rw [List.getElem?_take] at hj
 split at hj
 ·rw [List.getElem?_drop] at hj
  rw [List.getElem?_toArray,List.getElem?_map,hj]
  rfl
 ·cases hj⟩
theorem key_part {l:List UInt8} (k n:Nat):Value.agg ((((l.map bv).toArray).toList.drop k).take n).toArray=.agg (((l.drop k).take n).map bv).toArray:=by
 rw [List.map_take,List.map_drop]
theorem part_size {l:List UInt8} {N:Nat} (h:l.length=N) {k n:Nat} (hk:k+n≤N):k+n≤((l.map bv).toArray).size:=by
 rw [key_sz l h]; exact hk
theorem part_len {l:List UInt8} {N:Nat} (h:l.length=N) {k n:Nat} (hk:k+n≤N):((l.drop k).take n).length=n:=by
 rw [List.length_take,List.length_drop,h]; omega
def trl (k x y:Nat) (i:Bool):List Value:=fws k++(fws x++(fws y++[Value.bool i]))
def two (z e px py:Nat) (pi:Bool) (j:Nat):Trm:=if j=0 then ⟨z,gx.val,gy.val,false⟩ else ⟨e,px,py,pi⟩
def rPt (z e px py:Nat) (pi:Bool):Pt:=Ec.add finv (Ec.nm finv (z%Sc.pM) bP) (Ec.nm finv (e%Sc.pM) (dec px py pi))
theorem rPt_on (z e px py:Nat) (pi:Bool):Ec.On (rPt z e px py pi):=Ec.On.add fld (bP_on.nm fld _) ((dec_on _ _ _).nm fld _)
theorem two_c (w:World) (g:Nat) (t:TypeId) (z e px py:Nat) (pi:Bool) (hz:z<K4) (he:e<K4) (hx:px<K4) (hy:py<K4) (hb:Blk w g t (trl z gx.val gy.val false++trl e px py pi).toArray):Calls Tryz.prog 67 #[.slice (some ⟨g,0,none⟩) 2 2] w (Gets w (ptv (rPt z e px py pi))):=by
 have hr:w.rangeAt g 0 (trl z gx.val gy.val false++trl e px py pi):=blk_range hb (by rw [List.drop_zero]; exact List.take_of_length_le (Nat.le_refl _))
 have h:=multi_any w (some ⟨g,0,none⟩) g 0 2 2 (two z e px py pi) (Nat.le_refl _) (by decide) (λj=>by
  unfold two
  split
  ·exact ⟨hz,lt4 _,lt4 _⟩
  ·exact ⟨he,hx,hy⟩) (λ_=>⟨rfl,hb.lt,λj hj=>by
  rcases j with _ | _ | j
  ·exact range_left hr
  ·exact range_right hr rfl
  ·omega⟩)
 have e0:Ec.sumL finv (λt=>Ec.nm finv (two z e px py pi t).kn (two z e px py pi t).pt) (List.range 2)=rPt z e px py pi:=by
  have d0:dec gx.val gy.val false=bP:=dec_fin gx gy bP_on
  unfold rPt
  rw [← d0]
  show Ec.add finv (Ec.add finv none (Ec.nm finv (z%Sc.pM) (dec gx.val gy.val false))) (Ec.nm finv (e%Sc.pM) (dec px py pi))=_
  rw [Ec.zero_add]
 rw [e0] at h
 exact h
def ansB (s:List UInt8) (e px py:Nat) (pi:Bool):Bool :=
 (Sc.readS ((s.drop 32).take 32)).2 && (decide ((encS (rPt (Sc.readS ((s.drop 32).take 32)).1 (Sc.negP e) px py pi)).getD 0 0=UInt8.ofNat 2) && decide (((encS (rPt (Sc.readS ((s.drop 32).take 32)).1 (Sc.negP e) px py pi)).drop 1).take 32=(s.drop 0).take 32))
theorem readS_lt (l:List UInt8):(Sc.readS l).1<K4:=by
 unfold Sc.readS
 split
 ·exact Nat.lt_trans (by assumption) (by decide)
 ·show 0<_; decide
theorem enc_any' (w:World) {R:Pt} (h:Ec.On R):Calls Tryz.prog 52 #[pv (pX R) (pY R) (pI R)] w (Gets w (.agg ((encS R).map bv).toArray)):=by
 have q:=enc_any w (pX R) (pY R) (pI R) (pX_lt R) (pY_lt R)
 rw [dec_parts h] at q
 exact q
theorem answers_any (w:World) (s:List UInt8) (hs:s.length=64) (e:Nat) (he:e<K4) (px py:Nat) (pi:Bool) (hpx:px<K4) (hpy:py<K4):Calls Tryz.prog 38 #[.agg (s.map bv).toArray,fv e,pv px py pi] w (Gets w (.bool (ansB s e px py pi))):=by
 refine Sy.enter (args:=[.agg (s.map bv).toArray,fv e,pv px py pi]) Tryz.func38 rfl kL ?_
 refine sC ?_
 refine sM 38 (s.map bv).toArray (λg0=>?_)
 refine sM 36 (fcs e) (λg1=>?_)
 refine sM 83 (pcs px py pi) (λg2=>?_)
 refine sP (.bool false) ?_
 refine sA ?_
 refine sP (.slice (some ⟨g0,32,none⟩) 32 32)<|sP (.pointer (some ⟨g0,32,none⟩))<|sS (.agg (((s.drop 32).take 32).map bv).toArray) (Quiet.load 0 g0 32 32 38 24 (s.map bv).toArray _ _ rfl kR kR Tryz.underlying24 rfl kR _ (key_part 32 32) (part_size hs (by decide))) ?_
 obtain ⟨b1,hb1⟩:∃ z:Bool,z=(Sc.readS ((s.drop 32).take 32)).2:=⟨_,rfl⟩
 refine sS (.tuple #[fv ((Sc.readS ((s.drop 32).take 32)).1),.bool b1]) (qF 66 #[.agg (((s.drop 32).take 32).map bv).toArray] (λw=>by rw [hb1]; exact Sc.read_any w _ (part_len hs (by decide))))<|sP (.tuple #[fv ((Sc.readS ((s.drop 32).take 32)).1),.bool b1])<|sP (fv ((Sc.readS ((s.drop 32).take 32)).1))<|sP (.bool b1) ?_
 refine sM 36 (fcs 0) (λg3=>?_)
 refine sW 3 g3 36 (fcs 0) (fcs ((Sc.readS ((s.drop 32).take 32)).1)) (wS 0 36 (fcs ((Sc.readS ((s.drop 32).take 32)).1)) rfl)<|sP (.bool b1) ?_
 refine sG<|Sy.seq<|sC ?_
 refine sP (.bool b1) ?_
 cases b1
 ·refine sP (.bool true) ?_
  refine sG<|sT<|sC ?_
  refine sP (.bool false) ?_
  refine sG<|Sy.ret<|Sy.then_ret ?_
  rw [show (.bool (ansB s e px py pi):Value)=.bool false from by unfold ansB; rw [← hb1]; rfl]
  exact rV (.bool false) rfl
 ·refine sP (.bool false) ?_
  refine sG<|sU<|Sy.skip ?_
  refine sR (λj=>j == 11) ?_
  refine sD 0 rfl (fv ((Sc.readS ((s.drop 32).take 32)).1)) (qL 3 g3 0 4 36 36 (fcs ((Sc.readS ((s.drop 32).take 32)).1)) rfl Tryz.underlying36)<|sD 1 rfl (pv gx.val gy.val false) (qF 54 #[] (base_c))<|sZ 2 rfl (trv ((Sc.readS ((s.drop 32).take 32)).1) gx.val gy.val false)<|sD 3 rfl (fv e) (qL 1 g1 0 4 36 36 (fcs e) rfl Tryz.underlying36)<|sD 4 rfl (fv (Sc.negP e)) (qF 55 #[fv e] (λw=>Sc.negF_any w e he))<|sD 5 rfl (pv px py pi) (qL 2 g2 0 9 83 83 (pcs px py pi) rfl Tryz.underlying83)<|sZ 6 rfl (trv (Sc.negP e) px py pi) ?_
  refine Sy.joinD (λgq=>[(0,.agg (s.map bv).toArray),(1,fv e),(2,pv px py pi),(3,.pointer (some ⟨g0,0,none⟩)),(4,.pointer (some ⟨g1,0,none⟩)),(5,.pointer (some ⟨g2,0,none⟩)),(6,.bool false),(7,.pointer (some ⟨g3,0,none⟩)),(8,.bool true),(9,.pointer (some ⟨(gq 1),0,none⟩)),(10,.tuple #[fv ((Sc.readS ((s.drop 32).take 32)).1),.bool true]),(11,.slice (some ⟨g0,32,none⟩) 32 32),(12,.pointer (some ⟨g0,32,none⟩)),(13,.agg (((s.drop 32).take 32).map bv).toArray),(14,.tuple #[fv ((Sc.readS ((s.drop 32).take 32)).1),.bool true]),(15,fv ((Sc.readS ((s.drop 32).take 32)).1)),(16,.bool true),(17,.bool true),(18,.bool false),(19,fv ((Sc.readS ((s.drop 32).take 32)).1)),(20,pv gx.val gy.val false),(21,trv ((Sc.readS ((s.drop 32).take 32)).1) gx.val gy.val false),(22,fv e),(23,fv (Sc.negP e)),(24,pv px py pi),(25,trv (Sc.negP e) px py pi),(26,.slice (some ⟨(gq 0),0,none⟩) 2 2),(27,pv (pX (rPt (Sc.readS ((s.drop 32).take 32)).1 (Sc.negP e) px py pi)) (pY (rPt (Sc.readS ((s.drop 32).take 32)).1 (Sc.negP e) px py pi)) (pI (rPt (Sc.readS ((s.drop 32).take 32)).1 (Sc.negP e) px py pi))),(28,.agg ((encS (rPt (Sc.readS ((s.drop 32).take 32)).1 (Sc.negP e) px py pi)).map bv).toArray)]) (λgq=>[(g0,38,(s.map bv).toArray),(g1,36,(fcs e)),(g2,83,(pcs px py pi)),(g3,36,(fcs ((Sc.readS ((s.drop 32).take 32)).1))),((gq 0),122,(trl ((Sc.readS ((s.drop 32).take 32)).1) gx.val gy.val false++(trl (Sc.negP e) px py pi)).toArray),((gq 1),104,(Zl 33).toArray)]) 1 #[true,true,true,true,true,true,true,true,true,true,true,false] (λgq=>?_) (λfin=>?_)
  ·refine Sy.writeD 11 rfl kR (by rfl) kR 5 (gq 1) 104 (Zl 33).toArray ((encS (rPt (Sc.readS ((s.drop 32).take 32)).1 (Sc.negP e) px py pi)).map bv).toArray kR (Writes.store 0 104 ((encS (rPt (Sc.readS ((s.drop 32).take 32)).1 (Sc.negP e) px py pi)).map bv).toArray _ _ rfl kR kR (by rw [key_sz (encS (rPt (Sc.readS ((s.drop 32).take 32)).1 (Sc.negP e) px py pi)) (encS_length _)]; kernel_rfl) (by rw [key_sz (encS (rPt (Sc.readS ((s.drop 32).take 32)).1 (Sc.negP e) px py pi)) (encS_length _)]; exact Nat.le_of_ble_eq_true kR) (key_one _) (key_set _ _ (by rw [(encS_length _)]; kernel_rfl))) ?_
   refine sE ?_
   refine sR (λj=>false) ?_
   refine sZ 0 rfl (.pointer (some ⟨(gq 1),0,none⟩))<|sD 1 rfl (bv ((encS (rPt (Sc.readS ((s.drop 32).take 32)).1 (Sc.negP e) px py pi)).getD 0 0)) (Quiet.cell 5 (gq 1) 0 104 5 ((encS (rPt (Sc.readS ((s.drop 32).take 32)).1 (Sc.negP e) px py pi)).map bv).toArray _ _ rfl kR kR Tryz.underlying5 rfl _ (key_at (encS (rPt (Sc.readS ((s.drop 32).take 32)).1 (Sc.negP e) px py pi)) (encS_length _) 0 (by decide))) ?_
   obtain ⟨b2,hb2⟩:∃ z:Bool,z=decide (((encS (rPt (Sc.readS ((s.drop 32).take 32)).1 (Sc.negP e) px py pi)).getD 0 0)=UInt8.ofNat 2):=⟨_,rfl⟩
   refine sD 2 rfl (.bool b2) (Quiet.pure (λw=>by rw [hb2]; exact eql_u8 w _ _ _ _ _ 2 (by decide) rfl rfl rfl))<|sZ 3 rfl (.bool b2) ?_
   cases b2
   ·refine sQ 4 rfl<|sQ 5 rfl<|sQ 6 rfl<|sZ 7 rfl (.bool false)<|sZ 8 rfl (.bool false) ?_
    refine sI ?_
    refine Sy.ret ?_
    rw [show (.bool (ansB s e px py pi):Value)=.bool false from by unfold ansB; rw [← hb1, ← hb2]; rfl]
    exact rV (.bool false) rfl
   ·refine sZ 4 rfl (.slice (some ⟨(gq 1),1,none⟩) 32 32)<|sZ 5 rfl (.slice (some ⟨g0,0,none⟩) 32 64) ?_
    obtain ⟨b3,hb3⟩:∃ z:Bool,z=decide (((encS (rPt (Sc.readS ((s.drop 32).take 32)).1 (Sc.negP e) px py pi)).drop 1).take 32=(s.drop 0).take 32):=⟨_,rfl⟩
    refine sD 6 rfl (.bool b3) (qG 68 #[.slice (some ⟨(gq 1),1,none⟩) 32 32,.slice (some ⟨g0,0,none⟩) 32 64] (λw hw=>by rw [hb3]; exact equal_any w _ _ _ _ 32 32 _ _ (part_len (encS_length _) (by decide)) (part_len hs (by decide)) (by decide) (by decide) (src_part (hw.get (i:=5) rfl) 1 32) (src_part (hw.get (i:=0) rfl) 0 32)))<|sZ 7 rfl (.bool b3)<|sZ 8 rfl (.bool b3) ?_
    refine sI ?_
    refine Sy.ret ?_
    rw [show (.bool (ansB s e px py pi):Value)=.bool b3 from by unfold ansB; rw [← hb1, ← hb2, ← hb3]; rfl]
    exact rV (.bool b3) rfl
  ·refine Sy.anyOf [7,10] kR (by decide) (Sy.each2 ?_ ?_)
   ·refine Sy.oneMake rfl kR 122 (trl ((Sc.readS ((s.drop 32).take 32)).1) gx.val gy.val false++(trl (Sc.negP e) px py pi)).toArray (λg=>.slice (some ⟨g,0,none⟩) 2 2) kF (λg4=>?_)
    refine Sy.anyOf [8,10] kR (by decide) (Sy.each2 ?_ ?_)
    ·refine Sy.oneQuiet rfl kR (pv (pX (rPt (Sc.readS ((s.drop 32).take 32)).1 (Sc.negP e) px py pi)) (pY (rPt (Sc.readS ((s.drop 32).take 32)).1 (Sc.negP e) px py pi)) (pI (rPt (Sc.readS ((s.drop 32).take 32)).1 (Sc.negP e) px py pi))) (qG 67 #[.slice (some ⟨g4,0,none⟩) 2 2] (λw hw=>by rw [← ptv_parts]; exact two_c w g4 _ _ _ px py pi (readS_lt _) (Sc.mod_lt _) hpx hpy (hw.get (i:=4) rfl))) ?_
     refine Sy.anyOf [9,10] kR (by decide) (Sy.each2 ?_ ?_)
     ·refine Sy.oneQuiet rfl kR (.agg ((encS (rPt (Sc.readS ((s.drop 32).take 32)).1 (Sc.negP e) px py pi)).map bv).toArray) (qF 52 #[pv (pX (rPt (Sc.readS ((s.drop 32).take 32)).1 (Sc.negP e) px py pi)) (pY (rPt (Sc.readS ((s.drop 32).take 32)).1 (Sc.negP e) px py pi)) (pI (rPt (Sc.readS ((s.drop 32).take 32)).1 (Sc.negP e) px py pi))] (λw=>enc_any' w (rPt_on _ _ _ _ _))) ?_
      refine Sy.anyOf [10] kR (by decide) (Sy.each1 ?_)
      ·refine Sy.oneMake rfl kR 104 (Zl 33).toArray ptr kF (λg5=>?_)
       exact Sy.leafI fin (λi=>if i=0 then g4 else g5) kR (all_cons kR (all_cons kR (all_cons kR (all_cons kR (all_cons kR (all_cons kR (all_cons kR (all_cons kR (all_cons kR (all_cons kR (all_cons kR (all_cons kR (all_cons kR (all_cons kR (all_cons kR (all_cons kR (all_cons kR (all_cons kR (all_cons kR (all_cons kR (all_cons kR (all_cons kR (all_cons kR (all_cons kR (all_cons kR (all_cons kR (all_cons kR (all_cons kR (all_cons kR all_nil))))))))))))))))))))))))))))) kR
     ·refine Sy.oneMake rfl kR 104 (Zl 33).toArray ptr kF (λg6=>?_)
      refine Sy.anyOf [9] kR (by decide) (Sy.each1 ?_)
      ·refine Sy.oneQuiet rfl kR (.agg ((encS (rPt (Sc.readS ((s.drop 32).take 32)).1 (Sc.negP e) px py pi)).map bv).toArray) (qF 52 #[pv (pX (rPt (Sc.readS ((s.drop 32).take 32)).1 (Sc.negP e) px py pi)) (pY (rPt (Sc.readS ((s.drop 32).take 32)).1 (Sc.negP e) px py pi)) (pI (rPt (Sc.readS ((s.drop 32).take 32)).1 (Sc.negP e) px py pi))] (λw=>enc_any' w (rPt_on _ _ _ _ _))) ?_
       exact Sy.leafI fin (λi=>if i=0 then g4 else g6) kR (all_cons kR (all_cons kR (all_cons kR (all_cons kR (all_cons kR (all_cons kR (all_cons kR (all_cons kR (all_cons kR (all_cons kR (all_cons kR (all_cons kR (all_cons kR (all_cons kR (all_cons kR (all_cons kR (all_cons kR (all_cons kR (all_cons kR (all_cons kR (all_cons kR (all_cons kR (all_cons kR (all_cons kR (all_cons kR (all_cons kR (all_cons kR (all_cons kR (all_cons kR all_nil))))))))))))))))))))))))))))) kR
    ·refine Sy.oneMake rfl kR 104 (Zl 33).toArray ptr kF (λg7=>?_)
     refine Sy.anyOf [8] kR (by decide) (Sy.each1 ?_)
     ·refine Sy.oneQuiet rfl kR (pv (pX (rPt (Sc.readS ((s.drop 32).take 32)).1 (Sc.negP e) px py pi)) (pY (rPt (Sc.readS ((s.drop 32).take 32)).1 (Sc.negP e) px py pi)) (pI (rPt (Sc.readS ((s.drop 32).take 32)).1 (Sc.negP e) px py pi))) (qG 67 #[.slice (some ⟨g4,0,none⟩) 2 2] (λw hw=>by rw [← ptv_parts]; exact two_c w g4 _ _ _ px py pi (readS_lt _) (Sc.mod_lt _) hpx hpy (hw.get (i:=4) rfl))) ?_
      refine Sy.anyOf [9] kR (by decide) (Sy.each1 ?_)
      ·refine Sy.oneQuiet rfl kR (.agg ((encS (rPt (Sc.readS ((s.drop 32).take 32)).1 (Sc.negP e) px py pi)).map bv).toArray) (qF 52 #[pv (pX (rPt (Sc.readS ((s.drop 32).take 32)).1 (Sc.negP e) px py pi)) (pY (rPt (Sc.readS ((s.drop 32).take 32)).1 (Sc.negP e) px py pi)) (pI (rPt (Sc.readS ((s.drop 32).take 32)).1 (Sc.negP e) px py pi))] (λw=>enc_any' w (rPt_on _ _ _ _ _))) ?_
       exact Sy.leafI fin (λi=>if i=0 then g4 else g7) kR (all_cons kR (all_cons kR (all_cons kR (all_cons kR (all_cons kR (all_cons kR (all_cons kR (all_cons kR (all_cons kR (all_cons kR (all_cons kR (all_cons kR (all_cons kR (all_cons kR (all_cons kR (all_cons kR (all_cons kR (all_cons kR (all_cons kR (all_cons kR (all_cons kR (all_cons kR (all_cons kR (all_cons kR (all_cons kR (all_cons kR (all_cons kR (all_cons kR (all_cons kR all_nil))))))))))))))))))))))))))))) kR
   ·refine Sy.oneMake rfl kR 104 (Zl 33).toArray ptr kF (λg8=>?_)
    refine Sy.anyOf [7] kR (by decide) (Sy.each1 ?_)
    ·refine Sy.oneMake rfl kR 122 (trl ((Sc.readS ((s.drop 32).take 32)).1) gx.val gy.val false++(trl (Sc.negP e) px py pi)).toArray (λg=>.slice (some ⟨g,0,none⟩) 2 2) kF (λg9=>?_)
     refine Sy.anyOf [8] kR (by decide) (Sy.each1 ?_)
     ·refine Sy.oneQuiet rfl kR (pv (pX (rPt (Sc.readS ((s.drop 32).take 32)).1 (Sc.negP e) px py pi)) (pY (rPt (Sc.readS ((s.drop 32).take 32)).1 (Sc.negP e) px py pi)) (pI (rPt (Sc.readS ((s.drop 32).take 32)).1 (Sc.negP e) px py pi))) (qG 67 #[.slice (some ⟨g9,0,none⟩) 2 2] (λw hw=>by rw [← ptv_parts]; exact two_c w g9 _ _ _ px py pi (readS_lt _) (Sc.mod_lt _) hpx hpy (hw.get (i:=5) rfl))) ?_
      refine Sy.anyOf [9] kR (by decide) (Sy.each1 ?_)
      ·refine Sy.oneQuiet rfl kR (.agg ((encS (rPt (Sc.readS ((s.drop 32).take 32)).1 (Sc.negP e) px py pi)).map bv).toArray) (qF 52 #[pv (pX (rPt (Sc.readS ((s.drop 32).take 32)).1 (Sc.negP e) px py pi)) (pY (rPt (Sc.readS ((s.drop 32).take 32)).1 (Sc.negP e) px py pi)) (pI (rPt (Sc.readS ((s.drop 32).take 32)).1 (Sc.negP e) px py pi))] (λw=>enc_any' w (rPt_on _ _ _ _ _))) ?_
       exact Sy.leafS (M:=[(g0,38,(s.map bv).toArray),(g1,36,(fcs e)),(g2,83,(pcs px py pi)),(g3,36,(fcs ((Sc.readS ((s.drop 32).take 32)).1)))]) (x:=(g9,122,(trl ((Sc.readS ((s.drop 32).take 32)).1) gx.val gy.val false++(trl (Sc.negP e) px py pi)).toArray)) (y:=(g8,104,(Zl 33).toArray)) fin (λi=>if i=0 then g9 else g8) kR (all_cons kR (all_cons kR (all_cons kR (all_cons kR (all_cons kR (all_cons kR (all_cons kR (all_cons kR (all_cons kR (all_cons kR (all_cons kR (all_cons kR (all_cons kR (all_cons kR (all_cons kR (all_cons kR (all_cons kR (all_cons kR (all_cons kR (all_cons kR (all_cons kR (all_cons kR (all_cons kR (all_cons kR (all_cons kR (all_cons kR (all_cons kR (all_cons kR (all_cons kR all_nil))))))))))))))))))))))))))))) kR kR
end Cu
end
section
namespace Cu
open Go.RowKit Sy
def verB (key m s:List UInt8):Bool:=liftB key && ansB s (chalS ((s.drop 0).take 32) key m) (pX (liftP key)) (pY (liftP key)) (pI (liftP key))
set_option maxHeartbeats 4000000 in
set_option maxRecDepth 100000 in
theorem verify_any (w:World) (key s:List UInt8) (hkey:key.length=32) (hss:s.length=64) (A:Option Addr) (m:List UInt8) (n c:Nat) (hn:m.length=n) (hm:n≤999999900) (hc:n≤c) (hc2:c≤9223372036854775807) (hs:Sh.Src w A m) (ht:Sh.TabAt w 1):Calls Tryz.prog 21 #[.agg (key.map bv).toArray,.slice A n c,.agg (s.map bv).toArray] w (Gets w (.bool (verB key m s))):=by
 refine Sy.enter (args:=[.agg (key.map bv).toArray,.slice A n c,.agg (s.map bv).toArray]) Tryz.func21 rfl kL ?_
 refine sC ?_
 refine sM 39 (key.map bv).toArray (λg0=>?_)
 refine sM 38 (s.map bv).toArray (λg1=>?_)
 refine sP (.bool false) ?_
 refine sA ?_
 refine sS (.agg (key.map bv).toArray) (Quiet.load 0 g0 0 32 39 39 (key.map bv).toArray _ _ rfl kR kR Tryz.underlying39 rfl kR _ (key_whole key hkey) (key_size key hkey)) ?_
 obtain ⟨b1,hb1⟩:∃ z:Bool,z=liftB key:=⟨_,rfl⟩
 refine sS (.tuple #[pv (pX (liftP key)) (pY (liftP key)) (pI (liftP key)),.bool b1]) (qF 37 #[.agg (key.map bv).toArray] (λw=>by rw [← ptv_parts,hb1]; exact lift_any w key hkey))<|sP (.tuple #[pv (pX (liftP key)) (pY (liftP key)) (pI (liftP key)),.bool b1])<|sP (pv (pX (liftP key)) (pY (liftP key)) (pI (liftP key)))<|sP (.bool b1) ?_
 refine sM 83 (pcs 0 0 false) (λg2=>?_)
 refine sW 2 g2 83 (pcs 0 0 false) (pcs (pX (liftP key)) (pY (liftP key)) (pI (liftP key))) (wS 0 83 (pcs (pX (liftP key)) (pY (liftP key)) (pI (liftP key))) rfl)<|sP (.bool b1) ?_
 refine sH (λj=>false) ?_
 refine sZ 0 rfl (.bool b1)<|sZ 1 rfl (.bool b1) ?_
 cases b1
 ·refine sQ 2 rfl<|sQ 3 rfl<|sQ 4 rfl<|sQ 5 rfl<|sQ 6 rfl<|sQ 7 rfl<|sQ 8 rfl<|sQ 9 rfl ?_
  refine sQ 10 rfl<|sZ 11 rfl (.bool false)<|sZ 12 rfl (.bool false) ?_
  refine sI ?_
  refine Sy.ret ?_
  rw [show (.bool (verB key m s):Value)=.bool false from by unfold verB; rw [← hb1]; rfl]
  exact rV (.bool false) rfl
 ·refine sD 2 rfl (.agg (s.map bv).toArray) (Quiet.load 1 g1 0 64 38 38 (s.map bv).toArray _ _ rfl kR kR Tryz.underlying38 rfl kR _ (key_whole s hss) (key_size s hss))<|sZ 3 rfl (.slice (some ⟨g1,0,none⟩) 32 64)<|sZ 4 rfl (.pointer (some ⟨g1,0,none⟩))<|sD 5 rfl (.agg (((s.drop 0).take 32).map bv).toArray) (Quiet.load 1 g1 0 32 38 39 (s.map bv).toArray _ _ rfl kR kR Tryz.underlying39 rfl kR _ (key_part 0 32) (part_size hss (by decide)))<|sD 6 rfl (.agg (key.map bv).toArray) (Quiet.load 0 g0 0 32 39 39 (key.map bv).toArray _ _ rfl kR kR Tryz.underlying39 rfl kR _ (key_whole key hkey) (key_size key hkey))<|sZ 7 rfl (.slice A n c)<|sD 8 rfl (fv (chalS ((s.drop 0).take 32) key m)) (qG 39 #[.agg (((s.drop 0).take 32).map bv).toArray,.agg (key.map bv).toArray,.slice A n c] (λw hw=>challenge_any w _ key (part_len hss (by decide)) hkey A m n c hn hm hc hc2 (hs.below hw.below) (ht.below hw.below ht.lt)))<|sD 9 rfl (pv (pX (liftP key)) (pY (liftP key)) (pI (liftP key))) (qL 2 g2 0 9 83 83 (pcs (pX (liftP key)) (pY (liftP key)) (pI (liftP key))) rfl Tryz.underlying83) ?_
  obtain ⟨b2,hb2⟩:∃ z:Bool,z=ansB s (chalS ((s.drop 0).take 32) key m) (pX (liftP key)) (pY (liftP key)) (pI (liftP key)):=⟨_,rfl⟩
  refine sD 10 rfl (.bool b2) (qF 38 #[.agg (s.map bv).toArray,fv (chalS ((s.drop 0).take 32) key m),pv (pX (liftP key)) (pY (liftP key)) (pI (liftP key))] (λw=>by rw [hb2]; exact answers_any w s hss _ (chalS_lt _ _ _) _ _ _ (pX_lt _) (pY_lt _)))<|sZ 11 rfl (.bool b2)<|sZ 12 rfl (.bool b2) ?_
  refine sI ?_
  refine Sy.ret ?_
  rw [show (.bool (verB key m s):Value)=.bool b2 from by unfold verB; rw [← hb1, ← hb2]; rfl]
  exact rV (.bool b2) rfl
end Cu
end
section
namespace Pg
open Go.RowKit Sy
set_option maxRecDepth 100000
set_option maxHeartbeats 4000000
open Wr
abbrev TbS (w:World):Prop:=Sh.TabAt w 1
def envOf (m:Byt) (h:Nat):Env:=⟨λkey s=>Cu.verB key m s,λb=>Sp.sum b,h⟩
theorem src_byt {w:World} {A:Option Addr} {n cp:Nat} {b:Byt} (h:BytR (rdW w) (.slice A n cp) b):Sh.Src w A b:=λhne=>by
 obtain ⟨A',n',cp',e,h2,h3,h4,h5⟩:=h
 injection e with e1 e2 e3
 subst e1
 obtain ⟨g,o,rfl,hq⟩:=h5 hne
 have hlt:0<b.length:=List.length_pos_iff.2 hne
 exact ⟨g,o,rfl,(hq 0 _ (List.getElem?_eq_getElem hlt)).1,λj u hu=>(hq j u hu).2⟩
theorem tb_st {w0:Base} {w:World} {L:Blocks} (ht:TbS w0.world) (hw:St w0 w L):TbS w:=ht.below hw.below ht.lt
theorem hash_ef (hh:Nat) (m:Byt) (hm:m.length=32) (x:Opn) (hx:x.1.toNat=102):EfC TbS (envOf m hh) m x 109:=by
 intro w0 g s r T la l hT hok hsm hr hl hla w hw
 rw [show needs x=1 by unfold needs; rw [hx]; rfl] at hl
 have mA:∀ b∈s.bl++T,b∈MS g s m (envOf m hh).h r 0 T:=λb hb=>List.mem_append_right _ hb
 have mT:∀ b∈T,b∈MS g s m (envOf m hh).h r 0 T:=λb hb=>List.mem_append_right _ (List.mem_append_right _ hb)
 obtain ⟨z,rfl⟩:=List.length_eq_one_iff.1 hl
 obtain ⟨A,n,cp,rfl,a1,a2,a3,a4⟩:=hla
 obtain ⟨ga,oa,rfl,aq⟩:=a4 (by simp)
 have hn:n=1:=a1.symm
 obtain ⟨c0,d0⟩:=aq 0 z rfl
 refine Sy.enterT (args:=[ptr g,.slice (some ⟨ga,oa,Option.none⟩) n cp]) hw Tryz.func109 rfl kL ?_
 refine sC ?_
 refine sP (.slice none 0 0)<|sP (.int .i64 0) ?_
 obtain ⟨zA,zn,zc,ez,z2,z3,z4,z5⟩:=d0
 have d0:BytR (rdC w0 T) z.1 z.2:=⟨zA,zn,zc,ez,z2,z3,z4,z5⟩
 have hz9:z.2.length≤256:=hsm z (by simp)
 obtain ⟨d,hd⟩:∃ d,d=Sp.sum z.2:=⟨_,rfl⟩
 have hdl:d.length=32:=by rw [hd]; exact Sh.sum_length _
 refine sA ?_
 refine sp rfl<|sS (.pointer (some ⟨ga,oa+0*1,Option.none⟩)) (Quiet.pure (exec_at 23 22 _ _ ga oa n cp 0 1 .i64 rfl rfl rfl Tryz.underlying23 kF (by omega)))<|sS (.slice zA zn zc) (by rw [← ez]; exact cellC (R:=s.bl++T) c0 mA rfl Tryz.underlying22)<|sS (.agg (d.map bv).toArray) (by rw [hd]; exact qg (λw hw=>by
  have q:=d0.le (rdC_world hw mT)
  rw [ez] at q
  have h:=Sh.of_any w zA z.2 zc (src_byt q) (tb_st (w0:=w0.inn) hT hw) (by omega) (by simp only [maxLen] at z4; omega) (by omega)
  rw [z2] at h
  exact h)) ?_
 refine sM 25 ((List.replicate 32 (0:UInt8)).map bv).toArray (λg6=>?_)
 refine Sy.movT ?_
 refine sw 1 rfl (d.map bv).toArray (Writes.row 25 (d.map bv) 32 _ _ rfl kR kR kR (by rw [List.length_map,hdl]) (by simp) (λu hu=>by obtain ⟨b,_,rfl⟩:=List.mem_map.1 hu; rfl)) ?_
 refine Sy.setT ?_
 refine sA ?_
 refine sP (.slice (some ⟨g6,0,Option.none⟩) 32 32) ?_
 refine Sy.make kR 22 #[.slice (some ⟨g6,0,Option.none⟩) 32 32] (λg=>.slice (some ⟨g,0,Option.none⟩) 1 1) kF (λg2=>?_)
 refine sp rfl<|sP (.int .i64 0) ?_
 refine sG<|Sy.ret ?_
 have e2:does (envOf m hh) x [z.2]=(0,[d]):=by unfold does; rw [hx,hd]; rfl
 exact Sy.retT2 (MS g s m (envOf m hh).h r 0 ([(g2,22,#[.slice (some ⟨g6,0,Option.none⟩) 32 32])]++(T++[(g6,25,(d.map bv).toArray)]))) rfl (.inl (show _=some (.slice (some ⟨g2,0,Option.none⟩) 1 1) by kernel_rfl)) (.inl (show _=some (.int .i64 0) by kernel_rfl)) (λ_ h=>h.perm (Sy.flat_perm (ls:=[[(g,66,(mcs s.v m (envOf m hh).h r 0).toArray)],[(g6,25,(d.map bv).toArray)],s.bl,T,[(g2,22,#[.slice (some ⟨g6,0,Option.none⟩) 32 32])]]) (ms:=[[(g,66,(mcs s.v m (envOf m hh).h r 0).toArray)],s.bl,[(g2,22,#[.slice (some ⟨g6,0,Option.none⟩) 32 32])],T,[(g6,25,(d.map bv).toArray)]]) [0,2,4,3,1] kR rfl (by simp) (by simp)))
  ⟨⟨.slice (some ⟨g2,0,Option.none⟩) 1 1,[(g2,22,#[.slice (some ⟨g6,0,Option.none⟩) 32 32])]⟩,[(g6,25,(d.map bv).toArray)],[(.slice (some ⟨g6,0,Option.none⟩) 32 32,d)],by show _=Value.tuple #[_,.int .i64 (((does (envOf m hh) x [z.2]).1:Nat):Int)]; rw [e2]; rfl,by rw [skp_no _ (by omega) (by omega)],StkY.one (byt_blk (λj v hv=>.inr ⟨_,_,List.mem_append_right _ (List.mem_singleton.2 rfl),hv⟩) hdl (by decide)) (by omega),by show _=(does (envOf m hh) x [z.2]).2; rw [e2]; rfl⟩
theorem signed_any (w0:Base) (hT:TbS w0.world) (g:Nat) (s:Slc) (m:Byt) (hm:m.length=32) (h k:Nat) (r:Value) (T:Blocks) (sv kv:Value) (sby kby:Byt) (hs:BytR (rdC w0 T) sv sby) (hk:BytR (rdC w0 T) kv kby) (w:World) (hw:St w0 w (MS g s m h r k T)):Calls Tryz.prog 150 #[ptr g,sv,kv] w (Turns w0 (λv M=>v=.bool (sgn (envOf m h) sby kby)∧M=MS g s m h r k T)):=by
 obtain ⟨sA_,sn,sc,rfl,s2,s3,s4,s5⟩:=hs
 obtain ⟨kA,kn,kc,rfl,k2,k3,k4,k5⟩:=hk
 have mT:∀ b∈T,b∈MS g s m h r k T:=λb hb=>List.mem_append_right _ (List.mem_append_right _ hb)
 refine Sy.enterT (args:=[ptr g,.slice sA_ sn sc,.slice kA kn kc]) hw Tryz.func150 rfl kL ?_
 have hsm:sc<9223372036854775808:=by simp only [maxLen] at s4; omega
 have hkm:kc<9223372036854775808:=by simp only [maxLen] at k4; omega
 refine sC ?_
 refine sP (.bool false) ?_
 refine Sy.nil<|Sy.then_<|Sy.seq ?_
 refine Sy.regionD (λ_=>false) kR ?_
 obtain ⟨b1,hb1⟩:∃ t_:Bool,t_=decide (kn=32):=⟨_,rfl⟩
 refine sa 0 rfl rfl<|sb 1 rfl (.int .i64 (kn:Int))<|sv 2 rfl (.bool b1) (exec_int .eql _ _ _ .i64 _ _ _ rfl rfl rfl (int_eql _ _ _ _ _ (by rw [hb1]; exact decide_eq_decide.2 (by omega))))<|sa 3 rfl rfl ?_
 cases b1
 case' false =>
  have l1:¬ kn=32:=of_decide_eq_false hb1.symm
  refine sQ 4 rfl<|sQ 5 rfl<|sQ 6 rfl<|sZ 7 rfl (.bool false)<|sZ 8 rfl (.bool false)<|sQ 9 rfl<|sQ 10 rfl<|sQ 11 rfl<|sQ 12 rfl<|sQ 13 rfl<|sQ 14 rfl<|sQ 15 rfl<|sQ 16 rfl<|sQ 17 rfl<|sQ 18 rfl<|sQ 19 rfl<|sZ 20 rfl (.bool false)<|sZ 21 rfl (.bool false) ?_
  refine sI ?_
  refine Sy.ret ?_
  have e:sgn (envOf m h) sby kby=false:=by unfold sgn; rw [decide_eq_false (by omega)]; rfl
  exact Sy.retT1 _ rfl (.inl (show _=some (.bool false) by kernel_rfl)) (λ_ h=>h) ⟨by rw [e],rfl⟩
 have l1:kn=32:=of_decide_eq_true hb1.symm
 obtain ⟨b2,hb2⟩:∃ t_:Bool,t_=decide (sn=64):=⟨_,rfl⟩
 refine sa 4 rfl rfl<|sb 5 rfl (.int .i64 (sn:Int))<|sv 6 rfl (.bool b2) (exec_int .eql _ _ _ .i64 _ _ _ rfl rfl rfl (int_eql _ _ _ _ _ (by rw [hb2]; exact decide_eq_decide.2 (by omega))))<|sb 7 rfl (.bool b2)<|sa 8 rfl rfl ?_
 cases b2
 case' false =>
  have l2:¬ sn=64:=of_decide_eq_false hb2.symm
  refine sQ 9 rfl<|sQ 10 rfl<|sQ 11 rfl<|sQ 12 rfl<|sQ 13 rfl<|sQ 14 rfl<|sQ 15 rfl<|sQ 16 rfl<|sQ 17 rfl<|sQ 18 rfl<|sQ 19 rfl<|sZ 20 rfl (.bool false)<|sZ 21 rfl (.bool false) ?_
  refine sI ?_
  refine Sy.ret ?_
  have e:sgn (envOf m h) sby kby=false:=by unfold sgn; rw [decide_eq_false (p:=sby.length=64) (by omega)]; simp
  exact Sy.retT1 _ rfl (.inl (show _=some (.bool false) by kernel_rfl)) (λ_ h=>h) ⟨by rw [e],rfl⟩
 have l2:sn=64:=of_decide_eq_true hb2.symm
 subst l1
 subst l2
 obtain ⟨gk,ok,rfl,kq⟩:=k5 (by intro e; rw [e] at k2; cases k2)
 obtain ⟨gs,os,rfl,sq⟩:=s5 (by intro e; rw [e] at s2; cases s2)
 have kx:XAt (rdC w0 T) gk ok (kby.map bv):=λj u hu=>by
  rw [List.getElem?_map] at hu
  cases hx:kby[j]? with
  | none=>rw [hx] at hu; cases hu
  | some y=>rw [hx] at hu; cases hu; exact kq j y hx
 have sx_:XAt (rdC w0 T) gs os (sby.map bv):=λj u hu=>by
  rw [List.getElem?_map] at hu
  cases hx:sby[j]? with
  | none=>rw [hx] at hu; cases hu
  | some y=>rw [hx] at hu; cases hu; exact sq j y hx
 have e:sgn (envOf m h) sby kby=Cu.verB kby m sby:=by unfold sgn; rw [decide_eq_true k2,decide_eq_true s2]; rfl
 obtain ⟨b,hb⟩:∃ b,b=Cu.verB kby m sby:=⟨_,rfl⟩
 rw [e, ← hb]
 refine sa 9 rfl rfl<|sv 10 rfl (.pointer (some ⟨gk,ok,none⟩)) (exec_array 39 5 _ (some ⟨gk,ok,none⟩) 32 32 kc rfl rfl Tryz.underlying39 (Nat.le_refl _))<|sD 11 rfl (.agg (kby.map bv).toArray) (rowC (R:=T) (cs:=kby.map bv) kx mT (by rw [List.length_map,k2]) rfl Tryz.underlying39)<|sa 12 rfl rfl<|sa 13 rfl rfl<|sb 14 rfl (.pointer (some ⟨g,1,none⟩))<|sb 15 rfl (.slice (some ⟨g,1,none⟩) 32 32)<|sa 16 rfl rfl<|sv 17 rfl (.pointer (some ⟨gs,os,none⟩)) (exec_array 38 5 _ (some ⟨gs,os,none⟩) 64 64 sc rfl rfl Tryz.underlying38 (Nat.le_refl _))<|sD 18 rfl (.agg (sby.map bv).toArray) (rowC (R:=T) (cs:=sby.map bv) sx_ mT (by rw [List.length_map,s2]) rfl Tryz.underlying38)<|sD 19 rfl (.bool b) (by rw [hb]; exact qg (λw hw=>by
  have hbk:=(hw.blk g 66 _ (List.mem_append_left _ (List.mem_singleton.2 rfl))).2
  refine Cu.verify_any w kby sby k2 s2 (some ⟨g,1,none⟩) m 32 32 hm (by decide) (Nat.le_refl _) (by decide) (λ_=>⟨g,1,rfl,hbk.lt,λj u hu=>(hbk.cell _).trans ?_⟩) (tb_st (w0:=w0.inn) hT hw)
  have hj:=(List.getElem?_eq_some_iff.1 hu).1
  unfold mcs
  rw [List.getElem?_toArray,Nat.add_comm,List.getElem?_cons_succ,List.getElem?_append_left (by rw [List.length_map]; exact hj),List.getElem?_map,hu]
  rfl))<|sb 20 rfl (.bool b)<|sZ 21 rfl (.bool b) ?_
 refine sI ?_
 refine Sy.ret ?_
 exact Sy.retT1 _ rfl (.inl (show _=some (.bool b) by kernel_rfl)) (λ_ h=>h) ⟨rfl,rfl⟩
theorem sig_ef (hh:Nat) (m:Byt) (hm:m.length=32) (x:Opn) (hx:x.1.toNat=103):EfC TbS (envOf m hh) m x 110:=by
 intro w0 g s r T la l hT hok hsm hr hl hla w hw
 rw [show needs x=2 by unfold needs; rw [hx]; rfl] at hl
 have mA:∀ b∈s.bl++T,b∈MS g s m (envOf m hh).h r 0 T:=λb hb=>List.mem_append_right _ hb
 have mT:∀ b∈T,b∈MS g s m (envOf m hh).h r 0 T:=λb hb=>List.mem_append_right _ (List.mem_append_right _ hb)
 obtain ⟨z,y,rfl⟩:=len2 hl
 obtain ⟨A,n,cp,rfl,a1,a2,a3,a4⟩:=hla
 obtain ⟨ga,oa,rfl,aq⟩:=a4 (by simp)
 have hn:n=2:=a1.symm
 obtain ⟨c0,d0⟩:=aq 0 z rfl
 obtain ⟨c1,d1⟩:=aq 1 y rfl
 refine Sy.enterT (args:=[ptr g,.slice (some ⟨ga,oa,Option.none⟩) n cp]) hw Tryz.func110 rfl kL ?_
 refine sC ?_
 refine sP (.slice none 0 0)<|sP (.int .i64 0) ?_
 refine Sy.nil<|Sy.then_<|Sy.seq ?_
 refine Sy.regionD (λj=>j == 7 || j == 8) kR ?_
 obtain ⟨b,hb⟩:∃ b,b=sgn (envOf m hh) z.2 y.2:=⟨_,rfl⟩
 refine sa 0 rfl rfl<|sa 1 rfl rfl<|sv 2 rfl (.pointer (some ⟨ga,oa+0*1,Option.none⟩)) (exec_at 23 22 _ _ ga oa n cp 0 1 .i64 rfl rfl rfl Tryz.underlying23 kF (by omega))<|se 3 [7,8,9,10,11,12] rfl z.1 (cellC (R:=s.bl++T) c0 mA rfl Tryz.underlying22)<|sa 4 rfl rfl<|sv 5 rfl (.pointer (some ⟨ga,oa+1*1,Option.none⟩)) (exec_at 23 22 _ _ ga oa n cp 1 1 .i64 rfl rfl rfl Tryz.underlying23 kF (by omega))<|se 6 [7,8,9,10,11,12] rfl y.1 (cellC (R:=s.bl++T) c1 mA rfl Tryz.underlying22) ?_
 refine Sy.soleD 7 rfl (λQ2 hq2=>?_)
 refine Sy.callT (λw hw=>signed_any w0.inn hT g s m hm hh 0 r T z.1 y.1 z.2 y.2 d0 d1 w hw) (λv M hM=>?_)
 obtain ⟨rfl,rfl⟩:=hM
 rw [← hb]
 refine hq2 _ _ ?_
 refine Sy.soleD 8 rfl (λQ2 hq2=>?_)
 refine Sy.callT (λw hw=>result_any w0.inn _ b w hw) (λv M hM=>?_)
 obtain ⟨g1,g2,n1,rfl,rfl,hn1⟩:=hM
 refine hq2 _ _ ?_
 refine sa 9 rfl rfl<|sa 10 rfl rfl<|sa 11 rfl rfl<|sa 12 rfl rfl ?_
 refine sI ?_
 refine Sy.ret ?_
 exact Sy.retT2 _ rfl (.inl (show _=some (.slice (some ⟨g2,0,Option.none⟩) 1 1) by kernel_rfl)) (.inl (show _=some (.int .i64 0) by kernel_rfl)) (λ_ h=>RsR.st h) (RsR.ef (E:=envOf m hh) (by rw [hb]; unfold does; rw [hx]; rfl) (skp_no _ (by omega) (by omega)) hn1)
end Pg
end
section
namespace Pg
open Go.RowKit Sy
set_option maxRecDepth 100000
set_option maxHeartbeats 4000000
open Wr
theorem exec_toT {P:Program} {F:Slots} {o:Oper} (t:TypeId) (x kx:Operand) (A:Option Addr) (n cp k:Nat) (ht:P.underlying t=some (.slice (P.elem t))) (hs:∀ w,(sizeOf (P.elem t)).run P w=.ok 1 w) (ho:o.op=.slice t x none (some kx) none) (hx:evF F x=.slice A n cp) (hk:evF F kx=.int .i64 (k:Int)) (h:k≤cp) (w:World):(execOp (evF F) o).run P w=.ok (.value (sliced A 0 k cp 1)) w:=by
 have e:(Instr.sliceAt t (.slice A n cp) none (some (.int .i64 (k:Int))) none).run P w=.ok (sliced A 0 k cp 1) w:=by
  rw [run_sliceAt_slice w t _ _ _ _ ht,run_slice_h w t A n cp ht .i64 k (by omega) (by omega),hs,Result.andThen_ok,Int.toNat_natCast]
 unfold execOp
 simp only [ho,hx,hk,Option.map_some,Option.map_none,e,Sem.run_bind,Sem.run_pure,Result.andThen_ok]
theorem Arg.take {C D:Rdr} {A:Option Addr} {n cp k:Nat} {l:List (Value×Byt)} (h:Arg C D (.slice A n cp) l) (hk:k≤n):Arg C D (sliced A 0 k cp 1) (l.take k):=by
 obtain ⟨A',n',cp',e,h2,h3,h4,h5⟩:=h
 injection e with e1 e2 e3
 subst e1 e2 e3
 refine ⟨_,_,_,rfl,by rw [List.length_take]; omega,by omega,by omega,λhne=>?_⟩
 have hl:l≠[]:=λe=>hne (by rw [e,List.take_nil])
 obtain ⟨g,o,rfl,hq⟩:=h5 hl
 have hl0:0<l.length:=List.length_pos_iff.2 hl
 refine ⟨g,o,?_,λj z hz=>?_⟩
 ·rw [if_neg (by omega),Option.map_some,addr_off,Nat.zero_mul,Nat.add_zero]
 ·have hj:j<k:=by
   have:=(List.getElem?_eq_some_iff.1 hz).1
   rw [List.length_take] at this; omega
  rw [List.getElem?_take_of_lt hj] at hz
  exact hq j z hz
theorem shr_step {E:Env} {A B:List Byt} {i:Nat} {s k:Byt} (ha:A[i]? = some s) (hb:B[i]? = some k):shr E (A.drop i) (B.drop i)=if s=[] then shr E (A.drop (i+1)) (B.drop (i+1)) else if sgn E s k then (shr E (A.drop (i+1)) (B.drop (i+1))).map (·+1) else none:=by
 obtain ⟨h1,h2⟩:=List.getElem?_eq_some_iff.1 ha
 obtain ⟨h3,h4⟩:=List.getElem?_eq_some_iff.1 hb
 rw [List.drop_eq_getElem_cons h1,List.drop_eq_getElem_cons h3,h2,h4]
 rfl
theorem share_ef (hh:Nat) (m:Byt) (hm:m.length=32) (x:Opn) (hx:x.1.toNat=104):EfC TbS (envOf m hh) m x 111:=by
 intro w0 g s r T la l hT hok hsm hr hl hla w hw
 have mA:∀ b∈s.bl++T,b∈MS g s m (envOf m hh).h r 0 T:=λb hb=>List.mem_append_right _ hb
 have mT:∀ b∈T,b∈MS g s m (envOf m hh).h r 0 T:=λb hb=>List.mem_append_right _ (List.mem_append_right _ hb)
 refine Sy.enterT (args:=[ptr g,la]) hw Tryz.func111 rfl kL ?_
 refine sC ?_
 refine sP (.slice none 0 0)<|sP (.int .i64 0) ?_
 have hl2:x.2.length=2:=by
  have h1:okO x:=hok
  unfold okO follow at h1
  rw [if_neg (by omega),if_pos hx] at h1
  exact (Option.some.inj h1).symm
 obtain ⟨rA,rn,rc,rfl,r2,r3,r4,r5⟩:=hr
 obtain ⟨go,oo,rfl,rq⟩:=r5 (by intro e; rw [e] at hl2; cases hl2)
 obtain ⟨u0,u1,hu⟩:=len2 hl2
 have hu0:x.2[0]? = some u0:=by rw [hu]; rfl
 have hu1:x.2[1]? = some u1:=by rw [hu]; rfl
 have hc0:=u0.toNat_lt
 have hc1:=u1.toNat_lt
 obtain ⟨t,ht⟩:∃ t,t=u0.toNat:=⟨_,rfl⟩
 obtain ⟨q,hq⟩:∃ q,q=u1.toNat:=⟨_,rfl⟩
 have hnd:needs x=2*q:=by unfold needs; rw [hx,hu,hq]; rfl
 rw [hnd] at hl
 have hla0:=hla
 obtain ⟨A,n,cp,rfl,a1,a2,a3,a4⟩:=hla
 have hn:n=2*q:=by omega
 refine Sy.nil<|Sy.then_<|Sy.seq ?_
 refine Sy.regionD (λ_=>false) kR ?_
 refine sa 0 rfl rfl<|sa 1 rfl rfl<|sb 2 rfl (.pointer (some ⟨g,34,Option.none⟩))<|sD 3 rfl (.slice (some ⟨go,oo,Option.none⟩) rn rc) (Quiet.cell 0 g 34 66 22 _ _ _ rfl kR rfl Tryz.underlying22 rfl _ (mcs_r hm))<|sv 4 rfl (.pointer (some ⟨go,oo+0*1,Option.none⟩)) (exec_at 22 5 _ _ go oo rn rc 0 1 .i64 rfl rfl rfl Tryz.underlying22 kF (by omega))<|sD 5 rfl (bv u0) (cellC (R:=T) (rq 0 u0 hu0) mT rfl Tryz.underlying5)<|sv 6 rfl (.int .i64 ((t:Nat):Int)) (λw=>by rw [ht]; exact conv_8i w _ _ _ u0 rfl rfl)<|sa 7 rfl rfl<|sa 8 rfl rfl<|sb 9 rfl (.pointer (some ⟨g,34,Option.none⟩))<|sD 10 rfl (.slice (some ⟨go,oo,Option.none⟩) rn rc) (Quiet.cell 0 g 34 66 22 _ _ _ rfl kR rfl Tryz.underlying22 rfl _ (mcs_r hm))<|sv 11 rfl (.pointer (some ⟨go,oo+1*1,Option.none⟩)) (exec_at 22 5 _ _ go oo rn rc 1 1 .i64 rfl rfl rfl Tryz.underlying22 kF (by omega))<|sD 12 rfl (bv u1) (cellC (R:=T) (rq 1 u1 hu1) mT rfl Tryz.underlying5)<|sv 13 rfl (.int .i64 ((q:Nat):Int)) (λw=>by rw [hq]; exact conv_8i w _ _ _ u1 rfl rfl)<|sa 14 rfl rfl<|sa 15 rfl rfl ?_
 refine sI ?_
 refine sC ?_
 refine sP (.int .i64 0) ?_
 refine sG<|Sy.seq<|sC ?_
 have htk:=hla0.take (k:=q) (by omega)
 obtain ⟨B,n2,cp2,eB,b2,b3,b4,b5⟩:=htk
 have hn2:n2=q:=by rw [← b2,List.length_take]; omega
 subst hn2
 have hcm:cp<9223372036854775808:=by simp only [maxLen] at a3; omega
 have hcm2:cp2<9223372036854775808:=by simp only [maxLen] at b4; omega
 refine sp rfl<|sp rfl<|sS (.slice B n2 cp2) (by rw [← eB]; exact Quiet.pure (exec_toT 23 _ _ A n cp n2 Tryz.underlying23 kF rfl rfl rfl (by omega)))<|sP (.int .i64 (n2:Int))<|sP (.int .i64 0) ?_
 refine sG<|Sy.block ?_
 obtain ⟨lo,hlo⟩:∃ lo,lo=((l.take n2).map (·.2)):=⟨_,rfl⟩
 obtain ⟨ks,hks⟩:∃ ks,ks=((l.drop n2).map (·.2)):=⟨_,rfl⟩
 have hlol:lo.length=n2:=by rw [hlo,List.length_map,b2]
 have hksl:ks.length=n2:=by rw [hks,List.length_map,List.length_drop]; omega
 have hfin:∀ v:Bool,(match shr (envOf m hh) lo ks with | Option.none=>false | some c=>decide (t≤c))=v→does (envOf m hh) x (l.map (·.2))=(0,[rS v]):=λv hv=>by
  unfold does
  rw [hx]
  show (0,[rS (share (envOf m hh) (x.2.getD 0 0).toNat (x.2.getD 1 0).toNat (l.map (·.2)))])=_
  unfold share
  rw [hu]
  show (0,[rS (match shr (envOf m hh) ((l.map (·.2)).take u1.toNat) ((l.map (·.2)).drop u1.toNat) with | Option.none=>false | some c=>decide (u0.toNat≤c))])=_
  rw [← hq, ← ht, ← List.map_take, ← List.map_drop, ← hlo, ← hks,hv]
 refine Sy.loopT (Y:=Nat) n2 (λi c=>[(0,ptr g),(1,.slice A n cp),(6,.int .i64 ((t:Nat):Int)),(7,.int .i64 ((n2:Nat):Int)),(8,.int .i64 ((c:Nat):Int)),(27,.slice B n2 cp2),(28,.int .i64 (n2:Int)),(29,.int .i64 (i:Int))]) (λ_ _=>MS g s m (envOf m hh).h (.slice (some ⟨go,oo,Option.none⟩) rn rc) 0 T) (λi c=>c≤i∧shr (envOf m hh) lo ks=(shr (envOf m hh) (lo.drop i) (ks.drop i)).map (c+·)) 0 ⟨Nat.le_refl _,by
  rw [List.drop_zero,List.drop_zero]
  cases shr (envOf m hh) lo ks with
  | none=>rfl
  | some c=>show some c=some (0+c); rw [Nat.zero_add]⟩ (all_cons kR (all_cons kR (all_cons kR (all_cons kR (all_cons kR (all_cons kR (all_cons kR (all_cons kR all_nil)))))))) (λ_ h=>h) (λi c hi hy=>?_)
 obtain ⟨hy1,hy⟩:=hy
 refine sC ?_
 obtain ⟨b2,hb2⟩:∃ t_:Bool,t_=decide (i<n2):=⟨_,rfl⟩
 refine sS (.bool b2) (Quiet.pure (exec_int .lss _ _ _ .i64 _ _ _ rfl rfl rfl (int_lss _ _ _ _ _ (by rw [hb2]; exact decide_eq_decide.2 (by omega))))) ?_
 refine sG<|Sy.seq ?_
 cases b2
 case' false =>
  have l2:¬ i<n2:=of_decide_eq_false hb2.symm
  obtain rfl:i=n2:=by omega
  rw [List.drop_of_length_le (by omega),List.drop_of_length_le (by omega)] at hy
  refine sU<|Sy.exit<|Sy.then_exit<|Sy.then_exit<|Sy.in_exit<|Sy.then_<|sC ?_
  obtain ⟨b3,hb3⟩:∃ t_:Bool,t_=decide (t≤c):=⟨_,rfl⟩
  refine sp rfl<|sp rfl<|sS (.bool b3) (Quiet.pure (exec_int .geq _ _ _ .i64 _ _ _ rfl rfl rfl (int_geq _ _ _ _ _ (by rw [hb3]; exact decide_eq_decide.2 (by omega))))) ?_
  refine Sy.callT (λw hw=>result_any w0.inn _ b3 w hw) (λv M hM=>?_)
  obtain ⟨g1,g2,n1,rfl,rfl,hn1⟩:=hM
  refine sp rfl<|sp rfl<|sp rfl<|sp rfl ?_
  refine sG<|Sy.ret ?_
  exact Sy.retT2 _ rfl (.inl (show _=some (.slice (some ⟨g2,0,Option.none⟩) 1 1) by kernel_rfl)) (.inl (show _=some (.int .i64 0) by kernel_rfl)) (λ_ h=>RsR.st h) (RsR.ef (E:=envOf m hh) (hfin b3 (by rw [hy,hb3]; rfl)) (skp_no _ (by omega) (by omega)) hn1)
 have l2:i<n2:=of_decide_eq_true hb2.symm
 obtain ⟨z,hz⟩:∃ z,(l.take n2)[i]? = some z:=⟨_,List.getElem?_eq_getElem (by omega)⟩
 obtain ⟨y,hyy⟩:∃ y,l[n2+i]? = some y:=⟨_,List.getElem?_eq_getElem (by omega)⟩
 obtain ⟨gb,ob,rfl,bq⟩:=b5 (by intro e; rw [e] at hz; cases hz)
 obtain ⟨ga,oa,rfl,aq⟩:=a4 (by intro e; rw [e] at hyy; cases hyy)
 obtain ⟨c0,d0⟩:=bq i z hz
 obtain ⟨c1,d1⟩:=aq (n2+i) y hyy
 have hloi:lo[i]? = some z.2:=by rw [hlo,List.getElem?_map,hz]; rfl
 have hksi:ks[i]? = some y.2:=by rw [hks,List.getElem?_map,List.getElem?_drop,hyy]; rfl
 rw [shr_step hloi hksi] at hy
 obtain ⟨zA,zn,zc,ez,z2,z3,z4,z5⟩:=d0
 have d0:BytR (rdC w0 T) z.1 z.2:=⟨zA,zn,zc,ez,z2,z3,z4,z5⟩
 have hzm:zc<9223372036854775808:=by simp only [maxLen] at z4; omega
 refine sT<|Sy.skip<|Sy.then_<|Sy.seq<|Sy.block<|sC ?_
 refine sp rfl<|sS (.pointer (some ⟨gb,ob+i*1,Option.none⟩)) (Quiet.pure (exec_at 23 22 _ _ gb ob n2 cp2 i 1 .i64 rfl rfl rfl Tryz.underlying23 kF l2))<|sS (.slice zA zn zc) (by rw [← ez]; exact cellC (R:=s.bl++T) (show rdC w0 (s.bl++T) gb (ob+i*1) z.1 by rw [Nat.mul_one]; exact c0) mA rfl Tryz.underlying22)<|sp rfl<|sp rfl ?_
 refine sG<|Sy.seq<|sC ?_
 obtain ⟨b3,hb3⟩:∃ t_:Bool,t_=decide (zn=0):=⟨_,rfl⟩
 refine sp rfl<|sP (.int .i64 (zn:Int))<|sS (.bool b3) (Quiet.pure (exec_int .eql _ _ _ .i64 _ _ _ rfl rfl rfl (int_eql _ _ _ _ _ (by rw [hb3]; exact decide_eq_decide.2 (by omega))))) ?_
 refine sG ?_
 cases b3
 case' true =>
  have l3:zn=0:=of_decide_eq_true hb3.symm
  rw [if_pos (List.eq_nil_of_length_eq_zero (by omega))] at hy
  refine sT<|Sy.exit<|Sy.then_exit<|Sy.in_exit<|Sy.then_<|Sy.region ?_
  refine sS (.int .i64 ((i+1:Nat):Int)) (Quiet.pure (exec_int .add _ _ _ .i64 _ _ _ rfl rfl rfl (int_add _ _ _ _ _ ((wrap_i64 (by omega) (by omega)).trans (by omega)))))<|sp rfl ?_
  refine Sy.nil ?_
  exact Sy.againT c l2 ⟨by omega,hy⟩ (all_cons kR (all_cons kR (all_cons kR (all_cons kR (all_cons kR (all_cons kR (all_cons kR (all_cons kR all_nil)))))))) (λw h=>h)
 have l3:¬ zn=0:=of_decide_eq_false hb3.symm
 rw [if_neg (by intro e; rw [e] at z2; exact l3 z2.symm)] at hy
 refine sU<|Sy.skip<|Sy.then_<|Sy.seq<|sC ?_
 obtain ⟨b,hb⟩:∃ b,b=sgn (envOf m hh) z.2 y.2:=⟨_,rfl⟩
 refine sp rfl<|sp rfl<|sp rfl<|sp rfl<|sp rfl<|sS (.int .i64 ((n2+i:Nat):Int)) (Quiet.pure (exec_int .add _ _ _ .i64 _ _ _ rfl rfl rfl (int_add _ _ _ _ _ ((wrap_i64 (by omega) (by omega)).trans (by omega)))))<|sS (.pointer (some ⟨ga,oa+(n2+i)*1,Option.none⟩)) (Quiet.pure (exec_at 23 22 _ _ ga oa n cp (n2+i) 1 .i64 rfl rfl rfl Tryz.underlying23 kF (by omega)))<|sS y.1 (cellC (R:=s.bl++T) (show rdC w0 (s.bl++T) ga (oa+(n2+i)*1) y.1 by rw [Nat.mul_one]; exact c1) mA rfl Tryz.underlying22) ?_
 refine Sy.callT (args:=#[ptr g,.slice zA zn zc,y.1]) (λw hw=>by rw [← ez]; exact signed_any w0.inn hT g s m hm hh 0 (.slice (some ⟨go,oo,Option.none⟩) rn rc) T z.1 y.1 z.2 y.2 d0 d1 w hw) (λv M hM=>?_)
 obtain ⟨rfl,rfl⟩:=hM
 rw [← hb] at hy ⊢
 refine sP (.bool (!b)) ?_
 refine sG ?_
 cases b
 case' false =>
  rw [if_neg (by decide)] at hy
  refine sT<|sC ?_
  refine Sy.callT (λw hw=>result_any w0.inn _ false w hw) (λv M hM=>?_)
  obtain ⟨g1,g2,n1,rfl,rfl,hn1⟩:=hM
  refine sp rfl<|sp rfl<|sp rfl<|sp rfl ?_
  refine sG<|Sy.ret<|Sy.then_ret<|Sy.in_ret<|Sy.then_ret<|Sy.then_ret<|Sy.in_ret<|Sy.then_ret ?_
  exact Sy.retT2 _ rfl (.inl (show _=some (.slice (some ⟨g2,0,Option.none⟩) 1 1) by kernel_rfl)) (.inl (show _=some (.int .i64 0) by kernel_rfl)) (λ_ h=>RsR.st h) (RsR.ef (E:=envOf m hh) (hfin false (by rw [hy]; rfl)) (skp_no _ (by omega) (by omega)) hn1)
 rw [if_pos rfl] at hy
 refine sU<|Sy.skip<|Sy.then_<|Sy.region ?_
 refine sp rfl<|sS (.int .i64 ((c+1:Nat):Int)) (Quiet.pure (exec_int .add _ _ _ .i64 _ _ _ rfl rfl rfl (int_add _ _ _ _ _ ((wrap_i64 (by omega) (by omega)).trans (by omega)))))<|sp rfl ?_
 refine Sy.nil<|Sy.in_<|Sy.then_<|Sy.region ?_
 refine sS (.int .i64 ((i+1:Nat):Int)) (Quiet.pure (exec_int .add _ _ _ .i64 _ _ _ rfl rfl rfl (int_add _ _ _ _ _ ((wrap_i64 (by omega) (by omega)).trans (by omega)))))<|sp rfl ?_
 refine Sy.nil ?_
 exact Sy.againT (c+1) l2 ⟨by omega,by
  rw [hy]
  cases shr (envOf m hh) (lo.drop (i+1)) (ks.drop (i+1)) with
  | none=>rfl
  | some v=>show some (c+(v+1))=some (c+1+v); congr 1; omega⟩ (all_cons kR (all_cons kR (all_cons kR (all_cons kR (all_cons kR (all_cons kR (all_cons kR (all_cons kR all_nil)))))))) (λw h=>h)
theorem ef_all (hh:Nat) (hhl:hh<18446744073709551616) (m:Byt) (hm:m.length=32) (x:Opn) (hok:okO x):EfC TbS (envOf m hh) m x (fnOf x.1):=by
 by_cases h2:x.1.toNat=102
 ·rw [show fnOf x.1=109 by unfold fnOf; rw [h2]; rfl]
  exact hash_ef hh m hm x h2
 by_cases h3:x.1.toNat=103
 ·rw [show fnOf x.1=110 by unfold fnOf; rw [h3]; rfl]
  exact sig_ef hh m hm x h3
 by_cases h4:x.1.toNat=104
 ·rw [show fnOf x.1=111 by unfold fnOf; rw [h4]; rfl]
  exact share_ef hh m hm x h4
 exact ef_simple (envOf m hh) m hm hhl x hok h2 h3 h4
end Pg
end
section
section
open Go.ChangeShapes Go.WideShapes Go.ChangeAt Go.RowKit
section
variable {H:Type} {enc:TypeId×Value→H} {P:Program}
end
end
end
section
namespace Pg
open Go.RowKit Sy
set_option maxRecDepth 100000
set_option maxHeartbeats 4000000
open Wr
open Go.ChangeShapes Go.WideShapes Go.ChangeAt Go.Deep
def repL {α:Type} (k:Nat) (rep:Rdr→List Value→α→Prop) (C:Rdr) (cs:List Value) (l:List α):Prop:=∃ v,cs=[v]∧LstR C k rep v l
theorem ones_app {a b:List Value} (ha:∀ u∈a,u.oneCell'=true) (hb:∀ u∈b,u.oneCell'=true):∀ u∈a++b,u.oneCell'=true:=λu hu=>(List.mem_append.1 hu).elim (ha u) (hb u)
theorem bulk_pos {H:Type} (d:DataW H):1≤Rows.uptoBulk d:=by
 cases d with
 | lit l=>cases l <;> simp [Rows.uptoBulk]
 | _=>simp [Rows.uptoBulk]
theorem bulk_app {H:Type}:∀ a b:List (DataW H),Rows.uptoBulkAll (a++b)=Rows.uptoBulkAll a+Rows.uptoBulkAll b
 | [],b=>by simp [Rows.uptoBulkAll]
 | d::a,b=>by
  have h:=bulk_app a b
  simp only [List.cons_append,Rows.uptoBulkAll]
  omega
theorem cells_at {W:World} {base:Nat} {a:Addr} {n:Nat} {cs:List Value} (h:W.cells? base a n=some cs):∀ (j:Nat) (v:Value),cs[j]? = some v→W.cell? (a.add j)=some v:=λj v hj=>by
 unfold World.cells? at h
 split at h
 ·have hl:=Lib.mapM_length h
  have hjl:j<n:=by
   have:=(List.getElem?_eq_some_iff.1 hj).1
   simp at hl
   omega
  obtain ⟨b,hb,hf⟩:=Lib.mapM_at h j j (by simp [hjl])
  rw [hb] at hj
  injection hj with hj
  rw [hf,hj]
 ·cases h
theorem cells_ln {W:World} {base:Nat} {a:Addr} {n:Nat} {cs:List Value} (h:W.cells? base a n=some cs):cs.length=n:=by
 unfold World.cells? at h
 split at h
 ·have hl:=Lib.mapM_length h
  simpa using hl
 ·cases h
theorem cell_in {w:World} {a:Addr} {v:Value} (h:w.cell? a=some v):∃ b o,a=⟨b,o,none⟩∧b<w.heap.size:=by
 obtain ⟨b,o,k⟩:=a
 unfold World.cell? at h
 cases k with
 | none =>
  refine ⟨b,o,rfl,?_⟩
  rcases Nat.lt_or_ge b w.heap.size with hl | hl
  ·exact hl
  ·simp [Array.getElem?_eq_none hl] at h
 | some k=>exfalso; cases hw:w.heap[b]? with
  | none=>simp [hw] at h
  | some ob=>cases ob <;> simp [hw] at h
theorem add_in (b o n:Nat):(⟨b,o,none⟩:Addr).add n=⟨b,o+n,none⟩:=by unfold Addr.add; split <;> simp_all
theorem list_of {α H:Type} {n:Nat} {p:Nat→α→Prop} {sz:α→Nat} {D:Nat→DataW H} (h:∀ i,i<n→∃ x,p i x∧sz x<Rows.uptoBulk (D i)):∃ l:List α,l.length=n∧(∀ i x,l[i]? = some x→p i x)∧l.length+(l.map sz).sum≤Rows.uptoBulkAll ((List.range n).map D):=by
 induction n with
 | zero=>exact ⟨[],rfl,λi x h=>(by cases h),Nat.zero_le _⟩
 | succ n ih =>
  obtain ⟨l,h1,h2,h3⟩:=ih λi hi=>h i (by omega)
  obtain ⟨x,hx,hs⟩:=h n (by omega)
  refine ⟨l++[x],by rw [List.length_append,h1]; rfl,λi y hy=>?_,?_⟩
  ·rcases Nat.lt_or_ge i l.length with hi | hi
   ·rw [List.getElem?_append_left hi] at hy
    exact h2 i y hy
   ·rw [List.getElem?_append_right hi] at hy
    cases hk:i - l.length with
    | zero =>
     rw [hk] at hy
     cases hy
     obtain rfl:i=n:=by omega
     exact hx
    | succ k=>rw [hk] at hy; cases hy
  ·simp only [List.range_succ,List.map_append,bulk_app,List.sum_append,List.length_append,List.map_cons,List.map_nil,List.sum_cons,List.sum_nil,List.length_cons,List.length_nil,Rows.uptoBulkAll]
   omega
structure Opng {α:Type} (t:TypeId) (k:Nat) (rep:Rdr→List Value→α→Prop) (sz:α→Nat):Prop where
 go:∀ {H:Type} {enc:TypeId×Value→H} {W:World} {fuel:Nat} {cs:List Value} {x:DataW H×List MemPlace},cs.length=k→DataW.trod enc Tryz.prog W 0 (λ_=>true) true fuel t cs=some x→∃ y,rep (rdW W) cs y∧(∀ u∈cs,u.oneCell'=true)∧sz y<Rows.uptoBulk x.1
theorem Opng.as {α β:Type} {t:TypeId} {k:Nat} {rep:Rdr→List Value→α→Prop} {sz:α→Nat} {rep':Rdr→List Value→β→Prop} {sz':β→Nat} (h:Opng t k rep sz) (hr:∀ C cs x,rep C cs x→∃ y,rep' C cs y∧sz' y≤sz x):Opng t k rep' sz':=⟨λhl hf=>by
 obtain ⟨x,h1,h2,h3⟩:=h.go hl hf
 obtain ⟨y,h4,h5⟩:=hr _ _ _ h1
 exact ⟨y,h4,h2,by omega⟩⟩
def repU (_:Rdr) (cs:List Value) (n:Nat):Prop:=cs=[.int .u64 (n:Int)]∧n<18446744073709551616
def repO (_:Rdr) (cs:List Value) (u:UInt8):Prop:=cs=[bv u]
def repN (n:Nat) (_:Rdr) (cs:List Value) (b:Byt):Prop:=cs=b.map bv∧b.length=n
def repT (C:Rdr) (cs:List Value) (b:Byt):Prop:=∃ v,cs=[v]∧BytR C v b
theorem opn_u {t:TypeId} (ht:Tryz.prog.underlying t=some (.int .u64)):Opng t 1 repU (λ_=>0):=⟨λhl hf=>by
 obtain ⟨z,rfl,hx,w⟩:=DataW.trod_int ht hf
 have hz:0≤z∧z<18446744073709551616:=by
  simp [Lit.wf,IntKind.bits,IntKind.signed,IntKind.min,IntKind.max] at w
  omega
 refine ⟨z.toNat,⟨by rw [show ((z.toNat:Nat):Int)=z by omega],by omega⟩,λu hu=>by rw [List.mem_singleton.1 hu]; rfl,bulk_pos _⟩⟩
theorem opn_o {t:TypeId} (ht:Tryz.prog.underlying t=some (.int .u8)):Opng t 1 repO (λ_=>0):=⟨λhl hf=>by
 obtain ⟨z,rfl,hx,w⟩:=DataW.trod_int ht hf
 have hz:0≤z∧z<256:=by
  simp [Lit.wf,IntKind.bits,IntKind.signed,IntKind.min,IntKind.max] at w
  omega
 refine ⟨UInt8.ofNat z.toNat,?_,λu hu=>by rw [List.mem_singleton.1 hu]; rfl,bulk_pos _⟩
 unfold repO bv
 rw [UInt8.toNat_ofNat',show ((z.toNat%2 ^ 8:Nat):Int)=z by omega]⟩
theorem opn_n {t e:TypeId} {n:Nat} (ht:Tryz.prog.underlying t=some (.array n e)) (he:Tryz.prog.underlying e=some (.int .u8)) (hce:Tryz.prog.cellsOf e=1) (hct:Tryz.prog.cellsOf t=n):Opng t n (repN n) (λ_=>0):=⟨λ{H enc W fuel cs x} hl hf=>by
 cases fuel with
 | zero=>simp [DataW.trod] at hf
 | succ fuel =>
  simp only [DataW.trod,ht,hce,hct,Nat.mul_one] at hf
  rw [if_pos hl] at hf
  ·obtain ⟨xs,hm,hx⟩:=Option.map_eq_some_iff.1 hf
   have hone:∀ i,i<n→∃ u:UInt8,cs[i]? = some (bv u):=by
    intro i hi
    obtain ⟨b,hb,hf⟩:=Lib.mapM_at hm i i (by simp [hi])
    obtain ⟨z,hc,rfl,hw⟩:=DataW.trod_int he hf
    have h1:cs[i]? = some (.int .u8 z):=by
     have:=congrArg (·[0]?) hc
     simpa [List.getElem?_take,List.getElem?_drop] using this
    have hz:0≤z∧z<256:=by
     simp [Lit.wf,IntKind.bits,IntKind.signed,IntKind.min,IntKind.max] at hw
     omega
    refine ⟨UInt8.ofNat z.toNat,?_⟩
    rw [h1]
    unfold bv
    congr 2
    rw [UInt8.toNat_ofNat']
    omega
   have hcs:∃ b:Byt,cs=b.map bv:=by
    refine ⟨cs.map (λv=>match v with | .int _ z=>UInt8.ofNat z.toNat | _=>0),List.ext_getElem? λi=>?_⟩
    by_cases hi:i<n
    ·obtain ⟨u,hu⟩:=hone i hi
     simp [hu,bv]
    ·have:cs.length≤i:=by omega
     simp [List.getElem?_eq_none this]
   obtain ⟨b,rfl⟩:=hcs
   exact ⟨b,⟨rfl,by simpa using hl⟩,λu hu=>by obtain ⟨w,_,rfl⟩:=List.mem_map.1 hu; rfl,bulk_pos _⟩⟩
theorem opn_l {α:Type} {t e:TypeId} {k:Nat} {rep:Rdr→List Value→α→Prop} {sz:α→Nat} (ht:Tryz.prog.underlying t=some (.slice e)) (hce:Tryz.prog.cellsOf e=k) (hk:0<k) (h:Opng e k rep sz):Opng t 1 (repL k rep) (λl=>l.length+(l.map sz).sum):=⟨λ{H enc W fuel cs x} hl hf=>by
 rcases open_slice ht hf with ⟨rfl,hx⟩ | ⟨a,len,cap,m,n,D,Pl,rfl,_,hlc,hm,hme,hx,hall⟩
 ·exact ⟨[],⟨_,rfl,none,0,0,rfl,rfl,Nat.le_refl _,Nat.zero_le _,λh=>(h rfl).elim⟩,λu hu=>by rw [List.mem_singleton.1 hu]; rfl,bulk_pos _⟩
 ·simp only [if_true] at hme
  subst hme
  rw [hce] at hall
  obtain ⟨l,l1,l2,l3⟩:=list_of (α:=α) (n:=len) (sz:=sz) (D:=D) (p:=λi y=>∃ cs',W.cells? 0 (a.add (i*k)) k=some cs'∧rep (rdW W) cs' y∧∀ u∈cs',u.oneCell'=true) (λi hi=>by
   obtain ⟨cs',h1,h2⟩:=hall i (by omega)
   obtain ⟨y,q1,q2,q3⟩:=h.go (cells_ln h1) h2
   exact ⟨y,⟨cs',h1,q1,q2⟩,q3⟩)
  refine ⟨l,⟨_,rfl,some a,len,m,rfl,l1,hlc,hm,λhne=>?_⟩,λu hu=>by rw [List.mem_singleton.1 hu]; rfl,?_⟩
  ·have hpos:0<l.length:=List.length_pos_iff.2 hne
   obtain ⟨cs0,c1,c2,c3⟩:=l2 0 l[0] (List.getElem?_eq_getElem hpos)
   have c4:=cells_ln c1
   have hcell:=cells_at c1 0 cs0[0] (List.getElem?_eq_getElem (by omega))
   have e0:(a.add (0*k)).add 0=a:=by simp [Addr.add]
   rw [e0] at hcell
   obtain ⟨b,o,rfl,hlt⟩:=cell_in hcell
   refine ⟨b,o,rfl,λj y hy=>?_⟩
   obtain ⟨cs',d1,d2,d3⟩:=l2 j y hy
   refine ⟨cs',cells_ln d1,d3,d2,λi v hi=>⟨hlt,?_⟩⟩
   have:=cells_at d1 i v hi
   rwa [add_in,add_in] at this
  ·subst hx
   simp only [Rows.uptoBulk]
   omega⟩
theorem opn_t {t e:TypeId} (ht:Tryz.prog.underlying t=some (.slice e)) (he:Tryz.prog.underlying e=some (.int .u8)) (hce:Tryz.prog.cellsOf e=1):Opng t 1 repT (λb=>b.length):=(opn_l ht hce Nat.zero_lt_one (opn_o he)).as λC cs l ⟨v,h1,A,n,cp,h2,h3,h4,h5,h6⟩=>⟨l,⟨v,h1,A,n,cp,h2,h3,h4,h5,λhne=>by
 obtain ⟨g,o,e,hq⟩:=h6 hne
 refine ⟨g,o,e,λj u hu=>?_⟩
 obtain ⟨cs',_,_,rfl,q⟩:=hq j u hu
 have:=q 0 (bv u) rfl
 rwa [Nat.mul_one,Nat.add_zero] at this⟩,Nat.le_add_right _ _⟩
theorem opn_s3 {α0 α1 α2:Type} {t:TypeId} {f0 f1 f2:Field} {k0 k1 k2:Nat} {r0:Rdr→List Value→α0→Prop} {r1:Rdr→List Value→α1→Prop} {r2:Rdr→List Value→α2→Prop} {z0:α0→Nat} {z1:α1→Nat} {z2:α2→Nat} (ht:Tryz.prog.underlying t=some (.struct #[f0,f1,f2])) (c0:Tryz.prog.cellsOf f0.type=k0) (c1:Tryz.prog.cellsOf f1.type=k1) (c2:Tryz.prog.cellsOf f2.type=k2) (o0:f0.offset=0) (o1:f1.offset=0+k0) (o2:f2.offset=0+k0+k1)
  (h0:Opng f0.type k0 r0 z0) (h1:Opng f1.type k1 r1 z1) (h2:Opng f2.type k2 r2 z2):Opng t (k0+(k1+(k2))) (λC cs (y:α0×α1×α2)=>∃ a0 a1 a2:List Value,cs=a0++(a1++(a2))∧r0 C a0 y.1∧r1 C a1 y.2.1∧r2 C a2 y.2.2) (λy=>z0 y.1+z1 y.2.1+z2 y.2.2):=⟨λ{H enc W fuel cs x} hl hf=>by
 obtain ⟨xs,m,_,hx,_,hn,hg⟩:=DataW.trod_struct ht hf
 match xs,hn with
 | [y0,y1,y2],_ =>
  have g0:DataW.trod enc Tryz.prog W 0 (λ_=>true) true m f0.type ((cs.drop f0.offset).take (Tryz.prog.cellsOf f0.type))=some y0:=hg 0 f0 rfl
  rw [o0,c0] at g0
  obtain ⟨v0,p0,q0,s0⟩:=h0.go (by rw [List.length_take,List.length_drop]; omega) g0
  have g1:DataW.trod enc Tryz.prog W 0 (λ_=>true) true m f1.type ((cs.drop f1.offset).take (Tryz.prog.cellsOf f1.type))=some y1:=hg 1 f1 rfl
  rw [o1,c1] at g1
  obtain ⟨v1,p1,q1,s1⟩:=h1.go (by rw [List.length_take,List.length_drop]; omega) g1
  have g2:DataW.trod enc Tryz.prog W 0 (λ_=>true) true m f2.type ((cs.drop f2.offset).take (Tryz.prog.cellsOf f2.type))=some y2:=hg 2 f2 rfl
  rw [o2,c2] at g2
  obtain ⟨v2,p2,q2,s2⟩:=h2.go (by rw [List.length_take,List.length_drop]; omega) g2
  have e0:cs.drop (0)=(cs.drop (0)).take k0++cs.drop (0+k0):=by have q:=(List.take_append_drop k0 (cs.drop (0))).symm; rwa [List.drop_drop] at q
  have e1:cs.drop (0+k0)=(cs.drop (0+k0)).take k1++cs.drop (0+k0+k1):=by have q:=(List.take_append_drop k1 (cs.drop (0+k0))).symm; rwa [List.drop_drop] at q
  have e2:cs.drop (0+k0+k1)=(cs.drop (0+k0+k1)).take k2:=(List.take_of_length_le (by rw [List.length_drop]; omega)).symm
  have e:cs=(cs.drop (0)).take k0++((cs.drop (0+k0)).take k1++((cs.drop (0+k0+k1)).take k2)):=(List.drop_zero (l:=cs)).symm.trans (e0.trans (congrArg ((cs.drop (0)).take k0++·) (e1.trans (congrArg ((cs.drop (0+k0)).take k1++·) (e2)))))
  refine ⟨(v0,v1,v2),⟨_,_,_,e,p0,p1,p2⟩,λu hu=>by rw [e] at hu; exact (ones_app q0 (ones_app q1 (q2))) u hu,?_⟩
  subst hx
  simp only [Rows.uptoBulk,List.map_cons,List.map_nil,Rows.uptoBulkAll]
  omega⟩
theorem arg_s {α:Type} {t:TypeId} {k:Nat} {rep:Rdr→List Value→α→Prop} {sz:α→Nat} (h:Opng t k rep sz) {fs:Array Field} (ht:Tryz.prog.underlying t=some (.struct fs)) (hk:Tryz.prog.cellsOf t=k) {H:Type} {enc:TypeId×Value→H} {W:World} {r:Reach} {b0:Nat} {v:Value} {d:DataW H} {ps:List MemPlace} (hval:Value.okWide Tryz.prog W r b0 t v) (hT:DataW.Trod enc Tryz.prog W 0 (λ_=>true) true t v d ps) :
  ∃ cs y,v=.agg cs.toArray∧cs.length=k∧rep (rdW W) cs y∧sz y<Rows.uptoBulk d:=by
 obtain ⟨⟨cs⟩,rfl,hsz⟩:=okWide_struct ht hval
 rw [hk] at hsz
 obtain ⟨fuel,hf⟩:=hT
 obtain ⟨y,h1,h2,h3⟩:=h.go (by simpa using hsz) (show DataW.trod enc Tryz.prog W 0 (λ_=>true) true fuel t cs=some (d,ps) by simpa [Value.cells] using hf)
 exact ⟨cs,y,rfl,by simpa using hsz,h1,h3⟩
theorem arg_v {α:Type} {t e:TypeId} {rep:Rdr→List Value→α→Prop} {sz:α→Nat} (h:Opng t 1 rep sz) (ht:Tryz.prog.underlying t=some (.slice e)) {H:Type} {enc:TypeId×Value→H} {W:World} {r:Reach} {b0:Nat} {v:Value} {d:DataW H} {ps:List MemPlace} (hval:Value.okWide Tryz.prog W r b0 t v) (hT:DataW.Trod enc Tryz.prog W 0 (λ_=>true) true t v d ps) :
  ∃ y,rep (rdW W) [v] y∧sz y<Rows.uptoBulk d:=by
 obtain ⟨A,n,c,rfl⟩:=okWide_slice ht hval
 obtain ⟨fuel,hf⟩:=hT
 obtain ⟨y,h1,_,h3⟩:=h.go rfl (show DataW.trod enc Tryz.prog W 0 (λ_=>true) true fuel t [.slice A n c]=some (d,ps) by simpa [Value.cells] using hf)
 exact ⟨y,h1,h3⟩
theorem opn_by:Opng 22 1 repT (λb=>b.length):=opn_t Tryz.underlying22 Tryz.underlying5 (by kernel_rfl)
theorem repT.one {C:Rdr} {v:Value} {b:Byt} (h:repT C [v] b):BytR C v b:=by
 obtain ⟨u,e,h⟩:=h
 injection e with e
 subst e
 exact h
structure Cas where
 wit:List Byt
 msg:Byt
 h:Nat
def repCas (C:Rdr) (cs:List Value) (c:Cas):Prop:=∃ v,cs=v::(c.msg.map bv++[.int .u64 ((c.h:Nat):Int)])∧LstR C 1 repT v c.wit∧c.msg.length=32∧c.h<18446744073709551616
theorem opn_cas:Opng 28 34 repCas (λc=>c.wit.length+(c.wit.map (·.length)).sum):=(opn_s3 Tryz.underlying28 (by kernel_rfl) (by kernel_rfl) (by kernel_rfl) (by kernel_rfl) (by kernel_rfl) (by kernel_rfl) (opn_l Tryz.underlying23 (by kernel_rfl) (by decide) opn_by) (opn_n Tryz.underlying25 Tryz.underlying5 (by kernel_rfl) (by kernel_rfl)) (opn_u Tryz.underlying26)).as λC cs (l,d,h) ⟨a0,a1,a2,e,⟨v,e1,h1⟩,⟨e2,h2⟩,⟨e3,h3⟩⟩=>by
 subst e1 e2 e3 e
 exact ⟨⟨l,d,h⟩,⟨v,rfl,h1,h2,h3⟩,Nat.le_refl _⟩
theorem lst_arg {C:Rdr} {v:Value} {l:List Byt} (h:LstR C 1 repT v l):∃ zs,Arg C C v zs∧zs.map (·.2)=l:=by
 obtain ⟨A,n,cp,rfl,h2,h3,h4,h5⟩:=h
 by_cases hl:l=[]
 ·subst hl
  obtain rfl:n=0:=h2.symm
  exact ⟨[],⟨A,0,cp,rfl,rfl,h3,h4,λh=>(h rfl).elim⟩,rfl⟩
 obtain ⟨g,o,rfl,hq⟩:=h5 hl
 have key:∀ k,k≤l.length→∃ zs:List (Value×Byt),zs.map (·.2)=l.take k∧∀ j z,zs[j]? = some z→C g (o+j) z.1∧BytR C z.1 z.2:=by
  intro k
  induction k with
  | zero=>intro _; exact ⟨[],rfl,λj z h=>by cases h⟩
  | succ k ih =>
   intro hk
   obtain ⟨zs,z1,z2⟩:=ih (by omega)
   obtain ⟨b,hb⟩:∃ b,l[k]? = some b:=⟨_,List.getElem?_eq_getElem (by omega)⟩
   obtain ⟨cs,c1,c2,⟨u,rfl,c3⟩,c4⟩:=hq k b hb
   have zl:zs.length=k:=by
    have:=congrArg List.length z1
    rw [List.length_map,List.length_take] at this; omega
   refine ⟨zs++[(u,b)],by rw [List.map_append,z1,List.take_add_one,hb]; rfl,λj z hz=>?_⟩
   rcases Nat.lt_or_ge j zs.length with hj | hj
   ·rw [List.getElem?_append_left hj] at hz
    exact z2 j z hz
   ·rw [List.getElem?_append_right hj] at hz
    cases hjz:j - zs.length with
    | zero =>
     rw [hjz] at hz
     cases hz
     obtain rfl:j=k:=by omega
     have:=c4 0 u rfl
     rw [Nat.mul_one,Nat.add_zero] at this
     exact ⟨this,c3⟩
    | succ i=>rw [hjz] at hz; cases hz
 obtain ⟨zs,z1,z2⟩:=key l.length (Nat.le_refl _)
 rw [List.take_length] at z1
 refine ⟨zs,⟨_,n,cp,rfl,?_,h3,h4,λ_=>⟨g,o,rfl,z2⟩⟩,z1⟩
 rw [← h2, ← z1,List.length_map]
end Pg
end
section
namespace Pg
open Go.RowKit Sy
set_option maxRecDepth 100000
set_option maxHeartbeats 4000000
open Wr
theorem Arg.le {C D C' D':Rdr} {v:Value} {l:List (Value×Byt)} (h:Arg C D v l) (hc:Le C C') (hd:Le D D'):Arg C' D' v l:=by
 obtain ⟨A,n,cp,h1,h2,h3,h4,h5⟩:=h
 exact ⟨A,n,cp,h1,h2,h3,h4,λhne=>by
  obtain ⟨g,o,e,hq⟩:=h5 hne
  exact ⟨g,o,e,λj z hz=>⟨hd _ _ _ (hq j z hz).1,(hq j z hz).2.le hc⟩⟩⟩
end Pg
end
section
namespace Pg
open Go.RowKit Sy
set_option maxRecDepth 100000
set_option maxHeartbeats 4000000
open Wr
inductive Pars:Byt→List Bool→List Opn→List Bool→Prop
  | nil (o:List Bool):Pars [] o [] o
  | step {c:UInt8} {r:Byt} {o o1 o2:List Bool} {k:Nat} {l:List Opn} (hf:follow c=some k) (hk:k≤r.length) (ht:take o c=some o1) (h:Pars (r.drop k) o1 l o2):Pars (c::r) o ((c,r.take k)::l) o2
theorem pars_of : ∀ (n : Nat) (p : Byt) (o : List Bool) (l : List Opn), parseN n p o = (0, l) → Pars p o l []
  | n, [], o, l => fun h => by
    have h2:(if o=[] then ((0,[]):Nat×List Opn) else (135,[]))=(0,l):=by cases n <;> exact h
    split at h2
    · rename_i e
      cases h2
      subst e
      exact Pars.nil []
    · cases h2
  | 0,_::_,_,_=>λh=>by cases h
  | n + 1, c :: r, o, l => fun h => by
    unfold parseN at h
    split at h
    · cases h
    · rename_i k hf
      split at h
      · cases h
      · rename_i hk
        split at h
        · cases h
        · rename_i o' ht
          split at h
          · rename_i h0
            cases h
            exact Pars.step hf (by omega) ht (pars_of n _ _ _ (by rw [← h0]))
          · rename_i h0
            exact absurd (congrArg Prod.fst h) h0
theorem par_of {p : Byt} {o o2 : List Bool} {l : List Opn} (h : Pars p o l o2) (h2 : o2 = []) : par p o = (0, l) := by
  induction h with
  | nil o=>rw [par_nil,if_pos h2]
  | step hf hk ht _ ih =>
    rw [par_go hf (by omega) ht,ih h2]
    rfl
theorem Pars.app {p q : Byt} {o o1 o2 : List Bool} {l l2 : List Opn} (h : Pars p o l o1) (h2 : Pars q o1 l2 o2) : Pars (p ++ q) o (l ++ l2) o2 := by
  induction h with
  | nil o=>exact h2
  | step hf hk ht _ ih =>
    have q1:=ih h2
    rw [← List.drop_append_of_le_length hk] at q1
    have q2:=Pars.step (r:=_++q) hf (by rw [List.length_append]; omega) ht q1
    rw [List.take_append_of_le_length hk] at q2
    exact q2
theorem take_frame (b : List Bool) {o o1 : List Bool} {c : UInt8} (h : take o c = some o1) : take (b ++ o) c = some (b ++ o1) := by
  unfold take at h ⊢
  split at h
  · rename_i h1
    rw [if_pos h1]
    cases h
    rw [List.append_assoc]
  · rename_i h1
    rw [if_neg h1]
    split at h
    · rename_i h2
      rw [if_pos h2]
      split at h
      · cases h
      · rename_i h3
        cases h
        rcases List.eq_nil_or_concat o with rfl | ⟨d,x,rfl⟩
        · exact absurd (.inl rfl) h3
        · rw [List.concat_eq_append] at h3 ⊢
          rw [if_neg (by rintro (h4 | h4); · simp at h4
                         · refine h3 (.inr ?_); rw [← List.append_assoc,List.getLast?_append] at h4; simpa using h4)]
          rw [← List.append_assoc,List.dropLast_concat,List.dropLast_concat,List.append_assoc]
    · rename_i h2
      rw [if_neg h2]
      split at h
      · rename_i h5
        rw [if_pos h5]
        split at h
        · cases h
        · rename_i h3
          cases h
          rcases List.eq_nil_or_concat o with rfl | ⟨d,x,rfl⟩
          · exact absurd rfl h3
          · rw [List.concat_eq_append,if_neg (by simp), ← List.append_assoc,List.dropLast_concat,List.dropLast_concat]
      · rename_i h5
        rw [if_neg h5]
        cases h
        rfl
theorem Pars.frame {p:Byt} {o o1:List Bool} {l:List Opn} (h:Pars p o l o1) (b:List Bool):Pars p (b++o) l (b++o1):=by
  induction h with
  | nil o=>exact Pars.nil _
  | step hf hk ht _ ih=>exact Pars.step hf hk (take_frame b ht) ih
theorem take_some {o o1 : List Bool} {c : UInt8} (h : take o c = some o1) : (c.toNat = 106 ∧ o1.length = o.length + 1) ∨ (c.toNat = 107 ∧ 0 < o.length ∧ o1.length = o.length) ∨ (c.toNat = 108 ∧ o.length = o1.length + 1) ∨ (¬ c.toNat = 106 ∧ ¬ c.toNat = 107 ∧ ¬ c.toNat = 108 ∧ o1 = o) := by
  unfold take at h
  split at h
  · rename_i h1; cases h; exact .inl ⟨h1,by simp⟩
  · rename_i h1
    split at h
    · rename_i h2
      split at h
      · cases h
      · rename_i h3
        cases h
        have h4:0<o.length:=List.length_pos_iff.2 λe=>h3 (.inl e)
        exact .inr (.inl ⟨h2,h4,by simp; omega⟩)
    · rename_i h2
      split at h
      · rename_i h5
        split at h
        · cases h
        · rename_i h3
          cases h
          have h4:0<o.length:=List.length_pos_iff.2 h3
          exact .inr (.inr (.inl ⟨h5,by simp; omega⟩))
      · rename_i h5
        cases h
        exact .inr (.inr (.inr ⟨h1,h2,h5,rfl⟩))
def goS (E:Env):List Opn→List Byt→Nat→Nat×(List Byt×Nat)
  | [],st,k=>(0,(st,k))
  | x::os,st,k=>if 0<k then goS E os st (pas x.1 k) else if stE E x st≠0 then (stE E x st,([],0)) else goS E os (stS E x st) (stK x st)
theorem exec_goS (E : Env) (b : List Opn) : ∀ (a : List Opn) (st : List Byt) (k : Nat), exec E (a ++ b) st k = if (goS E a st k).1 ≠ 0 then (goS E a st k).1 else exec E b (goS E a st k).2.1 (goS E a st k).2.2
  | [],st,k=>by rw [if_neg (λh=>h rfl)]; rfl
  | x :: os, st, k => by
    rcases Nat.eq_zero_or_pos k with rfl | hk
    · have e : goS E (x :: os) st 0 = if stE E x st ≠ 0 then (stE E x st, ([], 0)) else goS E os (stS E x st) (stK x st) := by
        conv=>lhs; unfold goS
        rw [if_neg (Nat.lt_irrefl 0)]
      rw [List.cons_append,exec_go,e]
      by_cases h:stE E x st≠0
      · rw [if_pos h,if_pos h,if_pos h]
      · rw [if_neg h,if_neg h]; exact exec_goS E b os _ _
    · have e : goS E (x :: os) st k = goS E os st (pas x.1 k) := by
        conv=>lhs; unfold goS
        rw [if_pos hk]
      rw [List.cons_append,exec_pas _ _ _ _ _ hk,e]
      exact exec_goS E b os _ _
theorem goS_go (E:Env) (x:Opn) (os:List Opn) (st:List Byt):goS E (x::os) st 0=if stE E x st≠0 then (stE E x st,([],0)) else goS E os (stS E x st) (stK x st):=by
  conv=>lhs; unfold goS
  rw [if_neg (Nat.lt_irrefl 0)]
theorem goS_pas (E:Env) (x:Opn) (os:List Opn) (st:List Byt) (k:Nat) (hk:0<k):goS E (x::os) st k=goS E os st (pas x.1 k):=by
  conv=>lhs; unfold goS
  rw [if_pos hk]
theorem goS_depth {E : Env} {p : Byt} {o o1 : List Bool} {l : List Opn} (h : Pars p o l o1) : ∀ (st : List Byt) (k : Nat), k ≤ o.length → (goS E l st k).1 = 0 → (goS E l st k).2.2 ≤ o1.length := by
  induction h with
  | nil o=>intro st k hk _; exact hk
  | @step c r o o1 o2 k0 l hf hk ht _ ih =>
    intro st k hko h0
    have h5:=take_some ht
    rcases Nat.eq_zero_or_pos k with rfl | hk1
    · rw [goS_go] at h0 ⊢
      by_cases h1:stE E (c,r.take k0) st≠0
      · rw [if_pos h1] at h0; exact absurd h0 h1
      · rw [if_neg h1] at h0 ⊢
        refine ih _ _ ?_ h0
        unfold stK skp
        dsimp only
        split
        · rename_i h6
          rcases h6 with h6 | ⟨h6,_⟩ <;> omega
        · omega
    · rw [goS_pas _ _ _ _ _ hk1] at h0 ⊢
      refine ih _ _ ?_ h0
      unfold pas
      dsimp only
      repeat' split
      all_goals (try omega)
      all_goals (rcases h5 with h5 | h5 | h5 | ⟨_,_,_,rfl⟩ <;> omega)
theorem goS_skip {E : Env} {p : Byt} {o o1 : List Bool} {l : List Opn} (h : Pars p o l o1) : ∀ (st : List Byt), goS E l st (1 + o.length) = (0, (st, 1 + o1.length)) := by
  induction h with
  | nil o=>intro st; rfl
  | @step c r o o1 o2 k0 l hf hk ht _ ih =>
    intro st
    have h5:=take_some ht
    rw [goS_pas _ _ _ _ _ (by omega)]
    have e:pas c (1+o.length)=1+o1.length:=by
      unfold pas
      repeat' split
      all_goals (try omega)
      all_goals (rcases h5 with h5 | h5 | h5 | ⟨_,_,_,rfl⟩ <;> omega)
    show goS E l st (pas c (1+o.length))=_
    rw [e]
    exact ih st
theorem stE_len {E : Env} {x : Opn} {st : List Byt} (h : stE E x st = 0) : (stS E x st).length ≤ 32 := by
  unfold stE at h
  unfold stS
  split at h
  · cases h
  · split at h
    · rename_i h1; exact absurd h h1
    · split at h
      · cases h
      · omega
theorem goS_len {E : Env} : ∀ (l : List Opn) (st : List Byt) (k : Nat), st.length ≤ 32 → (goS E l st k).1 = 0 → (goS E l st k).2.1.length ≤ 32
  | [],st,k=>λh _=>h
  | x :: os, st, k => fun h h0 => by
    rcases Nat.eq_zero_or_pos k with rfl | hk
    · rw [goS_go] at h0 ⊢
      by_cases h1:stE E x st≠0
      · rw [if_pos h1] at h0; exact absurd h0 h1
      · rw [if_neg h1] at h0 ⊢
        exact goS_len os _ _ (stE_len (Classical.not_not.1 h1)) h0
    · rw [goS_pas _ _ _ _ _ hk] at h0 ⊢
      exact goS_len os _ _ h h0
theorem st_idle {E : Env} {c : UInt8} {st : List Byt} (hc : c.toNat = 107 ∨ c.toNat = 108) (hl : st.length ≤ 32) : stE E (c, []) st = 0 ∧ stS E (c, []) st = st ∧ stK (c, []) st = if c.toNat = 107 then 1 else 0 := by
  have hn:needs (c,[])=0:=by
    unfold needs
    rcases hc with h | h <;> (dsimp only; rw [h]; rfl)
  have hd:∀ l,does E (c,[]) l=(0,[]):=λl=>by
    unfold does
    rcases hc with h | h <;> (dsimp only; rw [h]; rfl)
  have e:stS E (c,[]) st=st:=by
    unfold stS
    rw [hn,hd,Nat.sub_zero,List.take_length,List.append_nil]
  refine ⟨?_,e,?_⟩
  · unfold stE
    rw [hn,hd,if_neg (Nat.not_lt_zero _),if_neg (λh=>h rfl),Nat.sub_zero,List.take_length,List.append_nil,if_neg (by omega)]
  · unfold stK skp
    dsimp only
    rcases hc with h | h
    · rw [if_pos (.inl h),if_pos h]
    · rw [if_neg (by rintro (h1 | ⟨h1,_⟩) <;> omega),if_neg (by omega)]
theorem st_if {E : Env} {wit : List Byt} {b : Byt} (hl : wit.length ≤ 32) : stE E (106, []) (wit ++ [b]) = 0 ∧ stS E (106, []) (wit ++ [b]) = wit ∧ stK (106, []) (wit ++ [b]) = if tru b = false then 1 else 0 := by
  have hn:needs ((106:UInt8),[])=1:=rfl
  have hd:∀ l,does E ((106:UInt8),[]) l=(0,[]):=λl=>rfl
  have e1:(wit++[b]).length - 1=wit.length:=by rw [List.length_append]; rfl
  have e:stS E (106,[]) (wit++[b])=wit:=by
    unfold stS
    rw [hn,hd,e1,List.take_left,List.append_nil]
  refine ⟨?_,e,?_⟩
  · unfold stE
    rw [hn,hd,if_neg (by rw [List.length_append]; simp),if_neg (λh=>h rfl),e1,List.take_left,List.append_nil,if_neg (by omega)]
  · unfold stK skp
    rw [hn,e1,List.drop_left]
    show (if (106:UInt8).toNat=107∨((106:UInt8).toNat=106∧tru b=false) then 1 else 0)=_
    by_cases h:tru b=false
    · rw [if_pos (.inr ⟨rfl,h⟩),if_pos h]
    · rw [if_neg (by rintro (h1 | ⟨_, h1⟩); · cases h1
                     · exact h h1),if_neg h]
def parts (one two:Byt):Byt:=((([106]++one)++[107])++two)++[108]
theorem parse_parts {one two : Byt} (h1 : (parse one).1 = 0) (h2 : (parse two).1 = 0) (hl : (parts one two).length ≤ 256) : Pars one [] (parse one).2 [] ∧ Pars two [] (parse two).2 [] ∧ parse (parts one two) = (0, (106, []) :: ((parse one).2 ++ ((107, []) :: ((parse two).2 ++ [(108, [])])))) := by
  have key : ∀ q : Byt, (parse q).1 = 0 → Pars q [] (parse q).2 [] := fun q hq => by
    have e:parse q=par q []:=by
      unfold parse at hq ⊢
      split
      · rename_i h; rw [if_pos h] at hq; cases hq
      · rfl
    refine pars_of q.length q [] _ ?_
    show par q []=_
    rw [← e, ← hq]
  have p1:=key one h1
  have p2:=key two h2
  refine ⟨p1,p2,?_⟩
  have e:parse (parts one two)=par (parts one two) []:=by unfold parse; rw [if_neg (by omega)]; rfl
  have a1:Pars [106] [] [(106,[])] [false]:=Pars.step (k:=0) rfl (Nat.zero_le _) rfl (Pars.nil _)
  have a2:Pars [107] [false] [(107,[])] [true]:=Pars.step (k:=0) rfl (Nat.zero_le _) rfl (Pars.nil _)
  have a3:Pars [108] [true] [(108,[])] []:=Pars.step (k:=0) rfl (Nat.zero_le _) rfl (Pars.nil _)
  have q:=(((a1.app (p1.frame [false])).app a2).app (p2.frame [true])).app a3
  rw [e]
  refine (par_of q rfl).trans ?_
  simp
theorem fits_add {wit:List Byt} {b:Byt} (hw:wit.length<16) (hb:b.length≤256):fits (wit++[b])=fits wit:=by
  unfold fits
  rw [List.all_append,List.length_append]
  have h1:decide (wit.length+[b].length≤16)=true:=decide_eq_true (by simp; omega)
  have h2:decide (wit.length≤16)=true:=decide_eq_true (by omega)
  rw [h1,h2]
  simp [hb]
theorem run_yes (E : Env) {one two : Byt} {wit : List Byt} {b : Byt} (h1 : (parse one).1 = 0) (h2 : (parse two).1 = 0) (hl : (parts one two).length ≤ 256) (hw : wit.length < 16) (hb : b.length ≤ 256) (ht : tru b = true) : run E (parts one two) (wit ++ [b]) = run E one wit := by
  obtain ⟨p1,p2,e⟩:=parse_parts h1 h2 hl
  have r1:run E (parts one two) (wit++[b])=if fits wit=true then exec E ((106,[])::((parse one).2++((107,[])::((parse two).2++[(108,[])])))) (wit++[b]) 0 else 130:=by
    unfold run
    rw [e,fits_add hw hb]
    exact if_neg (λh=>h rfl)
  have r2:run E one wit=if fits wit=true then exec E (parse one).2 wit 0 else 130:=by
    unfold run
    rw [h1]
    exact if_neg (λh=>h rfl)
  rw [r1,r2]
  by_cases hf:fits wit=true
  · rw [if_pos hf, if_pos hf]
    obtain ⟨s1,s2,s3⟩:=st_if (E:=E) (wit:=wit) (b:=b) (by omega)
    rw [exec_go,s1,if_neg (λh=>h rfl),s2,s3,if_neg (by rw [ht]; decide),exec_goS]
    have e3:exec E (parse one).2 wit 0=exec E ((parse one).2++[]) wit 0:=by rw [List.append_nil]
    rw [e3,exec_goS]
    by_cases hg:(goS E (parse one).2 wit 0).1≠0
    · rw [if_pos hg,if_pos hg]
    · rw [if_neg hg,if_neg hg]
      have hg0:=Classical.not_not.1 hg
      have hd:=goS_depth p1 wit 0 (Nat.zero_le _) hg0
      have hk:(goS E (parse one).2 wit 0).2.2=0:=Nat.le_zero.1 hd
      have hlen:=goS_len (parse one).2 wit 0 (by omega) hg0
      rw [hk]
      obtain ⟨t1,t2,t3⟩:=st_idle (E:=E) (c:=107) (.inl rfl) hlen
      rw [exec_go,t1,if_neg (λh=>h rfl),t2,t3,if_pos (show UInt8.toNat 107=107 from rfl),exec_goS]
      have hs:=goS_skip (E:=E) p2 (goS E (parse one).2 wit 0).2.1
      rw [show (1+([]:List Bool).length)=1 from rfl] at hs
      rw [hs,if_neg (λh=>h rfl),exec_pas _ _ _ _ _ Nat.zero_lt_one]
      rfl
  · rw [if_neg hf,if_neg hf]
theorem run_no (E : Env) {one two : Byt} {wit : List Byt} {b : Byt} (h1 : (parse one).1 = 0) (h2 : (parse two).1 = 0) (hl : (parts one two).length ≤ 256) (hw : wit.length < 16) (hb : b.length ≤ 256) (ht : tru b = false) : run E (parts one two) (wit ++ [b]) = run E two wit := by
  obtain ⟨p1,p2,e⟩:=parse_parts h1 h2 hl
  have r1:run E (parts one two) (wit++[b])=if fits wit=true then exec E ((106,[])::((parse one).2++((107,[])::((parse two).2++[(108,[])])))) (wit++[b]) 0 else 130:=by
    unfold run
    rw [e,fits_add hw hb]
    exact if_neg (λh=>h rfl)
  have r2:run E two wit=if fits wit=true then exec E (parse two).2 wit 0 else 130:=by
    unfold run
    rw [h2]
    exact if_neg (λh=>h rfl)
  rw [r1,r2]
  by_cases hf:fits wit=true
  · rw [if_pos hf, if_pos hf]
    obtain ⟨s1,s2,s3⟩:=st_if (E:=E) (wit:=wit) (b:=b) (by omega)
    rw [exec_go,s1,if_neg (λh=>h rfl),s2,s3,if_pos ht,exec_goS]
    have hs:=goS_skip (E:=E) p1 wit
    rw [show (1+([]:List Bool).length)=1 from rfl] at hs
    rw [hs,if_neg (λh=>h rfl),exec_pas _ _ _ _ _ Nat.zero_lt_one]
    show exec E ((parse two).2++[(108,[])]) wit 0=_
    have e3:exec E (parse two).2 wit 0=exec E ((parse two).2++[]) wit 0:=by rw [List.append_nil]
    rw [e3,exec_goS,exec_goS]
    by_cases hg:(goS E (parse two).2 wit 0).1≠0
    · rw [if_pos hg,if_pos hg]
    · rw [if_neg hg,if_neg hg]
      have hg0:=Classical.not_not.1 hg
      have hd:=goS_depth p2 wit 0 (Nat.zero_le _) hg0
      have hk:(goS E (parse two).2 wit 0).2.2=0:=Nat.le_zero.1 hd
      have hlen:=goS_len (parse two).2 wit 0 (by omega) hg0
      rw [hk]
      obtain ⟨t1,t2,t3⟩:=st_idle (E:=E) (c:=108) (.inr rfl) hlen
      rw [exec_go,t1,if_neg (λh=>h rfl),t2,t3,if_neg (by decide)]
  · rw [if_neg hf,if_neg hf]
end Pg
end
section
namespace Pg
open Go.RowKit Sy
set_option maxRecDepth 100000
set_option maxHeartbeats 4000000
open Wr
section
variable {P:Program} {w0:Base} {n:Nat} {Q:Exit→Act→World→Prop} {F:Slots} {L:Blocks}
theorem joinX {c:Code} {T:Type} (FF:T→Slots) (LL:T→Blocks) (H:T→Prop) (h:∀ x,H x→X w0 n Q (FF x) (LL x) .normal) (k:(∀ x,H x→X w0 n Q (FF x) (LL x) .normal)→wpC P w0 n Q F L c):wpC P w0 n Q F L c:=k h
theorem leafX {T:Type} {FF:T→Slots} {LL:T→Blocks} {H:T→Prop} (h:∀ x,H x→X w0 n Q (FF x) (LL x) .normal) (x:T) (hx:H x) (hF:∀ p∈FF x,F.lookup p.1=some p.2) (hL:∀ w,St w0 w L→St w0 w (LL x)):X w0 n Q F L .normal:=λa w ha hw=>h x hx a w (ha.all hF) (hL w hw)
end
noncomputable def infIn:TypeInfo:=(Tryz.prog.info? 3).getD default
theorem info_in:Tryz.prog.info? 3=some infIn:=by kernel_rfl
noncomputable def infRo:TypeInfo:=(Tryz.prog.info? 73).getD default
theorem info_ro:Tryz.prog.info? 73=some infRo:=by kernel_rfl
def bz (b:Bool):Value:=.int .i64 (if b then 1 else 0)
def bzL (o:List Bool):List (List Value):=o.map λb=>[bz b]
theorem bzL_len (o:List Bool):(bzL o).length=o.length:=List.length_map _
abbrev BzS (y:Slc) (o:List Bool):Prop:=y.Is 3 1 (bzL o)
theorem bzL_one (o:List Bool):∀ y∈bzL o,y.length=1:=λy hy=>by obtain ⟨u,_,rfl⟩:=List.mem_map.1 hy; rfl
theorem bzL_oneC (o:List Bool):∀ y∈bzL o, ∀ u∈y,u.oneCell'=true:=λy hy u hu=>by
 obtain ⟨w,_,rfl⟩:=List.mem_map.1 hy
 rw [List.mem_singleton.1 hu]; rfl
theorem bzL_flat (o:List Bool):(bzL o).flatten=o.map bz:=by induction o with | nil=>rfl | cons u b ih=>show bz u::(bzL b).flatten=_; rw [ih]; rfl
theorem BzS.full {y:Slc} {o:List Bool} (h:BzS y o) (ho:o≠[]):∃ g cap rr,y=⟨.slice (some ⟨g,0,none⟩) o.length cap,[(g,3,(o.map bz++rr).toArray)]⟩∧rr.length+o.length=cap∧cap≤maxLen:=by
 rcases h.row with ⟨e,rfl⟩ | ⟨g,cap,rr,rfl,h1,h2,h3⟩
 ·have:=congrArg List.length e
  rw [bzL_len] at this
  exact (ho (List.eq_nil_of_length_eq_zero this)).elim
 ·rw [bzL_flat,bzL_len]
  rw [bzL_len] at h1
  exact ⟨g,cap,rr,rfl,by omega,h3⟩
theorem BzS.mk {g n cap:Nat} {o:List Bool} {cs rr:List Value} (hc:cs=o.map bz++rr) (hn:o.length=n) (hs:rr.length+n=cap) (hm:cap≤maxLen):BzS ⟨.slice (some ⟨g,0,none⟩) n cap,[(g,3,cs.toArray)]⟩ o:=by
 subst hn
 subst hc
 refine Slc.Is.mk' (bzL_one o) (bzL_oneC o) (bzL_len o) ?_ ?_ (by omega) hm
 ·rw [bzL_flat,Nat.mul_one,List.take_left' (by simp)]
 ·rw [List.length_append,List.length_map]; omega
structure RopY (C:Rdr) (y:Slc) (xs:List (Value×Opn)):Prop where
 row:y.Is 73 2 (opL xs)
 byt:∀ z∈xs,BytR C z.1 z.2.2
theorem RopY.nil (C:Rdr):RopY C nilS []:=⟨Slc.Is.nil _ _,λ_ h=>by cases h⟩
theorem RopY.add {C:Rdr} {y y':Slc} {xs:List (Value×Opn)} {c:UInt8} {v:Value} {b:Byt} (h:RopY C y xs) (hy:y'.Is 73 2 (opL xs++[[bv c,v]])) (hv:BytR C v b):RopY C y' (xs++[(v,(c,b))]):=by
 refine ⟨?_,λz hz=>?_⟩
 ·have e:opL (xs++[(v,(c,b))])=opL xs++[[bv c,v]]:=List.map_append
  rw [e]; exact hy
 ·rcases List.mem_append.1 hz with hz | hz
  ·exact h.byt z hz
  ·rw [List.mem_singleton.1 hz]; exact hv
def RaR (C:Rdr) (L:Blocks) (q:Nat×List Opn) (v:Value) (M:Blocks):Prop:=∃ y xs,v=.tuple #[y.v,.int .i64 ((q.1:Nat):Int)]∧M=L++y.bl∧RopY C y xs∧q.2=xs.map (·.2)
theorem RaR.no {C:Rdr} {L:Blocks} {n:Nat}:RaR C L (n,[]) (.tuple #[.slice none 0 0,.int .i64 ((n:Nat):Int)]) L:=⟨nilS,[],rfl,(List.append_nil _).symm,RopY.nil C,rfl⟩
structure OY where
 yo:Slc
 o:List Bool
 y:Slc
 xs:List (Value×Opn)
 at_:Nat
structure OH (C:Rdr) (p0:Byt) (k:Nat) (z:OY):Prop where
 ho:BzS z.yo z.o
 hy:RopY C z.y z.xs
 e:par p0 []=fin (z.xs.map (·.2)) (par (p0.drop z.at_) z.o)
 n1:z.at_≤p0.length
 n0:k≤z.at_
 n2:z.o.length≤k
 n3:z.xs.length≤k
theorem ops13_any (w0:Base) (L R:Blocks) (v:Value) (p:Byt) (hl0:p.length≤256) (hR:∀ b∈R,b∈L) (hv:BytR (rdC w0 R) v p) (w:World) (hw:St w0 w L):Calls Tryz.prog 28 #[v] w (Turns w0 (RaR (rdC w0 R) L (par p []))):=by
 have hv0:=hv
 obtain ⟨A,n,cp,rfl,h2,h3,h4,h5⟩:=hv
 refine Sy.enterT (args:=[.slice A n cp]) hw Tryz.func28 rfl kL ?_
 have hmx:cp<9223372036854775808:=by simp only [maxLen] at h4; omega
 refine sC ?_
 refine sP (.slice none 0 0)<|sP (.int .i64 0) ?_
 refine sA ?_
 refine sP (.slice none 0 0) ?_
 refine sA ?_
 refine sP (.slice none 0 0) ?_
 refine sA ?_
 refine sP (.int .i64 0) ?_
 refine sG<|Sy.seq<|Sy.block ?_
 refine Sy.loopT (Y:=OY) n (λ_ z=>[(0,.slice A n cp),(4,z.y.v),(5,z.yo.v),(6,.int .i64 ((z.at_:Nat):Int))]) (λk z=>z.yo.bl++(z.y.bl++L)) (OH (rdC w0 R) p) ⟨nilS,[],nilS,[],0⟩ ⟨Slc.Is.nil _ _,RopY.nil _,by rw [List.map_nil]; exact (fin_nil _ _ _).symm,Nat.zero_le _,Nat.le_refl _,by simp,by simp⟩ (all_cons kR (all_cons kR (all_cons kR (all_cons kR all_nil)))) (λw h=>h) (λk0 z hk0 hz=>?_)
 obtain ⟨yo,o0,y,xs,at_⟩:=z
 obtain ⟨ho,hy,he,n1,n0,n2,n3⟩:=hz
 dsimp only at ho hy he n1 n0 n2 n3 ⊢
 rw [h2] at n1
 refine Sy.seq<|sC ?_
 obtain ⟨b2,hb2⟩:∃ t_:Bool,t_=decide (at_<n):=⟨_,rfl⟩
 refine sp rfl<|sp rfl<|sP (.int .i64 (n:Int))<|sS (.bool b2) (Quiet.pure (exec_int .lss _ _ _ .i64 _ _ _ rfl rfl rfl (int_lss _ _ _ _ _ (by rw [hb2]; exact decide_eq_decide.2 (by omega))))) ?_
 refine sG ?_
 cases b2
 case' false =>
  have l2:¬ at_<n:=of_decide_eq_false hb2.symm
  rw [List.drop_of_length_le (by omega)] at he
  refine sU<|Sy.exit<|Sy.then_exit<|Sy.then_exit<|Sy.in_exit<|Sy.then_<|Sy.seq<|sC ?_
  obtain ⟨b3,hb3⟩:∃ t_:Bool,t_=decide (0<o0.length):=⟨_,rfl⟩
  refine sp rfl<|sS (.int .i64 ((o0.length:Nat):Int)) (Quiet.lenR ho (bzL_len o0) _ Tryz.underlying98 rfl rfl)<|sS (.bool b3) (Quiet.pure (exec_int .gtr _ _ _ .i64 _ _ _ rfl rfl rfl (int_gtr _ _ _ _ _ (by rw [hb3]; exact decide_eq_decide.2 (by omega))))) ?_
  refine sG ?_
  cases b3
  case' true =>
   have l3:0<o0.length:=of_decide_eq_true hb3.symm
   refine sT<|sC ?_
   refine sP (.slice none 0 0)<|sP (.int .i64 135) ?_
   refine sG<|Sy.ret<|Sy.then_ret ?_
   have e:par p []=(135,[]):=by
    rw [he,par_nil,if_neg (by intro e; rw [e] at l3; simp at l3)]; rfl
   rw [e]
   exact Sy.retT2 L rfl (.inl (show _=some (.slice none 0 0) by kernel_rfl)) (.inl (show _=some (.int .i64 135) by kernel_rfl)) (λw h=>(Sy.St.parts (ls:=[yo.bl,y.bl,L]) (ms:=[L]) [yo.bl,y.bl] [2,0,1] kR rfl (by simp) (by simp) h)) RaR.no
  have l3:¬ 0<o0.length:=of_decide_eq_false hb3.symm
  obtain rfl:o0=[]:=List.eq_nil_of_length_eq_zero (by omega)
  refine sU<|Sy.skip<|Sy.then_<|sC ?_
  refine sp rfl<|sp rfl<|sP (.int .i64 0) ?_
  refine sG<|Sy.ret ?_
  have e:par p []=(0,xs.map (·.2)):=by
   rw [he,par_nil,if_pos rfl]
   show (0,_++[])=_
   rw [List.append_nil]
  rw [e]
  exact Sy.retT2 (L++y.bl) rfl (.inl (show _=some y.v by kernel_rfl)) (.inl (show _=some (.int .i64 0) by kernel_rfl)) (λw h=>(Sy.St.parts (ls:=[yo.bl,y.bl,L]) (ms:=[L,y.bl]) [yo.bl] [2,1,0] kR rfl (by simp) (by simp) h)) ⟨y,xs,rfl,rfl,hy,rfl⟩
 have l2:at_<n:=of_decide_eq_true hb2.symm
 obtain ⟨c,hc0⟩:∃ c,p[at_]? = some c:=⟨_,List.getElem?_eq_getElem (by omega)⟩
 obtain ⟨r,hr0⟩:∃ r,r=p.drop (at_+1):=⟨_,rfl⟩
 have hdr:p.drop at_=c::r:=by
  rw [hr0,List.drop_eq_getElem_cons (by omega)]
  congr 1
  obtain ⟨h1,h2⟩:=List.getElem?_eq_some_iff.1 hc0
  exact h2
 rw [hdr] at he
 obtain ⟨g,o,rfl,hq⟩:=h5 (by intro e; rw [e] at hc0; cases hc0)
 have hcc:rdC w0 R g (o+at_*1) (bv c):=by rw [Nat.mul_one]; exact hq at_ c hc0
 have hr:r.length+(at_+1)=n:=by rw [hr0,List.length_drop]; omega
 have hcl:=c.toNat_lt
 have RL:∀ b∈R,b∈yo.bl++(y.bl++L):=λb hb=>List.mem_append_right _ (List.mem_append_right _ (hR b hb))
 refine sT<|Sy.skip<|Sy.then_<|Sy.block<|sC ?_
 refine sp rfl<|sp rfl<|sS (.pointer (some ⟨g,o+at_*1,none⟩)) (Quiet.pure (exec_at 22 5 _ _ g o n cp at_ 1 .i64 rfl rfl rfl Tryz.underlying22 kF l2))<|sS (bv c) (cellC (R:=R) hcc RL rfl Tryz.underlying5)<|sp rfl ?_
 refine sA ?_
 refine sP (.int .i64 0) ?_
 refine sG<|Sy.seq ?_
 refine joinX (T:=Nat) (λk=>[(0,.slice (some ⟨g,o,none⟩) n cp),(4,y.v),(5,yo.v),(6,.int .i64 ((at_:Nat):Int)),(7,bv c),(8,.int .i64 ((k:Nat):Int))]) (λ_=>yo.bl++(y.bl++L)) (λk=>follow c=some k) (λk hf=>?_) (λkont=>?_)
 case refine_2 =>
  refine Sy.block<|sC ?_
  obtain ⟨d1,hd1⟩:∃ t_:Bool,t_=decide (c.toNat≤64):=⟨_,rfl⟩
  refine sp rfl<|sS (.bool d1) (Quiet.pure (exec_int .leq _ _ _ .u8 _ _ _ rfl rfl rfl (int_leq _ _ _ _ _ (by rw [hd1]; exact decide_eq_decide.2 (by omega)))))<|sp rfl ?_
  refine sG ?_
  cases d1
  case' true =>
   have l1:c.toNat≤64:=of_decide_eq_true hd1.symm
   refine sT<|Sy.region ?_
   refine sp rfl<|sS (.int .i64 ((c.toNat:Nat):Int)) (Quiet.pure (λw=>conv_8i w _ _ _ c rfl rfl))<|sp rfl ?_
   refine Sy.nil<|Sy.in_ ?_
   exact leafX kont c.toNat (by unfold follow; rw [if_pos l1]) (all_cons kR (all_cons kR (all_cons kR (all_cons kR (all_cons kR (all_cons kR all_nil)))))) (λ_ h=>h)
  have l1:¬ c.toNat≤64:=of_decide_eq_false hd1.symm
  refine sU<|sC ?_
  obtain ⟨d2,hd2⟩:∃ t_:Bool,t_=decide (c.toNat=104):=⟨_,rfl⟩
  refine sp rfl<|sS (.bool d2) (Quiet.pure (exec_int .eql _ _ _ .u8 _ _ _ rfl rfl rfl (int_eql _ _ _ _ _ (by rw [hd2]; exact decide_eq_decide.2 (by omega)))))<|sp rfl ?_
  refine sG ?_
  cases d2
  case' true =>
   have l4:c.toNat=104:=of_decide_eq_true hd2.symm
   refine sT<|Sy.region ?_
   refine sP (.int .i64 2) ?_
   refine Sy.nil<|Sy.in_ ?_
   exact leafX kont 2 (by unfold follow; rw [if_neg l1,if_pos l4]) (all_cons kR (all_cons kR (all_cons kR (all_cons kR (all_cons kR (all_cons kR all_nil)))))) (λ_ h=>h)
  have l4:¬ c.toNat=104:=of_decide_eq_false hd2.symm
  refine sU<|sC ?_
  obtain ⟨d3,hd3⟩:∃ t_:Bool,t_=decide (c.toNat<96):=⟨_,rfl⟩
  refine sp rfl<|sS (.bool d3) (Quiet.pure (exec_int .lss _ _ _ .u8 _ _ _ rfl rfl rfl (int_lss _ _ _ _ _ (by rw [hd3]; exact decide_eq_decide.2 (by omega)))))<|sp rfl ?_
  cases d3
  case' true =>
   have l5:c.toNat<96:=of_decide_eq_true hd3.symm
   refine sN<|sN<|sP (.bool true)<|sp rfl ?_
   refine sG<|sT<|sC ?_
   refine sP (.slice none 0 0)<|sP (.int .i64 131) ?_
   refine sG<|Sy.ret<|Sy.in_ret<|Sy.then_ret<|Sy.in_ret<|Sy.then_ret<|Sy.in_ret<|Sy.then_ret ?_
   have e:par p []=(131,[]):=by rw [he,par_no (by unfold follow; rw [if_neg l1,if_neg l4,if_neg (by omega)])]; rfl
   rw [e]
   exact Sy.retT2 L rfl (.inl (show _=some (.slice none 0 0) by kernel_rfl)) (.inl (show _=some (.int .i64 131) by kernel_rfl)) (λw h=>(Sy.St.parts (ls:=[yo.bl,y.bl,L]) (ms:=[L]) [yo.bl,y.bl] [2,0,1] kR rfl (by simp) (by simp) h)) RaR.no
  have l5:¬ c.toNat<96:=of_decide_eq_false hd3.symm
  obtain ⟨d4,hd4⟩:∃ t_:Bool,t_=decide (108<c.toNat):=⟨_,rfl⟩
  refine sp rfl<|sS (.bool d4) (Quiet.pure (exec_int .gtr _ _ _ .u8 _ _ _ rfl rfl rfl (int_gtr _ _ _ _ _ (by rw [hd4]; exact decide_eq_decide.2 (by omega)))))<|sP (.bool d4)<|sp rfl ?_
  refine sG ?_
  cases d4
  case' true =>
   have l6:108<c.toNat:=of_decide_eq_true hd4.symm
   refine sT<|sC ?_
   refine sP (.slice none 0 0)<|sP (.int .i64 131) ?_
   refine sG<|Sy.ret<|Sy.in_ret<|Sy.then_ret<|Sy.in_ret<|Sy.then_ret<|Sy.in_ret<|Sy.then_ret ?_
   have e:par p []=(131,[]):=by rw [he,par_no (by unfold follow; rw [if_neg l1,if_neg l4,if_neg (by omega)])]; rfl
   rw [e]
   exact Sy.retT2 L rfl (.inl (show _=some (.slice none 0 0) by kernel_rfl)) (.inl (show _=some (.int .i64 131) by kernel_rfl)) (λw h=>(Sy.St.parts (ls:=[yo.bl,y.bl,L]) (ms:=[L]) [yo.bl,y.bl] [2,0,1] kR rfl (by simp) (by simp) h)) RaR.no
  have l6:¬ 108<c.toNat:=of_decide_eq_false hd4.symm
  refine sU<|Sy.skip<|Sy.in_ ?_
  exact leafX kont 0 (by unfold follow; rw [if_neg l1,if_neg l4,if_pos (by omega)]) (all_cons kR (all_cons kR (all_cons kR (all_cons kR (all_cons kR (all_cons kR all_nil)))))) (λ_ h=>h)
 have hk9:k≤255:=by
  have hf':=hf
  unfold follow at hf'
  split at hf'
  ·cases hf'; omega
  ·split at hf'
   ·cases hf'; omega
   ·split at hf'
    ·cases hf'; omega
    ·cases hf'
 refine Sy.then_<|Sy.seq<|sC ?_
 obtain ⟨b4,hb4⟩:∃ t_:Bool,t_=decide ((n:Int) - at_ - 1<k):=⟨_,rfl⟩
 refine sp rfl<|sp rfl<|sP (.int .i64 (n:Int))<|sp rfl<|sS (.int .i64 ((n:Int) - at_)) (Quiet.pure (exec_int .sub _ _ _ .i64 _ _ _ rfl rfl rfl (int_sub _ _ _ _ _ ((wrap_i64 (by omega) (by omega)).trans (by omega)))))<|sS (.int .i64 ((n:Int) - at_ - 1)) (Quiet.pure (exec_int .sub _ _ _ .i64 _ _ _ rfl rfl rfl (int_sub _ _ _ _ _ ((wrap_i64 (by omega) (by omega)).trans (by omega)))))<|sS (.bool b4) (Quiet.pure (exec_int .gtr _ _ _ .i64 _ _ _ rfl rfl rfl (int_gtr _ _ _ _ _ (by rw [hb4])))) ?_
 refine sG ?_
 cases b4
 case' true =>
  have l4:(n:Int) - at_ - 1<k:=of_decide_eq_true hb4.symm
  refine sT<|sC ?_
  refine sP (.slice none 0 0)<|sP (.int .i64 131) ?_
  refine sG<|Sy.ret<|Sy.then_ret<|Sy.in_ret<|Sy.then_ret<|Sy.in_ret<|Sy.then_ret ?_
  have e:par p []=(131,[]):=by rw [he,par_short hf (by omega)]; rfl
  rw [e]
  exact Sy.retT2 L rfl (.inl (show _=some (.slice none 0 0) by kernel_rfl)) (.inl (show _=some (.int .i64 131) by kernel_rfl)) (λw h=>(Sy.St.parts (ls:=[yo.bl,y.bl,L]) (ms:=[L]) [yo.bl,y.bl] [2,0,1] kR rfl (by simp) (by simp) h)) RaR.no
 have l4:¬ (n:Int) - at_ - 1<k:=of_decide_eq_false hb4.symm
 refine sU<|Sy.skip<|Sy.then_<|sC ?_
 refine sp rfl<|sp rfl<|sp rfl<|sp rfl<|sS (.int .i64 ((at_+1:Nat):Int)) (Quiet.pure (exec_int .add _ _ _ .i64 _ _ _ rfl rfl rfl (int_add _ _ _ _ _ ((wrap_i64 (by omega) (by omega)).trans (by omega)))))<|sp rfl<|sS (.int .i64 ((at_+1:Nat):Int)) (Quiet.pure (exec_int .add _ _ _ .i64 _ _ _ rfl rfl rfl (int_add _ _ _ _ _ ((wrap_i64 (by omega) (by omega)).trans (by omega)))))<|sp rfl<|sS (.int .i64 ((at_+1+k:Nat):Int)) (Quiet.pure (exec_int .add _ _ _ .i64 _ _ _ rfl rfl rfl (int_add _ _ _ _ _ ((wrap_i64 (by omega) (by omega)).trans (by omega)))))<|sS (sliced (some ⟨g,o,none⟩) (at_+1) (at_+1+k) cp 1) (Quiet.pure (exec_slh _ _ _ (some ⟨g,o,none⟩) n cp (at_+1) (at_+1+k) rfl rfl rfl rfl (by omega) (by omega)))<|sP (.agg #[bv c,sliced (some ⟨g,o,none⟩) (at_+1) (at_+1+k) cp 1]) ?_
 have hsl:(sliced (some ⟨g,o,none⟩) (at_+1) (at_+1+k) cp 1).oneCell'=true:=rfl
 refine Sy.make kR 73 #[bv c,sliced (some ⟨g,o,none⟩) (at_+1) (at_+1+k) cp 1] (λg=>.slice (some ⟨g,0,none⟩) 1 1) (Makes.one 68 73 _ _ 2 _ [bv c,sliced (some ⟨g,o,none⟩) (at_+1) (at_+1+k) cp 1] rfl kR Tryz.underlying68 info_ro rfl rfl rfl (by decide) (by decide)) (λg9=>?_)
 refine Sy.permS (M:=[(g9,73,#[bv c,sliced (some ⟨g,o,none⟩) (at_+1) (at_+1+k) cp 1])]++(y.bl++(yo.bl++L))) (Sy.flat_perm (ls:=[yo.bl,y.bl,L,[(g9,73,#[bv c,sliced (some ⟨g,o,none⟩) (at_+1) (at_+1+k) cp 1])]]) (ms:=[[(g9,73,#[bv c,sliced (some ⟨g,o,none⟩) (at_+1) (at_+1+k) cp 1])],y.bl,yo.bl,L]) [3,1,0,2] kR rfl (by simp) (by simp)) ?_
 refine Sy.appendR kR 68 73 _ _ 2 32 Tryz.underlying68 info_ro rfl rfl rfl rfl (by decide) _ _ rfl hy.row kR [bv c,sliced (some ⟨g,o,none⟩) (at_+1) (at_+1+k) cp 1] rfl (two_one hsl) 0 g9 73 kR kR (by rw [opL_len]; omega) (by rw [opL_len]; simp only [maxLen]; omega) (λy1 hy1=>?_)
 refine sp rfl ?_
 refine Sy.tidyS (G:=[(0,.slice (some ⟨g,o,none⟩) n cp),(4,y1.v),(5,yo.v),(6,.int .i64 ((at_:Nat):Int)),(7,bv c),(8,.int .i64 ((k:Nat):Int))]) (M:=yo.bl++(y1.bl++L)) (all_cons kR (all_cons kR (all_cons kR (all_cons kR (all_cons kR (all_cons kR all_nil)))))) (λw h=>(Sy.St.parts (ls:=[[(g9,73,#[bv c,sliced (some ⟨g,o,none⟩) (at_+1) (at_+1+k) cp 1])],y1.bl,yo.bl,L]) (ms:=[yo.bl,y1.bl,L]) [[(g9,73,#[bv c,sliced (some ⟨g,o,none⟩) (at_+1) (at_+1+k) cp 1])]] [2,1,3,0] kR rfl (by simp) (by simp) h)) ?_
 have hb2':BytR (rdC w0 R) (sliced (some ⟨g,o,none⟩) (at_+1) (at_+1+k) cp 1) (r.take k):=by
  have:=hv0.slice (l:=at_+1) (m:=at_+1+k) (by omega) (by omega)
  rwa [← hr0,show at_+1+k - (at_+1)=k by omega] at this
 have hya:=hy.add hy1 hb2'
 refine sG<|sC ?_
 refine sp rfl<|sp rfl<|sS (.int .i64 ((1+k:Nat):Int)) (Quiet.pure (exec_int .add _ _ _ .i64 _ _ _ rfl rfl rfl (int_add _ _ _ _ _ ((wrap_i64 (by omega) (by omega)).trans (by omega)))))<|sS (.int .i64 ((at_+(1+k):Nat):Int)) (Quiet.pure (exec_int .add _ _ _ .i64 _ _ _ rfl rfl rfl (int_add _ _ _ _ _ ((wrap_i64 (by omega) (by omega)).trans (by omega)))))<|sp rfl ?_
 refine sG<|sC ?_
 refine sp rfl ?_
 refine sG ?_
 have hdk:p.drop (at_+(1+k))=r.drop k:=by rw [hr0,List.drop_drop]; congr 1; omega
 refine joinX (T:=Slc×List Bool) (λz=>[(0,.slice (some ⟨g,o,none⟩) n cp),(4,y1.v),(5,z.1.v),(6,.int .i64 ((at_+(1+k):Nat):Int))]) (λz=>z.1.bl++(y1.bl++L)) (λz=>take o0 c=some z.2∧BzS z.1 z.2) (λz hz=>?_) (λkont=>?_)
 case refine_1 =>
  obtain ⟨z1,z2⟩:=z
  obtain ⟨ht,hz2⟩:=hz
  dsimp only at ht hz2 ⊢
  have n4:=take_len ht
  refine Sy.in_ ?_
  exact Sy.againT ⟨z1,z2,y1,xs++[(sliced (some ⟨g,o,none⟩) (at_+1) (at_+1+k) cp 1,(c,r.take k))],at_+(1+k)⟩ (by omega) ⟨hz2,hya,by
   show par p []=fin _ (par (p.drop (at_+(1+k))) z2)
   rw [he,par_go hf (by omega) ht,fin_fin,List.map_append,hdk]; rfl,by show at_+(1+k)≤p.length; omega,by show k0+1≤at_+(1+k); omega,by show z2.length≤_; omega,by show (xs++[_]).length≤_; rw [List.length_append,List.length_singleton]; omega⟩ (all_cons kR (all_cons kR (all_cons kR (all_cons kR all_nil)))) (λw h=>h)
 refine Sy.block<|sC ?_
 obtain ⟨d1,hd1⟩:∃ t_:Bool,t_=decide (c.toNat=106):=⟨_,rfl⟩
 refine sS (.bool d1) (Quiet.pure (exec_int .eql _ _ _ .u8 _ _ _ rfl rfl rfl (int_eql _ _ _ _ _ (by rw [hd1]; exact decide_eq_decide.2 (by omega)))))<|sp rfl ?_
 refine sG ?_
 cases d1
 case' true =>
  have l7:c.toNat=106:=of_decide_eq_true hd1.symm
  refine sT<|Sy.region ?_
  refine sp rfl ?_
  refine Sy.make kR 3 #[.int .i64 0] (λg=>.slice (some ⟨g,0,none⟩) 1 1) kF (λg1=>?_)
  refine Sy.permS (M:=[(g1,3,#[.int .i64 0])]++(yo.bl++(y1.bl++L))) (Sy.flat_perm (ls:=[yo.bl,y1.bl,L,[(g1,3,#[.int .i64 0])]]) (ms:=[[(g1,3,#[.int .i64 0])],yo.bl,y1.bl,L]) [3,0,1,2] kR rfl (by simp) (by simp)) ?_
  refine Sy.appendR kR 98 3 _ _ 1 8 Tryz.underlying98 info_in rfl rfl rfl rfl (by decide) _ _ rfl ho kR [.int .i64 0] rfl (λu hu=>by rw [List.mem_singleton.1 hu]; rfl) 0 g1 3 kR kR (by rw [bzL_len]; omega) (by rw [bzL_len]; simp only [maxLen]; omega) (λr1 hr1=>?_)
  refine sp rfl ?_
  refine Sy.nil<|Sy.in_ ?_
  exact leafX kont (r1,o0++[false]) ⟨by unfold take; rw [if_pos l7],by
   have e3:bzL (o0++[false])=bzL o0++[[.int .i64 0]]:=List.map_append
   show r1.Is _ 1 (bzL _)
   rw [e3]
   exact hr1⟩ (all_cons kR (all_cons kR (all_cons kR (all_cons kR all_nil)))) (λw h=>h.less (List.sublist_append_right _ _))
 have l7:¬ c.toNat=106:=of_decide_eq_false hd1.symm
 refine sU<|sC ?_
 obtain ⟨d2,hd2⟩:∃ t_:Bool,t_=decide (c.toNat=107):=⟨_,rfl⟩
 refine sS (.bool d2) (Quiet.pure (exec_int .eql _ _ _ .u8 _ _ _ rfl rfl rfl (int_eql _ _ _ _ _ (by rw [hd2]; exact decide_eq_decide.2 (by omega)))))<|sp rfl ?_
 refine sG ?_
 cases d2
 case' true =>
  have l8:c.toNat=107:=of_decide_eq_true hd2.symm
  refine sT<|Sy.seq<|sC ?_
  rcases List.eq_nil_or_concat o0 with rfl | ⟨d,x,rfl⟩
  ·refine sp rfl<|sS (.int .i64 0) (Quiet.lenR ho rfl _ Tryz.underlying98 rfl rfl)<|sP (.bool true)<|sp rfl<|sN<|sN<|sN<|sN<|sN<|sN<|sN<|sP (.bool true) ?_
   refine sG<|sT<|sC ?_
   refine sP (.slice none 0 0)<|sP (.int .i64 135) ?_
   refine sG<|Sy.ret<|Sy.then_ret<|Sy.in_ret<|Sy.in_ret<|Sy.then_ret<|Sy.in_ret<|Sy.then_ret ?_
   have e:par p []=(135,[]):=by rw [he,par_if hf (by omega) (by unfold take; rw [if_neg l7,if_pos l8,if_pos (.inl rfl)])]; rfl
   rw [e]
   exact Sy.retT2 L rfl (.inl (show _=some (.slice none 0 0) by kernel_rfl)) (.inl (show _=some (.int .i64 135) by kernel_rfl)) (λw h=>(Sy.St.parts (ls:=[yo.bl,y1.bl,L]) (ms:=[L]) [yo.bl,y1.bl] [2,0,1] kR rfl (by simp) (by simp) h)) RaR.no
  rw [List.concat_eq_append] at ho n2 kont he
  obtain ⟨m,hm⟩:∃ m,m=d.length:=⟨_,rfl⟩
  obtain ⟨g2,cap,rr,rfl,q1,q2⟩:=ho.full (by simp)
  have e0:(d++[x]).length=m+1:=by rw [List.length_append, ← hm]; rfl
  have e1:((d++[x]).map bz++rr)=d.map bz++(bz x::rr):=by simp
  have e2:(d.map bz).length=m:=by rw [List.length_map,hm]
  rw [e0] at q1
  rw [e0,e1] at ho
  simp only [e0,e1]
  refine sp rfl<|sS (.int .i64 ((m+1:Nat):Int)) (Quiet.lenR ho (by rw [bzL_len]; exact e0) _ Tryz.underlying98 rfl rfl)<|sS (.bool false) (Quiet.pure (exec_int .eql _ _ _ .i64 _ _ _ rfl rfl rfl (int_eql _ _ _ _ _ (decide_eq_false (by omega)))))<|sp rfl<|sp rfl<|sp rfl<|sS (.int .i64 ((m+1:Nat):Int)) (Quiet.lenR ho (by rw [bzL_len]; exact e0) _ Tryz.underlying98 rfl rfl)<|sS (.int .i64 ((m:Nat):Int)) (Quiet.pure (exec_int .sub _ _ _ .i64 _ _ _ rfl rfl rfl (int_sub _ _ _ _ _ ((wrap_i64 (by omega) (by omega)).trans (by omega)))))<|sS (.pointer (some ⟨g2,0+m*1,none⟩)) (Quiet.pure (exec_at 98 3 _ _ g2 0 (m+1) cap m 1 .i64 rfl rfl rfl Tryz.underlying98 kF (by omega)))<|sS (bz x) (Quiet.cell 0 g2 (0+m*1) 3 3 _ _ _ rfl rfl rfl Tryz.underlying3 rfl _ (by rw [show 0+m*1=m by omega]; exact get_mid _ _ _ _ e2)) ?_
  cases x
  case' true =>
   refine sP (.bool true)<|sP (.bool true) ?_
   refine sG<|sT<|sC ?_
   refine sP (.slice none 0 0)<|sP (.int .i64 135) ?_
   refine sG<|Sy.ret<|Sy.then_ret<|Sy.in_ret<|Sy.in_ret<|Sy.then_ret<|Sy.in_ret<|Sy.then_ret ?_
   have e:par p []=(135,[]):=by rw [he,par_if hf (by omega) (by unfold take; rw [if_neg l7,if_pos l8,if_pos (.inr (by simp))])]; rfl
   rw [e]
   exact Sy.retT2 L rfl (.inl (show _=some (.slice none 0 0) by kernel_rfl)) (.inl (show _=some (.int .i64 135) by kernel_rfl)) (λw h=>h.less ((List.sublist_append_right _ _).trans (List.sublist_append_right _ _))) RaR.no
  refine sP (.bool false)<|sP (.bool false) ?_
  refine sG<|sU<|Sy.skip<|Sy.then_<|Sy.region ?_
  refine sp rfl<|sp rfl<|sS (.int .i64 ((m+1:Nat):Int)) (Quiet.lenR ho (by rw [bzL_len]; exact e0) _ Tryz.underlying98 rfl rfl)<|sS (.int .i64 ((m:Nat):Int)) (Quiet.pure (exec_int .sub _ _ _ .i64 _ _ _ rfl rfl rfl (int_sub _ _ _ _ _ ((wrap_i64 (by omega) (by omega)).trans (by omega)))))<|sS (.pointer (some ⟨g2,0+m*1,none⟩)) (Quiet.pure (exec_at 98 3 _ _ g2 0 (m+1) cap m 1 .i64 rfl rfl rfl Tryz.underlying98 kF (by omega))) ?_
  refine sw 0 rfl (d.map bz++(bz true::rr)).toArray (Writes.one (0+m*1) 3 (.int .i64 1) _ _ rfl rfl rfl kR rfl rfl (by simp; omega) (by rw [show 0+m*1=m by omega]; exact set_mid _ _ _ _ _ e2)) ?_
  refine Sy.nil<|Sy.in_ ?_
  exact leafX kont (⟨.slice (some ⟨g2,0,none⟩) (m+1) cap,[(g2,3,(d.map bz++(bz true::rr)).toArray)]⟩,d++[true]) ⟨by unfold take; rw [if_neg l7,if_pos l8,if_neg (by simp)]; simp,BzS.mk (rr:=rr) (by simp) (by simp [← hm]) (by omega) q2⟩ (all_cons kR (all_cons kR (all_cons kR (all_cons kR all_nil)))) (λw h=>h)
 have l8:¬ c.toNat=107:=of_decide_eq_false hd2.symm
 refine sU<|sC ?_
 obtain ⟨d3,hd3⟩:∃ t_:Bool,t_=decide (c.toNat=108):=⟨_,rfl⟩
 refine sS (.bool d3) (Quiet.pure (exec_int .eql _ _ _ .u8 _ _ _ rfl rfl rfl (int_eql _ _ _ _ _ (by rw [hd3]; exact decide_eq_decide.2 (by omega)))))<|sp rfl ?_
 refine sG ?_
 cases d3
 case' false =>
  have l9:¬ c.toNat=108:=of_decide_eq_false hd3.symm
  refine sU<|Sy.skip<|Sy.in_ ?_
  exact leafX kont (yo,o0) ⟨take_else l7 l8 l9,ho⟩ (all_cons kR (all_cons kR (all_cons kR (all_cons kR all_nil)))) (λw h=>h)
 have l9:c.toNat=108:=of_decide_eq_true hd3.symm
 refine sT<|Sy.seq<|sC ?_
 rcases List.eq_nil_or_concat o0 with rfl | ⟨d,x,rfl⟩
 ·refine sp rfl<|sS (.int .i64 0) (Quiet.lenR ho rfl _ Tryz.underlying98 rfl rfl)<|sP (.bool true) ?_
  refine sG<|sT<|sC ?_
  refine sP (.slice none 0 0)<|sP (.int .i64 135) ?_
  refine sG<|Sy.ret<|Sy.then_ret<|Sy.in_ret<|Sy.in_ret<|Sy.then_ret<|Sy.in_ret<|Sy.then_ret ?_
  have e:par p []=(135,[]):=by rw [he,par_if hf (by omega) (by unfold take; rw [if_neg l7,if_neg l8,if_pos l9,if_pos rfl])]; rfl
  rw [e]
  exact Sy.retT2 L rfl (.inl (show _=some (.slice none 0 0) by kernel_rfl)) (.inl (show _=some (.int .i64 135) by kernel_rfl)) (λw h=>(Sy.St.parts (ls:=[yo.bl,y1.bl,L]) (ms:=[L]) [yo.bl,y1.bl] [2,0,1] kR rfl (by simp) (by simp) h)) RaR.no
 rw [List.concat_eq_append] at ho n2 kont he
 obtain ⟨m,hm⟩:∃ m,m=d.length:=⟨_,rfl⟩
 obtain ⟨g2,cap,rr,rfl,q1,q2⟩:=ho.full (by simp)
 have e0:(d++[x]).length=m+1:=by rw [List.length_append, ← hm]; rfl
 have e1:((d++[x]).map bz++rr)=d.map bz++(bz x::rr):=by simp
 rw [e0] at q1
 rw [e0,e1] at ho
 simp only [e0,e1]
 refine sp rfl<|sS (.int .i64 ((m+1:Nat):Int)) (Quiet.lenR ho (by rw [bzL_len]; exact e0) _ Tryz.underlying98 rfl rfl)<|sS (.bool false) (Quiet.pure (exec_int .eql _ _ _ .i64 _ _ _ rfl rfl rfl (int_eql _ _ _ _ _ (decide_eq_false (by omega))))) ?_
 refine sG<|sU<|Sy.skip<|Sy.then_<|Sy.region ?_
 refine sp rfl<|sp rfl<|sS (.int .i64 ((m+1:Nat):Int)) (Quiet.lenR ho (by rw [bzL_len]; exact e0) _ Tryz.underlying98 rfl rfl)<|sS (.int .i64 ((m:Nat):Int)) (Quiet.pure (exec_int .sub _ _ _ .i64 _ _ _ rfl rfl rfl (int_sub _ _ _ _ _ ((wrap_i64 (by omega) (by omega)).trans (by omega)))))<|sS (.slice (some ⟨g2,0,none⟩) m cap) (Quiet.pure (exec_upto 98 _ _ g2 0 (m+1) cap m 1 .i64 rfl rfl rfl Tryz.underlying98 kF (by omega)))<|sp rfl ?_
 refine Sy.nil<|Sy.in_ ?_
 exact leafX kont (⟨.slice (some ⟨g2,0,none⟩) m cap,[(g2,3,(d.map bz++(bz x::rr)).toArray)]⟩,d) ⟨by unfold take; rw [if_neg l7,if_neg l8,if_pos l9,if_neg (by simp)]; simp,BzS.mk (rr:=bz x::rr) rfl hm.symm (by rw [List.length_cons]; omega) q2⟩ (all_cons kR (all_cons kR (all_cons kR (all_cons kR all_nil)))) (λw h=>h)
theorem right13_any (w0:Base) (L R:Blocks) (hR:∀ b∈R,b∈L) (v:Value) (p:Byt) (hv:BytR (rdC w0 R) v p) (w:World) (hw:St w0 w L):Calls Tryz.prog 14 #[v] w (Turns w0 (λu M=>u=.int .i64 (((parse p).1:Nat):Int)∧M=L)):=by
 have hv0:=hv
 obtain ⟨A,n,cp,rfl,h2,h3,h4,h5⟩:=hv
 refine Sy.enterT (args:=[.slice A n cp]) hw Tryz.func14 rfl kL ?_
 have hmx:cp<9223372036854775808:=by simp only [maxLen] at h4; omega
 refine sC ?_
 refine sP (.int .i64 0) ?_
 refine sG<|Sy.seq<|sC ?_
 obtain ⟨b1,hb1⟩:∃ t_:Bool,t_=decide (256<n):=⟨_,rfl⟩
 refine sp rfl<|sP (.int .i64 (n:Int))<|sS (.bool b1) (Quiet.pure (exec_int .gtr _ _ _ .i64 _ _ _ rfl rfl rfl (int_gtr _ _ _ _ _ (by rw [hb1]; exact decide_eq_decide.2 (by omega))))) ?_
 refine sG ?_
 cases b1
 case' true =>
  have l1:256<n:=of_decide_eq_true hb1.symm
  refine sT<|sC ?_
  refine sP (.int .i64 130) ?_
  refine sG<|Sy.ret<|Sy.then_ret ?_
  have e:parse p=(130,[]):=by unfold parse; rw [if_pos (by omega)]
  exact Sy.retT1 L rfl (.inl (show _=some (.int .i64 130) by kernel_rfl)) (λ_ h=>h) ⟨by rw [e]; rfl,rfl⟩
 have l1:¬ 256<n:=of_decide_eq_false hb1.symm
 have ep:parse p=par p []:=by unfold parse; rw [if_neg (by omega)]; rfl
 refine sU<|Sy.skip<|Sy.then_<|sC ?_
 refine sp rfl ?_
 refine Sy.callT (λw hw=>ops13_any w0.inn L R (.slice A n cp) p (by omega) hR hv0 w hw) (λu M hM=>?_)
 obtain ⟨y,xs,rfl,rfl,hy,hq⟩:=hM
 refine sp rfl<|sp rfl<|sp rfl<|sp rfl<|sp rfl ?_
 refine sA ?_
 refine sp rfl<|sp rfl ?_
 refine sG<|Sy.ret ?_
 exact Sy.retT1 L rfl (.inl (show _=some (.int .i64 (((par p []).1:Nat):Int)) by kernel_rfl)) (λ_ h=>h.less (List.sublist_append_left _ _)) ⟨by rw [ep],rfl⟩
end Pg
end
section
namespace Pg
open Go.RowKit Sy
set_option maxRecDepth 100000
set_option maxHeartbeats 4000000
open Wr
section
variable {w0:Base} {n:Nat} {Q:Exit→Act→World→Prop} {F:Slots} {L:Blocks} {ops:Array Oper} {o:Oper} {l:List Oper}
theorem appB (hg:good ops n F o=true) (s x:Operand) (ho:o.op=.call { callee:=.builtin .append,args:=#[s,x],argTypes:=#[22,22] }) {y:Slc} {b b2:Byt} (hy:BS y b) (hs:evF F s=y.v) {A:Option Addr} {m cp:Nat} (hx:evF F x=.slice A m cp) {R:Blocks} (h2:BytR (rdC w0 R) (.slice A m cp) b2) (X:Blocks) (hL:L.Perm (X++(y.bl++[]))) (hR:∀ z∈R,z∈X) (hlen:b.length+b2.length≤70368744177664)
  (h:∀ y':Slc,BS y' (b++b2)→wpS Tryz.prog w0 n ops Q (putF F o.dst y'.v) (X++(y'.bl++[])) l):wpS Tryz.prog w0 n ops Q F L (o::l):=by
 have h20:=h2
 obtain ⟨A',m',cp',e,h3,h4,h5,h6⟩:=h2
 injection e with e1 e2 e3
 subst e1 e2 e3
 refine Sy.permS hL ?_
 exact Sy.appendM hg 22 5 _ _ 1 1 Tryz.underlying22 Cu.info_u8 rfl rfl rfl rfl (by decide) s x ho hy hs (byL_one b2) (byL_oneC b2) A m cp (by rw [byL_len,h3]) h4 hx (λr=>h20.from (λz hz=>List.mem_append_left _ (hR z hz))) (by rw [byL_len]; omega) (by rw [byL_len]; simp only [maxLen]; omega) (λy' hy'=>h y' (by
  show y'.Is 5 1 _
  rw [byL_app]
  exact hy'))
theorem appT (hg:good ops n F o=true) (s x:Operand) (ho:o.op=.call { callee:=.builtin .append,args:=#[s,x],argTypes:=#[23,23] }) {y:Slc} {zs ys:List (Value×Byt)} (hy:y.Is 22 1 (zs.map λz=>[z.1])) (hs:evF F s=y.v) {A:Option Addr} {m cp:Nat} (hx:evF F x=.slice A m cp) {R:Blocks} (h2:Arg (rdC w0 R) (rdC w0 R) (.slice A m cp) ys) (X:Blocks) (hL:L.Perm (X++(y.bl++[]))) (hR:∀ z∈R,z∈X) (hlen:zs.length+ys.length≤1000000000000)
  (h:∀ y':Slc,y'.Is 22 1 ((zs++ys).map λz=>[z.1])→wpS Tryz.prog w0 n ops Q (putF F o.dst y'.v) (X++(y'.bl++[])) l):wpS Tryz.prog w0 n ops Q F L (o::l):=by
 obtain ⟨A',m',cp',e,h3,h4,h5,h6⟩:=h2
 injection e with e1 e2 e3
 subst e1 e2 e3
 refine Sy.permS hL ?_
 refine Sy.appendM (ys:=ys.map λz=>[z.1]) hg 23 22 _ _ 1 24 Tryz.underlying23 info_sl rfl rfl rfl rfl (by decide) s x ho hy hs (λy hy=>by obtain ⟨z,_,rfl⟩:=List.mem_map.1 hy; rfl) (λy hy u hu=>?_) A m cp (by rw [List.length_map,h3]) h4 hx (λr w hw=>?_) (by rw [List.length_map]; omega) (by rw [List.length_map]; simp only [maxLen]; omega) (λy' hy'=>h y' (by rw [List.map_append]; exact hy'))
 ·obtain ⟨z,hz,rfl⟩:=List.mem_map.1 hy
  rw [List.mem_singleton.1 hu]
  obtain ⟨i,hi⟩:=List.getElem?_of_mem hz
  obtain ⟨g,o,_,hq⟩:=h6 (by intro e; rw [e] at hz; cases hz)
  exact (hq i z hi).2.cells.2
 ·have e1:∀ l:List (Value×Byt),(l.map λz=>[z.1]).flatten=l.map (·.1):=λl=>by
   induction l with
   | nil=>rfl
   | cons a l ih=>show a.1::(l.map λz=>[z.1]).flatten=_; rw [ih]; rfl
  rw [e1]
  rcases ys with _ | ⟨z,l⟩
  ·exact .inl rfl
  ·obtain ⟨g,o,e,hq⟩:=h6 (by simp)
   subst e
   refine .inr ⟨_,rfl,λj u hj=>?_⟩
   rw [addr_off]
   rw [List.getElem?_map] at hj
   cases hx:(z::l)[j]? with
   | none=>rw [hx] at hj; cases hj
   | some x =>
    rw [hx] at hj
    cases hj
    exact (rdC_world hw (λb hb=>List.mem_append_left _ (hR b hb)) _ _ _ (hq j x hx).1).2
end
theorem run_get (h:Nat) (hh:h<18446744073709551616) (m:Byt) (hm:m.length=32) (w:World) (pv wv:Value) (p:Byt) (zs:List (Value×Byt)) (hp:BytR (rdW w) pv p) (hz:Arg (rdW w) (rdW w) wv zs) (ht:TbS w):Calls Tryz.prog 11 #[pv,wv,.agg (m.map bv).toArray,.int .u64 ((h:Nat):Int)] w (Gets w (.int .i64 ((run (envOf m h) p (zs.map (·.2)):Nat):Int))) :=
 (run_any (Tb:=TbS) (envOf m h) m hm (show h<18446744073709551616 from hh) (Base.of w) ht [] [] (λ_ h=>h) pv wv p zs (hp.le rdW_base) (hz.le rdW_base rdW_base) (λx hx=>ef_all h hh m hm x (parse_ok p x hx)) w (St.start w)).mono λe w' he=>by
  obtain ⟨v,M,rfl,⟨rfl,rfl⟩,hst⟩:=he
  exact ⟨rfl,hst.below⟩
theorem row_arg {w0:Base} {R:Blocks} {y:Slc} {zs:List (Value×Byt)} (hy:y.Is 22 1 (zs.map λz=>[z.1])) (hb:∀ z∈zs,BytR (rdC w0 R) z.1 z.2) (hR:∀ b∈y.bl,b∈R) (hsm:∀ z∈zs,z.2.length≤256∨True):Arg (rdC w0 R) (rdC w0 R) y.v zs:=by
 rcases hy.row with ⟨e1,e2⟩ | ⟨g,cap,rr,e2,h1,h2,h3⟩
 ·obtain rfl:zs=[]:=List.map_eq_nil_iff.1 e1
  exact ⟨none,0,0,by rw [e2],rfl,Nat.le_refl _,Nat.zero_le _,λh=>(h rfl).elim⟩
 ·rw [List.length_map] at h1 h2
  refine ⟨some ⟨g,0,none⟩,zs.length,cap,by rw [e2,List.length_map],rfl,h2,h3,λ_=>⟨g,0,rfl,λj z hz=>⟨.inr ⟨22,_,hR _ (by rw [e2]; exact List.mem_singleton.2 rfl),?_⟩,hb z (List.mem_of_getElem? hz)⟩⟩⟩
  have hf:∀ l:List (Value×Byt),(l.map λz=>[z.1]).flatten=l.map (·.1):=λl=>by
   induction l with
   | nil=>rfl
   | cons a l ih=>show a.1::(l.map λz=>[z.1]).flatten=_; rw [ih]; rfl
  rw [hf,Nat.zero_add,List.getElem?_toArray,List.getElem?_append_left (by rw [List.length_map]; exact (List.getElem?_eq_some_iff.1 hz).1),List.getElem?_map,hz]
  rfl
theorem law_scriptparts (w:World) (av bv_:Value) (one two:Byt) (hv1:BytR (rdW w) av one) (hv2:BytR (rdW w) bv_ two) (l1:one.length≤1048576) (l2:two.length≤1048576) (cs:List Value) (c:Cas) (hc:repCas (rdW w) cs c) (l3:c.wit.length≤1048576) (ht:TbS w):Calls Tryz.prog 9 #[av,bv_,.agg cs.toArray] w (Gets w (.bool true)):=by
 obtain ⟨v,hcs,hw0,hmsg,hh⟩:=hc
 obtain ⟨wit,msg,h⟩:=c
 dsimp only at hcs hw0 hmsg hh
 obtain ⟨zs,hz0,hzl⟩:=lst_arg hw0
 have hml:(msg.map bv).length=32:=by rw [List.length_map,hmsg]
 have hcl:cs.length=34:=by rw [hcs,List.length_cons,List.length_append,hml]; rfl
 have hv10:=hv1
 have hv20:=hv2
 obtain ⟨oA,on,oc,rfl,o2,o3,o4,o5⟩:=hv1
 obtain ⟨tA,tn,tc,rfl,t2,t3,t4,t5⟩:=hv2
 have hz00:=hz0
 obtain ⟨wA,wn,wc,rfl,w2,w3,w4,w5⟩:=hz0
 have hwl:wit.length=wn:=by rw [← hzl,List.length_map,w2]
 have hwm:wc<9223372036854775808:=by simp only [maxLen] at w4; omega
 refine Sy.enter (args:=[.slice oA on oc,.slice tA tn tc,.agg cs.toArray]) Tryz.func9 rfl kL ?_
 refine sC ?_
 refine sM 28 cs.toArray (λg5=>?_) kR (λw=>run_boxR rfl rfl (by kernel_rfl) hcl w)
 obtain ⟨L0,hL0⟩:∃ L0,L0=[(g5,28,cs.toArray)]:=⟨_,rfl⟩
 refine Sy.permS (M:=L0) (List.Perm.of_eq (by rw [hL0]; rfl)) ?_
 have h5:(g5,28,cs.toArray)∈L0:=by rw [hL0]; exact List.mem_singleton.2 rfl
 have cx:XAt (rdC (Base.of w) L0) g5 0 (.slice wA wn wc::(msg.map bv++[.int .u64 ((h:Nat):Int)])):=λj u hu=>.inr ⟨_,_,h5,by rw [Nat.zero_add,List.getElem?_toArray,hcs]; exact hu⟩
 have c0:=cx.one
 have cm:=cx.tail.left
 have ch:=(cx.tail.right (n:=32) hml).one
 have hp1:∀ R,BytR (rdC (Base.of w) R) (.slice oA on oc) one:=λR=>hv10.le rdW_base
 have hp2:∀ R,BytR (rdC (Base.of w) R) (.slice tA tn tc) two:=λR=>hv20.le rdW_base
 have hzz:∀ R,Arg (rdC (Base.of w) R) (rdC (Base.of w) R) (.slice wA wn wc) zs:=λR=>hz00.le rdW_base rdW_base
 refine sP (.bool false) ?_
 refine sA ?_
 refine sP (.slice none 0 0) ?_
 refine sA ?_
 refine sp rfl ?_
 refine Sy.make kR 5 (([106]:Byt).map bv).toArray (λg=>.slice (some ⟨g,0,none⟩) 1 1) kF (λgA=>?_)
 obtain ⟨X1,hX1⟩:∃ X,X=L0++[(gA,5,(([106]:Byt).map bv).toArray)]:=⟨_,rfl⟩
 refine appB (y:=nilS) (b:=[]) (b2:=[106]) (A:=some ⟨gA,0,none⟩) (m:=1) (cp:=1) (X:=X1) (R:=X1) kR _ _ rfl (Slc.Is.nil _ _:BS nilS []) kR kR (byt_blk (b:=[106]) (λj v hv=>.inr ⟨5,(([106]:Byt).map bv).toArray,by rw [hX1]; simp,hv⟩) rfl (by decide)) (by rw [hX1]; exact List.Perm.of_eq (List.append_nil _).symm) (λ_ h=>h) (by simp <;> omega) (λy1 hyy1=>?_)
 refine sp rfl ?_
 refine sA ?_
 refine sp rfl<|sp rfl ?_
 refine appB (y:=y1) (A:=oA) (m:=on) (cp:=oc) (X:=X1) (R:=[]) kR _ _ rfl hyy1 kR kR (hp1 []) (List.Perm.refl _) (λ_ h=>by cases h) (by simp <;> omega) (λy2 hyy2=>?_)
 refine sp rfl ?_
 refine sA ?_
 refine sp rfl ?_
 refine Sy.make kR 5 (([107]:Byt).map bv).toArray (λg=>.slice (some ⟨g,0,none⟩) 1 1) kF (λgB=>?_)
 obtain ⟨X2,hX2⟩:∃ X,X=X1++[(gB,5,(([107]:Byt).map bv).toArray)]:=⟨_,rfl⟩
 refine appB (y:=y2)  (b2:=[107]) (A:=some ⟨gB,0,none⟩) (m:=1) (cp:=1) (X:=X2) (R:=X2) kR _ _ rfl hyy2 kR kR (byt_blk (b:=[107]) (λj v hv=>.inr ⟨5,(([107]:Byt).map bv).toArray,by rw [hX2]; simp,hv⟩) rfl (by decide)) (by rw [hX2]; exact (Sy.flat_perm (ls:=[X1,y2.bl,[(gB,5,(([107]:Byt).map bv).toArray)]]) (ms:=[X1,[(gB,5,(([107]:Byt).map bv).toArray)],y2.bl]) [0,2,1] kR rfl (by simp) (by simp))) (λ_ h=>h) (by simp <;> omega) (λy3 hyy3=>?_)
 refine sp rfl ?_
 refine sA ?_
 refine sp rfl<|sp rfl ?_
 refine appB (y:=y3) (A:=tA) (m:=tn) (cp:=tc) (X:=X2) (R:=[]) kR _ _ rfl hyy3 kR kR (hp2 []) (List.Perm.refl _) (λ_ h=>by cases h) (by simp <;> omega) (λy4 hyy4=>?_)
 refine sp rfl ?_
 refine sA ?_
 refine sp rfl ?_
 refine Sy.make kR 5 (([108]:Byt).map bv).toArray (λg=>.slice (some ⟨g,0,none⟩) 1 1) kF (λgC=>?_)
 obtain ⟨X3,hX3⟩:∃ X,X=X2++[(gC,5,(([108]:Byt).map bv).toArray)]:=⟨_,rfl⟩
 refine appB (y:=y4)  (b2:=[108]) (A:=some ⟨gC,0,none⟩) (m:=1) (cp:=1) (X:=X3) (R:=X3) kR _ _ rfl hyy4 kR kR (byt_blk (b:=[108]) (λj v hv=>.inr ⟨5,(([108]:Byt).map bv).toArray,by rw [hX3]; simp,hv⟩) rfl (by decide)) (by rw [hX3]; exact (Sy.flat_perm (ls:=[X2,y4.bl,[(gC,5,(([108]:Byt).map bv).toArray)]]) (ms:=[X2,[(gC,5,(([108]:Byt).map bv).toArray)],y4.bl]) [0,2,1] kR rfl (by simp) (by simp))) (λ_ h=>h) (by simp <;> omega) (λy5 hyy5=>?_)
 refine sp rfl ?_
 have ep:((([]++[106])++one)++[107])++two++[108]=parts one two:=rfl
 rw [ep] at hyy5
 have hpl:(parts one two).length≤3000000:=by unfold parts; simp only [List.length_append,List.length_singleton]; omega
 obtain ⟨n5,hn5⟩:∃ n5,n5=(parts one two).length:=⟨_,rfl⟩
 have sX1:∀ b∈L0,b∈X1:=λb hb=>by rw [hX1]; exact List.mem_append_left _ hb
 have sX2:∀ b∈L0,b∈X2:=λb hb=>by rw [hX2]; exact List.mem_append_left _ (sX1 b hb)
 have sX3:∀ b∈L0,b∈X3:=λb hb=>by rw [hX3]; exact List.mem_append_left _ (sX2 b hb)
 have R3:∀ b∈L0,b∈X3++(y5.bl++[]):=λb hb=>List.mem_append_left _ (sX3 b hb)
 refine sG<|Sy.seq<|sC ?_
 obtain ⟨ea,hea⟩:∃ ea,ea=(parse one).1:=⟨_,rfl⟩
 obtain ⟨eb,heb⟩:∃ eb,eb=(parse two).1:=⟨_,rfl⟩
 refine sp rfl ?_
 refine Sy.callT (λw1 hw1=>right13_any (Base.of w) _ [] (λ_ h=>by cases h) _ one (hp1 []) w1 hw1) (λu M hM=>?_)
 obtain ⟨rfl,rfl⟩:=hM
 rw [← hea]
 obtain ⟨b1,hb1⟩:∃ t_:Bool,t_=decide (ea≠0):=⟨_,rfl⟩
 refine sS (.bool b1) (Quiet.pure (exec_int .neq _ _ _ .i64 _ _ _ rfl rfl rfl (int_neq _ _ _ _ _ (by rw [hb1]; exact decide_eq_decide.2 (by omega)))))<|sp rfl ?_
 cases b1
 case' true =>
  refine sN<|sN<|sN<|sP (.bool true)<|sp rfl<|sN<|sN<|sN<|sP (.bool true)<|sp rfl<|sN<|sN<|sN<|sN<|sP (.bool true) ?_
  refine sG<|sT<|sC ?_
  refine sS (.bool true) (qg (λw _=>alive13 w))<|sp rfl ?_
  refine sG<|Sy.ret<|Sy.then_ret ?_
  exact rV (.bool true) rfl
 have k1:ea=0:=by
  have:=of_decide_eq_false hb1.symm
  omega
 refine sp rfl ?_
 refine Sy.callT (λw1 hw1=>right13_any (Base.of w) _ [] (λ_ h=>by cases h) _ two (hp2 []) w1 hw1) (λu M hM=>?_)
 obtain ⟨rfl,rfl⟩:=hM
 rw [← heb]
 obtain ⟨b2,hb2⟩:∃ t_:Bool,t_=decide (eb≠0):=⟨_,rfl⟩
 refine sS (.bool b2) (Quiet.pure (exec_int .neq _ _ _ .i64 _ _ _ rfl rfl rfl (int_neq _ _ _ _ _ (by rw [hb2]; exact decide_eq_decide.2 (by omega)))))<|sP (.bool b2)<|sp rfl ?_
 cases b2
 case' true =>
  refine sN<|sN<|sN<|sP (.bool true)<|sp rfl<|sN<|sN<|sN<|sN<|sP (.bool true) ?_
  refine sG<|sT<|sC ?_
  refine sS (.bool true) (qg (λw _=>alive13 w))<|sp rfl ?_
  refine sG<|Sy.ret<|Sy.then_ret ?_
  exact rV (.bool true) rfl
 have k2:eb=0:=by
  have:=of_decide_eq_false hb2.symm
  omega
 obtain ⟨b3,hb3⟩:∃ t_:Bool,t_=decide (256<n5):=⟨_,rfl⟩
 refine sp rfl<|sS (.int .i64 ((n5:Nat):Int)) (Quiet.lenR hyy5 (by rw [byL_len,hn5]) _ Tryz.underlying22 rfl rfl)<|sS (.bool b3) (Quiet.pure (exec_int .gtr _ _ _ .i64 _ _ _ rfl rfl rfl (int_gtr _ _ _ _ _ (by rw [hb3]; exact decide_eq_decide.2 (by omega)))))<|sP (.bool b3)<|sp rfl ?_
 cases b3
 case' true =>
  refine sN<|sN<|sN<|sN<|sP (.bool true) ?_
  refine sG<|sT<|sC ?_
  refine sS (.bool true) (qg (λw _=>alive13 w))<|sp rfl ?_
  refine sG<|Sy.ret<|Sy.then_ret ?_
  exact rV (.bool true) rfl
 have k3:¬ 256<n5:=of_decide_eq_false hb3.symm
 obtain ⟨b4,hb4⟩:∃ t_:Bool,t_=decide (16≤wn):=⟨_,rfl⟩
 refine sP (.pointer (some ⟨g5,0,none⟩))<|sS (.slice wA wn wc) (cellC (R:=L0) c0 (R3) rfl Tryz.underlying23)<|sP (.int .i64 (wn:Int))<|sS (.bool b4) (Quiet.pure (exec_int .geq _ _ _ .i64 _ _ _ rfl rfl rfl (int_geq _ _ _ _ _ (by rw [hb4]; exact decide_eq_decide.2 (by omega)))))<|sP (.bool b4) ?_
 refine sG ?_
 cases b4
 case' true =>
  refine sT<|sC ?_
  refine sS (.bool true) (qg (λw _=>alive13 w))<|sp rfl ?_
  refine sG<|Sy.ret<|Sy.then_ret ?_
  exact rV (.bool true) rfl
 have k4:¬ 16≤wn:=of_decide_eq_false hb4.symm
 refine sU<|Sy.skip<|Sy.then_ ?_
 obtain ⟨X4,hX4⟩:∃ X4,X4=X3++y5.bl:=⟨_,rfl⟩
 refine Sy.permC (M:=X4) (List.Perm.of_eq (by rw [hX4,List.append_nil])) ?_
 have sX4:∀ b∈L0,b∈X4:=λb hb=>by rw [hX4]; exact List.mem_append_left _ (sX3 b hb)
 refine sC ?_
 refine sP (.pointer (some ⟨g5,0,none⟩))<|sS (.slice wA wn wc) (cellC (R:=L0) c0 (sX4) rfl Tryz.underlying23) ?_
 refine appT (zs:=[]) (y:=nilS) (A:=wA) (m:=wn) (cp:=wc) (X:=X4) (R:=[]) kR _ _ rfl (Slc.Is.nil _ _) kR kR (hzz []) (List.Perm.of_eq (by show _=X4++([]++[]); simp)) (λ_ h=>by cases h) (by simp; omega) (λy6 hy6=>?_)
 refine Sy.make kR 5 (([1]:Byt).map bv).toArray (λg=>.slice (some ⟨g,0,none⟩) 1 1) kF (λga=>?_)
 refine Sy.make kR 22 #[.slice (some ⟨ga,0,none⟩) 1 1] (λg=>.slice (some ⟨g,0,none⟩) 1 1) kF (λgb=>?_)
 obtain ⟨X5,hX5⟩:∃ X5,X5=X4++[(ga,5,(([1]:Byt).map bv).toArray),(gb,22,#[.slice (some ⟨ga,0,none⟩) 1 1])]:=⟨_,rfl⟩
 have sX5:∀ b∈L0,b∈X5:=λb hb=>by rw [hX5]; exact List.mem_append_left _ (sX4 b hb)
 refine appT (A:=some ⟨gb,0,none⟩) (m:=1) (cp:=1) (ys:=[(.slice (some ⟨ga,0,none⟩) 1 1,[1])]) (X:=X5) (R:=X5) kR _ _ rfl hy6 kR kR (row_arg (y:=⟨.slice (some ⟨gb,0,none⟩) 1 1,[(gb,22,#[.slice (some ⟨ga,0,none⟩) 1 1])]⟩) (StkY.one (C:=rdC (Base.of w) X5) (byt_blk (b:=[1]) (λj v hv=>.inr ⟨5,(([1]:Byt).map bv).toArray,by rw [hX5]; simp,hv⟩) rfl (by decide)) (by decide)).row (λz hz=>by rw [List.mem_singleton.1 hz]; exact byt_blk (b:=[1]) (λj v hv=>.inr ⟨5,(([1]:Byt).map bv).toArray,by rw [hX5]; simp,hv⟩) rfl (by decide)) (λb hb=>by rw [List.mem_singleton.1 hb,hX5]; simp) (λ_ _=>.inr trivial)) (by rw [hX5]; exact (Sy.flat_perm (ls:=[X4,y6.bl,[(ga,5,(([1]:Byt).map bv).toArray)],[(gb,22,#[.slice (some ⟨ga,0,none⟩) 1 1])]]) (ms:=[X4,[(ga,5,(([1]:Byt).map bv).toArray)],[(gb,22,#[.slice (some ⟨ga,0,none⟩) 1 1])],y6.bl]) [0,2,3,1] kR rfl (by simp) (by simp))) (λ_ h=>h) (by simp; omega) (λy7 hy7=>?_)
 refine sp rfl ?_
 obtain ⟨X6,hX6⟩:∃ X6,X6=X5++y7.bl:=⟨_,rfl⟩
 refine Sy.permS (M:=X6) (List.Perm.of_eq (by rw [hX6,List.append_nil])) ?_
 have sX6:∀ b∈L0,b∈X6:=λb hb=>by rw [hX6]; exact List.mem_append_left _ (sX5 b hb)
 refine sA ?_
 refine sP (.pointer (some ⟨g5,0,none⟩))<|sS (.slice wA wn wc) (cellC (R:=L0) c0 (sX6) rfl Tryz.underlying23) ?_
 refine appT (zs:=[]) (y:=nilS) (A:=wA) (m:=wn) (cp:=wc) (X:=X6) (R:=[]) kR _ _ rfl (Slc.Is.nil _ _) kR kR (hzz []) (List.Perm.of_eq (by show _=X6++([]++[]); simp)) (λ_ h=>by cases h) (by simp; omega) (λy8 hy8=>?_)
 refine Sy.make kR 22 #[.slice none 0 0] (λg=>.slice (some ⟨g,0,none⟩) 1 1) kF (λgc=>?_)
 obtain ⟨X7,hX7⟩:∃ X7,X7=X6++[(gc,22,#[.slice none 0 0])]:=⟨_,rfl⟩
 have sX7:∀ b∈L0,b∈X7:=λb hb=>by rw [hX7]; exact List.mem_append_left _ (sX6 b hb)
 refine appT (A:=some ⟨gc,0,none⟩) (m:=1) (cp:=1) (ys:=[(.slice none 0 0,[])]) (X:=X7) (R:=X7) kR _ _ rfl hy8 kR kR (row_arg (y:=⟨.slice (some ⟨gc,0,none⟩) 1 1,[(gc,22,#[.slice none 0 0])]⟩) (StkY.one (C:=rdC (Base.of w) X7) (BytR.nil _) (by decide)).row (λz hz=>by rw [List.mem_singleton.1 hz]; exact BytR.nil _) (λb hb=>by rw [List.mem_singleton.1 hb,hX7]; simp) (λ_ _=>.inr trivial)) (by rw [hX7]; exact (Sy.flat_perm (ls:=[X6,y8.bl,[(gc,22,#[.slice none 0 0])]]) (ms:=[X6,[(gc,22,#[.slice none 0 0])],y8.bl]) [0,2,1] kR rfl (by simp) (by simp))) (λ_ h=>h) (by simp; omega) (λy9 hy9=>?_)
 refine sp rfl ?_
 obtain ⟨LL,hLL⟩:∃ LL,LL=X7++y9.bl:=⟨_,rfl⟩
 refine Sy.permS (M:=LL) (List.Perm.of_eq (by rw [hLL,List.append_nil])) ?_
 have RL:∀ b∈L0,b∈LL:=λb hb=>by rw [hLL]; exact List.mem_append_left _ (sX7 b hb)
 have m7:∀ b∈X7,b∈LL:=λb hb=>by rw [hLL]; exact List.mem_append_left _ hb
 have m6:∀ b∈X6,b∈LL:=λb hb=>m7 b (by rw [hX7]; exact List.mem_append_left _ hb)
 have m5:∀ b∈X5,b∈LL:=λb hb=>m6 b (by rw [hX6]; exact List.mem_append_left _ hb)
 have m4:∀ b∈X4,b∈LL:=λb hb=>m5 b (by rw [hX5]; exact List.mem_append_left _ hb)
 have hP:BytR (rdC (Base.of w) LL) y5.v (parts one two):=(Slc_byt hyy5).le (λg o v hv=>.inr (rdB_le (λb hb=>m4 b (by rw [hX4]; exact List.mem_append_right _ hb)) g o v hv))
 have hzb:∀ z∈zs,BytR (rdC (Base.of w) LL) z.1 z.2:=λz hz=>by
  obtain ⟨i,hi⟩:=List.getElem?_of_mem hz
  obtain ⟨A',n',c',e',q2,q3,q4,q5⟩:=hzz LL
  obtain ⟨g,o,_,hq⟩:=q5 (by intro e; rw [e] at hz; cases hz)
  exact (hq i z hi).2
 have hY:Arg (rdC (Base.of w) LL) (rdC (Base.of w) LL) y7.v (zs++[(.slice (some ⟨ga,0,none⟩) 1 1,[1])]):=row_arg hy7 (λz hz=>by
  rcases List.mem_append.1 hz with hz | hz
  ·exact hzb z hz
  ·rw [List.mem_singleton.1 hz]
   exact byt_blk (b:=[1]) (λj v hv=>.inr ⟨5,(([1]:Byt).map bv).toArray,m5 _ (by rw [hX5]; simp),hv⟩) rfl (by decide)) (λb hb=>m6 b (by rw [hX6]; exact List.mem_append_right _ hb)) (λ_ _=>.inr trivial)
 have hN:Arg (rdC (Base.of w) LL) (rdC (Base.of w) LL) y9.v (zs++[(.slice none 0 0,[])]):=row_arg hy9 (λz hz=>by
  rcases List.mem_append.1 hz with hz | hz
  ·exact hzb z hz
  ·rw [List.mem_singleton.1 hz]; exact BytR.nil _) (λb hb=>by rw [hLL]; exact List.mem_append_right _ hb) (λ_ _=>.inr trivial)
 have eY:run (envOf msg h) (parts one two) (List.map (·.2) (zs++[(.slice (some ⟨ga,0,none⟩) 1 1,[1])]))=run (envOf msg h) one wit:=by
  rw [List.map_append,hzl]
  exact run_yes (envOf msg h) (hea.symm.trans k1) (heb.symm.trans k2) (by omega) (by omega) (show ([1]:Byt).length≤256 by decide) (show tru [1]=true by decide)
 have eN:run (envOf msg h) (parts one two) (List.map (·.2) (zs++[(.slice none 0 0,[])]))=run (envOf msg h) two wit:=by
  rw [List.map_append,hzl]
  exact run_no (envOf msg h) (hea.symm.trans k1) (heb.symm.trans k2) (by omega) (by omega) (show ([]:Byt).length≤256 by decide) (show tru []=false by decide)
 refine Sy.nil<|Sy.then_<|Sy.seq ?_
 refine Sy.regionD (λ_=>false) kR ?_
 have eA:run (envOf msg h) one (List.map (·.2) zs)=run (envOf msg h) one wit:=by rw [hzl]
 have eB:run (envOf msg h) two (List.map (·.2) zs)=run (envOf msg h) two wit:=by rw [hzl]
 refine sD 0 rfl (.bool true) (qg (λw _=>alive13 w))<|sa 1 rfl rfl<|sa 2 rfl rfl<|sa 3 rfl rfl<|sb 4 rfl (.pointer (some ⟨g5,1,none⟩))<|sD 5 rfl (.agg (msg.map bv).toArray) (rowC (R:=L0) (cs:=msg.map bv) cm RL hml rfl Tryz.underlying25)<|sb 6 rfl (.pointer (some ⟨g5,33,none⟩))<|sD 7 rfl (.int .u64 ((h:Nat):Int)) (cellC (R:=L0) ch RL rfl Tryz.underlying26)<|sD 8 rfl (.int .i64 ((run (envOf msg h) one wit:Nat):Int)) (by rw [← eY]; exact qg (args:=#[y5.v,y7.v,.agg (msg.map bv).toArray,.int .u64 ((h:Nat):Int)]) (λw1 hw1=>run_get h hh msg hmsg w1 y5.v y7.v (parts one two) (zs++[(.slice (some ⟨ga,0,none⟩) 1 1,[1])]) (hP.le (rdC_world hw1 (λ_ h=>h))) (hY.le (rdC_world hw1 (λ_ h=>h)) (rdC_world hw1 (λ_ h=>h))) (tb_st ht hw1)))<|sa 9 rfl rfl<|sb 10 rfl (.pointer (some ⟨g5,0,none⟩))<|sD 11 rfl (.slice wA wn wc) (cellC (R:=L0) c0 RL rfl Tryz.underlying23)<|sb 12 rfl (.pointer (some ⟨g5,1,none⟩))<|sD 13 rfl (.agg (msg.map bv).toArray) (rowC (R:=L0) (cs:=msg.map bv) cm RL hml rfl Tryz.underlying25)<|sb 14 rfl (.pointer (some ⟨g5,33,none⟩))<|sD 15 rfl (.int .u64 ((h:Nat):Int)) (cellC (R:=L0) ch RL rfl Tryz.underlying26)<|sD 16 rfl (.int .i64 ((run (envOf msg h) one wit:Nat):Int)) (by rw [← eA]; exact qg (args:=#[(.slice oA on oc),(.slice wA wn wc),.agg (msg.map bv).toArray,.int .u64 ((h:Nat):Int)]) (λw1 hw1=>run_get h hh msg hmsg w1 (.slice oA on oc) (.slice wA wn wc) one zs ((hp1 LL).le (rdC_world hw1 (λ_ h=>h))) ((hzz LL).le (rdC_world hw1 (λ_ h=>h)) (rdC_world hw1 (λ_ h=>h))) (tb_st ht hw1)))<|sv 17 rfl (.bool true) (exec_int .eql _ _ _ .i64 _ _ _ rfl rfl rfl (int_eql _ _ _ _ _ (decide_eq_true rfl)))<|sb 18 rfl (.bool true)<|sa 19 rfl rfl<|sa 20 rfl rfl<|sa 21 rfl rfl<|sb 22 rfl (.pointer (some ⟨g5,1,none⟩))<|sD 23 rfl (.agg (msg.map bv).toArray) (rowC (R:=L0) (cs:=msg.map bv) cm RL hml rfl Tryz.underlying25)<|sb 24 rfl (.pointer (some ⟨g5,33,none⟩))<|sD 25 rfl (.int .u64 ((h:Nat):Int)) (cellC (R:=L0) ch RL rfl Tryz.underlying26)<|sD 26 rfl (.int .i64 ((run (envOf msg h) two wit:Nat):Int)) (by rw [← eN]; exact qg (args:=#[y5.v,y9.v,.agg (msg.map bv).toArray,.int .u64 ((h:Nat):Int)]) (λw1 hw1=>run_get h hh msg hmsg w1 y5.v y9.v (parts one two) (zs++[(.slice none 0 0,[])]) (hP.le (rdC_world hw1 (λ_ h=>h))) (hN.le (rdC_world hw1 (λ_ h=>h)) (rdC_world hw1 (λ_ h=>h))) (tb_st ht hw1)))<|sa 27 rfl rfl<|sb 28 rfl (.pointer (some ⟨g5,0,none⟩))<|sD 29 rfl (.slice wA wn wc) (cellC (R:=L0) c0 RL rfl Tryz.underlying23)<|sb 30 rfl (.pointer (some ⟨g5,1,none⟩))<|sD 31 rfl (.agg (msg.map bv).toArray) (rowC (R:=L0) (cs:=msg.map bv) cm RL hml rfl Tryz.underlying25)<|sb 32 rfl (.pointer (some ⟨g5,33,none⟩))<|sD 33 rfl (.int .u64 ((h:Nat):Int)) (cellC (R:=L0) ch RL rfl Tryz.underlying26)<|sD 34 rfl (.int .i64 ((run (envOf msg h) two wit:Nat):Int)) (by rw [← eB]; exact qg (args:=#[(.slice tA tn tc),(.slice wA wn wc),.agg (msg.map bv).toArray,.int .u64 ((h:Nat):Int)]) (λw1 hw1=>run_get h hh msg hmsg w1 (.slice tA tn tc) (.slice wA wn wc) two zs ((hp2 LL).le (rdC_world hw1 (λ_ h=>h))) ((hzz LL).le (rdC_world hw1 (λ_ h=>h)) (rdC_world hw1 (λ_ h=>h))) (tb_st ht hw1)))<|sv 35 rfl (.bool true) (exec_int .eql _ _ _ .i64 _ _ _ rfl rfl rfl (int_eql _ _ _ _ _ (decide_eq_true rfl)))<|sb 36 rfl (.bool true)<|sa 37 rfl rfl ?_
 refine sI ?_
 refine Sy.ret ?_
 exact rV (.bool true) rfl
end Pg
end
end Go.Proofs.YtnbenphcpenbeaaGreatDoor
