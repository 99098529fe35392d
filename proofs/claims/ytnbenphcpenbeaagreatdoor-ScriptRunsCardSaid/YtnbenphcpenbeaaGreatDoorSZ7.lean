/-
  Texts of ours, put together: ScqB, ScqC, ScqD, ScqE, ScpR, ScqF, FeLift, ScpX, ScpQ, ScNum, EcN, SigM, SigN, ScRefN, ScFold, ScRefAdd, ScRefMul, GenM, GenR, CrvO.
-/
import Derived.Test.YtnbenphcpenbeaaGreatDoorSZ6
set_option linter.unusedVariables false
set_option linter.unusedSimpArgs false
namespace Go.Proofs.YtnbenphcpenbeaaGreatDoor
section
namespace Pg
open Go.RowKit Sy
set_option maxRecDepth 100000
set_option maxHeartbeats 4000000
open Wr
def VerR13:Prop:=∀ (w:World) (key s:List UInt8) (hkey:key.length=32) (hs64:s.length=64) (X:Option Addr) (m:List UInt8) (n e:Nat) (hn:m.length=n) (hm:n≤999999900) (he:n≤e) (he2:e≤9223372036854775807) (hs:Sh.Src w X m) (htr:Sh.TabAt w 0),Calls Tryz.prog 73 #[.agg (key.map bv).toArray,.slice X n e,.agg (s.map bv).toArray] w (Gets w (.bool (Cu.verB key m s)))
def cpy (b:Byt) (N i:Nat):List Value:=(b.take i).map bv++(List.replicate (N - i) (0:UInt8)).map bv
theorem cpy_zero (b:Byt) (N:Nat):cpy b N 0=(List.replicate N (0:UInt8)).map bv:=by unfold cpy; rw [List.take_zero]; rfl
theorem cpy_all {b:Byt} {N:Nat} (h:b.length=N):cpy b N N=b.map bv:=by
 unfold cpy
 rw [List.take_of_length_le (by omega),Nat.sub_self]
 exact List.append_nil _
theorem cpy_len {b:Byt} {N i:Nat} (h:b.length=N) (hi:i≤N):(cpy b N i).length=N:=by
 unfold cpy
 rw [List.length_append,List.length_map,List.length_map,List.length_replicate,List.length_take]
 omega
theorem cpy_put {b:Byt} {N i:Nat} {u:UInt8} (h:b.length=N) (hi:i<N) (hu:b[i]? = some u):(cpy b N i).toArray.setIfInBounds i (bv u)=(cpy b N (i+1)).toArray:=by
 unfold cpy
 obtain ⟨k,hk⟩:∃ k,N - i=k+1:=⟨N - i - 1,by omega⟩
 have h2:N - (i+1)=k:=by omega
 rw [hk,h2,List.replicate_succ,List.map_cons,Pg.set_mid _ _ _ _ i (by rw [List.length_map,List.length_take]; omega)]
 congr 1
 rw [List.take_add_one,hu,List.map_append]
 simp
theorem gets13 {P:Program} {f:FuncId} {args:Array Value} {w:World} {R:Value→Blocks→Prop} (h:Calls P f args w (Turns (Base.of w) R)):Calls P f args w (GetsN w R):=h.mono λe w' he=>by
 obtain ⟨v,M,rfl,hR,hst⟩:=he
 exact ⟨v,M,rfl,hR,hst.below,λg t cs hm=>hst.blk g t cs hm,hst.apart⟩
theorem own13 {w0:Base} {w:World} {L:Blocks} {y:Slc} {d:Byt} (hy:BS y d) (hL:∀ b∈y.bl,b∈L) (hw:St w0 w L):BytR (rdW w) y.v d:=(Slc_byt hy).le (λg o v h=>rdC_world hw hL g o v (.inr h))
theorem signed13_any (hV:VerR13) (w:World) (hT:Sh.TabAt w 0) (m:Byt) (hm:m.length=32) (h:Nat) (sv kv:Value) (sby kby:Byt) (hs:BytR (rdW w) sv sby) (hk:BytR (rdW w) kv kby):Calls Tryz.prog 49 #[sv,kv,.agg (m.map bv).toArray] w (Gets w (.bool (sgn (envOf m h) sby kby))):=by
 obtain ⟨sA_,sn,sc,rfl,s2,s3,s4,s5⟩:=hs
 obtain ⟨kA,kn,kc,rfl,k2,k3,k4,k5⟩:=hk
 refine Sy.enter (args:=[.slice sA_ sn sc,.slice kA kn kc,.agg (m.map bv).toArray]) Tryz.func49 rfl kL ?_
 have hsm:sc<9223372036854775808:=by simp only [maxLen] at s4; omega
 have hkm:kc<9223372036854775808:=by simp only [maxLen] at k4; omega
 refine sC ?_
 refine sM 25 (m.map bv).toArray (λg5=>?_)
 refine sP (.bool false) ?_
 refine sG<|Sy.seq<|sC ?_
 obtain ⟨b1,hb1⟩:∃ t_:Bool,t_=decide (sn≠64):=⟨_,rfl⟩
 refine sp rfl<|sP (.int .i64 (sn:Int))<|sS (.bool b1) (Quiet.pure (exec_int .neq _ _ _ .i64 _ _ _ rfl rfl rfl (int_neq _ _ _ _ _ (by rw [hb1]; exact decide_eq_decide.2 (by omega)))))<|sp rfl ?_
 cases b1
 case' true =>
  have l1:sn≠64:=of_decide_eq_true hb1.symm
  refine sN<|sN<|sN<|sP (.bool true) ?_
  refine sG<|sT<|sC ?_
  refine sP (.bool false) ?_
  refine sG<|Sy.ret<|Sy.then_ret ?_
  have e:sgn (envOf m h) sby kby=false:=by unfold sgn; rw [decide_eq_false (p:=sby.length=64) (by omega)]; simp
  rw [e]
  exact rV (.bool false) rfl
 have l1:¬ sn≠64:=of_decide_eq_false hb1.symm
 obtain rfl:sn=64:=by omega
 obtain ⟨b3,hb3⟩:∃ t_:Bool,t_=decide (kn≠32):=⟨_,rfl⟩
 refine sp rfl<|sP (.int .i64 (kn:Int))<|sS (.bool b3) (Quiet.pure (exec_int .neq _ _ _ .i64 _ _ _ rfl rfl rfl (int_neq _ _ _ _ _ (by rw [hb3]; exact decide_eq_decide.2 (by omega)))))<|sP (.bool b3) ?_
 refine sG ?_
 cases b3
 case' true =>
  have l3:kn≠32:=of_decide_eq_true hb3.symm
  refine sT<|sC ?_
  refine sP (.bool false) ?_
  refine sG<|Sy.ret<|Sy.then_ret ?_
  have e:sgn (envOf m h) sby kby=false:=by unfold sgn; rw [decide_eq_false (by omega)]; rfl
  rw [e]
  exact rV (.bool false) rfl
 have l3:¬ kn≠32:=of_decide_eq_false hb3.symm
 obtain rfl:kn=32:=by omega
 obtain ⟨gk,ok,rfl,kq⟩:=k5 (by intro e; rw [e] at k2; cases k2)
 obtain ⟨gs,os,rfl,sq⟩:=s5 (by intro e; rw [e] at s2; cases s2)
 have e:sgn (envOf m h) sby kby=Cu.verB kby m sby:=by unfold sgn; rw [decide_eq_true k2,decide_eq_true s2]; rfl
 obtain ⟨b,hb⟩:∃ b,b=Cu.verB kby m sby:=⟨_,rfl⟩
 rw [e, ← hb]
 refine sU<|Sy.skip<|Sy.then_<|sC ?_
 refine sM 39 ((List.replicate 32 (0:UInt8)).map bv).toArray (λg7=>?_)
 refine sG<|sC ?_
 refine sM 38 ((List.replicate 64 (0:UInt8)).map bv).toArray (λg8=>?_)
 refine sG<|Sy.seq<|sC ?_
 refine sP (.int .i64 0) ?_
 refine sG<|Sy.block ?_
 refine Sy.loopT (Y:=Unit) 32 (λi _=>[(0,.slice (some ⟨gs,os,none⟩) 64 sc),(1,.slice (some ⟨gk,ok,none⟩) 32 kc),(5,ptr g5),(7,ptr g7),(8,ptr g8),(9,.int .i64 (i:Int))]) (λi _=>[(g5,25,(m.map bv).toArray),(g7,39,(cpy kby 32 i).toArray),(g8,38,((List.replicate 64 (0:UInt8)).map bv).toArray)]) (λ_ _=>True) () trivial (all_cons kR (all_cons kR (all_cons kR (all_cons kR (all_cons kR (all_cons kR all_nil)))))) (λw h=>by rw [cpy_zero]; exact h) (λi _ hi _=>?_)
 refine Sy.seq<|sC ?_
 obtain ⟨b2,hb2⟩:∃ t_:Bool,t_=decide (i<32):=⟨_,rfl⟩
 refine sp rfl<|sS (.bool b2) (Quiet.pure (exec_int .lss _ _ _ .i64 _ _ _ rfl rfl rfl (int_lss _ _ _ _ _ (by rw [hb2]; exact decide_eq_decide.2 (by omega))))) ?_
 refine sG ?_
 cases b2
 case' true =>
  have l2:i<32:=of_decide_eq_true hb2.symm
  obtain ⟨u,hu⟩:∃ u,kby[i]? = some u:=⟨_,List.getElem?_eq_getElem (by omega)⟩
  refine sT<|Sy.skip<|Sy.then_<|Sy.seq<|Sy.block<|Sy.region ?_
  refine sp rfl<|sp rfl<|sp rfl<|sS (.pointer (some ⟨gk,ok+i*1,none⟩)) (Quiet.pure (exec_at 22 5 _ _ gk ok 32 kc i 1 .i64 rfl rfl rfl Tryz.underlying22 kF l2))<|sS (bv u) (Quiet.thereOne gk (ok+i*1) 5 _ _ rfl kR (kq i u hu).1 _ (by rw [Nat.mul_one]; exact (kq i u hu).2) Tryz.underlying5 rfl)<|sS (.pointer (some ⟨g7,0+i*1,none⟩)) (Quiet.pure (exec_atA 39 5 _ _ g7 0 32 i 1 .i64 rfl rfl rfl Tryz.underlying39 kF l2)) ?_
  refine sw 1 rfl (cpy kby 32 (i+1)).toArray (Writes.one (0+i*1) 5 (bv u) _ _ rfl kR kR kR rfl rfl (by rw [Nat.zero_add,Nat.mul_one,List.size_toArray,cpy_len (by omega) (by omega)]; exact l2) (by rw [Nat.zero_add,Nat.mul_one]; exact cpy_put k2 l2 hu)) ?_
  refine Sy.nil<|Sy.in_<|Sy.then_<|Sy.region ?_
  refine sp rfl<|sS (.int .i64 ((i+1:Nat):Int)) (Quiet.pure (exec_int .add _ _ _ .i64 _ _ _ rfl rfl rfl (int_add _ _ _ _ _ ((wrap_i64 (by omega) (by omega)).trans (by omega)))))<|sp rfl ?_
  refine Sy.nil ?_
  exact Sy.againT () l2 trivial (all_cons kR (all_cons kR (all_cons kR (all_cons kR (all_cons kR (all_cons kR all_nil)))))) (λw h=>h)
 have l2:¬ i<32:=of_decide_eq_false hb2.symm
 obtain rfl:i=32:=by omega
 refine sU<|Sy.exit<|Sy.then_exit<|Sy.then_exit<|Sy.in_exit<|Sy.then_<|Sy.seq<|sC ?_
 refine sP (.int .i64 0) ?_
 refine sG<|Sy.block ?_
 refine Sy.loopT (Y:=Unit) 64 (λi _=>[(0,.slice (some ⟨gs,os,none⟩) 64 sc),(5,ptr g5),(7,ptr g7),(8,ptr g8),(10,.int .i64 (i:Int))]) (λi _=>[(g5,25,(m.map bv).toArray),(g7,39,(cpy kby 32 32).toArray),(g8,38,(cpy sby 64 i).toArray)]) (λ_ _=>True) () trivial (all_cons kR (all_cons kR (all_cons kR (all_cons kR (all_cons kR all_nil))))) (λw h=>by rw [cpy_zero]; exact h) (λi _ hi _=>?_)
 refine Sy.seq<|sC ?_
 obtain ⟨b2,hb2⟩:∃ t_:Bool,t_=decide (i<64):=⟨_,rfl⟩
 refine sp rfl<|sS (.bool b2) (Quiet.pure (exec_int .lss _ _ _ .i64 _ _ _ rfl rfl rfl (int_lss _ _ _ _ _ (by rw [hb2]; exact decide_eq_decide.2 (by omega))))) ?_
 refine sG ?_
 cases b2
 case' true =>
  have l2:i<64:=of_decide_eq_true hb2.symm
  obtain ⟨u,hu⟩:∃ u,sby[i]? = some u:=⟨_,List.getElem?_eq_getElem (by omega)⟩
  refine sT<|Sy.skip<|Sy.then_<|Sy.seq<|Sy.block<|Sy.region ?_
  refine sp rfl<|sp rfl<|sp rfl<|sS (.pointer (some ⟨gs,os+i*1,none⟩)) (Quiet.pure (exec_at 22 5 _ _ gs os 64 sc i 1 .i64 rfl rfl rfl Tryz.underlying22 kF l2))<|sS (bv u) (Quiet.thereOne gs (os+i*1) 5 _ _ rfl kR (sq i u hu).1 _ (by rw [Nat.mul_one]; exact (sq i u hu).2) Tryz.underlying5 rfl)<|sS (.pointer (some ⟨g8,0+i*1,none⟩)) (Quiet.pure (exec_atA 38 5 _ _ g8 0 64 i 1 .i64 rfl rfl rfl Tryz.underlying38 kF l2)) ?_
  refine sw 2 rfl (cpy sby 64 (i+1)).toArray (Writes.one (0+i*1) 5 (bv u) _ _ rfl kR kR kR rfl rfl (by rw [Nat.zero_add,Nat.mul_one,List.size_toArray,cpy_len (by omega) (by omega)]; exact l2) (by rw [Nat.zero_add,Nat.mul_one]; exact cpy_put s2 l2 hu)) ?_
  refine Sy.nil<|Sy.in_<|Sy.then_<|Sy.region ?_
  refine sp rfl<|sS (.int .i64 ((i+1:Nat):Int)) (Quiet.pure (exec_int .add _ _ _ .i64 _ _ _ rfl rfl rfl (int_add _ _ _ _ _ ((wrap_i64 (by omega) (by omega)).trans (by omega)))))<|sp rfl ?_
  refine Sy.nil ?_
  exact Sy.againT () l2 trivial (all_cons kR (all_cons kR (all_cons kR (all_cons kR (all_cons kR all_nil))))) (λw h=>h)
 have l2:¬ i<64:=of_decide_eq_false hb2.symm
 obtain rfl:i=64:=by omega
 refine sU<|Sy.exit<|Sy.then_exit<|Sy.then_exit<|Sy.in_exit<|Sy.then_<|Sy.seq ?_
 refine Sy.regionD (λ_=>false) kR ?_
 refine sD 0 rfl (.agg (kby.map bv).toArray) (Quiet.mid 1 g7 0 32 39 39 (cpy kby 32 32) (kby.map bv) _ _ rfl kR rfl Tryz.underlying39 rfl kR (by rw [cpy_all k2,List.drop_zero,List.take_of_length_le (by rw [List.length_map]; omega)]) (by rw [cpy_all k2,List.length_map]; omega))<|sD 1 rfl (.agg (m.map bv).toArray) (Quiet.mid 0 g5 0 32 25 25 (m.map bv) (m.map bv) _ _ rfl kR rfl Tryz.underlying25 rfl kR (by rw [List.drop_zero,List.take_of_length_le (by rw [List.length_map]; omega)]) (by rw [List.length_map]; omega))<|sD 3 rfl (.agg (sby.map bv).toArray) (Quiet.mid 2 g8 0 64 38 38 (cpy sby 64 64) (sby.map bv) _ _ rfl kR rfl Tryz.underlying38 rfl kR (by rw [cpy_all s2,List.drop_zero,List.take_of_length_le (by rw [List.length_map]; omega)]) (by rw [cpy_all s2,List.length_map]; omega)) ?_
 refine Sy.callND 2 rfl kR kR 18 #[.agg (m.map bv).toArray] (by intro _; kernel_rfl) (TxR [] m) (λw _=>gets13 (text13_any (Base.of w) [] m hm w (St.start w))) (λu Mx hM=>?_)
 obtain ⟨z4,rfl,rfl,hz4⟩:=hM
 refine sD 4 rfl (.bool b) (qg (args:=#[.agg (kby.map bv).toArray,z4.v,.agg (sby.map bv).toArray]) (λw1 hw1=>by
  obtain ⟨A,cp,zv,zl,_⟩:=Slc_from (w0:=Base.of w) (L:=z4.bl) hz4 (λ_ h=>h)
  have hb2:=own13 hz4 (λb hb=>List.mem_append_right _ (List.mem_append_right _ hb)) hw1
  rw [byL_len,hm] at zv
  rw [byL_len,hm] at zl
  rw [zv] at hb2 ⊢
  have hcp:cp≤9223372036854775807:=by
   obtain ⟨A',n',c',e1,_,_,h4,_⟩:=hb2
   injection e1 with _ _ e1
   rw [e1]; simpa only [maxLen] using h4
  have q:=hV w1 kby sby k2 s2 A m 32 cp hm (by decide) zl hcp (src_byt hb2) (hT.below hw1.below hT.lt)
  rw [← hb] at q
  exact q))<|sa 5 rfl rfl ?_
 refine sE ?_
 refine Sy.then_<|Sy.ret ?_
 exact rV (.bool b) rfl
end Pg
end
section
namespace Pg
open Go.RowKit Sy
set_option maxRecDepth 100000
set_option maxHeartbeats 4000000
open Wr
theorem map_add (x:Option Nat) (a:Nat):(x.map (·+1)).map (·+a)=x.map (·+(a+1)):=by
 cases x with
 | none=>rfl
 | some y=>show some (y+1+a)=some (y+(a+1)); congr 1; omega
def thr (t:Nat):Option Nat→Bool
 | none=>false
 | some k=>decide (t≤k)
theorem share13_any (hV:VerR13) (w:World) (hT:Sh.TabAt w 0) (m:Byt) (hm:m.length=32) (h t n:Nat) (v:Value) (zs:List (Value×Byt)) (hl:zs.length=2*n) (hz:Arg (rdW w) (rdW w) v zs):Calls Tryz.prog 50 #[v,.int .i64 (t:Int),.int .i64 (n:Int),.agg (m.map bv).toArray] w (Gets w (.bool (share (envOf m h) t n (zs.map (·.2))))):=by
 obtain ⟨A,N,cp,rfl,z2,z3,z4,z5⟩:=hz
 refine Sy.enter (args:=[.slice A N cp,.int .i64 (t:Int),.int .i64 (n:Int),.agg (m.map bv).toArray]) Tryz.func50 rfl kL ?_
 have hmx:cp<9223372036854775808:=by simp only [maxLen] at z4; omega
 obtain ⟨la,hla⟩:∃ la,la=(zs.map (·.2)).take n:=⟨_,rfl⟩
 obtain ⟨lb,hlb⟩:∃ lb,lb=(zs.map (·.2)).drop n:=⟨_,rfl⟩
 obtain ⟨X,hX⟩:∃ X,X=shr (envOf m h) la lb:=⟨_,rfl⟩
 have e:share (envOf m h) t n (zs.map (·.2))=thr t X:=by rw [hX,hla,hlb]; unfold share thr; rfl
 rw [e]
 have hml:(m.map bv).length=32:=by rw [List.length_map,hm]
 refine sC ?_
 refine sM 25 (m.map bv).toArray (λg7=>?_)
 refine sP (.bool false) ?_
 refine sA ?_
 refine sP (.int .i64 0) ?_
 refine sG<|Sy.seq<|sC ?_
 refine sP (.int .i64 0) ?_
 refine sG<|Sy.block ?_
 refine Sy.loopT (Y:=Nat) n (λi a=>[(0,.slice A N cp),(1,.int .i64 (t:Int)),(2,.int .i64 (n:Int)),(7,ptr g7),(9,.int .i64 (a:Int)),(10,.int .i64 (i:Int))]) (λi a=>[(g7,25,(m.map bv).toArray)]) (λi a=>a≤i∧X=(shr (envOf m h) (la.drop i) (lb.drop i)).map (·+a)) 0 ⟨Nat.le_refl _,by rw [hX,List.drop_zero,List.drop_zero]; cases shr (envOf m h) la lb <;> rfl⟩ (all_cons kR (all_cons kR (all_cons kR (all_cons kR (all_cons kR (all_cons kR all_nil)))))) (λ_ h=>h) (λi a hi hy=>?_)
 obtain ⟨y1,y2⟩:=hy
 refine Sy.seq<|sC ?_
 obtain ⟨b2,hb2⟩:∃ t_:Bool,t_=decide (i<n):=⟨_,rfl⟩
 refine sp rfl<|sp rfl<|sS (.bool b2) (Quiet.pure (exec_int .lss _ _ _ .i64 _ _ _ rfl rfl rfl (int_lss _ _ _ _ _ (by rw [hb2]; exact decide_eq_decide.2 (by omega))))) ?_
 refine sG ?_
 cases b2
 case' false =>
  have l2:¬ i<n:=of_decide_eq_false hb2.symm
  obtain rfl:i=n:=by omega
  have hX2:X=some a:=by
   rw [y2,show la.drop i=[] from List.drop_eq_nil_of_le (by rw [hla,List.length_take]; omega)]
   show some (0+a)=some a
   rw [Nat.zero_add]
  refine sU<|Sy.exit<|Sy.then_exit<|Sy.then_exit<|Sy.in_exit<|Sy.then_<|sC ?_
  obtain ⟨b9,hb9⟩:∃ t_:Bool,t_=decide (t≤a):=⟨_,rfl⟩
  refine sp rfl<|sp rfl<|sS (.bool b9) (Quiet.pure (exec_int .geq _ _ _ .i64 _ _ _ rfl rfl rfl (int_geq _ _ _ _ _ (by rw [hb9]; exact decide_eq_decide.2 (by omega)))))<|sp rfl ?_
  refine sG<|Sy.ret ?_
  rw [hX2,show thr t (some a)=b9 from hb9.symm]
  exact rV (.bool b9) rfl
 have l2:i<n:=of_decide_eq_true hb2.symm
 have lz:zs.length=N:=z2
 obtain ⟨ga,oa,rfl,zq⟩:=z5 (by intro e; rw [e] at hl; simp at hl; omega)
 obtain ⟨x,hx⟩:∃ x,zs[i]? = some x:=⟨_,List.getElem?_eq_getElem (by omega)⟩
 obtain ⟨y,hy⟩:∃ y,zs[n+i]? = some y:=⟨_,List.getElem?_eq_getElem (by omega)⟩
 have ha:la[i]? = some x.2:=by rw [hla,List.getElem?_take,if_pos l2,List.getElem?_map,hx]; rfl
 have hb:lb[i]? = some y.2:=by rw [hlb,List.getElem?_drop,List.getElem?_map,hy]; rfl
 have hst:=shr_step (E:=envOf m h) ha hb
 obtain ⟨c0,d0⟩:=zq i x hx
 obtain ⟨c1,d1⟩:=zq (n+i) y hy
 have d00:=d0
 obtain ⟨xA,xn,xc,ex,x2,x3,x4,x5⟩:=d0
 refine sT<|Sy.skip<|Sy.then_<|Sy.seq<|Sy.block<|sC ?_
 obtain ⟨b3,hb3⟩:∃ t_:Bool,t_=decide (0<xn):=⟨_,rfl⟩
 refine sp rfl<|sp rfl<|sS (.pointer (some ⟨ga,oa+i*1,none⟩)) (Quiet.pure (exec_at 23 22 _ _ ga oa N cp i 1 .i64 rfl rfl rfl Tryz.underlying23 kF (by omega)))<|sS (.slice xA xn xc) (Quiet.thereOne ga (oa+i*1) 22 _ _ rfl kR c0.1 _ (by rw [Nat.mul_one, ← ex]; exact c0.2) Tryz.underlying22 rfl)<|sP (.int .i64 (xn:Int))<|sS (.bool b3) (Quiet.pure (exec_int .gtr _ _ _ .i64 _ _ _ rfl rfl rfl (int_gtr _ _ _ _ _ (by rw [hb3]; exact decide_eq_decide.2 (by omega))))) ?_
 refine sG ?_
 cases b3
 case' false =>
  have l3:¬ 0<xn:=of_decide_eq_false hb3.symm
  have hx0:x.2=[]:=List.length_eq_zero_iff.1 (by omega)
  refine sU<|Sy.skip<|Sy.in_<|Sy.then_<|Sy.region ?_
  refine sp rfl<|sS (.int .i64 ((i+1:Nat):Int)) (Quiet.pure (exec_int .add _ _ _ .i64 _ _ _ rfl rfl rfl (int_add _ _ _ _ _ ((wrap_i64 (by omega) (by omega)).trans (by omega)))))<|sp rfl ?_
  refine Sy.nil ?_
  exact Sy.againT a l2 ⟨by omega,by rw [y2,hst,if_pos hx0]⟩ (all_cons kR (all_cons kR (all_cons kR (all_cons kR (all_cons kR (all_cons kR all_nil)))))) (λw h=>h)
 have l3:0<xn:=of_decide_eq_true hb3.symm
 have hx0:x.2≠[]:=by intro e; rw [e] at x2; simp at x2; omega
 rw [if_neg hx0] at hst
 obtain ⟨b,hb9⟩:∃ b,b=sgn (envOf m h) x.2 y.2:=⟨_,rfl⟩
 rw [← hb9] at hst
 refine sT<|Sy.seq<|Sy.seq ?_
 refine Sy.regionD (λ_=>false) kR ?_
 refine sa 0 rfl rfl<|sa 1 rfl rfl<|sv 2 rfl (.pointer (some ⟨ga,oa+i*1,none⟩)) (exec_at 23 22 _ _ ga oa N cp i 1 .i64 rfl rfl rfl Tryz.underlying23 kF (by omega))<|sD 3 rfl x.1 (Quiet.thereOne ga (oa+i*1) 22 _ _ rfl kR c0.1 _ (by rw [Nat.mul_one]; exact c0.2) Tryz.underlying22 rfl)<|sa 4 rfl rfl<|sa 5 rfl rfl<|sa 6 rfl rfl<|sv 7 rfl (.int .i64 ((n+i:Nat):Int)) (exec_int .add _ _ _ .i64 _ _ _ rfl rfl rfl (int_add _ _ _ _ _ ((wrap_i64 (by omega) (by omega)).trans (by omega))))<|sv 8 rfl (.pointer (some ⟨ga,oa+(n+i)*1,none⟩)) (exec_at 23 22 _ _ ga oa N cp (n+i) 1 .i64 rfl rfl rfl Tryz.underlying23 kF (by omega))<|sD 9 rfl y.1 (Quiet.thereOne ga (oa+(n+i)*1) 22 _ _ rfl kR c1.1 _ (by rw [Nat.mul_one]; exact c1.2) Tryz.underlying22 rfl)<|sD 10 rfl (.agg (m.map bv).toArray) (Quiet.mid 0 g7 0 32 25 25 (m.map bv) (m.map bv) _ _ rfl kR rfl Tryz.underlying25 rfl kR (by rw [List.drop_zero,List.take_of_length_le (by omega)]) (by omega))<|sD 11 rfl (.bool b) (qg (args:=#[x.1,y.1,.agg (m.map bv).toArray]) (λw1 hw1=>by rw [hb9]; exact signed13_any hV w1 (hT.below hw1.below hT.lt) m hm h x.1 y.1 x.2 y.2 (d00.at hw1) (d1.at hw1)))<|sZ 12 rfl (.bool !b) ?_
 refine sE ?_
 refine Sy.then_ ?_
 cases b
 case' false =>
  have hX2:X=none:=by rw [y2,hst]; rfl
  refine sT<|sC ?_
  refine sP (.bool false) ?_
  refine sG<|Sy.ret<|Sy.then_ret<|Sy.in_ret<|Sy.then_ret<|Sy.then_ret<|Sy.in_ret<|Sy.then_ret ?_
  rw [hX2]
  exact rV (.bool false) rfl
 refine sU<|Sy.skip<|Sy.then_<|Sy.region ?_
 refine sp rfl<|sS (.int .i64 ((a+1:Nat):Int)) (Quiet.pure (exec_int .add _ _ _ .i64 _ _ _ rfl rfl rfl (int_add _ _ _ _ _ ((wrap_i64 (by omega) (by omega)).trans (by omega)))))<|sp rfl ?_
 refine Sy.nil<|Sy.in_<|Sy.then_<|Sy.region ?_
 refine sp rfl<|sS (.int .i64 ((i+1:Nat):Int)) (Quiet.pure (exec_int .add _ _ _ .i64 _ _ _ rfl rfl rfl (int_add _ _ _ _ _ ((wrap_i64 (by omega) (by omega)).trans (by omega)))))<|sp rfl ?_
 refine Sy.nil ?_
 exact Sy.againT (a+1) l2 ⟨by omega,by rw [y2,hst]; exact map_add _ _⟩ (all_cons kR (all_cons kR (all_cons kR (all_cons kR (all_cons kR (all_cons kR all_nil)))))) (λw h=>h)
end Pg
end
section
namespace Pg
open Go.RowKit Sy
set_option maxRecDepth 100000
set_option maxHeartbeats 4000000
open Wr
def OfR13:Prop:=∀ (w:World) (A:Option Addr) (b:Byt) (c:Nat),Sh.Src w A b→b.length≤140737488351232→Sh.TabAt w 0→Calls Tryz.prog 48 #[.slice A b.length c] w (Gets w (.agg ((Sp.sum b).map bv).toArray))
def TxQ (d:Byt) (v:Value) (M:Blocks):Prop:=∃ A n cp,v=.slice A n cp∧BytR (rdB M) v d
theorem getsN13 {w:World} {R S:Value→Blocks→Prop} (h:∀ v M,R v M→S v M) {e:Ending} {w':World} (he:GetsN w R e w'):GetsN w S e w':=by
 obtain ⟨v,M,h1,h2,h3⟩:=he
 exact ⟨v,M,h1,h v M h2,h3⟩
theorem TxQ.of {d:Byt} {v:Value} {M:Blocks} (h:BytR (rdB M) v d):TxQ d v M:=by
 have h0:=h
 obtain ⟨A,n,cp,e,_⟩:=h
 exact ⟨A,n,cp,e,h0⟩
theorem truth13_q (w:World) (b:Bool):Calls Tryz.prog 47 #[.bool b] w (GetsN w (TxQ (rS b))):=(gets13 (truth13_any (Base.of w) [] b w (St.start w))).mono λe w' he=>getsN13 (λv M h=>by
 obtain ⟨N,hM,hN⟩:=h
 rw [List.nil_append] at hM
 rw [hM]
 exact TxQ.of hN) he
theorem text13_q (w:World) (d:Byt) (hd:d.length=32):Calls Tryz.prog 18 #[.agg (d.map bv).toArray] w (GetsN w (TxQ d)):=(gets13 (text13_any (Base.of w) [] d hd w (St.start w))).mono λe w' he=>getsN13 (λv M h=>by
 obtain ⟨y,hv,hM,hy⟩:=h
 rw [List.nil_append] at hM
 rw [hM,hv]
 exact TxQ.of (Slc_byt hy)) he
theorem at13 {w w':World} {L:Blocks} {v:Value} {b:Byt} (h:BytR (rdW w) v b) (hw:St (Base.of w).inn w' L):BytR (rdW w') v b:=h.le λg o u hu=>rdC_world (R:=[]) hw (λ_ h=>by cases h) g o u (.inl hu)
theorem arg13 {w w':World} {L:Blocks} {v:Value} {zs:List (Value×Byt)} (h:Arg (rdW w) (rdW w) v zs) (hw:St (Base.of w).inn w' L):Arg (rdW w') (rdW w') v zs:=by
 have L0:Le (rdW w) (rdW w'):=λg o u hu=>rdC_world (R:=[]) hw (λ_ h=>by cases h) g o u (.inl hu)
 obtain ⟨A,n,cp,h1,h2,h3,h4,h5⟩:=h
 refine ⟨A,n,cp,h1,h2,h3,h4,λhne=>?_⟩
 obtain ⟨g,o,e,hq⟩:=h5 hne
 exact ⟨g,o,e,λj z hz=>⟨L0 _ _ _ (hq j z hz).1,(hq j z hz).2.le L0⟩⟩
theorem dor1 {r:Nat×List Byt} {k:Nat} {l:List Byt} {V:Value} (e:r=(k,l)):Value.tuple #[V,.int .i64 ((k:Nat):Int)]=Value.tuple #[V,.int .i64 ((r.1:Nat):Int)]:=by rw [e]
theorem rS_256 (b:Bool):(rS b).length≤256:=by cases b <;> decide
theorem arg_le {C D C' D':Rdr} {v:Value} {zs:List (Value×Byt)} (h:Arg C D v zs) (hC:Le C C') (hD:Le D D'):Arg C' D' v zs:=by
 obtain ⟨A,n,cp,h1,h2,h3,h4,h5⟩:=h
 refine ⟨A,n,cp,h1,h2,h3,h4,λhne=>?_⟩
 obtain ⟨g,o,e,hq⟩:=h5 hne
 exact ⟨g,o,e,λj z hz=>⟨hD _ _ _ (hq j z hz).1,(hq j z hz).2.le hC⟩⟩
theorem arg_mem {C D:Rdr} {v:Value} {zs:List (Value×Byt)} (h:Arg C D v zs):∀ z∈zs,BytR C z.1 z.2:=λz hz=>by
 obtain ⟨A,n,cp,h1,h2,h3,h4,h5⟩:=h
 obtain ⟨g,o,e,hq⟩:=h5 (by intro e; rw [e] at hz; cases hz)
 obtain ⟨i,hi⟩:=List.getElem?_of_mem hz
 exact (hq i z hi).2
def DoG (w0:Base) (T:Blocks) (r:Nat×List Byt) (v:Value) (M:Blocks):Prop:=∃ (y:Slc) (N:Blocks) (zs:List (Value×Byt)),v=.tuple #[y.v,.int .i64 ((r.1:Nat):Int)]∧M=N++y.bl∧StkY (rdC w0 (T++N)) y zs∧zs.map (·.2)=r.2
theorem does13_any (hV:VerR13) (hO:OfR13) (w0:Base) (L T D:Blocks) (hTL:∀ b∈T,b∈L) (hDL:∀ b∈D,b∈L) (m:Byt) (hm:m.length=32) (h:Nat) (x:Opn) (hok:okO x) (xv:Value) (hx:BytR (rdC w0 T) xv x.2) (la:Value) (zs:List (Value×Byt)) (hl:zs.length=needs x) (hz:Arg (rdC w0 T) (rdC w0 D) la zs) (hsm:∀ z∈zs,z.2.length≤256) (w:World) (hw:St w0 w L) (hT:Sh.TabAt w 0):Calls Tryz.prog 30 #[.agg #[bv x.1,xv],la,.agg (m.map bv).toArray,.int .u64 (h:Int)] w (GetsN w (DoG w0 T (does (envOf m h) x (zs.map (·.2))))):=by
 have hmem:=arg_mem hz
 have hxT:=hx
 replace hz:=arg_le hz (rdC_world hw hTL) (rdC_world hw hDL)
 replace hx:=hx.le (rdC_world hw hTL)
 refine gets13 ?_
 have hc:=x.1.toNat_lt
 have hx0:=hx
 have hz0:=hz
 have hml:(m.map bv).length=32:=by rw [List.length_map,hm]
 obtain ⟨rA,rn,rc,rfl,r2,r3,r4,r5⟩:=hx
 obtain ⟨A,n,cp,rfl,a1,a2,a3,a4⟩:=hz
 refine Sy.enterT (args:=[.agg #[bv x.1,.slice rA rn rc],.slice A n cp,.agg (m.map bv).toArray,.int .u64 (h:Int)]) (St.start w) Tryz.func30 rfl kL ?_
 refine sC ?_
 refine sM 73 #[bv x.1,.slice rA rn rc] (λg4=>?_)
 refine sM 25 (m.map bv).toArray (λg6=>?_)
 refine sP (.slice none 0 0)<|sP (.int .i64 0) ?_
 refine sG<|Sy.seq<|sC ?_
 refine sP (.pointer (some ⟨g4,0,none⟩))<|sS (bv x.1) (qc 0 0 rfl rfl Tryz.underlying5) ?_
 refine sG<|Sy.block<|sC ?_
 obtain ⟨b96,hb96⟩:∃ t_:Bool,t_=decide (x.1.toNat=96):=⟨_,rfl⟩
 refine sS (.bool b96) (Quiet.pure (exec_int .eql _ _ _ .u8 _ _ _ rfl rfl rfl (int_eql _ _ _ _ _ (by rw [hb96]; exact decide_eq_decide.2 (by omega)))))<|sp rfl ?_
 refine sG ?_
 cases b96
 case' true =>
  have lc:x.1.toNat=96:=of_decide_eq_true hb96.symm
  refine sT ?_
  rw [show needs x=1 by unfold needs; rw [lc]; rfl] at hl
  obtain ⟨z,rfl⟩:=List.length_eq_one_iff.1 hl
  obtain ⟨ga,oa,rfl,aq⟩:=a4 (by simp)
  have hn:n=1:=a1.symm
  obtain ⟨c0,d0⟩:=aq 0 z rfl
  have s0:=hsm z (by simp)
  have d00:=d0
  have t0:=hmem z (by simp)
  obtain ⟨zv,zb⟩:=z
  dsimp only at c0 d0 s0 d00 t0
  obtain ⟨zA,zn,zc,rfl,z2,z3,z4,z5⟩:=d0
  obtain ⟨b,hb⟩:∃ b,b=tru zb:=⟨_,rfl⟩
  refine Sy.seq<|sC ?_
  refine sp rfl<|sS (.pointer (some ⟨ga,oa+0*1,none⟩)) (Quiet.pure (exec_at 23 22 _ _ ga oa n cp 0 1 .i64 rfl rfl rfl Tryz.underlying23 kF (by omega)))<|sS (.slice zA zn zc) (Quiet.thereOne ga (oa+0*1) 22 _ _ rfl kR c0.1 _ c0.2 Tryz.underlying22 rfl)<|sS (.bool b) (qg (args:=#[(.slice zA zn zc)]) (λw1 hw1=>by rw [hb]; exact true13_any w1 _ zb (at13 d00 hw1)))<|sP (.bool !b) ?_
  refine sG ?_
  cases b
  case' false =>
   have e2:does (envOf m h) x [zb]=(134,[]):=by unfold does; rw [lc]; show (if tru zb=true then _ else _)=_; rw [← hb]; rfl
   refine sT<|sC ?_
   refine sP (.slice none 0 0)<|sP (.int .i64 134) ?_
   refine sG<|Sy.ret<|Sy.then_ret<|Sy.in_ret<|Sy.then_ret ?_
   exact Sy.retT2 ([]) rfl (.inl (show _=some (.slice none 0 0) by kernel_rfl)) (.inl (show _=some (.int .i64 134) by kernel_rfl)) (λ_ h=>h.less (List.nil_sublist _)) ⟨nilS,[],[],dor1 e2,rfl,StkY.nil _,(congrArg Prod.snd e2).symm⟩
  have e2:does (envOf m h) x [zb]=(0,[]):=by unfold does; rw [lc]; show (if tru zb=true then _ else _)=_; rw [← hb]; rfl
  refine sU<|Sy.skip<|Sy.then_<|sC ?_
  refine sP (.slice none 0 0)<|sP (.int .i64 0) ?_
  refine sG<|Sy.ret<|Sy.in_ret<|Sy.then_ret ?_
  exact Sy.retT2 ([]) rfl (.inl (show _=some (.slice none 0 0) by kernel_rfl)) (.inl (show _=some (.int .i64 0) by kernel_rfl)) (λ_ h=>h.less (List.nil_sublist _)) ⟨nilS,[],[],dor1 e2,rfl,StkY.nil _,(congrArg Prod.snd e2).symm⟩
 have l96:¬ x.1.toNat=96:=of_decide_eq_false hb96.symm
 refine sU<|sC ?_
 obtain ⟨b97,hb97⟩:∃ t_:Bool,t_=decide (x.1.toNat=97):=⟨_,rfl⟩
 refine sS (.bool b97) (Quiet.pure (exec_int .eql _ _ _ .u8 _ _ _ rfl rfl rfl (int_eql _ _ _ _ _ (by rw [hb97]; exact decide_eq_decide.2 (by omega)))))<|sp rfl ?_
 refine sG ?_
 cases b97
 case' true =>
  have lc:x.1.toNat=97:=of_decide_eq_true hb97.symm
  refine sT ?_
  rw [show needs x=1 by unfold needs; rw [lc]; rfl] at hl
  obtain ⟨z,rfl⟩:=List.length_eq_one_iff.1 hl
  obtain ⟨ga,oa,rfl,aq⟩:=a4 (by simp)
  have hn:n=1:=a1.symm
  obtain ⟨c0,d0⟩:=aq 0 z rfl
  have s0:=hsm z (by simp)
  have d00:=d0
  have t0:=hmem z (by simp)
  obtain ⟨zv,zb⟩:=z
  dsimp only at c0 d0 s0 d00 t0
  obtain ⟨zA,zn,zc,rfl,z2,z3,z4,z5⟩:=d0
  have e2:does (envOf m h) x [zb]=(0,[rS (!tru zb)]):=by unfold does; rw [lc]; rfl
  refine sC ?_
  refine sp rfl<|sS (.pointer (some ⟨ga,oa+0*1,none⟩)) (Quiet.pure (exec_at 23 22 _ _ ga oa n cp 0 1 .i64 rfl rfl rfl Tryz.underlying23 kF (by omega)))<|sS (.slice zA zn zc) (Quiet.thereOne ga (oa+0*1) 22 _ _ rfl kR c0.1 _ c0.2 Tryz.underlying22 rfl)<|sS (.bool (tru zb)) (qg (args:=#[(.slice zA zn zc)]) (λw1 hw1=>true13_any w1 _ zb (at13 d00 hw1)))<|sP (.bool (!tru zb)) ?_
  refine Sy.callN kR 47 #[.bool (!tru zb)] kF (TxQ (rS (!tru zb))) (λw1 _=>truth13_q w1 (!tru zb)) (λu Mu hM=>?_)
  obtain ⟨uA,un,uc,rfl,hu⟩:=hM
  refine Sy.make kR 22 #[.slice uA un uc] (λg=>.slice (some ⟨g,0,none⟩) 1 1) kF (λg2=>?_)
  refine sp rfl<|sP (.int .i64 0) ?_
  refine sG<|Sy.ret<|Sy.in_ret<|Sy.then_ret ?_
  exact Sy.retT2 ((Mu)++[(g2,22,#[.slice uA un uc])]) rfl (.inl (show _=some (.slice (some ⟨g2,0,none⟩) 1 1) by kernel_rfl)) (.inl (show _=some (.int .i64 0) by kernel_rfl)) (λ_ h=>h.less (.cons _ (.cons _ (List.Sublist.refl _)))) ⟨⟨.slice (some ⟨g2,0,none⟩) 1 1,[(g2,22,#[.slice uA un uc])]⟩,Mu,[(.slice uA un uc,rS (!tru zb))],dor1 e2,rfl,StkY.one (hu.le (λg o v h=>.inr (rdB_le (λb hb=>List.mem_append_right _ hb) g o v h))) (rS_256 _),(congrArg Prod.snd e2).symm⟩
 have l97:¬ x.1.toNat=97:=of_decide_eq_false hb97.symm
 refine sU<|sC ?_
 obtain ⟨b98,hb98⟩:∃ t_:Bool,t_=decide (x.1.toNat=98):=⟨_,rfl⟩
 refine sS (.bool b98) (Quiet.pure (exec_int .eql _ _ _ .u8 _ _ _ rfl rfl rfl (int_eql _ _ _ _ _ (by rw [hb98]; exact decide_eq_decide.2 (by omega)))))<|sp rfl ?_
 refine sG ?_
 cases b98
 case' true =>
  have lc:x.1.toNat=98:=of_decide_eq_true hb98.symm
  refine sT ?_
  rw [show needs x=2 by unfold needs; rw [lc]; rfl] at hl
  obtain ⟨z,y,rfl⟩:=len2 hl
  obtain ⟨ga,oa,rfl,aq⟩:=a4 (by simp)
  have hn:n=2:=a1.symm
  obtain ⟨c0,d0⟩:=aq 0 z rfl
  obtain ⟨c1,d1⟩:=aq 1 y rfl
  have s0:=hsm z (by simp)
  have s1:=hsm y (by simp)
  have d00:=d0
  have d11:=d1
  have t0:=hmem z (by simp)
  have t1:=hmem y (by simp)
  obtain ⟨zv,zb⟩:=z
  obtain ⟨yv,yb⟩:=y
  dsimp only at c0 d0 s0 d00 c1 d1 s1 d11 t0 t1
  obtain ⟨zA,zn,zc,rfl,z2,z3,z4,z5⟩:=d0
  obtain ⟨yA,yn,yc,rfl,y2,y3,y4,y5⟩:=d1
  have e2:does (envOf m h) x [zb,yb]=(0,[rS (decide (zb=yb))]):=by unfold does; rw [lc]; rfl
  refine Sy.seq ?_
  refine Sy.regionD (λ_=>false) kR ?_
  refine sa 0 rfl rfl<|sv 1 rfl (.pointer (some ⟨ga,oa+0*1,none⟩)) (exec_at 23 22 _ _ ga oa n cp 0 1 .i64 rfl rfl rfl Tryz.underlying23 kF (by omega))<|sD 2 rfl (.slice zA zn zc) (Quiet.thereOne ga (oa+0*1) 22 _ _ rfl kR c0.1 _ c0.2 Tryz.underlying22 rfl)<|sD 3 rfl (.string ⟨zb.toArray⟩) (strC _ rfl rfl (λw1 hw1=>at13 d00 hw1))<|sa 4 rfl rfl<|sv 5 rfl (.pointer (some ⟨ga,oa+1*1,none⟩)) (exec_at 23 22 _ _ ga oa n cp 1 1 .i64 rfl rfl rfl Tryz.underlying23 kF (by omega))<|sD 6 rfl (.slice yA yn yc) (Quiet.thereOne ga (oa+1*1) 22 _ _ rfl kR c1.1 _ c1.2 Tryz.underlying22 rfl)<|sD 7 rfl (.string ⟨yb.toArray⟩) (strC _ rfl rfl (λw1 hw1=>at13 d11 hw1))<|sv 8 rfl (.bool (decide (zb=yb))) (λw=>eql_str w _ _ _ _ zb yb rfl rfl rfl) ?_
  refine Sy.callND 9 rfl kR kR 47 #[.bool (decide (zb=yb))] (by intro _; kernel_rfl) (TxQ (rS (decide (zb=yb)))) (λw1 _=>truth13_q w1 (decide (zb=yb))) (λu Mu hM=>?_)
  obtain ⟨uA,un,uc,rfl,hu⟩:=hM
  refine Sy.makeD 10 rfl kR kR 22 #[.slice uA un uc] (λg=>.slice (some ⟨g,0,none⟩) 1 1) kF (λg2=>?_)
  refine sa 11 rfl rfl<|sZ 12 rfl (.int .i64 0) ?_
  refine sI ?_
  refine Sy.ret<|Sy.in_ret<|Sy.then_ret ?_
  exact Sy.retT2 ((Mu)++[(g2,22,#[.slice uA un uc])]) rfl (.inl (show _=some (.slice (some ⟨g2,0,none⟩) 1 1) by kernel_rfl)) (.inl (show _=some (.int .i64 0) by kernel_rfl)) (λ_ h=>h.less (.cons _ (.cons _ (List.Sublist.refl _)))) ⟨⟨.slice (some ⟨g2,0,none⟩) 1 1,[(g2,22,#[.slice uA un uc])]⟩,Mu,[(.slice uA un uc,rS (decide (zb=yb)))],dor1 e2,rfl,StkY.one (hu.le (λg o v h=>.inr (rdB_le (λb hb=>List.mem_append_right _ hb) g o v h))) (rS_256 _),(congrArg Prod.snd e2).symm⟩
 have l98:¬ x.1.toNat=98:=of_decide_eq_false hb98.symm
 refine sU<|sC ?_
 obtain ⟨b99,hb99⟩:∃ t_:Bool,t_=decide (x.1.toNat=99):=⟨_,rfl⟩
 refine sS (.bool b99) (Quiet.pure (exec_int .eql _ _ _ .u8 _ _ _ rfl rfl rfl (int_eql _ _ _ _ _ (by rw [hb99]; exact decide_eq_decide.2 (by omega)))))<|sp rfl ?_
 refine sG ?_
 cases b99
 case' true =>
  have lc:x.1.toNat=99:=of_decide_eq_true hb99.symm
  refine sT ?_
  rw [show needs x=1 by unfold needs; rw [lc]; rfl] at hl
  obtain ⟨z,rfl⟩:=List.length_eq_one_iff.1 hl
  obtain ⟨ga,oa,rfl,aq⟩:=a4 (by simp)
  have hn:n=1:=a1.symm
  obtain ⟨c0,d0⟩:=aq 0 z rfl
  have s0:=hsm z (by simp)
  have d00:=d0
  have t0:=hmem z (by simp)
  obtain ⟨zv,zb⟩:=z
  dsimp only at c0 d0 s0 d00 t0
  obtain ⟨zA,zn,zc,rfl,z2,z3,z4,z5⟩:=d0
  have e2:does (envOf m h) x [zb]=(0,[zb,zb]):=by unfold does; rw [lc]; rfl
  refine Sy.seq ?_
  refine Sy.regionD (λ_=>false) kR ?_
  refine sa 0 rfl rfl<|sv 1 rfl (.pointer (some ⟨ga,oa+0*1,none⟩)) (exec_at 23 22 _ _ ga oa n cp 0 1 .i64 rfl rfl rfl Tryz.underlying23 kF (by omega))<|sD 2 rfl (.slice zA zn zc) (Quiet.thereOne ga (oa+0*1) 22 _ _ rfl kR c0.1 _ c0.2 Tryz.underlying22 rfl)<|sa 3 rfl rfl<|sv 4 rfl (.pointer (some ⟨ga,oa+0*1,none⟩)) (exec_at 23 22 _ _ ga oa n cp 0 1 .i64 rfl rfl rfl Tryz.underlying23 kF (by omega))<|sD 5 rfl (.slice zA zn zc) (Quiet.thereOne ga (oa+0*1) 22 _ _ rfl kR c0.1 _ c0.2 Tryz.underlying22 rfl) ?_
  refine Sy.makeD 6 rfl kR kR 22 #[.slice zA zn zc,.slice zA zn zc] (λg=>.slice (some ⟨g,0,none⟩) 2 2) kF (λg2=>?_)
  refine sa 7 rfl rfl<|sZ 8 rfl (.int .i64 0) ?_
  refine sI ?_
  refine Sy.ret<|Sy.in_ret<|Sy.then_ret ?_
  exact Sy.retT2 (([])++[(g2,22,#[.slice zA zn zc,.slice zA zn zc])]) rfl (.inl (show _=some (.slice (some ⟨g2,0,none⟩) 2 2) by kernel_rfl)) (.inl (show _=some (.int .i64 0) by kernel_rfl)) (λ_ h=>h.less (.cons _ (.cons _ (List.Sublist.refl _)))) ⟨⟨.slice (some ⟨g2,0,none⟩) 2 2,[(g2,22,#[.slice zA zn zc,.slice zA zn zc])]⟩,[],[(.slice zA zn zc,zb),(.slice zA zn zc,zb)],dor1 e2,rfl,StkY.two (t0.le (rdC_le (λb hb=>List.mem_append_left _ hb))) (t0.le (rdC_le (λb hb=>List.mem_append_left _ hb))) s0 s0,(congrArg Prod.snd e2).symm⟩
 have l99:¬ x.1.toNat=99:=of_decide_eq_false hb99.symm
 refine sU<|sC ?_
 obtain ⟨b101,hb101⟩:∃ t_:Bool,t_=decide (x.1.toNat=101):=⟨_,rfl⟩
 refine sS (.bool b101) (Quiet.pure (exec_int .eql _ _ _ .u8 _ _ _ rfl rfl rfl (int_eql _ _ _ _ _ (by rw [hb101]; exact decide_eq_decide.2 (by omega)))))<|sp rfl ?_
 refine sG ?_
 cases b101
 case' true =>
  have lc:x.1.toNat=101:=of_decide_eq_true hb101.symm
  refine sT ?_
  rw [show needs x=2 by unfold needs; rw [lc]; rfl] at hl
  obtain ⟨z,y,rfl⟩:=len2 hl
  obtain ⟨ga,oa,rfl,aq⟩:=a4 (by simp)
  have hn:n=2:=a1.symm
  obtain ⟨c0,d0⟩:=aq 0 z rfl
  obtain ⟨c1,d1⟩:=aq 1 y rfl
  have s0:=hsm z (by simp)
  have s1:=hsm y (by simp)
  have d00:=d0
  have d11:=d1
  have t0:=hmem z (by simp)
  have t1:=hmem y (by simp)
  obtain ⟨zv,zb⟩:=z
  obtain ⟨yv,yb⟩:=y
  dsimp only at c0 d0 s0 d00 c1 d1 s1 d11 t0 t1
  obtain ⟨zA,zn,zc,rfl,z2,z3,z4,z5⟩:=d0
  obtain ⟨yA,yn,yc,rfl,y2,y3,y4,y5⟩:=d1
  have e2:does (envOf m h) x [zb,yb]=(0,[yb,zb]):=by unfold does; rw [lc]; rfl
  refine Sy.seq ?_
  refine Sy.regionD (λ_=>false) kR ?_
  refine sa 0 rfl rfl<|sv 1 rfl (.pointer (some ⟨ga,oa+1*1,none⟩)) (exec_at 23 22 _ _ ga oa n cp 1 1 .i64 rfl rfl rfl Tryz.underlying23 kF (by omega))<|sD 2 rfl (.slice yA yn yc) (Quiet.thereOne ga (oa+1*1) 22 _ _ rfl kR c1.1 _ c1.2 Tryz.underlying22 rfl)<|sa 3 rfl rfl<|sv 4 rfl (.pointer (some ⟨ga,oa+0*1,none⟩)) (exec_at 23 22 _ _ ga oa n cp 0 1 .i64 rfl rfl rfl Tryz.underlying23 kF (by omega))<|sD 5 rfl (.slice zA zn zc) (Quiet.thereOne ga (oa+0*1) 22 _ _ rfl kR c0.1 _ c0.2 Tryz.underlying22 rfl) ?_
  refine Sy.makeD 6 rfl kR kR 22 #[.slice yA yn yc,.slice zA zn zc] (λg=>.slice (some ⟨g,0,none⟩) 2 2) kF (λg2=>?_)
  refine sa 7 rfl rfl<|sZ 8 rfl (.int .i64 0) ?_
  refine sI ?_
  refine Sy.ret<|Sy.in_ret<|Sy.then_ret ?_
  exact Sy.retT2 (([])++[(g2,22,#[.slice yA yn yc,.slice zA zn zc])]) rfl (.inl (show _=some (.slice (some ⟨g2,0,none⟩) 2 2) by kernel_rfl)) (.inl (show _=some (.int .i64 0) by kernel_rfl)) (λ_ h=>h.less (.cons _ (.cons _ (List.Sublist.refl _)))) ⟨⟨.slice (some ⟨g2,0,none⟩) 2 2,[(g2,22,#[.slice yA yn yc,.slice zA zn zc])]⟩,[],[(.slice yA yn yc,yb),(.slice zA zn zc,zb)],dor1 e2,rfl,StkY.two (t1.le (rdC_le (λb hb=>List.mem_append_left _ hb))) (t0.le (rdC_le (λb hb=>List.mem_append_left _ hb))) s1 s0,(congrArg Prod.snd e2).symm⟩
 have l101:¬ x.1.toNat=101:=of_decide_eq_false hb101.symm
 refine sU<|sC ?_
 obtain ⟨b102,hb102⟩:∃ t_:Bool,t_=decide (x.1.toNat=102):=⟨_,rfl⟩
 refine sS (.bool b102) (Quiet.pure (exec_int .eql _ _ _ .u8 _ _ _ rfl rfl rfl (int_eql _ _ _ _ _ (by rw [hb102]; exact decide_eq_decide.2 (by omega)))))<|sp rfl ?_
 refine sG ?_
 cases b102
 case' true =>
  have lc:x.1.toNat=102:=of_decide_eq_true hb102.symm
  refine sT ?_
  rw [show needs x=1 by unfold needs; rw [lc]; rfl] at hl
  obtain ⟨z,rfl⟩:=List.length_eq_one_iff.1 hl
  obtain ⟨ga,oa,rfl,aq⟩:=a4 (by simp)
  have hn:n=1:=a1.symm
  obtain ⟨c0,d0⟩:=aq 0 z rfl
  have s0:=hsm z (by simp)
  have d00:=d0
  have t0:=hmem z (by simp)
  obtain ⟨zv,zb⟩:=z
  dsimp only at c0 d0 s0 d00 t0
  obtain ⟨zA,zn,zc,rfl,z2,z3,z4,z5⟩:=d0
  have e2:does (envOf m h) x [zb]=(0,[Sp.sum zb]):=by unfold does; rw [lc]; rfl
  have hdl:(Sp.sum zb).length=32:=Sh.sum_length _
  obtain ⟨d,hd⟩:∃ d,d=Sp.sum zb:=⟨_,rfl⟩
  rw [← hd] at e2 hdl
  refine sC ?_
  refine sp rfl<|sS (.pointer (some ⟨ga,oa+0*1,none⟩)) (Quiet.pure (exec_at 23 22 _ _ ga oa n cp 0 1 .i64 rfl rfl rfl Tryz.underlying23 kF (by omega)))<|sS (.slice zA zn zc) (Quiet.thereOne ga (oa+0*1) 22 _ _ rfl kR c0.1 _ c0.2 Tryz.underlying22 rfl)<|sS (.agg (d.map bv).toArray) (qg (args:=#[(.slice zA zn zc)]) (λw1 hw1=>by
   have q:=hO w1 zA zb zc (src_byt (at13 d00 hw1)) (by omega) (hT.below hw1.below hT.lt)
   rw [z2, ← hd] at q
   exact q)) ?_
  refine Sy.callN kR 18 #[.agg (d.map bv).toArray] kF (TxQ d) (λw1 _=>text13_q w1 d hdl) (λu Mu hM=>?_)
  obtain ⟨uA,un,uc,rfl,hu⟩:=hM
  refine Sy.make kR 22 #[.slice uA un uc] (λg=>.slice (some ⟨g,0,none⟩) 1 1) kF (λg2=>?_)
  refine sp rfl<|sP (.int .i64 0) ?_
  refine sG<|Sy.ret<|Sy.in_ret<|Sy.then_ret ?_
  exact Sy.retT2 ((Mu)++[(g2,22,#[.slice uA un uc])]) rfl (.inl (show _=some (.slice (some ⟨g2,0,none⟩) 1 1) by kernel_rfl)) (.inl (show _=some (.int .i64 0) by kernel_rfl)) (λ_ h=>h.less (.cons _ (.cons _ (List.Sublist.refl _)))) ⟨⟨.slice (some ⟨g2,0,none⟩) 1 1,[(g2,22,#[.slice uA un uc])]⟩,Mu,[(.slice uA un uc,d)],dor1 e2,rfl,StkY.one (hu.le (λg o v h=>.inr (rdB_le (λb hb=>List.mem_append_right _ hb) g o v h))) (by omega),(congrArg Prod.snd e2).symm⟩
 have l102:¬ x.1.toNat=102:=of_decide_eq_false hb102.symm
 refine sU<|sC ?_
 obtain ⟨b103,hb103⟩:∃ t_:Bool,t_=decide (x.1.toNat=103):=⟨_,rfl⟩
 refine sS (.bool b103) (Quiet.pure (exec_int .eql _ _ _ .u8 _ _ _ rfl rfl rfl (int_eql _ _ _ _ _ (by rw [hb103]; exact decide_eq_decide.2 (by omega)))))<|sp rfl ?_
 refine sG ?_
 cases b103
 case' true =>
  have lc:x.1.toNat=103:=of_decide_eq_true hb103.symm
  refine sT ?_
  rw [show needs x=2 by unfold needs; rw [lc]; rfl] at hl
  obtain ⟨z,y,rfl⟩:=len2 hl
  obtain ⟨ga,oa,rfl,aq⟩:=a4 (by simp)
  have hn:n=2:=a1.symm
  obtain ⟨c0,d0⟩:=aq 0 z rfl
  obtain ⟨c1,d1⟩:=aq 1 y rfl
  have s0:=hsm z (by simp)
  have s1:=hsm y (by simp)
  have d00:=d0
  have d11:=d1
  have t0:=hmem z (by simp)
  have t1:=hmem y (by simp)
  obtain ⟨zv,zb⟩:=z
  obtain ⟨yv,yb⟩:=y
  dsimp only at c0 d0 s0 d00 c1 d1 s1 d11 t0 t1
  obtain ⟨zA,zn,zc,rfl,z2,z3,z4,z5⟩:=d0
  obtain ⟨yA,yn,yc,rfl,y2,y3,y4,y5⟩:=d1
  have e2:does (envOf m h) x [zb,yb]=(0,[rS (sgn (envOf m h) zb yb)]):=by unfold does; rw [lc]; rfl
  obtain ⟨b,hb⟩:∃ b,b=sgn (envOf m h) zb yb:=⟨_,rfl⟩
  rw [← hb] at e2
  refine Sy.seq ?_
  refine Sy.regionD (λ_=>false) kR ?_
  refine sa 0 rfl rfl<|sv 1 rfl (.pointer (some ⟨ga,oa+0*1,none⟩)) (exec_at 23 22 _ _ ga oa n cp 0 1 .i64 rfl rfl rfl Tryz.underlying23 kF (by omega))<|sD 2 rfl (.slice zA zn zc) (Quiet.thereOne ga (oa+0*1) 22 _ _ rfl kR c0.1 _ c0.2 Tryz.underlying22 rfl)<|sa 3 rfl rfl<|sv 4 rfl (.pointer (some ⟨ga,oa+1*1,none⟩)) (exec_at 23 22 _ _ ga oa n cp 1 1 .i64 rfl rfl rfl Tryz.underlying23 kF (by omega))<|sD 5 rfl (.slice yA yn yc) (Quiet.thereOne ga (oa+1*1) 22 _ _ rfl kR c1.1 _ c1.2 Tryz.underlying22 rfl)<|sD 6 rfl (.agg (m.map bv).toArray) (Quiet.mid 1 g6 0 32 25 25 (m.map bv) (m.map bv) _ _ rfl kR rfl Tryz.underlying25 rfl kR (by rw [List.drop_zero,List.take_of_length_le (by omega)]) (by omega))<|sD 7 rfl (.bool b) (qg (args:=#[.slice zA zn zc,.slice yA yn yc,.agg (m.map bv).toArray]) (λw1 hw1=>by rw [hb]; exact signed13_any hV w1 (hT.below hw1.below hT.lt) m hm h _ _ zb yb (at13 d00 hw1) (at13 d11 hw1))) ?_
  refine Sy.callND 8 rfl kR kR 47 #[.bool b] (by intro _; kernel_rfl) (TxQ (rS b)) (λw1 _=>truth13_q w1 b) (λu Mu hM=>?_)
  obtain ⟨uA,un,uc,rfl,hu⟩:=hM
  refine Sy.makeD 9 rfl kR kR 22 #[.slice uA un uc] (λg=>.slice (some ⟨g,0,none⟩) 1 1) kF (λg2=>?_)
  refine sa 10 rfl rfl<|sZ 11 rfl (.int .i64 0) ?_
  refine sI ?_
  refine Sy.ret<|Sy.in_ret<|Sy.then_ret ?_
  exact Sy.retT2 ((Mu)++[(g2,22,#[.slice uA un uc])]) rfl (.inl (show _=some (.slice (some ⟨g2,0,none⟩) 1 1) by kernel_rfl)) (.inl (show _=some (.int .i64 0) by kernel_rfl)) (λ_ h=>h.less (.cons _ (.cons _ (List.Sublist.refl _)))) ⟨⟨.slice (some ⟨g2,0,none⟩) 1 1,[(g2,22,#[.slice uA un uc])]⟩,Mu,[(.slice uA un uc,rS b)],dor1 e2,rfl,StkY.one (hu.le (λg o v h=>.inr (rdB_le (λb hb=>List.mem_append_right _ hb) g o v h))) (rS_256 _),(congrArg Prod.snd e2).symm⟩
 have l103:¬ x.1.toNat=103:=of_decide_eq_false hb103.symm
 refine sU<|sC ?_
 obtain ⟨b104,hb104⟩:∃ t_:Bool,t_=decide (x.1.toNat=104):=⟨_,rfl⟩
 refine sS (.bool b104) (Quiet.pure (exec_int .eql _ _ _ .u8 _ _ _ rfl rfl rfl (int_eql _ _ _ _ _ (by rw [hb104]; exact decide_eq_decide.2 (by omega)))))<|sp rfl ?_
 refine sG ?_
 cases b104
 case' true =>
  have lc:x.1.toNat=104:=of_decide_eq_true hb104.symm
  refine sT ?_
  have hl2:x.2.length=2:=by
   have h1:okO x:=hok
   unfold okO follow at h1
   rw [if_neg (by omega),if_pos lc] at h1
   exact (Option.some.inj h1).symm
  obtain ⟨u0,u1,hu01⟩:=len2 hl2
  rw [show needs x=2*u1.toNat by unfold needs; rw [lc,hu01]; rfl] at hl
  obtain ⟨go,oo,rfl,rq⟩:=r5 (by intro e; rw [e] at hl2; cases hl2)
  have hu0:x.2[0]? = some u0:=by rw [hu01]; rfl
  have hu1:x.2[1]? = some u1:=by rw [hu01]; rfl
  have e2:does (envOf m h) x (zs.map (·.2))=(0,[rS (share (envOf m h) u0.toNat u1.toNat (zs.map (·.2)))]):=by unfold does; rw [lc,hu01]; rfl
  obtain ⟨b,hb⟩:∃ b,b=share (envOf m h) u0.toNat u1.toNat (zs.map (·.2)):=⟨_,rfl⟩
  rw [← hb] at e2
  refine Sy.seq ?_
  refine Sy.regionD (λ_=>false) kR ?_
  refine sa 0 rfl rfl<|sb 1 rfl (.pointer (some ⟨g4,1,none⟩))<|sD 2 rfl (.slice (some ⟨go,oo,none⟩) rn rc) (qc 0 1 rfl rfl Tryz.underlying22)<|sv 3 rfl (.pointer (some ⟨go,oo+0*1,none⟩)) (exec_at 22 5 _ _ go oo rn rc 0 1 .i64 rfl rfl rfl Tryz.underlying22 kF (by omega))<|sD 4 rfl (bv u0) (Quiet.thereOne go (oo+0*1) 5 _ _ rfl kR (rq 0 u0 hu0).1 _ (rq 0 u0 hu0).2 Tryz.underlying5 rfl)<|sv 5 rfl (.int .i64 ((u0.toNat:Nat):Int)) (λw=>conv_8i w _ _ _ u0 rfl rfl)<|sb 6 rfl (.pointer (some ⟨g4,1,none⟩))<|sD 7 rfl (.slice (some ⟨go,oo,none⟩) rn rc) (qc 0 1 rfl rfl Tryz.underlying22)<|sv 8 rfl (.pointer (some ⟨go,oo+1*1,none⟩)) (exec_at 22 5 _ _ go oo rn rc 1 1 .i64 rfl rfl rfl Tryz.underlying22 kF (by omega))<|sD 9 rfl (bv u1) (Quiet.thereOne go (oo+1*1) 5 _ _ rfl kR (rq 1 u1 hu1).1 _ (rq 1 u1 hu1).2 Tryz.underlying5 rfl)<|sv 10 rfl (.int .i64 ((u1.toNat:Nat):Int)) (λw=>conv_8i w _ _ _ u1 rfl rfl)<|sD 11 rfl (.agg (m.map bv).toArray) (Quiet.mid 1 g6 0 32 25 25 (m.map bv) (m.map bv) _ _ rfl kR rfl Tryz.underlying25 rfl kR (by rw [List.drop_zero,List.take_of_length_le (by omega)]) (by omega))<|sD 12 rfl (.bool b) (qg (args:=#[.slice A n cp,.int .i64 ((u0.toNat:Nat):Int),.int .i64 ((u1.toNat:Nat):Int),.agg (m.map bv).toArray]) (λw1 hw1=>by rw [hb]; exact share13_any hV w1 (hT.below hw1.below hT.lt) m hm h u0.toNat u1.toNat _ zs hl (arg13 hz0 hw1))) ?_
  refine Sy.callND 13 rfl kR kR 47 #[.bool b] (by intro _; kernel_rfl) (TxQ (rS b)) (λw1 _=>truth13_q w1 b) (λu Mu hM=>?_)
  obtain ⟨uA,un,uc,rfl,hu⟩:=hM
  refine Sy.makeD 14 rfl kR kR 22 #[.slice uA un uc] (λg=>.slice (some ⟨g,0,none⟩) 1 1) kF (λg2=>?_)
  refine sa 15 rfl rfl<|sZ 16 rfl (.int .i64 0) ?_
  refine sI ?_
  refine Sy.ret<|Sy.in_ret<|Sy.then_ret ?_
  exact Sy.retT2 ((Mu)++[(g2,22,#[.slice uA un uc])]) rfl (.inl (show _=some (.slice (some ⟨g2,0,none⟩) 1 1) by kernel_rfl)) (.inl (show _=some (.int .i64 0) by kernel_rfl)) (λ_ h=>h.less (.cons _ (.cons _ (List.Sublist.refl _)))) ⟨⟨.slice (some ⟨g2,0,none⟩) 1 1,[(g2,22,#[.slice uA un uc])]⟩,Mu,[(.slice uA un uc,rS b)],dor1 e2,rfl,StkY.one (hu.le (λg o v h=>.inr (rdB_le (λb hb=>List.mem_append_right _ hb) g o v h))) (rS_256 _),(congrArg Prod.snd e2).symm⟩
 have l104:¬ x.1.toNat=104:=of_decide_eq_false hb104.symm
 refine sU<|sC ?_
 obtain ⟨b105,hb105⟩:∃ t_:Bool,t_=decide (x.1.toNat=105):=⟨_,rfl⟩
 refine sS (.bool b105) (Quiet.pure (exec_int .eql _ _ _ .u8 _ _ _ rfl rfl rfl (int_eql _ _ _ _ _ (by rw [hb105]; exact decide_eq_decide.2 (by omega)))))<|sp rfl ?_
 refine sG ?_
 cases b105
 case' true =>
  have lc:x.1.toNat=105:=of_decide_eq_true hb105.symm
  refine sT ?_
  rw [show needs x=1 by unfold needs; rw [lc]; rfl] at hl
  obtain ⟨z,rfl⟩:=List.length_eq_one_iff.1 hl
  obtain ⟨ga,oa,rfl,aq⟩:=a4 (by simp)
  have hn:n=1:=a1.symm
  obtain ⟨c0,d0⟩:=aq 0 z rfl
  have s0:=hsm z (by simp)
  have d00:=d0
  have t0:=hmem z (by simp)
  obtain ⟨zv,zb⟩:=z
  dsimp only at c0 d0 s0 d00 t0
  obtain ⟨zA,zn,zc,rfl,z2,z3,z4,z5⟩:=d0
  refine Sy.seq<|sC ?_
  obtain ⟨b1,hb1⟩:∃ t_:Bool,t_=decide (8<zn):=⟨_,rfl⟩
  refine sp rfl<|sS (.pointer (some ⟨ga,oa+0*1,none⟩)) (Quiet.pure (exec_at 23 22 _ _ ga oa n cp 0 1 .i64 rfl rfl rfl Tryz.underlying23 kF (by omega)))<|sS (.slice zA zn zc) (Quiet.thereOne ga (oa+0*1) 22 _ _ rfl kR c0.1 _ c0.2 Tryz.underlying22 rfl)<|sP (.int .i64 (zn:Int))<|sS (.bool b1) (Quiet.pure (exec_int .gtr _ _ _ .i64 _ _ _ rfl rfl rfl (int_gtr _ _ _ _ _ (by rw [hb1]; exact decide_eq_decide.2 (by omega)))))<|sp rfl ?_
  cases b1
  case' true =>
   have l1:8<zn:=of_decide_eq_true hb1.symm
   have e2:does (envOf m h) x [zb]=(136,[]):=by unfold does; rw [lc]; exact if_pos (.inl (by show 8<zb.length; omega))
   refine sN<|sN<|sN<|sN<|sN<|sN<|sP (.bool true) ?_
   refine sG<|sT<|sC ?_
   refine sP (.slice none 0 0)<|sP (.int .i64 136) ?_
   refine sG<|Sy.ret<|Sy.then_ret<|Sy.in_ret<|Sy.then_ret ?_
   exact Sy.retT2 ([]) rfl (.inl (show _=some (.slice none 0 0) by kernel_rfl)) (.inl (show _=some (.int .i64 136) by kernel_rfl)) (λ_ h=>h.less (List.nil_sublist _)) ⟨nilS,[],[],dor1 e2,rfl,StkY.nil _,(congrArg Prod.snd e2).symm⟩
  have l1:¬ 8<zn:=of_decide_eq_false hb1.symm
  obtain ⟨b3,hb3⟩:∃ t_:Bool,t_=decide (h<said zb):=⟨_,rfl⟩
  refine sp rfl<|sp rfl<|sS (.pointer (some ⟨ga,oa+0*1,none⟩)) (Quiet.pure (exec_at 23 22 _ _ ga oa n cp 0 1 .i64 rfl rfl rfl Tryz.underlying23 kF (by omega)))<|sS (.slice zA zn zc) (Quiet.thereOne ga (oa+0*1) 22 _ _ rfl kR c0.1 _ c0.2 Tryz.underlying22 rfl)<|sS (.int .u64 ((said zb:Nat):Int)) (qg (args:=#[(.slice zA zn zc)]) (λw1 hw1=>said13_any w1 _ zb (by omega) (at13 d00 hw1)))<|sS (.bool b3) (Quiet.pure (exec_int .lss _ _ _ .u64 _ _ _ rfl rfl rfl (int_lss _ _ _ _ _ (by rw [hb3]; exact decide_eq_decide.2 (by omega)))))<|sP (.bool b3) ?_
  refine sG ?_
  cases b3
  case' true =>
   have l3:h<said zb:=of_decide_eq_true hb3.symm
   have e2:does (envOf m h) x [zb]=(136,[]):=by unfold does; rw [lc]; exact if_pos (.inr l3)
   refine sT<|sC ?_
   refine sP (.slice none 0 0)<|sP (.int .i64 136) ?_
   refine sG<|Sy.ret<|Sy.then_ret<|Sy.in_ret<|Sy.then_ret ?_
   exact Sy.retT2 ([]) rfl (.inl (show _=some (.slice none 0 0) by kernel_rfl)) (.inl (show _=some (.int .i64 136) by kernel_rfl)) (λ_ h=>h.less (List.nil_sublist _)) ⟨nilS,[],[],dor1 e2,rfl,StkY.nil _,(congrArg Prod.snd e2).symm⟩
  have l3:¬ h<said zb:=of_decide_eq_false hb3.symm
  have e2:does (envOf m h) x [zb]=(0,[]):=by unfold does; rw [lc]; exact if_neg (λq=>q.elim (λq=>l1 (by rw [← z2]; exact q)) l3)
  refine sU<|Sy.skip<|Sy.then_<|sC ?_
  refine sP (.slice none 0 0)<|sP (.int .i64 0) ?_
  refine sG<|Sy.ret<|Sy.in_ret<|Sy.then_ret ?_
  exact Sy.retT2 ([]) rfl (.inl (show _=some (.slice none 0 0) by kernel_rfl)) (.inl (show _=some (.int .i64 0) by kernel_rfl)) (λ_ h=>h.less (List.nil_sublist _)) ⟨nilS,[],[],dor1 e2,rfl,StkY.nil _,(congrArg Prod.snd e2).symm⟩
 have l105:¬ x.1.toNat=105:=of_decide_eq_false hb105.symm
 refine sU<|Sy.skip<|Sy.in_<|Sy.then_<|Sy.seq<|sC ?_
 obtain ⟨b64,hb64⟩:∃ t_:Bool,t_=decide (x.1.toNat≤64):=⟨_,rfl⟩
 refine sP (.pointer (some ⟨g4,0,none⟩))<|sS (bv x.1) (qc 0 0 rfl rfl Tryz.underlying5)<|sS (.bool b64) (Quiet.pure (exec_int .leq _ _ _ .u8 _ _ _ rfl rfl rfl (int_leq _ _ _ _ _ (by rw [hb64]; exact decide_eq_decide.2 (by omega))))) ?_
 refine sG ?_
 cases b64
 case' true =>
  have lc:x.1.toNat≤64:=of_decide_eq_true hb64.symm
  have e2:does (envOf m h) x (zs.map (·.2))=(0,[x.2]):=does_push _ lc
  have hx64:x.2.length≤256:=by
   have h1:okO x:=hok
   unfold okO follow at h1
   rw [if_pos lc] at h1
   have:=Option.some.inj h1
   omega
  refine sT<|sC ?_
  refine sP (.pointer (some ⟨g4,1,none⟩))<|sS (.slice rA rn rc) (qc 0 1 rfl rfl Tryz.underlying22) ?_
  refine Sy.make kR 22 #[.slice rA rn rc] (λg=>.slice (some ⟨g,0,none⟩) 1 1) kF (λg2=>?_)
  refine sp rfl<|sP (.int .i64 0) ?_
  refine sG<|Sy.ret<|Sy.then_ret ?_
  exact Sy.retT2 (([])++[(g2,22,#[.slice rA rn rc])]) rfl (.inl (show _=some (.slice (some ⟨g2,0,none⟩) 1 1) by kernel_rfl)) (.inl (show _=some (.int .i64 0) by kernel_rfl)) (λ_ h=>h.less (.cons _ (.cons _ (List.Sublist.refl _)))) ⟨⟨.slice (some ⟨g2,0,none⟩) 1 1,[(g2,22,#[.slice rA rn rc])]⟩,[],[(.slice rA rn rc,x.2)],dor1 e2,rfl,StkY.one (hxT.le (rdC_le (λb hb=>List.mem_append_left _ hb))) hx64,(congrArg Prod.snd e2).symm⟩
 have l64:¬ x.1.toNat≤64:=of_decide_eq_false hb64.symm
 have e2:does (envOf m h) x (zs.map (·.2))=(0,[]):=by
  have h1:okO x:=hok
  unfold okO follow at h1
  have h3:x.1.toNat=100∨x.1.toNat=106∨x.1.toNat=107∨x.1.toNat=108:=by
   rw [if_neg l64,if_neg l104] at h1
   by_cases q:96≤x.1.toNat∧x.1.toNat≤108
   ·omega
   ·rw [if_neg q] at h1; cases h1
  unfold does
  rcases h3 with q | q | q | q <;> (rw [q]; rfl)
 refine sU<|Sy.skip<|Sy.then_<|sC ?_
 refine sP (.slice none 0 0)<|sP (.int .i64 0) ?_
 refine sG<|Sy.ret ?_
 exact Sy.retT2 ([]) rfl (.inl (show _=some (.slice none 0 0) by kernel_rfl)) (.inl (show _=some (.int .i64 0) by kernel_rfl)) (λ_ h=>h.less (List.nil_sublist _)) ⟨nilS,[],[],dor1 e2,rfl,StkY.nil _,(congrArg Prod.snd e2).symm⟩
end Pg
end
section
namespace Pg
open Go.RowKit Sy
set_option maxRecDepth 100000
set_option maxHeartbeats 4000000
open Wr
def bhd:List Opn→Nat→Nat
 | [],_=>0
 | x::os,d=>if d=0∧(x.1.toNat=107∨x.1.toNat=108) then 0 else bhd os (if x.1.toNat=106 then d+1 else if x.1.toNat=108 then d - 1 else d)+1
theorem bhd_le:∀ (os:List Opn) (d:Nat),bhd os d≤os.length
 | [],_=>Nat.le_refl _
 | x::os,d=>by
  unfold bhd
  split
  ·exact Nat.zero_le _
  ·exact Nat.succ_le_succ (bhd_le os _)
theorem exec_bhd (E:Env) (st:List Byt):∀ (os:List Opn) (d:Nat),exec E os st (d+1)=exec E (os.drop (bhd os d+1)) st 0
 | [],d=>by rw [List.drop_nil]; rfl
 | x::os,d=>by
  rw [exec_pas E x os st (d+1) (Nat.succ_pos _),List.drop_succ_cons]
  unfold bhd pas
  by_cases h6:x.1.toNat=106
  ·rw [if_pos h6,if_neg (by omega),if_pos h6]
   exact exec_bhd E st os (d+1)
  by_cases h8:x.1.toNat=108
  ·rw [if_neg h6,if_pos h8,if_neg h6,if_pos h8]
   cases d with
   | zero=>rw [if_pos ⟨rfl,.inr h8⟩]; rfl
   | succ d =>
    rw [if_neg (λh=>by cases h.1)]
    exact exec_bhd E st os d
  rw [if_neg h6,if_neg h8,if_neg h6,if_neg h8]
  by_cases h7:x.1.toNat=107
  ·cases d with
   | zero=>rw [if_pos ⟨h7,rfl⟩,if_pos ⟨rfl,.inl h7⟩]; rfl
   | succ d =>
    rw [if_neg (λh=>by have:=h.2; omega),if_neg (λh=>by cases h.1)]
    exact exec_bhd E st os (d+1)
  rw [if_neg (λh=>h7 h.1),if_neg (λh=>h.2.elim h7 h8)]
  exact exec_bhd E st os d
def Opm (C:Rdr) (v:Value) (xs:List (Value×Opn)):Prop:=∃ A n cp,v=.slice A n cp∧xs.length=n∧n≤cp∧cp≤maxLen∧(xs≠[]→∃ g o,A=some ⟨g,o,none⟩∧∀ (j:Nat) (x:Value×Opn),xs[j]? = some x→C g (o+j*2) (bv x.2.1)∧C g (o+j*2+1) x.1)
theorem behind13_any (w:World) (v:Value) (xs:List (Value×Opn)) (hx:Opm (rdW w) v xs) (at_:Nat) (hat:at_<xs.length):Calls Tryz.prog 32 #[v,.int .i64 (at_:Int)] w (Gets w (.int .i64 ((at_+1+bhd ((xs.map (·.2)).drop (at_+1)) 0:Nat):Int))):=by
 obtain ⟨A,n,cp,rfl,h2,h3,h4,h5⟩:=hx
 refine Sy.enter (args:=[.slice A n cp,.int .i64 (at_:Int)]) Tryz.func32 rfl kL ?_
 have hmx:cp<9223372036854775808:=by simp only [maxLen] at h4; omega
 obtain ⟨g,o,rfl,hq⟩:=h5 (by intro e; rw [e] at hat; cases hat)
 obtain ⟨os,hos⟩:∃ os,os=(xs.map (·.2)).drop (at_+1):=⟨_,rfl⟩
 have hol:os.length=n - (at_+1):=by rw [hos,List.length_drop,List.length_map,h2]
 rw [← hos]
 obtain ⟨T0,hT0⟩:∃ T0,T0=bhd os 0:=⟨_,rfl⟩
 rw [← hT0]
 have hat2:at_<n:=by omega
 refine sC ?_
 refine sP (.int .i64 0) ?_
 refine sA ?_
 refine sP (.int .i64 0) ?_
 refine sG<|Sy.seq<|sC ?_
 refine sp rfl<|sS (.int .i64 ((at_+1+0:Nat):Int)) (Quiet.pure (exec_int .add _ _ _ .i64 _ _ _ rfl rfl rfl (int_add _ _ _ _ _ ((wrap_i64 (by omega) (by omega)).trans (by omega)))))<|sp rfl ?_
 refine sG<|Sy.block ?_
 refine Sy.loopT (Y:=Nat) (n - (at_+1)) (λk d=>[(0,.slice (some ⟨g,o,none⟩) n cp),(5,.int .i64 (d:Int)),(6,.int .i64 ((at_+1+k:Nat):Int))]) (λ_ _=>[]) (λk d=>d≤k∧T0=k+bhd (os.drop k) d) 0 ⟨Nat.le_refl _,by rw [hT0,List.drop_zero,Nat.zero_add]⟩ (all_cons kR (all_cons kR (all_cons kR all_nil))) (λ_ h=>h) (λk d hi hy=>?_)
 obtain ⟨y1,y2⟩:=hy
 refine Sy.seq<|sC ?_
 obtain ⟨b2,hb2⟩:∃ t_:Bool,t_=decide (at_+1+k<n):=⟨_,rfl⟩
 refine sp rfl<|sp rfl<|sP (.int .i64 (n:Int))<|sS (.bool b2) (Quiet.pure (exec_int .lss _ _ _ .i64 _ _ _ rfl rfl rfl (int_lss _ _ _ _ _ (by rw [hb2]; exact decide_eq_decide.2 (by omega))))) ?_
 refine sG ?_
 cases b2
 case' false =>
  have l2:¬ at_+1+k<n:=of_decide_eq_false hb2.symm
  have hk:at_+1+T0=n:=by
   rw [y2,show os.drop k=[] from List.drop_eq_nil_of_le (by omega)]
   show at_+1+(k+0)=n
   omega
  refine sU<|Sy.exit<|Sy.then_exit<|Sy.then_exit<|Sy.in_exit<|Sy.then_<|sC ?_
  refine sp rfl<|sP (.int .i64 (n:Int))<|sp rfl ?_
  refine sG<|Sy.ret ?_
  rw [hk]
  exact rV (.int .i64 (n:Int)) rfl
 have l2:at_+1+k<n:=of_decide_eq_true hb2.symm
 obtain ⟨x,hx⟩:∃ x,xs[at_+1+k]? = some x:=⟨_,List.getElem?_eq_getElem (by omega)⟩
 obtain ⟨c0,_⟩:=hq _ x hx
 have hc:=x.2.1.toNat_lt
 have hox:os[k]? = some x.2:=by rw [hos,List.getElem?_drop,List.getElem?_map,hx]; rfl
 have hdr:os.drop k=x.2::os.drop (k+1):=by
  obtain ⟨p1,p2⟩:=List.getElem?_eq_some_iff.1 hox
  rw [List.drop_eq_getElem_cons p1,p2]
 rw [hdr] at y2
 unfold bhd at y2
 refine sT<|Sy.skip<|Sy.then_<|Sy.seq<|Sy.block<|Sy.seq<|Sy.seq ?_
 obtain ⟨q,hq9⟩:∃ t_:Bool,t_=decide (d=0∧(x.2.1.toNat=107∨x.2.1.toNat=108)):=⟨_,rfl⟩
 refine joinX (T:=Unit) (λ_=>[(0,.slice (some ⟨g,o,none⟩) n cp),(5,.int .i64 (d:Int)),(6,.int .i64 ((at_+1+k:Nat):Int)),(32,.bool q)]) (λ_=>[]) (λ_=>True) (λ_ _=>?_) (λkont=>?_)
 case refine_2 =>
  refine Sy.region ?_
  obtain ⟨b1,hb1⟩:∃ t_:Bool,t_=decide (d=0):=⟨_,rfl⟩
  refine sp rfl<|sS (.bool b1) (Quiet.pure (exec_int .eql _ _ _ .i64 _ _ _ rfl rfl rfl (int_eql _ _ _ _ _ (by rw [hb1]; exact decide_eq_decide.2 (by omega)))))<|sp rfl ?_
  cases b1
  case' false =>
   have l1:¬ d=0:=of_decide_eq_false hb1.symm
   refine sN<|sN<|sN<|sN<|sN<|sN<|sN<|sN<|sN<|sN<|sN<|sN<|sN<|sN<|sP (.bool false) ?_
   refine Sy.nil ?_
   exact leafX kont () trivial (by rw [hq9,decide_eq_false (λh=>l1 h.1)]; exact all_cons kR (all_cons kR (all_cons kR (all_cons kR all_nil)))) (λ_ h=>h)
  have l1:d=0:=of_decide_eq_true hb1.symm
  obtain ⟨b7,hb7⟩:∃ t_:Bool,t_=decide (x.2.1.toNat=107):=⟨_,rfl⟩
  refine sp rfl<|sp rfl<|sS (.pointer (some ⟨g,o+(at_+1+k)*2,none⟩)) (Quiet.pure (exec_at 68 73 _ _ g o n cp (at_+1+k) 2 .i64 rfl rfl rfl Tryz.underlying68 kF (by omega)))<|sP (.pointer (some ⟨g,o+(at_+1+k)*2,none⟩))<|sS (bv x.2.1) (Quiet.thereOne g (o+(at_+1+k)*2) 5 _ _ rfl kR c0.1 _ c0.2 Tryz.underlying5 rfl)<|sS (.bool b7) (Quiet.pure (exec_int .eql _ _ _ .u8 _ _ _ rfl rfl rfl (int_eql _ _ _ _ _ (by rw [hb7]; exact decide_eq_decide.2 (by omega)))))<|sp rfl ?_
  cases b7
  case' true =>
   have l7:x.2.1.toNat=107:=of_decide_eq_true hb7.symm
   refine sN<|sN<|sN<|sN<|sN<|sN<|sP (.bool true)<|sP (.bool true) ?_
   refine Sy.nil ?_
   exact leafX kont () trivial (by rw [hq9,decide_eq_true ⟨l1,.inl l7⟩]; exact all_cons kR (all_cons kR (all_cons kR (all_cons kR all_nil)))) (λ_ h=>h)
  have l7:¬ x.2.1.toNat=107:=of_decide_eq_false hb7.symm
  have hq8:q=decide (x.2.1.toNat=108):=by rw [hq9]; exact decide_eq_decide.2 (by omega)
  refine sp rfl<|sp rfl<|sS (.pointer (some ⟨g,o+(at_+1+k)*2,none⟩)) (Quiet.pure (exec_at 68 73 _ _ g o n cp (at_+1+k) 2 .i64 rfl rfl rfl Tryz.underlying68 kF (by omega)))<|sP (.pointer (some ⟨g,o+(at_+1+k)*2,none⟩))<|sS (bv x.2.1) (Quiet.thereOne g (o+(at_+1+k)*2) 5 _ _ rfl kR c0.1 _ c0.2 Tryz.underlying5 rfl)<|sS (.bool q) (Quiet.pure (exec_int .eql _ _ _ .u8 _ _ _ rfl rfl rfl (int_eql _ _ _ _ _ (by rw [hq8]; exact decide_eq_decide.2 (by omega)))))<|sP (.bool q)<|sP (.bool q) ?_
  refine Sy.nil ?_
  exact leafX kont () trivial (all_cons kR (all_cons kR (all_cons kR (all_cons kR all_nil)))) (λ_ h=>h)
 refine Sy.then_ ?_
 cases q
 case' true =>
  have l1:d=0∧(x.2.1.toNat=107∨x.2.1.toNat=108):=of_decide_eq_true hq9.symm
  rw [if_pos l1] at y2
  refine sT<|sC ?_
  refine sp rfl<|sp rfl ?_
  refine sG<|Sy.ret<|Sy.then_ret<|Sy.in_ret<|Sy.then_ret<|Sy.then_ret<|Sy.in_ret<|Sy.then_ret ?_
  rw [show T0=k from y2]
  exact rV (.int .i64 ((at_+1+k:Nat):Int)) rfl
 have l1:¬ (d=0∧(x.2.1.toNat=107∨x.2.1.toNat=108)):=of_decide_eq_false hq9.symm
 rw [if_neg l1] at y2
 refine sU<|Sy.skip<|Sy.then_<|Sy.seq ?_
 obtain ⟨e,he⟩:∃ e:Nat,e=if x.2.1.toNat=106 then d+1 else d:=⟨_,rfl⟩
 refine joinX (T:=Unit) (λ_=>[(0,.slice (some ⟨g,o,none⟩) n cp),(5,.int .i64 (e:Int)),(6,.int .i64 ((at_+1+k:Nat):Int))]) (λ_=>[]) (λ_=>True) (λ_ _=>?_) (λkont=>?_)
 case refine_2 =>
  refine sC ?_
  obtain ⟨b6,hb6⟩:∃ t_:Bool,t_=decide (x.2.1.toNat=106):=⟨_,rfl⟩
  refine sp rfl<|sp rfl<|sS (.pointer (some ⟨g,o+(at_+1+k)*2,none⟩)) (Quiet.pure (exec_at 68 73 _ _ g o n cp (at_+1+k) 2 .i64 rfl rfl rfl Tryz.underlying68 kF (by omega)))<|sP (.pointer (some ⟨g,o+(at_+1+k)*2,none⟩))<|sS (bv x.2.1) (Quiet.thereOne g (o+(at_+1+k)*2) 5 _ _ rfl kR c0.1 _ c0.2 Tryz.underlying5 rfl)<|sS (.bool b6) (Quiet.pure (exec_int .eql _ _ _ .u8 _ _ _ rfl rfl rfl (int_eql _ _ _ _ _ (by rw [hb6]; exact decide_eq_decide.2 (by omega))))) ?_
  refine sG ?_
  cases b6
  case' true =>
   have l6:x.2.1.toNat=106:=of_decide_eq_true hb6.symm
   rw [if_pos l6] at he
   subst he
   refine sT<|Sy.region ?_
   refine sp rfl<|sS (.int .i64 ((d+1:Nat):Int)) (Quiet.pure (exec_int .add _ _ _ .i64 _ _ _ rfl rfl rfl (int_add _ _ _ _ _ ((wrap_i64 (by omega) (by omega)).trans (by omega)))))<|sp rfl ?_
   refine Sy.nil ?_
   exact leafX kont () trivial (all_cons kR (all_cons kR (all_cons kR all_nil))) (λ_ h=>h)
  have l6:¬ x.2.1.toNat=106:=of_decide_eq_false hb6.symm
  rw [if_neg l6] at he
  subst he
  refine sU<|Sy.skip ?_
  exact leafX kont () trivial (all_cons kR (all_cons kR (all_cons kR all_nil))) (λ_ h=>h)
 refine Sy.then_<|sC ?_
 obtain ⟨b8,hb8⟩:∃ t_:Bool,t_=decide (x.2.1.toNat=108):=⟨_,rfl⟩
 refine sp rfl<|sp rfl<|sS (.pointer (some ⟨g,o+(at_+1+k)*2,none⟩)) (Quiet.pure (exec_at 68 73 _ _ g o n cp (at_+1+k) 2 .i64 rfl rfl rfl Tryz.underlying68 kF (by omega)))<|sP (.pointer (some ⟨g,o+(at_+1+k)*2,none⟩))<|sS (bv x.2.1) (Quiet.thereOne g (o+(at_+1+k)*2) 5 _ _ rfl kR c0.1 _ c0.2 Tryz.underlying5 rfl)<|sS (.bool b8) (Quiet.pure (exec_int .eql _ _ _ .u8 _ _ _ rfl rfl rfl (int_eql _ _ _ _ _ (by rw [hb8]; exact decide_eq_decide.2 (by omega))))) ?_
 refine sG ?_
 cases b8
 case' true =>
  have l8:x.2.1.toNat=108:=of_decide_eq_true hb8.symm
  rw [if_neg (by omega)] at he
  rw [if_neg (by omega),if_pos l8] at y2
  subst he
  refine sT<|Sy.region ?_
  refine sp rfl<|sS (.int .i64 ((e - 1:Nat):Int)) (Quiet.pure (exec_int .sub _ _ _ .i64 _ _ _ rfl rfl rfl (int_sub _ _ _ _ _ ((wrap_i64 (by omega) (by omega)).trans (by omega)))))<|sp rfl ?_
  refine Sy.nil<|Sy.in_<|Sy.then_<|Sy.region ?_
  refine sp rfl<|sS (.int .i64 ((at_+1+(k+1):Nat):Int)) (Quiet.pure (exec_int .add _ _ _ .i64 _ _ _ rfl rfl rfl (int_add _ _ _ _ _ ((wrap_i64 (by omega) (by omega)).trans (by omega)))))<|sp rfl ?_
  refine Sy.nil ?_
  exact Sy.againT (e - 1) (by omega) ⟨by omega,by omega⟩ (all_cons kR (all_cons kR (all_cons kR all_nil))) (λw h=>h)
 have l8:¬ x.2.1.toNat=108:=of_decide_eq_false hb8.symm
 rw [if_neg l8, ← he] at y2
 refine sU<|Sy.skip<|Sy.in_<|Sy.then_<|Sy.region ?_
 refine sp rfl<|sS (.int .i64 ((at_+1+(k+1):Nat):Int)) (Quiet.pure (exec_int .add _ _ _ .i64 _ _ _ rfl rfl rfl (int_add _ _ _ _ _ ((wrap_i64 (by omega) (by omega)).trans (by omega)))))<|sp rfl ?_
 refine Sy.nil ?_
 exact Sy.againT e (by omega) ⟨by rw [he]; split <;> omega,by omega⟩ (all_cons kR (all_cons kR (all_cons kR all_nil))) (λw h=>h)
end Pg
end
section
namespace Pg
open Go.RowKit Sy
set_option maxRecDepth 100000
set_option maxHeartbeats 4000000
open Wr
end Pg
end
section
namespace Pg
open Go.RowKit Sy
set_option maxRecDepth 100000
set_option maxHeartbeats 4000000
open Wr
theorem RopY.at {C:Rdr} {y:Slc} {xs:List (Value×Opn)} (h:RopY C y xs):∃ A cp,y.v=.slice A xs.length cp∧xs.length≤cp∧cp≤maxLen∧∀ i z,xs[i]? = some z→∃ g,A=some ⟨g,0,none⟩∧XAt (rdB y.bl) g (0+i*2) [bv z.2.1,z.1]:=by
 rcases h.row.row with ⟨e1,e2⟩ | ⟨g,cap,rr,e2,h1,h2,h3⟩
 ·obtain rfl:xs=[]:=List.map_eq_nil_iff.1 e1
  exact ⟨none,0,by rw [e2]; rfl,Nat.le_refl _,Nat.zero_le _,λi z hz=>by cases hz⟩
 ·rw [opL_len] at h1 h2
  refine ⟨some ⟨g,0,none⟩,cap,by rw [e2,opL_len],h2,h3,λi z hz=>⟨g,rfl,λj u hu=>⟨73,_,by rw [e2]; exact List.mem_singleton.2 rfl,?_⟩⟩⟩
  have q:=opL_flat_at xs rr i z hz
  rw [← q] at hu
  have hj:j<2:=by
   have:=(List.getElem?_eq_some_iff.1 hu).1
   rw [List.length_take] at this; omega
  rw [List.getElem?_take_of_lt hj,List.getElem?_drop] at hu
  rw [List.getElem?_toArray,Nat.zero_add]
  exact hu
theorem sliced0q (A:Option Addr) (n cp:Nat):sliced A 0 n cp 1=.slice A n cp:=by
 unfold sliced
 rw [Nat.sub_zero,Nat.sub_zero]
 congr 1
 split
 ·rfl
 ·cases A with
  | none=>rfl
  | some a=>rw [Option.map_some,Nat.zero_mul]; simp [Addr.add]
theorem run13_any (hV:VerR13) (hO:OfR13) (w0:Base) (hT:Sh.TabAt w0.world 0) (m:Byt) (hm:m.length=32) (h:Nat) (pv wv:Value) (p:Byt) (zs:List (Value×Byt)) (hp:BytR (rdC w0 []) pv p) (hz:Arg (rdC w0 []) (rdC w0 []) wv zs) (w:World) (hw:St w0 w []) :
  Calls Tryz.prog 12 #[pv,wv,.agg (m.map bv).toArray,.int .u64 ((h:Nat):Int)] w (Turns w0 (λu M=>u=.int .i64 ((run (envOf m h) p (zs.map (·.2)):Nat):Int)∧M=[])):=by
 have hz0:=hz
 have hmem:=arg_mem hz
 obtain ⟨zA,zn,zc,rfl,z2,z3,z4,z5⟩:=hz
 refine Sy.enterT (args:=[pv,.slice zA zn zc,.agg (m.map bv).toArray,.int .u64 ((h:Nat):Int)]) hw Tryz.func12 rfl kL ?_
 have hml:(m.map bv).length=32:=by rw [List.length_map,hm]
 have hmx:zc<9223372036854775808:=by simp only [maxLen] at z4; omega
 refine sC ?_
 refine sM 25 (m.map bv).toArray (λg6=>?_)
 obtain ⟨L1,hL1⟩:∃ L1,L1=([]:Blocks)++[(g6,25,(m.map bv).toArray)]:=⟨_,rfl⟩
 rw [← hL1]
 have h6:(g6,25,(m.map bv).toArray)∈L1:=by rw [hL1]; simp
 refine sP (.int .i64 0) ?_
 refine sA ?_
 refine sp rfl ?_
 refine Sy.callT (λw hw=>right13_any w0.inn L1 [] (λ_ h=>by cases h) pv p hp w hw) (λu M hM=>?_)
 obtain ⟨rfl,hM1⟩:=hM
 replace hM1:=hM1.symm
 subst hM1
 have hpe:=parse_err p
 obtain ⟨e,he⟩:∃ e,e=(parse p).1:=⟨_,rfl⟩
 rw [← he] at hpe ⊢
 refine sp rfl ?_
 refine sG<|Sy.seq<|sC ?_
 obtain ⟨b1,hb1⟩:∃ t_:Bool,t_=decide (e≠0):=⟨_,rfl⟩
 refine sp rfl<|sS (.bool b1) (Quiet.pure (exec_int .neq _ _ _ .i64 _ _ _ rfl rfl rfl (int_neq _ _ _ _ _ (by rw [hb1]; exact decide_eq_decide.2 (by omega))))) ?_
 refine sG ?_
 cases b1
 case' true =>
  have l1:e≠0:=of_decide_eq_true hb1.symm
  have er:run (envOf m h) p (zs.map (·.2))=e:=by unfold run; rw [if_pos (by rw [← he]; exact l1), ← he]
  refine sT<|sC ?_
  refine sp rfl<|sp rfl ?_
  refine sG<|Sy.ret<|Sy.then_ret ?_
  exact Sy.retT1 [] rfl (.inl (show _=some (.int .i64 ((e:Nat):Int)) by kernel_rfl)) (λ_ h=>h.less (List.nil_sublist _)) ⟨by rw [er],rfl⟩
 have l1:e=0:=by
  have:=of_decide_eq_false hb1.symm
  omega
 have hl0:p.length≤256:=by
  rw [l1] at he
  unfold parse at he
  by_cases q:256<p.length
  ·rw [if_pos q] at he; cases he
  ·omega
 have ep:parse p=par p []:=by unfold parse; rw [if_neg (by omega)]; rfl
 refine sU<|Sy.skip<|Sy.then_<|Sy.seq<|sC ?_
 obtain ⟨b2,hb2⟩:∃ t_:Bool,t_=decide (16<zn):=⟨_,rfl⟩
 refine sp rfl<|sP (.int .i64 (zn:Int))<|sS (.bool b2) (Quiet.pure (exec_int .gtr _ _ _ .i64 _ _ _ rfl rfl rfl (int_gtr _ _ _ _ _ (by rw [hb2]; exact decide_eq_decide.2 (by omega))))) ?_
 refine sG ?_
 cases b2
 case' true =>
  have l2:16<zn:=of_decide_eq_true hb2.symm
  have er:run (envOf m h) p (zs.map (·.2))=130:=by
   unfold run
   rw [if_neg (by rw [← he]; omega),if_neg (by unfold fits; rw [decide_eq_false (by rw [List.length_map]; omega)]; exact λh=>by cases h)]
  refine sT<|sC ?_
  refine sP (.int .i64 130) ?_
  refine sG<|Sy.ret<|Sy.then_ret ?_
  exact Sy.retT1 [] rfl (.inl (show _=some (.int .i64 130) by kernel_rfl)) (λ_ h=>h.less (List.nil_sublist _)) ⟨by rw [er]; rfl,rfl⟩
 have l2:¬ 16<zn:=of_decide_eq_false hb2.symm
 refine sU<|Sy.skip<|Sy.then_<|Sy.seq<|sC ?_
 refine sP (.int .i64 0) ?_
 refine sG<|Sy.block ?_
 refine Sy.loopT (Y:=Unit) zn (λi _=>[(0,pv),(1,.slice zA zn zc),(3,.int .u64 ((h:Nat):Int)),(6,ptr g6),(10,.int .i64 (i:Int))]) (λ_ _=>L1) (λi _=>∀ (j:Nat) (z:Value×Byt),j<i→zs[j]? = some z→z.2.length≤256) () (λj z hj=>absurd hj (Nat.not_lt_zero _)) (all_cons kR (all_cons kR (all_cons kR (all_cons kR (all_cons kR all_nil))))) (λ_ h=>h) (λi _ hi hy=>?_)
 refine Sy.seq<|sC ?_
 obtain ⟨b3,hb3⟩:∃ t_:Bool,t_=decide (i<zn):=⟨_,rfl⟩
 refine sp rfl<|sp rfl<|sP (.int .i64 (zn:Int))<|sS (.bool b3) (Quiet.pure (exec_int .lss _ _ _ .i64 _ _ _ rfl rfl rfl (int_lss _ _ _ _ _ (by rw [hb3]; exact decide_eq_decide.2 (by omega))))) ?_
 refine sG ?_
 cases b3
 case' true =>
  have l3:i<zn:=of_decide_eq_true hb3.symm
  obtain ⟨z,hz⟩:∃ z,zs[i]? = some z:=⟨_,List.getElem?_eq_getElem (by omega)⟩
  obtain ⟨ga,oa,rfl,zq⟩:=z5 (by intro e; rw [e] at hz; cases hz)
  obtain ⟨c0,d0⟩:=zq i z hz
  obtain ⟨zb,hzb⟩:∃ zb,zb=z.2:=⟨_,rfl⟩
  obtain ⟨xA,xn,xc,ex,x2,x3,x4,x5⟩:=d0
  rw [ex] at c0
  refine sT<|Sy.skip<|Sy.then_<|Sy.seq<|Sy.block<|sC ?_
  obtain ⟨b4,hb4⟩:∃ t_:Bool,t_=decide (256<xn):=⟨_,rfl⟩
  refine sp rfl<|sp rfl<|sS (.pointer (some ⟨ga,oa+i*1,none⟩)) (Quiet.pure (exec_at 23 22 _ _ ga oa zn zc i 1 .i64 rfl rfl rfl Tryz.underlying23 kF l3))<|sS (.slice xA xn xc) (cellC (R:=[]) (f:=oa+i*1) (by rw [Nat.mul_one]; exact c0) (λ_ h=>by cases h) rfl Tryz.underlying22)<|sP (.int .i64 (xn:Int))<|sS (.bool b4) (Quiet.pure (exec_int .gtr _ _ _ .i64 _ _ _ rfl rfl rfl (int_gtr _ _ _ _ _ (by rw [hb4]; exact decide_eq_decide.2 (by omega))))) ?_
  refine sG ?_
  cases b4
  case' true =>
   have l4:256<xn:=of_decide_eq_true hb4.symm
   have er:run (envOf m h) p (zs.map (·.2))=130:=by
    unfold run
    rw [if_neg (by rw [← he]; omega),if_neg]
    unfold fits
    rw [Bool.and_eq_true,List.all_eq_true]
    intro q
    have:=of_decide_eq_true (q.2 z.2 (List.mem_map.2 ⟨z,List.mem_of_getElem? hz,rfl⟩))
    omega
   refine sT<|sC ?_
   refine sP (.int .i64 130) ?_
   refine sG<|Sy.ret<|Sy.in_ret<|Sy.then_ret<|Sy.then_ret<|Sy.in_ret<|Sy.then_ret ?_
   exact Sy.retT1 [] rfl (.inl (show _=some (.int .i64 130) by kernel_rfl)) (λ_ h=>h.less (List.nil_sublist _)) ⟨by rw [er]; rfl,rfl⟩
  have l4:¬ 256<xn:=of_decide_eq_false hb4.symm
  refine sU<|Sy.skip<|Sy.in_<|Sy.then_<|Sy.region ?_
  refine sp rfl<|sS (.int .i64 ((i+1:Nat):Int)) (Quiet.pure (exec_int .add _ _ _ .i64 _ _ _ rfl rfl rfl (int_add _ _ _ _ _ ((wrap_i64 (by omega) (by omega)).trans (by omega)))))<|sp rfl ?_
  refine Sy.nil ?_
  exact Sy.againT () l3 (λj z' hj hz'=>by
   by_cases e:j=i
   ·subst e; rw [hz] at hz'; cases hz'; omega
   ·exact hy j z' (by omega) hz') (all_cons kR (all_cons kR (all_cons kR (all_cons kR (all_cons kR all_nil))))) (λw h=>h)
 have l3:¬ i<zn:=of_decide_eq_false hb3.symm
 obtain rfl:i=zn:=by omega
 have hsm:∀ z∈zs,z.2.length≤256:=λz hz=>by
  obtain ⟨j,hj⟩:=List.getElem?_of_mem hz
  exact hy j z (by have:=(List.getElem?_eq_some_iff.1 hj).1; omega) hj
 have hfit:fits (zs.map (·.2))=true:=by
  unfold fits
  rw [Bool.and_eq_true,List.all_eq_true]
  exact ⟨decide_eq_true (by rw [List.length_map]; omega),λb hb=>by obtain ⟨z,hz,rfl⟩:=List.mem_map.1 hb; exact decide_eq_true (hsm z hz)⟩
 refine sU<|Sy.exit<|Sy.then_exit<|Sy.then_exit<|Sy.in_exit<|Sy.then_<|sC ?_
 refine sp rfl ?_
 refine Sy.callT (λw hw=>ops13_any w0.inn L1 [] pv p hl0 (λ_ h=>by cases h) hp w hw) (λu M hM=>?_)
 obtain ⟨y,xs,rfl,rfl,hy2,hq⟩:=hM
 obtain ⟨X,hX⟩:∃ X,X=run (envOf m h) p (zs.map (·.2)):=⟨_,rfl⟩
 have hX0:X=exec (envOf m h) (xs.map (·.2)) (zs.map (·.2)) 0:=by
  rw [hX]; unfold run
  rw [if_neg (by rw [← he]; omega),if_pos hfit,ep,hq]
 rw [← hX]
 have hok:∀ z∈xs,okO z.2:=λz hz=>parse_ok p _ (by rw [ep,hq]; exact List.mem_map.2 ⟨z,hz,rfl⟩)
 have hxl:xs.length≤256:=by
  have:=parse_len p
  rw [ep,hq,List.length_map] at this; exact this
 obtain ⟨yA,yc,yv,y3,y4,yat⟩:=hy2.at
 rw [yv]
 refine sp rfl<|sp rfl<|sp rfl<|sp rfl<|sp rfl ?_
 refine sA ?_
 refine sP (.slice none 0 0) ?_
 refine sA ?_
 refine sp rfl<|sp rfl ?_
 refine appT (y:=nilS) (zs:=[]) (ys:=zs) (A:=zA) (m:=i) (cp:=zc) (X:=L1++y.bl) (R:=[]) kR _ _ rfl (Slc.Is.nil _ _) kR kR hz0 (List.Perm.of_eq (by show L1++y.bl=(L1++y.bl)++([]++[]); simp)) (λ_ h=>by cases h) (by simp; omega) (λs0 hs0=>?_)
 refine sp rfl ?_
 refine sG ?_
 obtain ⟨T0,hT0⟩:∃ T0,T0=L1++y.bl:=⟨_,rfl⟩
 rw [← hT0]
 obtain ⟨os,hos⟩:∃ os,os=xs.map (·.2):=⟨_,rfl⟩
 rw [← hos] at hX0
 have hol:os.length=xs.length:=by rw [hos,List.length_map]
 refine Sy.seq<|sC ?_
 refine sP (.int .i64 0) ?_
 refine sG<|Sy.block ?_
 refine Sy.loopT (Y:=Slc×List (Value×Byt)×Blocks×Nat) xs.length (λk st=>[(3,.int .u64 ((h:Nat):Int)),(6,ptr g6),(11,.slice yA xs.length yc),(13,st.1.v),(14,.int .i64 (st.2.2.2:Int))]) (λk st=>st.2.2.1++(st.1.bl++[])) (λk st=>k≤st.2.2.2∧(g6,25,(m.map bv).toArray)∈st.2.2.1∧(∀ b∈y.bl,b∈st.2.2.1)∧StkY (rdC w0 st.2.2.1) st.1 st.2.1∧(∀ z∈xs,BytR (rdC w0 st.2.2.1) z.1 z.2.2)∧st.2.1.length≤32∧st.2.2.2≤xs.length+1∧X=exec (envOf m h) (os.drop st.2.2.2) (st.2.1.map (·.2)) 0) (s0,zs,T0,0)
  ⟨Nat.le_refl _,by rw [hT0]; exact List.mem_append_left _ h6,λb hb=>by rw [hT0]; exact List.mem_append_right _ hb,⟨hs0,λz hz=>(hmem z hz).le (rdC_le (λ_ h=>by cases h)),hsm⟩,λz hz=>(hy2.byt z hz).le (rdC_le (λ_ h=>by cases h)),by show zs.length≤32; omega,Nat.zero_le _,by rw [List.drop_zero]; exact hX0⟩ (all_cons kR (all_cons kR (all_cons kR (all_cons kR (all_cons kR all_nil))))) (λ_ h=>h) (λk st hk hy=>?_)
 obtain ⟨s,ws,T,a⟩:=st
 obtain ⟨y5,m6,mY,hs,hxb,hw32,ha1,hXa⟩:=hy
 dsimp only at y5 m6 mY hs hxb hw32 ha1 hXa ⊢
 obtain ⟨sA_,sc,sv_,sv2,sarg⟩:=Slc_arg hs
 rw [sv_]
 obtain ⟨n,hn⟩:∃ n,n=ws.length:=⟨_,rfl⟩
 rw [← hn] at sv_ sarg hw32 ⊢
 have hml6:∀ b∈T,b∈T++(s.bl++[]):=λb hb=>List.mem_append_left _ hb
 have mD:∀ b∈s.bl++T,b∈T++(s.bl++[]):=λb hb=>by
  rw [List.append_nil]
  exact (List.mem_append.1 hb).elim (List.mem_append_right _) (List.mem_append_left _)
 refine Sy.seq<|sC ?_
 obtain ⟨b5,hb5⟩:∃ t_:Bool,t_=decide (a<xs.length):=⟨_,rfl⟩
 refine sp rfl<|sp rfl<|sP (.int .i64 (xs.length:Int))<|sS (.bool b5) (Quiet.pure (exec_int .lss _ _ _ .i64 _ _ _ rfl rfl rfl (int_lss _ _ _ _ _ (by rw [hb5]; exact decide_eq_decide.2 (by omega))))) ?_
 refine sG ?_
 cases b5
 case' false =>
  have l5:¬ a<xs.length:=of_decide_eq_false hb5.symm
  rw [show os.drop a=[] from List.drop_eq_nil_of_le (by omega)] at hXa
  refine sU<|Sy.exit<|Sy.then_exit<|Sy.then_exit<|Sy.in_exit<|Sy.then_<|Sy.seq<|sC ?_
  obtain ⟨b6,hb6⟩:∃ t_:Bool,t_=decide (n≠1):=⟨_,rfl⟩
  refine sp rfl<|sP (.int .i64 (n:Int))<|sS (.bool b6) (Quiet.pure (exec_int .neq _ _ _ .i64 _ _ _ rfl rfl rfl (int_neq _ _ _ _ _ (by rw [hb6]; exact decide_eq_decide.2 (by omega)))))<|sp rfl ?_
  cases b6
  case' true =>
   have l6:n≠1:=of_decide_eq_true hb6.symm
   have er:X=133:=by rw [hXa]; exact if_neg (λq=>l6 (by have:=q.1; rw [List.length_map] at this; omega))
   refine sN<|sN<|sN<|sN<|sN<|sP (.bool true) ?_
   refine sG<|sT<|sC ?_
   refine sP (.int .i64 133) ?_
   refine sG<|Sy.ret<|Sy.then_ret ?_
   exact Sy.retT1 [] rfl (.inl (show _=some (.int .i64 133) by kernel_rfl)) (λ_ h=>h.less (List.nil_sublist _)) ⟨by rw [er]; rfl,rfl⟩
  have l6:¬ n≠1:=of_decide_eq_false hb6.symm
  obtain ⟨z,hz⟩:=List.length_eq_one_iff.1 (show ws.length=1 by omega)
  have har:=sarg 0 (Nat.zero_le _)
  rw [sliced0q] at har
  obtain ⟨A9,n9,c9,e9,q2,q3,q4,q5⟩:=har
  injection e9 with e1 e2 e3
  subst e1
  obtain ⟨ga,oa,rfl,aq⟩:=q5 (by rw [hz]; simp)
  obtain ⟨c0,d0⟩:=aq 0 z (by rw [hz]; rfl)
  obtain ⟨b,hb⟩:∃ b,b=tru z.2:=⟨_,rfl⟩
  have er:X=if b then 0 else 133:=by
   rw [hXa,hz,hb]
   by_cases q:tru z.2=true
   ·rw [q]; exact if_pos ⟨rfl,q⟩
   ·rw [Bool.eq_false_iff.2 q]; exact if_neg (λh=>q h.2)
  refine sp rfl<|sS (.pointer (some ⟨ga,oa+0*1,none⟩)) (Quiet.pure (exec_at 23 22 _ _ ga oa n sc 0 1 .i64 rfl rfl rfl Tryz.underlying23 kF (by omega)))<|sS z.1 (cellC (R:=s.bl++T) c0 mD rfl Tryz.underlying22)<|sS (.bool b) (qg (args:=#[z.1]) (λw1 hw1=>by rw [hb]; exact true13_any w1 z.1 z.2 (d0.le (rdC_world (w0:=w0.inn) hw1 hml6))))<|sP (.bool !b)<|sP (.bool !b) ?_
  refine sG ?_
  cases b
  case' false =>
   refine sT<|sC ?_
   refine sP (.int .i64 133) ?_
   refine sG<|Sy.ret<|Sy.then_ret ?_
   exact Sy.retT1 [] rfl (.inl (show _=some (.int .i64 133) by kernel_rfl)) (λ_ h=>h.less (List.nil_sublist _)) ⟨by rw [er]; rfl,rfl⟩
  refine sU<|Sy.skip<|Sy.then_<|sC ?_
  refine sP (.int .i64 0) ?_
  refine sG<|Sy.ret ?_
  exact Sy.retT1 [] rfl (.inl (show _=some (.int .i64 0) by kernel_rfl)) (λ_ h=>h.less (List.nil_sublist _)) ⟨by rw [er]; rfl,rfl⟩
 have l5:a<xs.length:=of_decide_eq_true hb5.symm
 obtain ⟨x,hx⟩:∃ x,xs[a]? = some x:=⟨_,List.getElem?_eq_getElem (by omega)⟩
 have hxm:=List.mem_of_getElem? hx
 have hopm:∀ w1,St w0.inn w1 (T++(s.bl++[]))→Opm (rdW w1) (.slice yA xs.length yc) xs:=λw1 hw1=>by
  obtain ⟨g,hg,_⟩:=yat a x hx
  refine ⟨_,_,_,rfl,rfl,y3,y4,λ_=>⟨g,0,hg,λj z hz=>?_⟩⟩
  obtain ⟨g',hg',hc⟩:=yat j z hz
  rw [hg] at hg'
  cases hg'
  exact ⟨rdC_world (w0:=w0.inn) hw1 hml6 _ _ _ (.inr (rdB_le mY _ _ _ (hc 0 _ rfl))),rdC_world (w0:=w0.inn) hw1 hml6 _ _ _ (.inr (rdB_le mY _ _ _ (hc 1 _ rfl)))⟩
 obtain ⟨gy,rfl,hxat⟩:=yat a x hx
 have hxC:XAt (rdC w0 y.bl) gy (0+a*2) [bv x.2.1,x.1]:=λj u hu=>.inr (hxat j u hu)
 have mYL:∀ b∈y.bl,b∈T++(s.bl++[]):=λb hb=>hml6 b (mY b hb)
 have hc0:rdC w0 y.bl gy (0+a*2) (bv x.2.1):=hxC 0 _ rfl
 have hbx:=hxb x hxm
 have hokx:=hok x hxm
 have hc:=x.2.1.toNat_lt
 have hox:os[a]? = some x.2:=by rw [hos,List.getElem?_map,hx]; rfl
 have hdr:os.drop a=x.2::os.drop (a+1):=by
  obtain ⟨p1,p2⟩:=List.getElem?_eq_some_iff.1 hox
  rw [List.drop_eq_getElem_cons p1,p2]
 obtain ⟨st,hst⟩:∃ st,st=ws.map (·.2):=⟨_,rfl⟩
 have hsl:st.length=n:=by rw [hst,List.length_map,hn]
 rw [hdr, ← hst,exec_go] at hXa
 obtain ⟨kk,hkk⟩:∃ kk,kk=needs x.2:=⟨_,rfl⟩
 have hk9:kk≤512:=by
  rw [hkk]; unfold needs
  have:=(x.2.2.getD 1 0).toNat_lt
  repeat' split
  all_goals omega
 refine sT<|Sy.skip<|Sy.then_<|Sy.seq<|Sy.block<|sC ?_
 refine sp rfl<|sP (.int .i64 (n:Int))<|sp rfl<|sp rfl<|sS (.pointer (some ⟨gy,0+a*2,none⟩)) (Quiet.pure (exec_at 68 73 _ _ gy 0 xs.length yc a 2 .i64 rfl rfl rfl Tryz.underlying68 kF l5))<|sS (.agg #[bv x.2.1,x.1]) (rowC (R:=y.bl) (cs:=[bv x.2.1,x.1]) hxC mYL rfl rfl Tryz.underlying73)<|sS (.int .i64 ((kk:Nat):Int)) (qg (args:=#[.agg #[bv x.2.1,x.1]]) (λw1 hw1=>by rw [hkk]; exact takes13_any w1 x.2 hokx x.1 (hbx.le (rdC_world (w0:=w0.inn) hw1 hml6)))) ?_
 obtain ⟨b7,hb7⟩:∃ t_:Bool,t_=decide (n<kk):=⟨_,rfl⟩
 cases b7
 case' true =>
  have l7:n<kk:=of_decide_eq_true hb7.symm
  have er:X=132:=by
   have e1:stE (envOf m h) x.2 st=132:=by unfold stE; rw [if_pos (by omega)]
   rw [hXa,e1]; rfl
  refine sS (.int .i64 ((n:Int) - (kk:Int))) (Quiet.pure (exec_int .sub _ _ _ .i64 _ _ _ rfl rfl rfl (int_sub _ _ _ _ _ (wrap_i64 (by omega) (by omega)))))<|sp rfl ?_
  refine sG<|Sy.seq<|sC ?_
  refine sp rfl<|sS (.bool true) (Quiet.pure (exec_int .lss _ _ _ .i64 _ _ _ rfl rfl rfl (int_lss _ _ _ _ _ (decide_eq_true (by omega))))) ?_
  refine sG<|sT<|sC ?_
  refine sP (.int .i64 132) ?_
  refine sG<|Sy.ret<|Sy.then_ret<|Sy.in_ret<|Sy.then_ret<|Sy.then_ret<|Sy.in_ret<|Sy.then_ret ?_
  exact Sy.retT1 [] rfl (.inl (show _=some (.int .i64 132) by kernel_rfl)) (λ_ h=>h.less (List.nil_sublist _)) ⟨by rw [er]; rfl,rfl⟩
 have l7:¬ n<kk:=of_decide_eq_false hb7.symm
 obtain ⟨j,hj⟩:∃ j,j=n - kk:=⟨_,rfl⟩
 refine sS (.int .i64 ((j:Nat):Int)) (Quiet.pure (exec_int .sub _ _ _ .i64 _ _ _ rfl rfl rfl (int_sub _ _ _ _ _ ((wrap_i64 (by omega) (by omega)).trans (by omega)))))<|sp rfl ?_
 refine sG<|Sy.seq<|sC ?_
 refine sp rfl<|sS (.bool false) (Quiet.pure (exec_int .lss _ _ _ .i64 _ _ _ rfl rfl rfl (int_lss _ _ _ _ _ (decide_eq_false (by omega))))) ?_
 refine sG<|sU<|Sy.skip<|Sy.then_ ?_
 have harg:=sarg j (by omega)
 have har0:=sarg 0 (Nat.zero_le _)
 rw [sliced0q,List.drop_zero] at har0
 have hnsc:n≤sc:=by
  obtain ⟨A',n',c',e,_,h3,_,_⟩:=har0
  injection e with e1 e2 e3
  omega
 have hmd:(ws.drop j).map (·.2)=st.drop j:=by rw [hst,List.map_drop]
 have hstd:st.length - needs x.2=j:=by rw [hsl, ← hkk,hj]
 obtain ⟨r,hr⟩:∃ r,r=does (envOf m h) x.2 ((ws.drop j).map (·.2)):=⟨_,rfl⟩
 have hr1:r=does (envOf m h) x.2 (st.drop j):=by rw [hr,hmd]
 have hr9:r.1≤136:=by rw [hr1]; exact does_err _ _ _
 refine Sy.seq ?_
 refine Sy.regionD (λ_=>false) kR ?_
 refine sa 0 rfl rfl<|sa 1 rfl rfl<|sv 2 rfl (.pointer (some ⟨gy,0+a*2,none⟩)) (exec_at 68 73 _ _ gy 0 xs.length yc a 2 .i64 rfl rfl rfl Tryz.underlying68 kF l5)<|sD 3 rfl (.agg #[bv x.2.1,x.1]) (rowC (R:=y.bl) (cs:=[bv x.2.1,x.1]) hxC mYL rfl rfl Tryz.underlying73)<|sa 4 rfl rfl<|sa 5 rfl rfl<|sv 6 rfl (sliced sA_ j n sc 1) (exec_fromT 23 22 _ _ sA_ n sc j Tryz.underlying23 kF rfl rfl rfl (by omega))<|sD 7 rfl (.agg (m.map bv).toArray) (rowC (R:=T) (cs:=m.map bv) (blk_row m6) hml6 hml rfl Tryz.underlying25)<|sa 8 rfl rfl ?_
 refine Sy.callND 9 rfl kR kR 30 #[.agg #[bv x.2.1,x.1],sliced sA_ j n sc 1,.agg (m.map bv).toArray,.int .u64 ((h:Nat):Int)] (by intro _; kernel_rfl) (DoG w0.inn T r) (λw1 hw1=>by rw [hr]; exact does13_any hV hO w0.inn (T++(s.bl++[])) T (s.bl++T) hml6 mD m hm h x.2 hokx x.1 hbx _ (ws.drop j) (by rw [List.length_drop]; omega) harg (λz hz=>hs.sm z (List.mem_of_mem_drop hz)) w1 hw1 (hT.below hw1.below hT.lt)) (λu Mu hM=>?_)
 obtain ⟨z,N,ys,rfl,rfl,hz1,hys⟩:=hM
 obtain ⟨zA2,zc2,zv2,z22,zarg⟩:=Slc_arg hz1
 rw [zv2]
 refine sa 10 rfl rfl<|sa 11 rfl rfl<|sa 12 rfl rfl<|sa 13 rfl rfl<|sa 14 rfl rfl ?_
 refine sE ?_
 refine Sy.then_<|Sy.seq<|sC ?_
 obtain ⟨b8,hb8⟩:∃ t_:Bool,t_=decide (r.1≠0):=⟨_,rfl⟩
 refine sp rfl<|sS (.bool b8) (Quiet.pure (exec_int .neq _ _ _ .i64 _ _ _ rfl rfl rfl (int_neq _ _ _ _ _ (by rw [hb8]; exact decide_eq_decide.2 (by omega))))) ?_
 refine sG ?_
 cases b8
 case' true =>
  have l8:r.1≠0:=of_decide_eq_true hb8.symm
  have er:X=r.1:=by
   have e1:stE (envOf m h) x.2 st=r.1:=by unfold stE; rw [if_neg (by omega),hstd, ← hr1,if_pos l8]
   rw [hXa,e1,if_pos l8]
  refine sT<|sC ?_
  refine sp rfl<|sp rfl ?_
  refine sG<|Sy.ret<|Sy.then_ret<|Sy.in_ret<|Sy.then_ret<|Sy.then_ret<|Sy.in_ret<|Sy.then_ret ?_
  exact Sy.retT1 [] rfl (.inl (show _=some (.int .i64 ((r.1:Nat):Int)) by kernel_rfl)) (λ_ h=>h.less (List.nil_sublist _)) ⟨by rw [er],rfl⟩
 have l8:r.1=0:=by
  have:=of_decide_eq_false hb8.symm
  omega
 refine sU<|Sy.skip<|Sy.then_ ?_
 obtain ⟨L9,hL9⟩:∃ L9,L9=(T++(s.bl++[]))++(N++z.bl):=⟨_,rfl⟩
 refine Sy.permC (M:=L9) (List.Perm.of_eq hL9.symm) ?_
 have u1:∀ b∈T++(s.bl++[]),b∈L9:=λb hb=>by rw [hL9]; exact List.mem_append_left _ hb
 have uT:∀ b∈T,b∈L9:=λb hb=>u1 b (hml6 b hb)
 have uD:∀ b∈s.bl++T,b∈L9:=λb hb=>u1 b (mD b hb)
 have uN:∀ b∈T++N,b∈L9:=λb hb=>(List.mem_append.1 hb).elim (uT b) (λh=>by rw [hL9]; exact List.mem_append_right _ (List.mem_append_left _ h))
 have uZ:∀ b∈z.bl++(T++N),b∈L9:=λb hb=>(List.mem_append.1 hb).elim (λh=>by rw [hL9]; exact List.mem_append_right _ (List.mem_append_right _ h)) (uN b)
 obtain ⟨q,hq9⟩:∃ q,q=decide (skp x.2 (st.drop j)=1):=⟨_,rfl⟩
 obtain ⟨a2,ha2⟩:∃ a2:Nat,a2=if q then a+1+bhd (os.drop (a+1)) 0 else a:=⟨_,rfl⟩
 have hbl:=bhd_le (os.drop (a+1)) 0
 rw [List.length_drop,hol] at hbl
 have ha3:a≤a2∧a2≤xs.length:=by rw [ha2]; split <;> omega
 refine Sy.seq ?_
 refine joinX (T:=Unit) (λ_=>[(3,.int .u64 ((h:Nat):Int)),(6,ptr g6),(11,.slice (some ⟨gy,0,none⟩) xs.length yc),(13,.slice sA_ n sc),(14,.int .i64 (a2:Int)),(15,.int .i64 (j:Int)),(16,.slice zA2 ys.length zc2)]) (λ_=>L9) (λ_=>True) (λ_ _=>?_) (λkont=>?_)
 case refine_2 =>
  refine sC ?_
  obtain ⟨c7,hc7⟩:∃ t_:Bool,t_=decide (x.2.1.toNat=107):=⟨_,rfl⟩
  refine sp rfl<|sp rfl<|sS (.pointer (some ⟨gy,0+a*2,none⟩)) (Quiet.pure (exec_at 68 73 _ _ gy 0 xs.length yc a 2 .i64 rfl rfl rfl Tryz.underlying68 kF l5))<|sP (.pointer (some ⟨gy,0+a*2,none⟩))<|sS (bv x.2.1) (cellC (R:=y.bl) hc0 (λb hb=>u1 b (mYL b hb)) rfl Tryz.underlying5)<|sS (.bool c7) (Quiet.pure (exec_int .eql _ _ _ .u8 _ _ _ rfl rfl rfl (int_eql _ _ _ _ _ (by rw [hc7]; exact decide_eq_decide.2 (by omega)))))<|sp rfl ?_
  cases c7
  case' true =>
   have lc:x.2.1.toNat=107:=of_decide_eq_true hc7.symm
   have hk1:skp x.2 (st.drop j)=1:=by unfold skp; rw [if_pos (.inl lc)]
   rw [hq9,decide_eq_true hk1] at ha2
   refine sN<|sN<|sN<|sN<|sN<|sN<|sN<|sN<|sN<|sN<|sN<|sN<|sN<|sN<|sP (.bool true) ?_
   refine sG<|sT<|Sy.region ?_
   refine sp rfl<|sp rfl<|sS (.int .i64 ((a2:Nat):Int)) (qg (args:=#[.slice (some ⟨gy,0,none⟩) xs.length yc,.int .i64 ((a:Nat):Int)]) (λw1 hw1=>by
    rw [show a2=a+1+bhd ((xs.map (·.2)).drop (a+1)) 0 by rw [← hos]; exact ha2]
    exact behind13_any w1 _ xs (hopm w1 (hw1.less (by rw [hL9]; exact List.sublist_append_left _ _))) a l5))<|sp rfl ?_
   refine Sy.nil ?_
   exact leafX kont () trivial (all_cons kR (all_cons kR (all_cons kR (all_cons kR (all_cons kR (all_cons kR (all_cons kR all_nil))))))) (λ_ h=>h)
  have lc:¬ x.2.1.toNat=107:=of_decide_eq_false hc7.symm
  obtain ⟨c6,hc6⟩:∃ t_:Bool,t_=decide (x.2.1.toNat=106):=⟨_,rfl⟩
  refine sp rfl<|sp rfl<|sS (.pointer (some ⟨gy,0+a*2,none⟩)) (Quiet.pure (exec_at 68 73 _ _ gy 0 xs.length yc a 2 .i64 rfl rfl rfl Tryz.underlying68 kF l5))<|sP (.pointer (some ⟨gy,0+a*2,none⟩))<|sS (bv x.2.1) (cellC (R:=y.bl) hc0 (λb hb=>u1 b (mYL b hb)) rfl Tryz.underlying5)<|sS (.bool c6) (Quiet.pure (exec_int .eql _ _ _ .u8 _ _ _ rfl rfl rfl (int_eql _ _ _ _ _ (by rw [hc6]; exact decide_eq_decide.2 (by omega)))))<|sp rfl ?_
  cases c6
  case' false =>
   have l6:¬ x.2.1.toNat=106:=of_decide_eq_false hc6.symm
   have hk1:skp x.2 (st.drop j)=0:=by unfold skp; rw [if_neg (λh=>h.elim lc (λh=>l6 h.1))]
   rw [hq9,hk1] at ha2
   have ha4:a2=a:=ha2
   subst ha4
   refine sN<|sN<|sN<|sN<|sN<|sN<|sP (.bool false)<|sP (.bool false) ?_
   refine sG<|sU<|Sy.skip ?_
   exact leafX kont () trivial (all_cons kR (all_cons kR (all_cons kR (all_cons kR (all_cons kR (all_cons kR (all_cons kR all_nil))))))) (λ_ h=>h)
  have l6:x.2.1.toNat=106:=of_decide_eq_true hc6.symm
  have hkk1:kk=1:=by rw [hkk]; unfold needs; rw [l6]; rfl
  obtain ⟨v,hv⟩:∃ v,ws[j]? = some v:=⟨_,List.getElem?_eq_getElem (by omega)⟩
  have hdj:st.drop j=[v.2]:=by
   obtain ⟨p1,p2⟩:=List.getElem?_eq_some_iff.1 hv
   rw [← hmd,List.drop_eq_getElem_cons p1,p2,List.drop_eq_nil_of_le (by omega)]; rfl
  obtain ⟨A9,n9,c9,e9,q2,q3,q4,q5⟩:=har0
  injection e9 with e1 e2 e3
  subst e1
  obtain ⟨ga,oa,rfl,aq⟩:=q5 (by intro e; rw [e] at hv; cases hv)
  obtain ⟨c0,d0⟩:=aq j v hv
  obtain ⟨b,hb⟩:∃ b,b=tru v.2:=⟨_,rfl⟩
  have hskp:skp x.2 (st.drop j)=if b then 0 else 1:=by
   rw [hdj,hb]
   cases ht:tru v.2 with
   | true=>exact skp_yes l6 ht
   | false=>unfold skp; rw [if_pos (.inr ⟨l6,ht⟩)]; rfl
  refine sp rfl<|sp rfl<|sS (.pointer (some ⟨ga,oa+j*1,none⟩)) (Quiet.pure (exec_at 23 22 _ _ ga oa n sc j 1 .i64 rfl rfl rfl Tryz.underlying23 kF (by omega)))<|sS v.1 (cellC (R:=s.bl++T) (f:=oa+j*1) (by rw [Nat.mul_one]; exact c0) uD rfl Tryz.underlying22)<|sS (.bool b) (qg (args:=#[v.1]) (λw1 hw1=>by rw [hb]; exact true13_any w1 v.1 v.2 (d0.le (rdC_world (w0:=w0.inn) hw1 uT))))<|sP (.bool !b)<|sP (.bool !b)<|sP (.bool !b) ?_
  refine sG ?_
  cases b
  case' true =>
   rw [hq9,hskp] at ha2
   have ha4:a2=a:=ha2
   subst ha4
   refine sU<|Sy.skip ?_
   exact leafX kont () trivial (all_cons kR (all_cons kR (all_cons kR (all_cons kR (all_cons kR (all_cons kR (all_cons kR all_nil))))))) (λ_ h=>h)
  have hk1:skp x.2 (st.drop j)=1:=hskp
  rw [hq9,decide_eq_true hk1] at ha2
  refine sT<|Sy.region ?_
  refine sp rfl<|sp rfl<|sS (.int .i64 ((a2:Nat):Int)) (qg (args:=#[.slice (some ⟨gy,0,none⟩) xs.length yc,.int .i64 ((a:Nat):Int)]) (λw1 hw1=>by
   rw [show a2=a+1+bhd ((xs.map (·.2)).drop (a+1)) 0 by rw [← hos]; exact ha2]
   exact behind13_any w1 _ xs (hopm w1 (hw1.less (by rw [hL9]; exact List.sublist_append_left _ _))) a l5))<|sp rfl ?_
  refine Sy.nil ?_
  exact leafX kont () trivial (all_cons kR (all_cons kR (all_cons kR (all_cons kR (all_cons kR (all_cons kR (all_cons kR all_nil))))))) (λ_ h=>h)
 refine Sy.then_ ?_
 obtain ⟨ws2,hws2⟩:∃ ws2,ws2=ws.take j++ys:=⟨_,rfl⟩
 have hst2:ws2.map (·.2)=stS (envOf m h) x.2 st:=by
  unfold stS
  rw [hws2,List.map_append,List.map_take, ← hst,hys,hr1,hstd]
 have htk:=har0.take (show j≤n by omega)
 have hyl:ys.length≤2:=by
  have:=does_len (envOf m h) x.2 (st.drop j)
  rw [← hr1, ← hys,List.length_map] at this; exact this
 have zar:=zarg 0 (Nat.zero_le _)
 rw [sliced0q,List.drop_zero] at zar
 refine sC ?_
 refine sP (.slice none 0 0) ?_
 refine sA ?_
 obtain ⟨A8,n8,c8,e8,t2,t3,t4,t5⟩:=htk
 refine sp rfl<|sp rfl<|sp rfl<|sS (.slice A8 n8 c8) (Quiet.pure (by rw [← e8]; exact exec_toT 23 _ _ sA_ n sc j Tryz.underlying23 kF rfl rfl rfl (by omega))) ?_
 refine appT (y:=nilS) (zs:=[]) (ys:=ws.take j) (A:=A8) (m:=n8) (cp:=c8) (X:=L9) (R:=L9) kR _ _ rfl (Slc.Is.nil _ _) kR kR (arg_le ⟨A8,n8,c8,rfl,t2,t3,t4,t5⟩ (rdC_le uT) (rdC_le uD)) (List.Perm.of_eq (by show L9=L9++([]++[]); simp)) (λ_ h=>h) (by show 0+(ws.take j).length≤_; rw [List.length_take]; omega) (λv1 hv1=>?_)
 refine sp rfl ?_
 refine sA ?_
 refine sp rfl<|sp rfl ?_
 refine appT (y:=v1) (zs:=ws.take j) (ys:=ys) (A:=zA2) (m:=ys.length) (cp:=zc2) (X:=L9) (R:=L9) kR _ _ rfl hv1 kR kR (arg_le zar (rdC_le uN) (rdC_le uZ)) (List.Perm.refl _) (λ_ h=>h) (by rw [List.length_take]; omega) (λv2 hv2=>?_)
 rw [← hws2] at hv2
 refine sp rfl ?_
 refine sA ?_
 refine sp rfl<|sp rfl ?_
 refine sA ?_
 obtain ⟨n2,hn2⟩:∃ n2,n2=ws2.length:=⟨_,rfl⟩
 have hn3:n2≤34:=by rw [hn2,hws2,List.length_append,List.length_take]; omega
 obtain ⟨c9_,hc9⟩:∃ t_:Bool,t_=decide (32<n2):=⟨_,rfl⟩
 refine sp rfl<|sS (.int .i64 ((n2:Nat):Int)) (Quiet.lenR hv2 (by rw [List.length_map,hn2]) _ Tryz.underlying23 rfl rfl)<|sS (.bool c9_) (Quiet.pure (exec_int .gtr _ _ _ .i64 _ _ _ rfl rfl rfl (int_gtr _ _ _ _ _ (by rw [hc9]; exact decide_eq_decide.2 (by omega))))) ?_
 refine sG ?_
 have hs2l:(stS (envOf m h) x.2 st).length=n2:=by rw [← hst2,List.length_map,hn2]
 cases c9_
 case' true =>
  have l9:32<n2:=of_decide_eq_true hc9.symm
  have er:X=132:=by
   have e1:stE (envOf m h) x.2 st=132:=by
    have q1:=hs2l
    unfold stS at q1
    unfold stE
    rw [if_neg (by omega),if_neg (by rw [hstd, ← hr1]; omega),if_pos (by omega)]
   rw [hXa,e1]; rfl
  refine sT<|sC ?_
  refine sP (.int .i64 132) ?_
  refine sG<|Sy.ret<|Sy.in_ret<|Sy.then_ret<|Sy.then_ret<|Sy.in_ret<|Sy.then_ret ?_
  exact Sy.retT1 [] rfl (.inl (show _=some (.int .i64 132) by kernel_rfl)) (λ_ h=>h.less (List.nil_sublist _)) ⟨by rw [er]; rfl,rfl⟩
 have l9:¬ 32<n2:=of_decide_eq_false hc9.symm
 have e1:stE (envOf m h) x.2 st=0:=by
  have q1:=hs2l
  unfold stS at q1
  unfold stE
  rw [if_neg (by omega),if_neg (by rw [hstd, ← hr1]; omega),if_neg (by omega)]
 have hX2:X=exec (envOf m h) (os.drop (a2+1)) (ws2.map (·.2)) 0:=by
  rw [hXa,e1,if_neg (λh=>h rfl), ← hst2]
  have ek:stK x.2 st=skp x.2 (st.drop j):=by unfold stK; rw [hstd]
  rw [ek]
  by_cases hk1:skp x.2 (st.drop j)=1
  ·rw [hq9,decide_eq_true hk1,if_pos rfl] at ha2
   rw [hk1,exec_bhd _ _ _ 0,List.drop_drop,ha2]
   congr 2
  ·have hk0:skp x.2 (st.drop j)=0:=by
    unfold skp at hk1 ⊢
    split at hk1
    ·exact absurd rfl hk1
    ·rename_i q; rw [if_neg q]
   rw [hq9,decide_eq_false hk1,if_neg (λh=>by cases h)] at ha2
   rw [hk0,ha2]
 refine sU<|Sy.skip<|Sy.in_<|Sy.then_<|Sy.region ?_
 refine sp rfl<|sS (.int .i64 ((a2+1:Nat):Int)) (Quiet.pure (exec_int .add _ _ _ .i64 _ _ _ rfl rfl rfl (int_add _ _ _ _ _ ((wrap_i64 (by omega) (by omega)).trans (by omega)))))<|sp rfl ?_
 refine Sy.nil ?_
 exact Sy.againT (v2,ws2,L9,a2+1) (by omega) ⟨by show k+1≤a2+1; omega,uT _ m6,λb hb=>uT b (mY b hb),⟨hv2,λb hb=>by
  rw [hws2] at hb
  exact (List.mem_append.1 hb).elim (λh=>(hs.byt b (List.mem_of_mem_take h)).le (rdC_le uT)) (λh=>(hz1.byt b h).le (rdC_le uN)),λb hb=>by
  rw [hws2] at hb
  exact (List.mem_append.1 hb).elim (λh=>hs.sm b (List.mem_of_mem_take h)) (λh=>hz1.sm b h)⟩,λb hb=>(hxb b hb).le (rdC_le uT),by show ws2.length≤32; omega,by show a2+1≤xs.length+1; omega,hX2⟩ (all_cons kR (all_cons kR (all_cons kR (all_cons kR (all_cons kR all_nil))))) (λw h=>h)
end Pg
end
section
section
open Go.ChangeShapes Go.WideShapes Go.ChangeAt Go.RowKit
section
variable {H:Type} {enc:TypeId×Value→H} {P:Program}
end
end
end
section
namespace Pg
open Go.RowKit Sy
set_option maxRecDepth 100000
set_option maxHeartbeats 4000000
open Wr
open Go.ChangeShapes Go.WideShapes Go.ChangeAt Go.Deep
def repL {α:Type} (k:Nat) (rep:Rdr→List Value→α→Prop) (C:Rdr) (cs:List Value) (l:List α):Prop:=∃ v,cs=[v]∧LstR C k rep v l
theorem ones_app {a b:List Value} (ha:∀ u∈a,u.oneCell'=true) (hb:∀ u∈b,u.oneCell'=true):∀ u∈a++b,u.oneCell'=true:=λu hu=>(List.mem_append.1 hu).elim (ha u) (hb u)
theorem bulk_pos {H:Type} (d:DataW H):1≤Rows.uptoBulk d:=by
 cases d with
 | lit l=>cases l <;> simp [Rows.uptoBulk]
 | _=>simp [Rows.uptoBulk]
theorem bulk_app {H:Type}:∀ a b:List (DataW H),Rows.uptoBulkAll (a++b)=Rows.uptoBulkAll a+Rows.uptoBulkAll b
 | [],b=>by simp [Rows.uptoBulkAll]
 | d::a,b=>by
  have h:=bulk_app a b
  simp only [List.cons_append,Rows.uptoBulkAll]
  omega
theorem cells_at {W:World} {base:Nat} {a:Addr} {n:Nat} {cs:List Value} (h:W.cells? base a n=some cs):∀ (j:Nat) (v:Value),cs[j]? = some v→W.cell? (a.add j)=some v:=λj v hj=>by
 unfold World.cells? at h
 split at h
 ·have hl:=Lib.mapM_length h
  have hjl:j<n:=by
   have:=(List.getElem?_eq_some_iff.1 hj).1
   simp at hl
   omega
  obtain ⟨b,hb,hf⟩:=Lib.mapM_at h j j (by simp [hjl])
  rw [hb] at hj
  injection hj with hj
  rw [hf,hj]
 ·cases h
theorem cells_ln {W:World} {base:Nat} {a:Addr} {n:Nat} {cs:List Value} (h:W.cells? base a n=some cs):cs.length=n:=by
 unfold World.cells? at h
 split at h
 ·have hl:=Lib.mapM_length h
  simpa using hl
 ·cases h
theorem cell_in {w:World} {a:Addr} {v:Value} (h:w.cell? a=some v):∃ b o,a=⟨b,o,none⟩∧b<w.heap.size:=by
 obtain ⟨b,o,k⟩:=a
 unfold World.cell? at h
 cases k with
 | none =>
  refine ⟨b,o,rfl,?_⟩
  rcases Nat.lt_or_ge b w.heap.size with hl | hl
  ·exact hl
  ·simp [Array.getElem?_eq_none hl] at h
 | some k=>exfalso; cases hw:w.heap[b]? with
  | none=>simp [hw] at h
  | some ob=>cases ob <;> simp [hw] at h
theorem add_in (b o n:Nat):(⟨b,o,none⟩:Addr).add n=⟨b,o+n,none⟩:=by unfold Addr.add; split <;> simp_all
theorem list_of {α H:Type} {n:Nat} {p:Nat→α→Prop} {sz:α→Nat} {D:Nat→DataW H} (h:∀ i,i<n→∃ x,p i x∧sz x<Rows.uptoBulk (D i)):∃ l:List α,l.length=n∧(∀ i x,l[i]? = some x→p i x)∧l.length+(l.map sz).sum≤Rows.uptoBulkAll ((List.range n).map D):=by
 induction n with
 | zero=>exact ⟨[],rfl,λi x h=>(by cases h),Nat.zero_le _⟩
 | succ n ih =>
  obtain ⟨l,h1,h2,h3⟩:=ih λi hi=>h i (by omega)
  obtain ⟨x,hx,hs⟩:=h n (by omega)
  refine ⟨l++[x],by rw [List.length_append,h1]; rfl,λi y hy=>?_,?_⟩
  ·rcases Nat.lt_or_ge i l.length with hi | hi
   ·rw [List.getElem?_append_left hi] at hy
    exact h2 i y hy
   ·rw [List.getElem?_append_right hi] at hy
    cases hk:i - l.length with
    | zero =>
     rw [hk] at hy
     cases hy
     obtain rfl:i=n:=by omega
     exact hx
    | succ k=>rw [hk] at hy; cases hy
  ·simp only [List.range_succ,List.map_append,bulk_app,List.sum_append,List.length_append,List.map_cons,List.map_nil,List.sum_cons,List.sum_nil,List.length_cons,List.length_nil,Rows.uptoBulkAll]
   omega
structure Opng {α:Type} (t:TypeId) (k:Nat) (rep:Rdr→List Value→α→Prop) (sz:α→Nat):Prop where
 go:∀ {H:Type} {enc:TypeId×Value→H} {W:World} {fuel:Nat} {cs:List Value} {x:DataW H×List MemPlace},cs.length=k→DataW.trod enc Tryz.prog W 0 (λ_=>true) true fuel t cs=some x→∃ y,rep (rdW W) cs y∧(∀ u∈cs,u.oneCell'=true)∧sz y<Rows.uptoBulk x.1
theorem Opng.as {α β:Type} {t:TypeId} {k:Nat} {rep:Rdr→List Value→α→Prop} {sz:α→Nat} {rep':Rdr→List Value→β→Prop} {sz':β→Nat} (h:Opng t k rep sz) (hr:∀ C cs x,rep C cs x→∃ y,rep' C cs y∧sz' y≤sz x):Opng t k rep' sz':=⟨λhl hf=>by
 obtain ⟨x,h1,h2,h3⟩:=h.go hl hf
 obtain ⟨y,h4,h5⟩:=hr _ _ _ h1
 exact ⟨y,h4,h2,by omega⟩⟩
def repU (_:Rdr) (cs:List Value) (n:Nat):Prop:=cs=[.int .u64 (n:Int)]∧n<18446744073709551616
def repO (_:Rdr) (cs:List Value) (u:UInt8):Prop:=cs=[bv u]
def repN (n:Nat) (_:Rdr) (cs:List Value) (b:Byt):Prop:=cs=b.map bv∧b.length=n
def repT (C:Rdr) (cs:List Value) (b:Byt):Prop:=∃ v,cs=[v]∧BytR C v b
theorem opn_u {t:TypeId} (ht:Tryz.prog.underlying t=some (.int .u64)):Opng t 1 repU (λ_=>0):=⟨λhl hf=>by
 obtain ⟨z,rfl,hx,w⟩:=DataW.trod_int ht hf
 have hz:0≤z∧z<18446744073709551616:=by
  simp [Lit.wf,IntKind.bits,IntKind.signed,IntKind.min,IntKind.max] at w
  omega
 refine ⟨z.toNat,⟨by rw [show ((z.toNat:Nat):Int)=z by omega],by omega⟩,λu hu=>by rw [List.mem_singleton.1 hu]; rfl,bulk_pos _⟩⟩
theorem opn_o {t:TypeId} (ht:Tryz.prog.underlying t=some (.int .u8)):Opng t 1 repO (λ_=>0):=⟨λhl hf=>by
 obtain ⟨z,rfl,hx,w⟩:=DataW.trod_int ht hf
 have hz:0≤z∧z<256:=by
  simp [Lit.wf,IntKind.bits,IntKind.signed,IntKind.min,IntKind.max] at w
  omega
 refine ⟨UInt8.ofNat z.toNat,?_,λu hu=>by rw [List.mem_singleton.1 hu]; rfl,bulk_pos _⟩
 unfold repO bv
 rw [UInt8.toNat_ofNat',show ((z.toNat%2 ^ 8:Nat):Int)=z by omega]⟩
theorem opn_n {t e:TypeId} {n:Nat} (ht:Tryz.prog.underlying t=some (.array n e)) (he:Tryz.prog.underlying e=some (.int .u8)) (hce:Tryz.prog.cellsOf e=1) (hct:Tryz.prog.cellsOf t=n):Opng t n (repN n) (λ_=>0):=⟨λ{H enc W fuel cs x} hl hf=>by
 cases fuel with
 | zero=>simp [DataW.trod] at hf
 | succ fuel =>
  simp only [DataW.trod,ht,hce,hct,Nat.mul_one] at hf
  rw [if_pos hl] at hf
  ·obtain ⟨xs,hm,hx⟩:=Option.map_eq_some_iff.1 hf
   have hone:∀ i,i<n→∃ u:UInt8,cs[i]? = some (bv u):=by
    intro i hi
    obtain ⟨b,hb,hf⟩:=Lib.mapM_at hm i i (by simp [hi])
    obtain ⟨z,hc,rfl,hw⟩:=DataW.trod_int he hf
    have h1:cs[i]? = some (.int .u8 z):=by
     have:=congrArg (·[0]?) hc
     simpa [List.getElem?_take,List.getElem?_drop] using this
    have hz:0≤z∧z<256:=by
     simp [Lit.wf,IntKind.bits,IntKind.signed,IntKind.min,IntKind.max] at hw
     omega
    refine ⟨UInt8.ofNat z.toNat,?_⟩
    rw [h1]
    unfold bv
    congr 2
    rw [UInt8.toNat_ofNat']
    omega
   have hcs:∃ b:Byt,cs=b.map bv:=by
    refine ⟨cs.map (λv=>match v with | .int _ z=>UInt8.ofNat z.toNat | _=>0),List.ext_getElem? λi=>?_⟩
    by_cases hi:i<n
    ·obtain ⟨u,hu⟩:=hone i hi
     simp [hu,bv]
    ·have:cs.length≤i:=by omega
     simp [List.getElem?_eq_none this]
   obtain ⟨b,rfl⟩:=hcs
   exact ⟨b,⟨rfl,by simpa using hl⟩,λu hu=>by obtain ⟨w,_,rfl⟩:=List.mem_map.1 hu; rfl,bulk_pos _⟩⟩
theorem opn_l {α:Type} {t e:TypeId} {k:Nat} {rep:Rdr→List Value→α→Prop} {sz:α→Nat} (ht:Tryz.prog.underlying t=some (.slice e)) (hce:Tryz.prog.cellsOf e=k) (hk:0<k) (h:Opng e k rep sz):Opng t 1 (repL k rep) (λl=>l.length+(l.map sz).sum):=⟨λ{H enc W fuel cs x} hl hf=>by
 rcases open_slice ht hf with ⟨rfl,hx⟩ | ⟨a,len,cap,m,n,D,Pl,rfl,_,hlc,hm,hme,hx,hall⟩
 ·exact ⟨[],⟨_,rfl,none,0,0,rfl,rfl,Nat.le_refl _,Nat.zero_le _,λh=>(h rfl).elim⟩,λu hu=>by rw [List.mem_singleton.1 hu]; rfl,bulk_pos _⟩
 ·simp only [if_true] at hme
  subst hme
  rw [hce] at hall
  obtain ⟨l,l1,l2,l3⟩:=list_of (α:=α) (n:=len) (sz:=sz) (D:=D) (p:=λi y=>∃ cs',W.cells? 0 (a.add (i*k)) k=some cs'∧rep (rdW W) cs' y∧∀ u∈cs',u.oneCell'=true) (λi hi=>by
   obtain ⟨cs',h1,h2⟩:=hall i (by omega)
   obtain ⟨y,q1,q2,q3⟩:=h.go (cells_ln h1) h2
   exact ⟨y,⟨cs',h1,q1,q2⟩,q3⟩)
  refine ⟨l,⟨_,rfl,some a,len,m,rfl,l1,hlc,hm,λhne=>?_⟩,λu hu=>by rw [List.mem_singleton.1 hu]; rfl,?_⟩
  ·have hpos:0<l.length:=List.length_pos_iff.2 hne
   obtain ⟨cs0,c1,c2,c3⟩:=l2 0 l[0] (List.getElem?_eq_getElem hpos)
   have c4:=cells_ln c1
   have hcell:=cells_at c1 0 cs0[0] (List.getElem?_eq_getElem (by omega))
   have e0:(a.add (0*k)).add 0=a:=by simp [Addr.add]
   rw [e0] at hcell
   obtain ⟨b,o,rfl,hlt⟩:=cell_in hcell
   refine ⟨b,o,rfl,λj y hy=>?_⟩
   obtain ⟨cs',d1,d2,d3⟩:=l2 j y hy
   refine ⟨cs',cells_ln d1,d3,d2,λi v hi=>⟨hlt,?_⟩⟩
   have:=cells_at d1 i v hi
   rwa [add_in,add_in] at this
  ·subst hx
   simp only [Rows.uptoBulk]
   omega⟩
theorem opn_t {t e:TypeId} (ht:Tryz.prog.underlying t=some (.slice e)) (he:Tryz.prog.underlying e=some (.int .u8)) (hce:Tryz.prog.cellsOf e=1):Opng t 1 repT (λb=>b.length):=(opn_l ht hce Nat.zero_lt_one (opn_o he)).as λC cs l ⟨v,h1,A,n,cp,h2,h3,h4,h5,h6⟩=>⟨l,⟨v,h1,A,n,cp,h2,h3,h4,h5,λhne=>by
 obtain ⟨g,o,e,hq⟩:=h6 hne
 refine ⟨g,o,e,λj u hu=>?_⟩
 obtain ⟨cs',_,_,rfl,q⟩:=hq j u hu
 have:=q 0 (bv u) rfl
 rwa [Nat.mul_one,Nat.add_zero] at this⟩,Nat.le_add_right _ _⟩
theorem opn_s3 {α0 α1 α2:Type} {t:TypeId} {f0 f1 f2:Field} {k0 k1 k2:Nat} {r0:Rdr→List Value→α0→Prop} {r1:Rdr→List Value→α1→Prop} {r2:Rdr→List Value→α2→Prop} {z0:α0→Nat} {z1:α1→Nat} {z2:α2→Nat} (ht:Tryz.prog.underlying t=some (.struct #[f0,f1,f2])) (c0:Tryz.prog.cellsOf f0.type=k0) (c1:Tryz.prog.cellsOf f1.type=k1) (c2:Tryz.prog.cellsOf f2.type=k2) (o0:f0.offset=0) (o1:f1.offset=0+k0) (o2:f2.offset=0+k0+k1)
  (h0:Opng f0.type k0 r0 z0) (h1:Opng f1.type k1 r1 z1) (h2:Opng f2.type k2 r2 z2):Opng t (k0+(k1+(k2))) (λC cs (y:α0×α1×α2)=>∃ a0 a1 a2:List Value,cs=a0++(a1++(a2))∧r0 C a0 y.1∧r1 C a1 y.2.1∧r2 C a2 y.2.2) (λy=>z0 y.1+z1 y.2.1+z2 y.2.2):=⟨λ{H enc W fuel cs x} hl hf=>by
 obtain ⟨xs,m,_,hx,_,hn,hg⟩:=DataW.trod_struct ht hf
 match xs,hn with
 | [y0,y1,y2],_ =>
  have g0:DataW.trod enc Tryz.prog W 0 (λ_=>true) true m f0.type ((cs.drop f0.offset).take (Tryz.prog.cellsOf f0.type))=some y0:=hg 0 f0 rfl
  rw [o0,c0] at g0
  obtain ⟨v0,p0,q0,s0⟩:=h0.go (by rw [List.length_take,List.length_drop]; omega) g0
  have g1:DataW.trod enc Tryz.prog W 0 (λ_=>true) true m f1.type ((cs.drop f1.offset).take (Tryz.prog.cellsOf f1.type))=some y1:=hg 1 f1 rfl
  rw [o1,c1] at g1
  obtain ⟨v1,p1,q1,s1⟩:=h1.go (by rw [List.length_take,List.length_drop]; omega) g1
  have g2:DataW.trod enc Tryz.prog W 0 (λ_=>true) true m f2.type ((cs.drop f2.offset).take (Tryz.prog.cellsOf f2.type))=some y2:=hg 2 f2 rfl
  rw [o2,c2] at g2
  obtain ⟨v2,p2,q2,s2⟩:=h2.go (by rw [List.length_take,List.length_drop]; omega) g2
  have e0:cs.drop (0)=(cs.drop (0)).take k0++cs.drop (0+k0):=by have q:=(List.take_append_drop k0 (cs.drop (0))).symm; rwa [List.drop_drop] at q
  have e1:cs.drop (0+k0)=(cs.drop (0+k0)).take k1++cs.drop (0+k0+k1):=by have q:=(List.take_append_drop k1 (cs.drop (0+k0))).symm; rwa [List.drop_drop] at q
  have e2:cs.drop (0+k0+k1)=(cs.drop (0+k0+k1)).take k2:=(List.take_of_length_le (by rw [List.length_drop]; omega)).symm
  have e:cs=(cs.drop (0)).take k0++((cs.drop (0+k0)).take k1++((cs.drop (0+k0+k1)).take k2)):=(List.drop_zero (l:=cs)).symm.trans (e0.trans (congrArg ((cs.drop (0)).take k0++·) (e1.trans (congrArg ((cs.drop (0+k0)).take k1++·) (e2)))))
  refine ⟨(v0,v1,v2),⟨_,_,_,e,p0,p1,p2⟩,λu hu=>by rw [e] at hu; exact (ones_app q0 (ones_app q1 (q2))) u hu,?_⟩
  subst hx
  simp only [Rows.uptoBulk,List.map_cons,List.map_nil,Rows.uptoBulkAll]
  omega⟩
theorem arg_s {α:Type} {t:TypeId} {k:Nat} {rep:Rdr→List Value→α→Prop} {sz:α→Nat} (h:Opng t k rep sz) {fs:Array Field} (ht:Tryz.prog.underlying t=some (.struct fs)) (hk:Tryz.prog.cellsOf t=k) {H:Type} {enc:TypeId×Value→H} {W:World} {r:Reach} {b0:Nat} {v:Value} {d:DataW H} {ps:List MemPlace} (hval:Value.okWide Tryz.prog W r b0 t v) (hT:DataW.Trod enc Tryz.prog W 0 (λ_=>true) true t v d ps) :
  ∃ cs y,v=.agg cs.toArray∧cs.length=k∧rep (rdW W) cs y∧sz y<Rows.uptoBulk d:=by
 obtain ⟨⟨cs⟩,rfl,hsz⟩:=okWide_struct ht hval
 rw [hk] at hsz
 obtain ⟨fuel,hf⟩:=hT
 obtain ⟨y,h1,h2,h3⟩:=h.go (by simpa using hsz) (show DataW.trod enc Tryz.prog W 0 (λ_=>true) true fuel t cs=some (d,ps) by simpa [Value.cells] using hf)
 exact ⟨cs,y,rfl,by simpa using hsz,h1,h3⟩
theorem arg_v {α:Type} {t e:TypeId} {rep:Rdr→List Value→α→Prop} {sz:α→Nat} (h:Opng t 1 rep sz) (ht:Tryz.prog.underlying t=some (.slice e)) {H:Type} {enc:TypeId×Value→H} {W:World} {r:Reach} {b0:Nat} {v:Value} {d:DataW H} {ps:List MemPlace} (hval:Value.okWide Tryz.prog W r b0 t v) (hT:DataW.Trod enc Tryz.prog W 0 (λ_=>true) true t v d ps) :
  ∃ y,rep (rdW W) [v] y∧sz y<Rows.uptoBulk d:=by
 obtain ⟨A,n,c,rfl⟩:=okWide_slice ht hval
 obtain ⟨fuel,hf⟩:=hT
 obtain ⟨y,h1,_,h3⟩:=h.go rfl (show DataW.trod enc Tryz.prog W 0 (λ_=>true) true fuel t [.slice A n c]=some (d,ps) by simpa [Value.cells] using hf)
 exact ⟨y,h1,h3⟩
theorem opn_by:Opng 22 1 repT (λb=>b.length):=opn_t Tryz.underlying22 Tryz.underlying5 (by kernel_rfl)
theorem repT.one {C:Rdr} {v:Value} {b:Byt} (h:repT C [v] b):BytR C v b:=by
 obtain ⟨u,e,h⟩:=h
 injection e with e
 subst e
 exact h
structure Cas where
 wit:List Byt
 msg:Byt
 h:Nat
def repCas (C:Rdr) (cs:List Value) (c:Cas):Prop:=∃ v,cs=v::(c.msg.map bv++[.int .u64 ((c.h:Nat):Int)])∧LstR C 1 repT v c.wit∧c.msg.length=32∧c.h<18446744073709551616
theorem opn_cas:Opng 28 34 repCas (λc=>c.wit.length+(c.wit.map (·.length)).sum):=(opn_s3 Tryz.underlying28 (by kernel_rfl) (by kernel_rfl) (by kernel_rfl) (by kernel_rfl) (by kernel_rfl) (by kernel_rfl) (opn_l Tryz.underlying23 (by kernel_rfl) (by decide) opn_by) (opn_n Tryz.underlying25 Tryz.underlying5 (by kernel_rfl) (by kernel_rfl)) (opn_u Tryz.underlying26)).as λC cs (l,d,h) ⟨a0,a1,a2,e,⟨v,e1,h1⟩,⟨e2,h2⟩,⟨e3,h3⟩⟩=>by
 subst e1 e2 e3 e
 exact ⟨⟨l,d,h⟩,⟨v,rfl,h1,h2,h3⟩,Nat.le_refl _⟩
theorem lst_arg {C:Rdr} {v:Value} {l:List Byt} (h:LstR C 1 repT v l):∃ zs,Arg C C v zs∧zs.map (·.2)=l:=by
 obtain ⟨A,n,cp,rfl,h2,h3,h4,h5⟩:=h
 by_cases hl:l=[]
 ·subst hl
  obtain rfl:n=0:=h2.symm
  exact ⟨[],⟨A,0,cp,rfl,rfl,h3,h4,λh=>(h rfl).elim⟩,rfl⟩
 obtain ⟨g,o,rfl,hq⟩:=h5 hl
 have key:∀ k,k≤l.length→∃ zs:List (Value×Byt),zs.map (·.2)=l.take k∧∀ j z,zs[j]? = some z→C g (o+j) z.1∧BytR C z.1 z.2:=by
  intro k
  induction k with
  | zero=>intro _; exact ⟨[],rfl,λj z h=>by cases h⟩
  | succ k ih =>
   intro hk
   obtain ⟨zs,z1,z2⟩:=ih (by omega)
   obtain ⟨b,hb⟩:∃ b,l[k]? = some b:=⟨_,List.getElem?_eq_getElem (by omega)⟩
   obtain ⟨cs,c1,c2,⟨u,rfl,c3⟩,c4⟩:=hq k b hb
   have zl:zs.length=k:=by
    have:=congrArg List.length z1
    rw [List.length_map,List.length_take] at this; omega
   refine ⟨zs++[(u,b)],by rw [List.map_append,z1,List.take_add_one,hb]; rfl,λj z hz=>?_⟩
   rcases Nat.lt_or_ge j zs.length with hj | hj
   ·rw [List.getElem?_append_left hj] at hz
    exact z2 j z hz
   ·rw [List.getElem?_append_right hj] at hz
    cases hjz:j - zs.length with
    | zero =>
     rw [hjz] at hz
     cases hz
     obtain rfl:j=k:=by omega
     have:=c4 0 u rfl
     rw [Nat.mul_one,Nat.add_zero] at this
     exact ⟨this,c3⟩
    | succ i=>rw [hjz] at hz; cases hz
 obtain ⟨zs,z1,z2⟩:=key l.length (Nat.le_refl _)
 rw [List.take_length] at z1
 refine ⟨zs,⟨_,n,cp,rfl,?_,h3,h4,λ_=>⟨g,o,rfl,z2⟩⟩,z1⟩
 rw [← h2, ← z1,List.length_map]
end Pg
end
section
namespace Pg
open Go.RowKit Sy
set_option maxRecDepth 100000
set_option maxHeartbeats 4000000
open Wr
end Pg
end
section
namespace Nt
theorem pr_44706919:Pr 44706919:=small_prime (b:=6687) (by decide) (by decide) (by decide +kernel)
theorem pr_120233:Pr 120233:=small_prime (b:=347) (by decide) (by decide) (by decide +kernel)
theorem pr_545358713:Pr 545358713:=small_prime (b:=23354) (by decide) (by decide) (by decide +kernel)
theorem pr_305873:Pr 305873:=small_prime (b:=554) (by decide) (by decide) (by decide +kernel)
theorem pr_293:Pr 293:=small_prime (b:=18) (by decide) (by decide) (by decide +kernel)
theorem pr_n1:Pr 174723607534414371449:=by
 refine pock (F:=44706919*120233) (by decide) (λr hr hrN=>?_) (by decide)
 have h0:=pock_pm 68 2 (by decide) pr_44706919 (by decide) (by decide +kernel) (by decide +kernel) (by decide) r hr hrN
 have h1:=pock_pm 68 2 (by decide) pr_120233 (by decide) (by decide +kernel) (by decide +kernel) (by decide) r hr hrN
 exact Nat.Coprime.mul_dvd_of_dvd_of_dvd (by decide) h0 h1
theorem pr_n3:Pr 29047611873442575647497758179:=by
 refine pock (F:=545358713*(305873*293)) (by decide) (λr hr hrN=>?_) (by decide)
 have h0:=pock_pm 95 2 (by decide) pr_545358713 (by decide) (by decide +kernel) (by decide +kernel) (by decide) r hr hrN
 have h1:=pock_pm 95 2 (by decide) pr_305873 (by decide) (by decide +kernel) (by decide +kernel) (by decide) r hr hrN
 have h2:=pock_pm 95 2 (by decide) pr_293 (by decide) (by decide +kernel) (by decide +kernel) (by decide) r hr hrN
 exact Nat.Coprime.mul_dvd_of_dvd_of_dvd (by decide) h0 (Nat.Coprime.mul_dvd_of_dvd_of_dvd (by decide) h1 h2)
theorem pr_n2:Pr 341948486974166000522343609283189 :=
 pock (F:=29047611873442575647497758179) (by decide) (λr hr hrN=>pock_pm 109 2 (by decide) pr_n3 (by decide) (by decide +kernel) (by decide +kernel) (by decide) r hr hrN) (by decide)
theorem pr_n:Pr 115792089237316195423570985008687907852837564279074904382605163141518161494337:=by
 refine pock (F:=174723607534414371449*341948486974166000522343609283189) (by decide) (λr hr hrN=>?_) (by decide)
 have h0:=pock_pm 256 2 (by decide) pr_n1 (by decide) (by decide +kernel) (by decide +kernel) (by decide) r hr hrN
 have h1:=pock_pm 256 2 (by decide) pr_n2 (by decide) (by decide +kernel) (by decide +kernel) (by decide) r hr hrN
 exact Nat.Coprime.mul_dvd_of_dvd_of_dvd (by decide) h0 h1
end Nt
end
section
namespace Cu
open Go.RowKit
def fc {α:Type} (x:Nat) (f:Nat→α):α:=match x with
 | 0=>f 0
 | n+1=>f (n+1)
theorem fc_eq {α:Type} (x:Nat) (f:Nat→α):fc x f=f x:=by cases x <;> rfl
def ml (a b:Nat):Nat:=a*b%pM
def sb (a b:Nat):Nat:=(pM - b+a)%pM
def ad (a b:Nat):Nat:=(a+b)%pM
def dbK {α:Type} (x y z:Nat) (k:Nat→Nat→Nat→α):α :=
 fc (ml (ml x x) 3) λu=>fc (ml (ml x (ml y y)) 4) λq=>fc (sb (ml u u) (ad q q)) λX=>fc (sb (ml u (sb q X)) (ml (ml (ml y y) (ml y y)) 8)) λY=>fc (ml (ml y z) 2) λZ=>k X Y Z
theorem dbK_eq {α:Type} (a:J) (k:Nat→Nat→Nat→α):dbK a.x.val a.y.val a.z.val k=k (dblJ a).x.val (dblJ a).y.val (dblJ a).z.val:=by
 unfold dbK
 simp only [fc_eq]
 rfl
def bJ:J:=⟨gx,gy,1⟩
def adK {α:Type} (x y z:Nat) (k:Nat→Nat→Nat→α):α :=
 cond (Nat.beq z 0) (k gx.val gy.val 1)<|fc (sb (ml gx.val (ml z z)) x) λc=>fc (sb (ml gy.val (ml (ml z z) z)) y) λr =>
 cond (Nat.beq c 0 && Nat.beq r 0) (dbK x y z k)<|fc (ml (ml c c) c) λd=>fc (ml x (ml c c)) λe =>
 fc (sb (sb (ml r r) d) (ad e e)) λX=>fc (sb (ml r (sb e X)) (ml y d)) λY=>fc (ml z c) λZ=>k X Y Z
theorem one_ne:(1:Fp)≠0:=by decide +kernel
theorem uJ_b (a:J):uJ a bJ=a.x:=by
 show a.x*(1*1)=a.x
 grobner
theorem vJ_b (a:J):vJ a bJ=a.y:=by
 show a.y*(1*1*1)=a.y
 grobner
theorem zero_val (a:Fp):Nat.beq a.val 0=true↔a=0:=by
 rw [Nat.beq_eq]
 exact ⟨λh=>Fin.ext h,λh=>by rw [h]; rfl⟩
theorem adK_eq {α:Type} (a:J) (k:Nat→Nat→Nat→α):adK a.x.val a.y.val a.z.val k=k (addJ a bJ).x.val (addJ a bJ).y.val (addJ a bJ).z.val:=by
 unfold adK
 by_cases h:a.z=0
 ·rw [(zero_val _).2 h,addJ_1 h]
  rfl
 ·rw [show Nat.beq a.z.val 0=false from by cases e:Nat.beq a.z.val 0 with | false=>rfl | true=>exact absurd ((zero_val _).1 e) h]
  simp only [cond_false,fc_eq]
  have hc:cJ a bJ=gx*(a.z*a.z) - a.x:=by unfold cJ; rw [uJ_b]; rfl
  have hr:rJ a bJ=gy*(a.z*a.z*a.z) - a.y:=by unfold rJ; rw [vJ_b]; rfl
  have ec:sb (ml gx.val (ml a.z.val a.z.val)) a.x.val=(cJ a bJ).val:=by rw [hc]; rfl
  have er:sb (ml gy.val (ml (ml a.z.val a.z.val) a.z.val)) a.y.val=(rJ a bJ).val:=by rw [hr]; rfl
  rw [ec,er]
  by_cases hz:cJ a bJ=0∧rJ a bJ=0
  ·rw [(zero_val _).2 hz.1,(zero_val _).2 hz.2,addJ_3 h one_ne hz.1 hz.2]
   exact dbK_eq a k
  ·have e:(Nat.beq (cJ a bJ).val 0 && Nat.beq (rJ a bJ).val 0)=false:=by
    cases q:(Nat.beq (cJ a bJ).val 0 && Nat.beq (rJ a bJ).val 0) with
    | false=>rfl
    | true =>
     rw [Bool.and_eq_true] at q
     exact absurd ⟨(zero_val _).1 q.1,(zero_val _).1 q.2⟩ hz
   rw [e,addJ_4 h one_ne hz]
   simp only [cond_false]
   have s1:szJ a bJ=a.z*cJ a bJ:=by
    show a.z*1*cJ a bJ=_
    grobner
   unfold sxJ syJ sxJ
   rw [s1,uJ_b,vJ_b]
   rfl
def gK {α:Type} (m:Nat):Nat→Nat→Nat→Nat→(Nat→Nat→Nat→α)→α
 | 0,x,y,z,k=>k x y z
 | i+1,x,y,z,k=>dbK x y z λx y z=>cond (Nat.beq (m / 2 ^ i%2) 1) (adK x y z λx y z=>gK m i x y z k) (gK m i x y z k)
theorem bJ_rep:Ec.Rep bJ bP:=by
 show (1:Fp)≠0∧gx=gx*(1*1)∧gy=gy*(1*1*1)
 exact ⟨one_ne,by grobner,by grobner⟩
theorem gK_rep {α:Type} (m:Nat) (k:Nat→Nat→Nat→α):∀ (i:Nat) (a:J) (t:Nat),Ec.Rep a (Ec.nm finv t bP)→∃ a':J,gK m i a.x.val a.y.val a.z.val k=k a'.x.val a'.y.val a'.z.val∧Ec.Rep a' (Ec.nm finv (t*2 ^ i+m%2 ^ i) bP)
 | 0,a,t,h=>⟨a,rfl,by rw [Nat.pow_zero,Nat.mul_one,Nat.mod_one,Nat.add_zero]; exact h⟩
 | i+1,a,t,h=>by
  have o:=bP_on.nm fld t
  have h2:Ec.Rep (dblJ a) (Ec.nm finv (t+t) bP):=by
   rw [Ec.nm_add fld bP_on]
   exact dblJ_rep o h
  show ∃ a',dbK _ _ _ _=_∧_
  rw [dbK_eq,Nat.mod_pow_succ,Nat.pow_succ]
  by_cases hb:m / 2 ^ i%2=1
  ·rw [show Nat.beq (m / 2 ^ i%2) 1=true from by rw [hb]; rfl,cond_true,adK_eq]
   have h3:Ec.Rep (addJ (dblJ a) bJ) (Ec.nm finv (t+t+1) bP):=by
    rw [Ec.nm_add fld bP_on,Ec.nm_one]
    exact addJ_rep (bP_on.nm fld _) bP_on h2 bJ_rep
   obtain ⟨a',e,r⟩:=gK_rep m k i _ _ h3
   refine ⟨a',e,?_⟩
   rw [show (t+t+1)*2 ^ i+m%2 ^ i=t*(2 ^ i*2)+(m%2 ^ i+2 ^ i*(m / 2 ^ i%2)) from by rw [hb,Nat.mul_one,Nat.add_mul,Nat.one_mul,Nat.add_mul, ← Nat.mul_assoc,Nat.mul_two]; omega] at r
   exact r
  ·have h0:m / 2 ^ i%2=0:=by omega
   rw [h0]
   show ∃ a',gK m i _ _ _ k=_∧_
   obtain ⟨a',e,r⟩:=gK_rep m k i _ _ h2
   refine ⟨a',e,?_⟩
   rw [show (t+t)*2 ^ i+m%2 ^ i=t*(2 ^ i*2)+(m%2 ^ i+2 ^ i*0) from by rw [Nat.mul_zero,Nat.add_mul, ← Nat.mul_assoc,Nat.mul_two]; omega] at r
   exact r
def oJ:J:=⟨0,0,0⟩
theorem oJ_rep:Ec.Rep oJ (Ec.nm finv 0 bP):=rfl
def nN:Nat:=115792089237316195423570985008687907852837564279074904382605163141518161494337
set_option maxRecDepth 100000 in
theorem nN_big:nN%2 ^ 256=nN:=by decide +kernel
set_option maxRecDepth 100000 in
theorem chain:gK nN 256 0 0 0 (λ_ _ z=>z)=0:=by decide +kernel
theorem gK_none {m:Nat} (hm:m%2 ^ 256=m) (h:gK m 256 0 0 0 (λ_ _ z=>z)=0):Ec.nm finv m bP=none:=by
 obtain ⟨a,e,r⟩:=gK_rep m (λ_ _ z=>z) 256 oJ 0 oJ_rep
 rw [Nat.zero_mul,Nat.zero_add,hm] at r
 have e':gK m 256 0 0 0 (λ_ _ z=>z)=a.z.val:=e
 rw [h] at e'
 have hz:a.z=0:=Fin.ext e'.symm
 revert r
 cases Ec.nm finv m bP with
 | none=>exact λ_=>rfl
 | some P =>
  obtain ⟨X,Y⟩:=P
  exact λr=>absurd hz r.1
theorem n_base:Ec.nm finv nN bP=none:=gK_none nN_big chain
theorem prime_div (q:Nat) (hp:Nt.Pr q) (h1:¬ q=0) (d:Nat) (h:d ∣ q):d=1∨d=q:=by
 rcases Nat.lt_or_ge d q with hlt | hge
 ·left
  have h0:0<d:=by
   rcases Nat.eq_zero_or_pos d with rfl | h0
   ·exact absurd (Nat.eq_zero_of_zero_dvd h) h1
   ·exact h0
  have:=hp.2 d h0 hlt
  rwa [Nat.gcd_eq_left h] at this
 ·right
  exact Nat.le_antisymm (Nat.le_of_dvd (by omega) h) hge
set_option maxRecDepth 100000 in
theorem prime_nN:Nt.Pr nN:=Nt.pr_n
theorem n_prime:∀ d,d ∣ nN→d=1∨d=nN:=prime_div nN prime_nN (by decide +kernel)
theorem n_any {P:Pt} (hP:Ec.On P):Ec.nm finv nN P=none :=
 Ec.all_order fld (by decide +kernel) bP_on (by unfold bP; exact λh=>by cases h) n_base n_prime (by decide +kernel) hP
theorem nm_modN {P:Pt} (hP:Ec.On P) (k:Nat):Ec.nm finv (k%nN) P=Ec.nm finv k P:=Ec.nm_mod fld hP (n_any hP) k
end Cu
end
section
namespace Cu
open Go.RowKit Sy
theorem nN_pM:nN=Sc.pM:=by decide +kernel
theorem nm_p {P:Pt} (hP:Ec.On P) (k:Nat):Ec.nm finv (k%Sc.pM) P=Ec.nm finv k P:=by
 have h:=nm_modN hP k
 rwa [nN_pM] at h
theorem nm_negP {P:Pt} (hP:Ec.On P) (k:Nat):Ec.nm finv (Sc.negP k%Sc.pM) P=Ec.neg (Ec.nm finv (k%Sc.pM) P):=by
 have hlt:k%Sc.pM<Sc.pM:=Sc.mod_lt_p k
 have e1:Ec.nm finv (Sc.negP k%Sc.pM) P=Ec.nm finv (Sc.pM - k%Sc.pM) P:=by
  unfold Sc.negP
  rw [nm_p hP,nm_p hP]
 have e2:Ec.add finv (Ec.nm finv (k%Sc.pM) P) (Ec.nm finv (Sc.pM - k%Sc.pM) P)=none:=by
  rw [← Ec.nm_add fld hP,show k%Sc.pM+(Sc.pM - k%Sc.pM)=Sc.pM by omega, ← nm_p hP,Nat.mod_self]
  rfl
 have o1:=hP.nm fld (k%Sc.pM)
 have o2:=hP.nm fld (Sc.pM - k%Sc.pM)
 rw [e1]
 have e3:=congrArg (Ec.add finv (Ec.neg (Ec.nm finv (k%Sc.pM) P))) e2
 rw [← Ec.assoc fld o1.neg o1 o2,Ec.neg_add,Ec.zero_add,Ec.add_zero] at e3
 exact e3
end Cu
end
section
namespace Cu
open Go.RowKit Sy
def okR:Pt→Nat→Bool
 | none,_=>false
 | some (x,y),n=>decide (y.val%2=0) && decide (x.val=n)
def vrP (key m s:List UInt8):Pt:=Ec.add finv (Ec.nm finv ((Sc.readS ((s.drop 32).take 32)).1%Sc.pM) bP) (Ec.neg (Ec.nm finv (chalS ((s.drop 0).take 32) key m%Sc.pM) (liftP key)))
def refB (key m s:List UInt8):Bool:=liftB key && decide (valB ((s.drop 0).take 32)<pM) && (Sc.readS ((s.drop 32).take 32)).2 && okR (vrP key m s) (valB ((s.drop 0).take 32))
theorem vrP_is (key m s:List UInt8):rPt (Sc.readS ((s.drop 32).take 32)).1 (Sc.negP (chalS ((s.drop 0).take 32) key m)) (pX (liftP key)) (pY (liftP key)) (pI (liftP key))=vrP key m s:=by
 unfold rPt vrP
 rw [dec_parts (liftP_on key),nm_negP (liftP_on key)]
theorem code_ok (R:Pt) (X:List UInt8) (hX:X.length=32):(decide ((encS R).getD 0 0=UInt8.ofNat 2) && decide (((encS R).drop 1).take 32=X))=(decide (valB X<pM) && okR R (valB X)):=by
 rcases R with _ | ⟨x,y⟩
 ·show (decide ((0:UInt8)=UInt8.ofNat 2) && _)=(_ && false)
  rw [Bool.and_false,show decide ((0:UInt8)=UInt8.ofNat 2)=false from by decide]
  rfl
 ·have e1:((encS (some (x,y))).drop 1).take 32=bytesS x.val:=by
   show (bytesS x.val).take 32=_
   rw [List.take_of_length_le (by rw [bytesS_length]; exact Nat.le_refl _)]
  have e2:decide ((encS (some (x,y))).getD 0 0=UInt8.ofNat 2)=decide (y.val%2=0):=by
   show decide ((if y.val%2=1 then (3:UInt8) else 2)=UInt8.ofNat 2)=_
   by_cases h:y.val%2=1
   ·rw [if_pos h,decide_eq_false (show ¬ (3:UInt8)=UInt8.ofNat 2 by decide),decide_eq_false (by omega)]
   ·rw [if_neg h,decide_eq_true (show (2:UInt8)=UInt8.ofNat 2 by decide),decide_eq_true (by omega)]
  have e3:decide (bytesS x.val=X)=(decide (valB X<pM) && decide (x.val=valB X)):=by
   by_cases h:bytesS x.val=X
   ·have hv:valB X=x.val:=by rw [← h]; exact valB_bytesS _ (lt4 x)
    have hx:=x.isLt
    rw [decide_eq_true h,hv,decide_eq_true rfl,decide_eq_true hx]
    rfl
   ·have hn:¬ x.val=valB X:=λq=>h (by rw [q]; exact bytesS_valB X hX)
    rw [decide_eq_false h,decide_eq_false hn,Bool.and_false]
  rw [e1,e2,e3]
  show _=(_ && (decide (y.val%2=0) && decide (x.val=valB X)))
  cases decide (y.val%2=0) <;> cases decide (valB X<pM) <;> rfl
theorem ref_ver (key m s:List UInt8) (hs:s.length=64):refB key m s=verB key m s:=by
 have h:=code_ok (vrP key m s) ((s.drop 0).take 32) (part_len hs (by decide))
 unfold refB verB ansB
 rw [vrP_is,h]
 cases liftB key <;> cases decide (valB ((s.drop 0).take 32)<pM) <;> cases (Sc.readS ((s.drop 32).take 32)).2 <;> rfl
end Cu
end
section
namespace Sc
open Go.RowKit Go.Lib
def modV:Value:=.agg #[.int .u64 13822214165235122497,.int .u64 13451932020343611451,.int .u64 18446744073709551614,.int .u64 18446744073709551615,.int .u64 4624529908474429119,.int .u64 4994812053365940164,.int .u64 1]
theorem fv_P:fv 115792089237316195423570985008687907852837564279074904382605163141518161494337=.agg #[.int .u64 13822214165235122497,.int .u64 13451932020343611451,.int .u64 18446744073709551614,.int .u64 18446744073709551615]:=rfl
theorem refN_any (w:World):Calls Tryz.prog 157 #[] w λe w'=>e=.returned modV∧Below w.heap.size w w':=by
 go_enter Tryz.func157,Tryz.ntmps157
 go_wp2
 exact bodyPost_ret (results_cell_row rfl _ _ w.heap.size _ _ (0,0) _ rfl (heap_alloc_new w _) Tryz.underlying169 rfl (by kernel_rfl)) rfl ⟨rfl,(Below.refl _ _).alloc (Nat.le_refl _) _⟩
theorem refOf_any (w:World) (n:Nat) (hn:n<(2^256)):Calls Tryz.prog 168 #[fv n] w λe w'=>e=.returned (fv n)∧Below w.heap.size w w':=by
 obtain ⟨a,b,c,d,fn⟩:=words_fv n hn
 rw [fn]
 clear fn
 go_enter Tryz.func168,Tryz.ntmps168
 go_wp2
 exact bodyPost_ret (results_cell_row rfl _ _ (w.heap.size+1) _ _ (0,0) _ rfl (heap_alloc2_new w _ _) Tryz.underlying164 rfl (by kernel_rfl)) rfl ⟨rfl,below_alloc2 w _ _⟩
theorem refSc_any (w:World) (n:Nat) (hn:n<(2^256)):Calls Tryz.prog 158 #[fv n] w λe w'=>e=.returned (fv n)∧Below w.heap.size w w':=by
 obtain ⟨a,b,c,d,fn⟩:=words_fv n hn
 rw [fn]
 clear fn
 go_enter Tryz.func158,Tryz.ntmps158
 go_wp2
 exact bodyPost_ret (results_cell_row rfl _ _ (w.heap.size+1) _ _ (0,0) _ rfl (heap_alloc2_new w _ _) Tryz.underlying36 rfl (by kernel_rfl)) rfl ⟨rfl,below_alloc2 w _ _⟩
set_option maxHeartbeats 2000000 in
set_option maxRecDepth 100000 in
theorem normR_any (w:World) (x:Nat) (hx:x<(2^256)):Calls Tryz.prog 167 #[modV,fv x] w λe w'=>e=.returned (fv (x%pM))∧Below w.heap.size w w':=by
 obtain ⟨z,hz⟩:∃ z,z=x%pM:=⟨_,rfl⟩
 obtain ⟨p,hp⟩:∃ p,p=115792089237316195423570985008687907852837564279074904382605163141518161494337:=⟨_,rfl⟩
 have hpl:p<(2^256):=by omega
 obtain ⟨b,hb⟩:∃ b,b=decide (x<p):=⟨_,rfl⟩
 have cb:∀ w,Calls Tryz.prog 156 #[fv x,fv p] w λe w'=>e=.returned (.bool b)∧Below w.heap.size w w':=by
  intro w; rw [hb]; exact below_at w x p rfl rfl hx hpl
 have t1:b=true→z=x:=λh=>by
  rw [hb] at h
  rw [hz]
  exact Nat.mod_eq_of_lt (by rw [pM_eq, ← hp]; simpa using h)
 have cm:b=false→∀ w,Calls Tryz.prog 187 #[fv x,fv p] w λe w'=>e=.returned (fv z)∧Below w.heap.size w w':=λh w=>by
  rw [hb] at h
  have hle:¬ x<p:=by simpa using h
  have hzx:z+p=x:=by rw [hz,red_once x hx,if_neg (by omega)]; omega
  exact minusR_at w x p z 0 rfl rfl hx hpl (by omega) (by omega)
 have hpc:fv p=.agg #[.int .u64 13822214165235122497,.int .u64 13451932020343611451,.int .u64 18446744073709551614,.int .u64 18446744073709551615]:=by rw [hp]; exact fv_P
 obtain ⟨x0,x1,x2,x3,fx⟩:=words_fv x hx
 have FX:=Lib.hid fx
 have FP:=Lib.hid hpc
 rw [fx, ← hz]
 unfold modV
 clear fx hpc hx hz hp hpl hb
 go_enter Tryz.func167,Tryz.ntmps167
 go_wp2_with (first | ((with_reducible refine here_load (d:=some 6) ?_); refine wpList_load_fv rfl _ _ rfl (w.heap.size+1) rfl (x) _ _ _ ((blk_new2 w _ _ _).alloc _) (FX.out) Tryz.underlying164 rfl (by kernel_rfl) ?_) | ((with_reducible refine here_load (d:=some 8) ?_); refine wpList_load_part rfl _ _ rfl w.heap.size rfl p [.int .u64 13822214165235122497,.int .u64 13451932020343611451,.int .u64 18446744073709551614,.int .u64 18446744073709551615] _ (mod_range (((Blk.new w _ _).alloc _).alloc _)) FP.out Tryz.underlying164 rfl (by kernel_rfl) ?_))
 refine (cb _).mono ?_
 rintro e w1 ⟨rfl,k1⟩
 have BM:Blk w1 w.heap.size 169 _:=Gr.blk k1 (((Blk.new w _ _).alloc _).alloc _)
 have BX:Blk w1 (w.heap.size+1) 164 _:=Gr.blk k1 ((blk_new2 w _ _ _).alloc _)
 have BR:Blk w1 (w.heap.size+2) 164 _:=Gr.blk k1 (blk_new3 w _ _ _ _)
 have hB:=Below.gr (below_alloc3 w _ _ _) k1
 clear k1 cb
 cases b
 ·have cmm:=cm rfl
  clear cm t1
  go_wp2_with (first | ((with_reducible refine here_load (d:=some 12) ?_); refine wpList_load_fv rfl _ _ rfl (w.heap.size+1) rfl (x) _ _ _ (BX) (FX.out) Tryz.underlying164 rfl (by kernel_rfl) ?_) | ((with_reducible refine here_load (d:=some 14) ?_); refine wpList_load_part rfl _ _ rfl w.heap.size rfl p [.int .u64 13822214165235122497,.int .u64 13451932020343611451,.int .u64 18446744073709551614,.int .u64 18446744073709551615] _ (mod_range (BM)) FP.out Tryz.underlying164 rfl (by kernel_rfl) ?_))
  refine (cmm _).mono ?_
  rintro e w2 ⟨rfl,k2⟩
  have BR2:=Gr.blk k2 BR
  have hB2:=Below.gr hB k2
  clear k2 cmm
  go_wp2_with (first | ((with_reducible refine here_store ?_); refine wpList_store_blk rfl _ _ _ rfl (w.heap.size+2) (fcs (z)) rfl rfl _ _ (BR2) (by kernel_rfl) (by rfl) (fcs_one _) ?_; intro w9 hL9 hB9 hK9))
  exact bodyPost_ret (results_cell_row rfl _ _ (w.heap.size+2) _ _ (0,0) _ rfl hL9 Tryz.underlying164 rfl (by kernel_rfl)) rfl ⟨rfl,hB2.trans (hB9 _ (by omega))⟩
 ·have HZX:=Lib.hid (t1 rfl)
  clear t1 cm
  go_wp2_with (first | ((with_reducible refine here_load (d:=some 11) ?_); refine wpList_load_fv rfl _ _ rfl (w.heap.size+1) rfl (x) _ _ _ (BX) (FX.out) Tryz.underlying164 rfl (by kernel_rfl) ?_) | ((with_reducible refine here_store ?_); refine wpList_store_blk rfl _ _ _ rfl (w.heap.size+2) (fcs (x)) rfl rfl _ _ (BR) (by kernel_rfl) (by rfl) (fcs_one _) ?_; intro w9 hL9 hB9 hK9))
  exact bodyPost_ret (results_cell_row rfl _ _ (w.heap.size+2) _ _ (0,0) _ rfl hL9 Tryz.underlying164 rfl (by kernel_rfl)) rfl ⟨by rw [HZX.out]; rfl,hB.trans (hB9 _ (by omega))⟩
set_option maxHeartbeats 2000000 in
set_option maxRecDepth 100000 in
theorem rightR_any (w:World) (x:Nat) (hx:x<(2^256)):Calls Tryz.prog 118 #[modV,fv x] w λe w'=>e=.returned (.bool (decide (x<pM)))∧Below w.heap.size w w':=by
 obtain ⟨p,hp⟩:∃ p,p=115792089237316195423570985008687907852837564279074904382605163141518161494337:=⟨_,rfl⟩
 obtain ⟨b,hb⟩:∃ b,b=decide (x<pM):=⟨_,rfl⟩
 have cb:∀ w,Calls Tryz.prog 156 #[fv x,fv p] w λe w'=>e=.returned (.bool b)∧Below w.heap.size w w':=by
  intro w; rw [hb,pM_eq, ← hp]; exact below_at w x p rfl rfl hx (by omega)
 have hpc:fv p=.agg #[.int .u64 13822214165235122497,.int .u64 13451932020343611451,.int .u64 18446744073709551614,.int .u64 18446744073709551615]:=by rw [hp]; exact fv_P
 obtain ⟨x0,x1,x2,x3,fx⟩:=words_fv x hx
 have FX:=Lib.hid fx
 have FP:=Lib.hid hpc
 rw [fx, ← hb]
 unfold modV
 clear fx hpc hx hp hb
 go_enter Tryz.func118,Tryz.ntmps118
 go_wp2_with (first | ((with_reducible refine here_load (d:=some 5) ?_); refine wpList_load_fv rfl _ _ rfl (w.heap.size+1) rfl (x) _ _ _ (blk_new2 w _ _ _) (FX.out) Tryz.underlying164 rfl (by kernel_rfl) ?_) | ((with_reducible refine here_load (d:=some 7) ?_); refine wpList_load_part rfl _ _ rfl w.heap.size rfl p [.int .u64 13822214165235122497,.int .u64 13451932020343611451,.int .u64 18446744073709551614,.int .u64 18446744073709551615] _ (mod_range ((Blk.new w _ _).alloc _)) FP.out Tryz.underlying164 rfl (by kernel_rfl) ?_))
 refine (cb _).mono ?_
 rintro e w1 ⟨rfl,k1⟩
 go_wp2
 go_ret
 exact ⟨rfl,Below.gr (below_alloc2 w _ _) k1⟩
end Sc
end
section
namespace Sc
open Go.RowKit Go.Lib
end Sc
end
section
namespace Sc
open Go.RowKit Go.Lib
section
variable {P:Program} {ops:Array Oper}
end
end Sc
end
section
namespace Sc
open Go.RowKit Go.Lib
end Sc
end
section
namespace Cu
open Go.RowKit Sy
set_option maxRecDepth 100000
end Cu
end
section
namespace Cu
open Go.RowKit Sy
theorem textN_any (w:World) (nm:List UInt8) (hnm:nm.length=32):Calls Tryz.prog 18 #[.agg (nm.map bv).toArray] w (GetsN w (λvq Mq=>∃ (g:Nat) (sp:List Value) (cap:Nat),vq=.slice (some ⟨g,0,none⟩) 32 cap∧(32≤cap∧cap≤9223372036854775807)∧Mq=[(g,5,(nm.map bv++sp).toArray)])):=by
 refine (Sh.textR_any w nm hnm).mono ?_
 rintro e w' ⟨g,cap,rfl,ho,hl,hb⟩
 unfold Sh.OwnB at ho
 rw [hnm] at ho
 rcases ho.2 with ⟨h0,_⟩ | ⟨g',cap',cur,hv,hg,hk,q3,q4,q5,q6⟩
 ·cases h0
 ·cases hv
  have hc:cur=(nm.map bv++cur.toList.drop 32).toArray:=by
   rw [Nat.mul_one] at q6
   rw [← q6,List.take_append_drop]
  refine ⟨_,[(g,5,cur)],rfl,⟨g,cur.toList.drop 32,cap,rfl,⟨by omega,by simp only [maxLen] at q4; omega⟩,by rw [← hc]⟩,hb,λg1 t1 cs1 hm=>?_,by simp⟩
  simp only [List.mem_singleton,Prod.mk.injEq] at hm
  obtain ⟨rfl,rfl,rfl⟩:=hm
  exact ⟨hg,hk⟩
theorem src_own {w:World} {g:Nat} {t:TypeId} {m:List UInt8} {sp:List Value} (hb:Blk w g t (m.map bv++sp).toArray):Sh.Src w (some ⟨g,0,none⟩) m:=λ_=>⟨g,0,rfl,hb.lt,λj u hj=>by
 rw [Nat.zero_add]
 refine (hb.cell j).trans ?_
 have hl:=(List.getElem?_eq_some_iff.1 hj).1
 rw [List.getElem?_toArray,List.getElem?_append_left (by rw [List.length_map]; exact hl),List.getElem?_map,hj]
 rfl⟩
end Cu
end
section
namespace Cu
open Go.RowKit Sy
set_option maxRecDepth 100000
set_option maxHeartbeats 4000000
def dblR (a:J):J:=if a.z=0 then a else dblJ a
theorem dblR_rep {a:J} {P:Pt} (hP:Ec.On P) (h:Ec.Rep a P):Ec.Rep (dblR a) (Ec.add finv P P):=by
 unfold dblR
 by_cases k:a.z=0
 ·rw [if_pos k]
  rcases P with _ | ⟨X,Y⟩
  ·exact k
  ·exact absurd k h.1
 ·rw [if_neg k]; exact dblJ_rep hP h
def hR (a:J) (x:Fp):Fp:=x*(a.z*a.z) - a.x
def rR (a:J) (y:Fp):Fp:=y*(a.z*a.z*a.z) - a.y
def pxR (a:J) (x y:Fp):Fp:=rR a y*rR a y - hR a x*hR a x*hR a x - (a.x*(hR a x*hR a x)+a.x*(hR a x*hR a x))
def pyR (a:J) (x y:Fp):Fp:=rR a y*(a.x*(hR a x*hR a x) - pxR a x y) - a.y*(hR a x*hR a x*hR a x)
def plusR (a:J) (x y:Fp):J:=if a.z=0 then ⟨x,y,1⟩ else if x*(a.z*a.z)=a.x then (if y*(a.z*a.z*a.z)=a.y then dblR a else ⟨0,0,0⟩) else ⟨pxR a x y,pyR a x y,a.z*hR a x⟩
theorem plusR_rep {a:J} {P:Pt} {x y:Fp} (hP:Ec.On P) (hQ:y*y=x*x*x+7) (h:Ec.Rep a P):Ec.Rep (plusR a x y) (Ec.add finv P (some (x,y))):=by
 rcases P with _ | ⟨X,Y⟩
 ·unfold plusR
  rw [if_pos (show a.z=0 from h),Ec.zero_add]
  exact threeJ_rep (some (x,y))
 obtain ⟨h0,h1,h2⟩:=h
 unfold plusR
 rw [if_neg h0]
 have hZZ:=fld.ne_mul h0 h0
 have hZZZ:=fld.ne_mul hZZ h0
 by_cases e1:x*(a.z*a.z)=a.x
 ·rw [if_pos e1]
  have ex:x=X:=fld.cancel hZZ (by rw [h1] at e1; clear h1 h2 hP hQ; grobner)
  subst ex
  by_cases e2:y*(a.z*a.z*a.z)=a.y
  ·rw [if_pos e2]
   have ey:y=Y:=fld.cancel hZZZ (by rw [h2] at e2; clear h1 h2 hP hQ e1; grobner)
   subst ey
   exact dblR_rep hP ⟨h0,h1,h2⟩
  ·rw [if_neg e2]
   have hne:Y≠y:=λq=>e2 (by rw [← q,h2])
   have hs:Y+y=0:=Classical.byContradiction λt=>Ec.off fld hP hQ (λq=>hne q.2) (λq=>t q.2) rfl
   have ea:Ec.add finv (some (x,Y)) (some (x,y))=none:=if_pos ⟨rfl,hs⟩
   rw [ea]
   rfl
 ·rw [if_neg e1]
  exact Ec.ad fld (Z:=a.z) (u:=a.x) (v:=a.y) (c:=hR a x) (r:=rR a y) hP hQ h0 h1 h2 rfl rfl (λq=>e1 (by have:=q.1; unfold hR at this; clear q h1 h2 hP hQ; grobner)) rfl rfl rfl
theorem plusR_1 {a:J} {x y:Fp} (h:a.z=0):plusR a x y=⟨x,y,1⟩:=if_pos h
theorem plusR_2 {a:J} {x y:Fp} (h:a.z≠0) (k:x*(a.z*a.z)=a.x) (m:y*(a.z*a.z*a.z)=a.y):plusR a x y=dblR a:=by unfold plusR; rw [if_neg h,if_pos k,if_pos m]
theorem plusR_3 {a:J} {x y:Fp} (h:a.z≠0) (k:x*(a.z*a.z)=a.x) (m:y*(a.z*a.z*a.z)≠a.y):plusR a x y=⟨0,0,0⟩:=by unfold plusR; rw [if_neg h,if_pos k,if_neg m]
theorem plusR_4 {a:J} {x y:Fp} (h:a.z≠0) (k:x*(a.z*a.z)≠a.x):plusR a x y=⟨pxR a x y,pyR a x y,a.z*hR a x⟩:=by unfold plusR; rw [if_neg h,if_neg k]
theorem twiceR_c (w:World) (a:J):Calls Tryz.prog 169 #[tv a.x.val a.y.val a.z.val] w (Gets w (tv (dblR a).x.val (dblR a).y.val (dblR a).z.val)):=by
 refine Sy.enter (args:=[tv a.x.val a.y.val a.z.val]) Tryz.func169 rfl kL ?_
 refine sC ?_
 refine sM 219 (tcs a.x.val a.y.val a.z.val) (λg0=>?_)
 refine sM 219 (tcs 0 0 0) (λg1=>?_)
 refine sG<|Sy.seq<|sC ?_
 refine sP (.pointer (some ⟨g0,8,none⟩))<|sS (fv a.z.val) (qL 0 g0 8 4 219 164 (tcs a.x.val a.y.val a.z.val) rfl Tryz.underlying164)<|sP (fv 0) ?_
 obtain ⟨b1,hb1⟩:∃ z:Bool,z=decide (a.z.val=0):=⟨_,rfl⟩
 refine sS (.bool b1) (Quiet.pure (λw=>by rw [hb1]; exact eql_num w _ _ _ _ _ _ rfl rfl rfl lK lK)) ?_
 refine sG ?_
 cases b1
 ·have eb1:a.z≠(0:Fp):=λe=>of_decide_eq_false hb1.symm (congrArg Fin.val e)
  refine sU<|Sy.skip<|sB ?_
  refine sP (.pointer (some ⟨g0,0,none⟩))<|sS (fv a.x.val) (qL 0 g0 0 4 219 164 (tcs a.x.val a.y.val a.z.val) rfl Tryz.underlying164)<|sP (.pointer (some ⟨g0,0,none⟩))<|sS (fv a.x.val) (qL 0 g0 0 4 219 164 (tcs a.x.val a.y.val a.z.val) rfl Tryz.underlying164) ?_
  obtain ⟨z1,hz1⟩:∃ z:Fp,z=a.x*a.x:=⟨_,rfl⟩
  refine sS (fv z1.val) (qF 164 #[fv a.x.val,fv a.x.val] (λw=>by rw [hz1]; exact mulR_c w a.x a.x)) ?_
  refine sM 164 (fcs 0) (λg2=>?_)
  refine sW 2 g2 164 (fcs 0) (fcs z1.val) (wS 0 164 (fcs z1.val) rfl) ?_
  refine sA ?_
  refine sP (.pointer (some ⟨g0,4,none⟩))<|sS (fv a.y.val) (qL 0 g0 4 4 219 164 (tcs a.x.val a.y.val a.z.val) rfl Tryz.underlying164)<|sP (.pointer (some ⟨g0,4,none⟩))<|sS (fv a.y.val) (qL 0 g0 4 4 219 164 (tcs a.x.val a.y.val a.z.val) rfl Tryz.underlying164) ?_
  obtain ⟨z2,hz2⟩:∃ z:Fp,z=a.y*a.y:=⟨_,rfl⟩
  refine sS (fv z2.val) (qF 164 #[fv a.y.val,fv a.y.val] (λw=>by rw [hz2]; exact mulR_c w a.y a.y)) ?_
  refine sM 164 (fcs 0) (λg3=>?_)
  refine sW 3 g3 164 (fcs 0) (fcs z2.val) (wS 0 164 (fcs z2.val) rfl) ?_
  refine sA ?_
  refine sS (fv z2.val) (qL 3 g3 0 4 164 164 (fcs z2.val) rfl Tryz.underlying164)<|sS (fv z2.val) (qL 3 g3 0 4 164 164 (fcs z2.val) rfl Tryz.underlying164) ?_
  obtain ⟨z3,hz3⟩:∃ z:Fp,z=z2*z2:=⟨_,rfl⟩
  refine sS (fv z3.val) (qF 164 #[fv z2.val,fv z2.val] (λw=>by rw [hz3]; exact mulR_c w z2 z2)) ?_
  refine sM 164 (fcs 0) (λg4=>?_)
  refine sW 4 g4 164 (fcs 0) (fcs z3.val) (wS 0 164 (fcs z3.val) rfl) ?_
  refine sA ?_
  refine sP (.pointer (some ⟨g0,0,none⟩))<|sS (fv a.x.val) (qL 0 g0 0 4 219 164 (tcs a.x.val a.y.val a.z.val) rfl Tryz.underlying164)<|sS (fv z2.val) (qL 3 g3 0 4 164 164 (fcs z2.val) rfl Tryz.underlying164) ?_
  obtain ⟨z4,hz4⟩:∃ z:Fp,z=a.x*z2:=⟨_,rfl⟩
  refine sS (fv z4.val) (qF 164 #[fv a.x.val,fv z2.val] (λw=>by rw [hz4]; exact mulR_c w a.x z2)) ?_
  refine sM 164 (fcs 0) (λg5=>?_)
  refine sW 5 g5 164 (fcs 0) (fcs z4.val) (wS 0 164 (fcs z4.val) rfl) ?_
  refine sH (λj=>j == 7) ?_
  refine sD 0 rfl (fv z4.val) (qL 5 g5 0 4 164 164 (fcs z4.val) rfl Tryz.underlying164)<|sD 1 rfl (fv z4.val) (qL 5 g5 0 4 164 164 (fcs z4.val) rfl Tryz.underlying164) ?_
  obtain ⟨z5,hz5⟩:∃ z:Fp,z=z4+z4:=⟨_,rfl⟩
  refine sD 2 rfl (fv z5.val) (qF 165 #[fv z4.val,fv z4.val] (λw=>by rw [hz5]; exact addR_c w z4 z4))<|sD 3 rfl (fv z4.val) (qL 5 g5 0 4 164 164 (fcs z4.val) rfl Tryz.underlying164)<|sD 4 rfl (fv z4.val) (qL 5 g5 0 4 164 164 (fcs z4.val) rfl Tryz.underlying164) ?_
  obtain ⟨z6,hz6⟩:∃ z:Fp,z=z4+z4:=⟨_,rfl⟩
  refine sD 5 rfl (fv z6.val) (qF 165 #[fv z4.val,fv z4.val] (λw=>by rw [hz6]; exact addR_c w z4 z4)) ?_
  obtain ⟨z7,hz7⟩:∃ z:Fp,z=z5+z6:=⟨_,rfl⟩
  refine sD 6 rfl (fv z7.val) (qF 165 #[fv z5.val,fv z6.val] (λw=>by rw [hz7]; exact addR_c w z5 z6))<|sX 7 rfl 5 g5 164 (fcs z4.val) (fcs z7.val) (wS 0 164 (fcs z7.val) rfl) ?_
  refine sE ?_
  refine sR (λj=>j == 6) ?_
  refine sD 0 rfl (fv z1.val) (qL 2 g2 0 4 164 164 (fcs z1.val) rfl Tryz.underlying164)<|sD 1 rfl (fv z1.val) (qL 2 g2 0 4 164 164 (fcs z1.val) rfl Tryz.underlying164)<|sD 2 rfl (fv z1.val) (qL 2 g2 0 4 164 164 (fcs z1.val) rfl Tryz.underlying164) ?_
  obtain ⟨z8,hz8⟩:∃ z:Fp,z=z1+z1:=⟨_,rfl⟩
  refine sD 3 rfl (fv z8.val) (qF 165 #[fv z1.val,fv z1.val] (λw=>by rw [hz8]; exact addR_c w z1 z1)) ?_
  obtain ⟨z9,hz9⟩:∃ z:Fp,z=z1+z8:=⟨_,rfl⟩
  refine sD 4 rfl (fv z9.val) (qF 165 #[fv z1.val,fv z8.val] (λw=>by rw [hz9]; exact addR_c w z1 z8)) ?_
  refine sO 5 rfl 164 (fcs 0) (λg6=>?_)
  refine sX 6 rfl 6 g6 164 (fcs 0) (fcs z9.val) (wS 0 164 (fcs z9.val) rfl) ?_
  refine sE ?_
  refine sR (λj=>j == 8) ?_
  refine sD 0 rfl (fv z9.val) (qL 6 g6 0 4 164 164 (fcs z9.val) rfl Tryz.underlying164)<|sD 1 rfl (fv z9.val) (qL 6 g6 0 4 164 164 (fcs z9.val) rfl Tryz.underlying164) ?_
  obtain ⟨z10,hz10⟩:∃ z:Fp,z=z9*z9:=⟨_,rfl⟩
  refine sD 2 rfl (fv z10.val) (qF 164 #[fv z9.val,fv z9.val] (λw=>by rw [hz10]; exact mulR_c w z9 z9))<|sD 3 rfl (fv z7.val) (qL 5 g5 0 4 164 164 (fcs z7.val) rfl Tryz.underlying164)<|sD 4 rfl (fv z7.val) (qL 5 g5 0 4 164 164 (fcs z7.val) rfl Tryz.underlying164) ?_
  obtain ⟨z11,hz11⟩:∃ z:Fp,z=z7+z7:=⟨_,rfl⟩
  refine sD 5 rfl (fv z11.val) (qF 165 #[fv z7.val,fv z7.val] (λw=>by rw [hz11]; exact addR_c w z7 z7)) ?_
  obtain ⟨z12,hz12⟩:∃ z:Fp,z=z10 - z11:=⟨_,rfl⟩
  refine sD 6 rfl (fv z12.val) (qF 163 #[fv z10.val,fv z11.val] (λw=>by rw [hz12]; exact subR_c w z10 z11)) ?_
  refine sO 7 rfl 164 (fcs 0) (λg7=>?_)
  refine sX 8 rfl 7 g7 164 (fcs 0) (fcs z12.val) (wS 0 164 (fcs z12.val) rfl) ?_
  refine sE ?_
  refine sB ?_
  refine sS (fv z3.val) (qL 4 g4 0 4 164 164 (fcs z3.val) rfl Tryz.underlying164)<|sS (fv z3.val) (qL 4 g4 0 4 164 164 (fcs z3.val) rfl Tryz.underlying164) ?_
  obtain ⟨z13,hz13⟩:∃ z:Fp,z=z3+z3:=⟨_,rfl⟩
  refine sS (fv z13.val) (qF 165 #[fv z3.val,fv z3.val] (λw=>by rw [hz13]; exact addR_c w z3 z3))<|sW 4 g4 164 (fcs z3.val) (fcs z13.val) (wS 0 164 (fcs z13.val) rfl) ?_
  refine sA ?_
  refine sS (fv z13.val) (qL 4 g4 0 4 164 164 (fcs z13.val) rfl Tryz.underlying164)<|sS (fv z13.val) (qL 4 g4 0 4 164 164 (fcs z13.val) rfl Tryz.underlying164) ?_
  obtain ⟨z14,hz14⟩:∃ z:Fp,z=z13+z13:=⟨_,rfl⟩
  refine sS (fv z14.val) (qF 165 #[fv z13.val,fv z13.val] (λw=>by rw [hz14]; exact addR_c w z13 z13))<|sW 4 g4 164 (fcs z13.val) (fcs z14.val) (wS 0 164 (fcs z14.val) rfl) ?_
  refine sA ?_
  refine sS (fv z14.val) (qL 4 g4 0 4 164 164 (fcs z14.val) rfl Tryz.underlying164)<|sS (fv z14.val) (qL 4 g4 0 4 164 164 (fcs z14.val) rfl Tryz.underlying164) ?_
  obtain ⟨z15,hz15⟩:∃ z:Fp,z=z14+z14:=⟨_,rfl⟩
  refine sS (fv z15.val) (qF 165 #[fv z14.val,fv z14.val] (λw=>by rw [hz15]; exact addR_c w z14 z14))<|sW 4 g4 164 (fcs z14.val) (fcs z15.val) (wS 0 164 (fcs z15.val) rfl) ?_
  refine sH (λj=>j == 8) ?_
  refine sD 0 rfl (fv z9.val) (qL 6 g6 0 4 164 164 (fcs z9.val) rfl Tryz.underlying164)<|sD 1 rfl (fv z7.val) (qL 5 g5 0 4 164 164 (fcs z7.val) rfl Tryz.underlying164)<|sD 2 rfl (fv z12.val) (qL 7 g7 0 4 164 164 (fcs z12.val) rfl Tryz.underlying164) ?_
  obtain ⟨z16,hz16⟩:∃ z:Fp,z=z7 - z12:=⟨_,rfl⟩
  refine sD 3 rfl (fv z16.val) (qF 163 #[fv z7.val,fv z12.val] (λw=>by rw [hz16]; exact subR_c w z7 z12)) ?_
  obtain ⟨z17,hz17⟩:∃ z:Fp,z=z9*z16:=⟨_,rfl⟩
  refine sD 4 rfl (fv z17.val) (qF 164 #[fv z9.val,fv z16.val] (λw=>by rw [hz17]; exact mulR_c w z9 z16))<|sD 5 rfl (fv z15.val) (qL 4 g4 0 4 164 164 (fcs z15.val) rfl Tryz.underlying164) ?_
  obtain ⟨z18,hz18⟩:∃ z:Fp,z=z17 - z15:=⟨_,rfl⟩
  refine sD 6 rfl (fv z18.val) (qF 163 #[fv z17.val,fv z15.val] (λw=>by rw [hz18]; exact subR_c w z17 z15)) ?_
  refine sO 7 rfl 164 (fcs 0) (λg8=>?_)
  refine sX 8 rfl 8 g8 164 (fcs 0) (fcs z18.val) (wS 0 164 (fcs z18.val) rfl) ?_
  refine sE ?_
  refine sB ?_
  refine sP (.pointer (some ⟨g0,4,none⟩))<|sS (fv a.y.val) (qL 0 g0 4 4 219 164 (tcs a.x.val a.y.val a.z.val) rfl Tryz.underlying164)<|sP (.pointer (some ⟨g0,8,none⟩))<|sS (fv a.z.val) (qL 0 g0 8 4 219 164 (tcs a.x.val a.y.val a.z.val) rfl Tryz.underlying164) ?_
  obtain ⟨z19,hz19⟩:∃ z:Fp,z=a.y*a.z:=⟨_,rfl⟩
  refine sS (fv z19.val) (qF 164 #[fv a.y.val,fv a.z.val] (λw=>by rw [hz19]; exact mulR_c w a.y a.z)) ?_
  refine sM 164 (fcs 0) (λg9=>?_)
  refine sW 9 g9 164 (fcs 0) (fcs z19.val) (wS 0 164 (fcs z19.val) rfl) ?_
  refine sH (λj=>j == 6) ?_
  refine sD 0 rfl (fv z12.val) (qL 7 g7 0 4 164 164 (fcs z12.val) rfl Tryz.underlying164)<|sD 1 rfl (fv z18.val) (qL 8 g8 0 4 164 164 (fcs z18.val) rfl Tryz.underlying164)<|sD 2 rfl (fv z19.val) (qL 9 g9 0 4 164 164 (fcs z19.val) rfl Tryz.underlying164)<|sD 3 rfl (fv z19.val) (qL 9 g9 0 4 164 164 (fcs z19.val) rfl Tryz.underlying164) ?_
  obtain ⟨z20,hz20⟩:∃ z:Fp,z=z19+z19:=⟨_,rfl⟩
  refine sD 4 rfl (fv z20.val) (qF 165 #[fv z19.val,fv z19.val] (λw=>by rw [hz20]; exact addR_c w z19 z19))<|sZ 5 rfl (tv z12.val z18.val z20.val)<|sX 6 rfl 1 g1 219 (tcs 0 0 0) (tcs z12.val z18.val z20.val) (wS 0 219 (tcs z12.val z18.val z20.val) rfl) ?_
  refine sI ?_
  refine Sy.ret ?_
  rw [show (tv (dblR a).x.val (dblR a).y.val (dblR a).z.val:Value)=tv z12.val z18.val z20.val from by
   unfold dblR; rw [if_neg eb1]
   have k0:(dblJ a).x=z12:=by
    simp only [dblJ,pxR,pyR,hR,rR]
    simp only [hz12,hz11,hz10,hz9,hz8,hz7,hz6,hz5,hz4,hz2,hz1]
    grobner
   have k1:(dblJ a).y=z18:=by
    simp only [dblJ,pxR,pyR,hR,rR]
    simp only [hz18,hz17,hz16,hz15,hz14,hz13,hz12,hz11,hz10,hz9,hz8,hz7,hz6,hz5,hz4,hz3,hz2,hz1]
    grobner
   have k2:(dblJ a).z=z20:=by
    simp only [dblJ,pxR,pyR,hR,rR]
    simp only [hz20,hz19]
    grobner
   simp only [k0,k1,k2]]
  exact rC (v:=tv z12.val z18.val z20.val) 219 g1 1 (tcs z12.val z18.val z20.val) rfl Tryz.underlying219
 ·have eb1:a.z=(0:Fp):=Fin.ext (of_decide_eq_true hb1.symm)
  refine sT<|sC ?_
  refine sS (tv a.x.val a.y.val a.z.val) (qL 0 g0 0 12 219 219 (tcs a.x.val a.y.val a.z.val) rfl Tryz.underlying219)<|sW 1 g1 219 (tcs 0 0 0) (tcs a.x.val a.y.val a.z.val) (wS 0 219 (tcs a.x.val a.y.val a.z.val) rfl) ?_
  refine sG<|Sy.ret<|Sy.then_ret ?_
  rw [show (tv (dblR a).x.val (dblR a).y.val (dblR a).z.val:Value)=tv a.x.val a.y.val a.z.val from by unfold dblR; rw [if_pos eb1]]
  exact rC (v:=tv a.x.val a.y.val a.z.val) 219 g1 1 (tcs a.x.val a.y.val a.z.val) rfl Tryz.underlying219
theorem plusR_c (w:World) (a:J) (x y:Fp):Calls Tryz.prog 170 #[tv a.x.val a.y.val a.z.val,fv x.val,fv y.val] w (Gets w (tv (plusR a x y).x.val (plusR a x y).y.val (plusR a x y).z.val)):=by
 refine Sy.enter (args:=[tv a.x.val a.y.val a.z.val,fv x.val,fv y.val]) Tryz.func170 rfl kL ?_
 refine sC ?_
 refine sM 219 (tcs a.x.val a.y.val a.z.val) (λg0=>?_)
 refine sM 164 (fcs x.val) (λg1=>?_)
 refine sM 164 (fcs y.val) (λg2=>?_)
 refine sM 219 (tcs 0 0 0) (λg3=>?_)
 refine sG<|Sy.seq<|sC ?_
 refine sP (.pointer (some ⟨g0,8,none⟩))<|sS (fv a.z.val) (qL 0 g0 8 4 219 164 (tcs a.x.val a.y.val a.z.val) rfl Tryz.underlying164)<|sP (fv 0) ?_
 obtain ⟨b1,hb1⟩:∃ z:Bool,z=decide (a.z.val=0):=⟨_,rfl⟩
 refine sS (.bool b1) (Quiet.pure (λw=>by rw [hb1]; exact eql_num w _ _ _ _ _ _ rfl rfl rfl lK lK)) ?_
 refine sG ?_
 cases b1
 ·have eb1:a.z≠(0:Fp):=λe=>of_decide_eq_false hb1.symm (congrArg Fin.val e)
  refine sU<|Sy.skip<|sB ?_
  refine sP (.pointer (some ⟨g0,8,none⟩))<|sS (fv a.z.val) (qL 0 g0 8 4 219 164 (tcs a.x.val a.y.val a.z.val) rfl Tryz.underlying164)<|sP (.pointer (some ⟨g0,8,none⟩))<|sS (fv a.z.val) (qL 0 g0 8 4 219 164 (tcs a.x.val a.y.val a.z.val) rfl Tryz.underlying164) ?_
  obtain ⟨z1,hz1⟩:∃ z:Fp,z=a.z*a.z:=⟨_,rfl⟩
  refine sS (fv z1.val) (qF 164 #[fv a.z.val,fv a.z.val] (λw=>by rw [hz1]; exact mulR_c w a.z a.z)) ?_
  refine sM 164 (fcs 0) (λg4=>?_)
  refine sW 4 g4 164 (fcs 0) (fcs z1.val) (wS 0 164 (fcs z1.val) rfl) ?_
  refine sA ?_
  refine sS (fv x.val) (qL 1 g1 0 4 164 164 (fcs x.val) rfl Tryz.underlying164)<|sS (fv z1.val) (qL 4 g4 0 4 164 164 (fcs z1.val) rfl Tryz.underlying164) ?_
  obtain ⟨z2,hz2⟩:∃ z:Fp,z=x*z1:=⟨_,rfl⟩
  refine sS (fv z2.val) (qF 164 #[fv x.val,fv z1.val] (λw=>by rw [hz2]; exact mulR_c w x z1)) ?_
  refine sM 164 (fcs 0) (λg5=>?_)
  refine sW 5 g5 164 (fcs 0) (fcs z2.val) (wS 0 164 (fcs z2.val) rfl) ?_
  refine sH (λj=>j == 7) ?_
  refine sD 0 rfl (fv y.val) (qL 2 g2 0 4 164 164 (fcs y.val) rfl Tryz.underlying164)<|sD 1 rfl (fv z1.val) (qL 4 g4 0 4 164 164 (fcs z1.val) rfl Tryz.underlying164)<|sZ 2 rfl (.pointer (some ⟨g0,8,none⟩))<|sD 3 rfl (fv a.z.val) (qL 0 g0 8 4 219 164 (tcs a.x.val a.y.val a.z.val) rfl Tryz.underlying164) ?_
  obtain ⟨z3,hz3⟩:∃ z:Fp,z=z1*a.z:=⟨_,rfl⟩
  refine sD 4 rfl (fv z3.val) (qF 164 #[fv z1.val,fv a.z.val] (λw=>by rw [hz3]; exact mulR_c w z1 a.z)) ?_
  obtain ⟨z4,hz4⟩:∃ z:Fp,z=y*z3:=⟨_,rfl⟩
  refine sD 5 rfl (fv z4.val) (qF 164 #[fv y.val,fv z3.val] (λw=>by rw [hz4]; exact mulR_c w y z3)) ?_
  refine sO 6 rfl 164 (fcs 0) (λg6=>?_)
  refine sX 7 rfl 6 g6 164 (fcs 0) (fcs z4.val) (wS 0 164 (fcs z4.val) rfl) ?_
  refine sI ?_
  refine Sy.seq<|sC ?_
  refine sS (fv z2.val) (qL 5 g5 0 4 164 164 (fcs z2.val) rfl Tryz.underlying164)<|sP (.pointer (some ⟨g0,0,none⟩))<|sS (fv a.x.val) (qL 0 g0 0 4 219 164 (tcs a.x.val a.y.val a.z.val) rfl Tryz.underlying164) ?_
  obtain ⟨b2,hb2⟩:∃ z:Bool,z=decide (z2.val=a.x.val):=⟨_,rfl⟩
  refine sS (.bool b2) (Quiet.pure (λw=>by rw [hb2]; exact eql_num w _ _ _ _ _ _ rfl rfl rfl lK lK)) ?_
  refine sG ?_
  cases b2
  ·have eb2:z2≠a.x:=λe=>of_decide_eq_false hb2.symm (congrArg Fin.val e)
   refine sU<|Sy.skip<|sB ?_
   refine sS (fv z2.val) (qL 5 g5 0 4 164 164 (fcs z2.val) rfl Tryz.underlying164)<|sP (.pointer (some ⟨g0,0,none⟩))<|sS (fv a.x.val) (qL 0 g0 0 4 219 164 (tcs a.x.val a.y.val a.z.val) rfl Tryz.underlying164) ?_
   obtain ⟨z5,hz5⟩:∃ z:Fp,z=z2 - a.x:=⟨_,rfl⟩
   refine sS (fv z5.val) (qF 163 #[fv z2.val,fv a.x.val] (λw=>by rw [hz5]; exact subR_c w z2 a.x)) ?_
   refine sM 164 (fcs 0) (λg7=>?_)
   refine sW 7 g7 164 (fcs 0) (fcs z5.val) (wS 0 164 (fcs z5.val) rfl) ?_
   refine sA ?_
   refine sS (fv z4.val) (qL 6 g6 0 4 164 164 (fcs z4.val) rfl Tryz.underlying164)<|sP (.pointer (some ⟨g0,4,none⟩))<|sS (fv a.y.val) (qL 0 g0 4 4 219 164 (tcs a.x.val a.y.val a.z.val) rfl Tryz.underlying164) ?_
   obtain ⟨z6,hz6⟩:∃ z:Fp,z=z4 - a.y:=⟨_,rfl⟩
   refine sS (fv z6.val) (qF 163 #[fv z4.val,fv a.y.val] (λw=>by rw [hz6]; exact subR_c w z4 a.y)) ?_
   refine sM 164 (fcs 0) (λg8=>?_)
   refine sW 8 g8 164 (fcs 0) (fcs z6.val) (wS 0 164 (fcs z6.val) rfl) ?_
   refine sA ?_
   refine sS (fv z5.val) (qL 7 g7 0 4 164 164 (fcs z5.val) rfl Tryz.underlying164)<|sS (fv z5.val) (qL 7 g7 0 4 164 164 (fcs z5.val) rfl Tryz.underlying164) ?_
   obtain ⟨z7,hz7⟩:∃ z:Fp,z=z5*z5:=⟨_,rfl⟩
   refine sS (fv z7.val) (qF 164 #[fv z5.val,fv z5.val] (λw=>by rw [hz7]; exact mulR_c w z5 z5)) ?_
   refine sM 164 (fcs 0) (λg9=>?_)
   refine sW 9 g9 164 (fcs 0) (fcs z7.val) (wS 0 164 (fcs z7.val) rfl) ?_
   refine sA ?_
   refine sS (fv z5.val) (qL 7 g7 0 4 164 164 (fcs z5.val) rfl Tryz.underlying164)<|sS (fv z7.val) (qL 9 g9 0 4 164 164 (fcs z7.val) rfl Tryz.underlying164) ?_
   obtain ⟨z8,hz8⟩:∃ z:Fp,z=z5*z7:=⟨_,rfl⟩
   refine sS (fv z8.val) (qF 164 #[fv z5.val,fv z7.val] (λw=>by rw [hz8]; exact mulR_c w z5 z7)) ?_
   refine sM 164 (fcs 0) (λg10=>?_)
   refine sW 10 g10 164 (fcs 0) (fcs z8.val) (wS 0 164 (fcs z8.val) rfl) ?_
   refine sA ?_
   refine sP (.pointer (some ⟨g0,0,none⟩))<|sS (fv a.x.val) (qL 0 g0 0 4 219 164 (tcs a.x.val a.y.val a.z.val) rfl Tryz.underlying164)<|sS (fv z7.val) (qL 9 g9 0 4 164 164 (fcs z7.val) rfl Tryz.underlying164) ?_
   obtain ⟨z9,hz9⟩:∃ z:Fp,z=a.x*z7:=⟨_,rfl⟩
   refine sS (fv z9.val) (qF 164 #[fv a.x.val,fv z7.val] (λw=>by rw [hz9]; exact mulR_c w a.x z7)) ?_
   refine sM 164 (fcs 0) (λg11=>?_)
   refine sW 11 g11 164 (fcs 0) (fcs z9.val) (wS 0 164 (fcs z9.val) rfl) ?_
   refine sH (λj=>j == 10) ?_
   refine sD 0 rfl (fv z6.val) (qL 8 g8 0 4 164 164 (fcs z6.val) rfl Tryz.underlying164)<|sD 1 rfl (fv z6.val) (qL 8 g8 0 4 164 164 (fcs z6.val) rfl Tryz.underlying164) ?_
   obtain ⟨z10,hz10⟩:∃ z:Fp,z=z6*z6:=⟨_,rfl⟩
   refine sD 2 rfl (fv z10.val) (qF 164 #[fv z6.val,fv z6.val] (λw=>by rw [hz10]; exact mulR_c w z6 z6))<|sD 3 rfl (fv z8.val) (qL 10 g10 0 4 164 164 (fcs z8.val) rfl Tryz.underlying164) ?_
   obtain ⟨z11,hz11⟩:∃ z:Fp,z=z10 - z8:=⟨_,rfl⟩
   refine sD 4 rfl (fv z11.val) (qF 163 #[fv z10.val,fv z8.val] (λw=>by rw [hz11]; exact subR_c w z10 z8))<|sD 5 rfl (fv z9.val) (qL 11 g11 0 4 164 164 (fcs z9.val) rfl Tryz.underlying164)<|sD 6 rfl (fv z9.val) (qL 11 g11 0 4 164 164 (fcs z9.val) rfl Tryz.underlying164) ?_
   obtain ⟨z12,hz12⟩:∃ z:Fp,z=z9+z9:=⟨_,rfl⟩
   refine sD 7 rfl (fv z12.val) (qF 165 #[fv z9.val,fv z9.val] (λw=>by rw [hz12]; exact addR_c w z9 z9)) ?_
   obtain ⟨z13,hz13⟩:∃ z:Fp,z=z11 - z12:=⟨_,rfl⟩
   refine sD 8 rfl (fv z13.val) (qF 163 #[fv z11.val,fv z12.val] (λw=>by rw [hz13]; exact subR_c w z11 z12)) ?_
   refine sO 9 rfl 164 (fcs 0) (λg12=>?_)
   refine sX 10 rfl 12 g12 164 (fcs 0) (fcs z13.val) (wS 0 164 (fcs z13.val) rfl) ?_
   refine sE ?_
   refine sR (λj=>j == 16) ?_
   refine sD 0 rfl (fv z13.val) (qL 12 g12 0 4 164 164 (fcs z13.val) rfl Tryz.underlying164)<|sD 1 rfl (fv z6.val) (qL 8 g8 0 4 164 164 (fcs z6.val) rfl Tryz.underlying164)<|sD 2 rfl (fv z9.val) (qL 11 g11 0 4 164 164 (fcs z9.val) rfl Tryz.underlying164)<|sD 3 rfl (fv z13.val) (qL 12 g12 0 4 164 164 (fcs z13.val) rfl Tryz.underlying164) ?_
   obtain ⟨z14,hz14⟩:∃ z:Fp,z=z9 - z13:=⟨_,rfl⟩
   refine sD 4 rfl (fv z14.val) (qF 163 #[fv z9.val,fv z13.val] (λw=>by rw [hz14]; exact subR_c w z9 z13)) ?_
   obtain ⟨z15,hz15⟩:∃ z:Fp,z=z6*z14:=⟨_,rfl⟩
   refine sD 5 rfl (fv z15.val) (qF 164 #[fv z6.val,fv z14.val] (λw=>by rw [hz15]; exact mulR_c w z6 z14))<|sZ 6 rfl (.pointer (some ⟨g0,4,none⟩))<|sD 7 rfl (fv a.y.val) (qL 0 g0 4 4 219 164 (tcs a.x.val a.y.val a.z.val) rfl Tryz.underlying164)<|sD 8 rfl (fv z8.val) (qL 10 g10 0 4 164 164 (fcs z8.val) rfl Tryz.underlying164) ?_
   obtain ⟨z16,hz16⟩:∃ z:Fp,z=a.y*z8:=⟨_,rfl⟩
   refine sD 9 rfl (fv z16.val) (qF 164 #[fv a.y.val,fv z8.val] (λw=>by rw [hz16]; exact mulR_c w a.y z8)) ?_
   obtain ⟨z17,hz17⟩:∃ z:Fp,z=z15 - z16:=⟨_,rfl⟩
   refine sD 10 rfl (fv z17.val) (qF 163 #[fv z15.val,fv z16.val] (λw=>by rw [hz17]; exact subR_c w z15 z16))<|sD 11 rfl (fv z5.val) (qL 7 g7 0 4 164 164 (fcs z5.val) rfl Tryz.underlying164)<|sZ 12 rfl (.pointer (some ⟨g0,8,none⟩))<|sD 13 rfl (fv a.z.val) (qL 0 g0 8 4 219 164 (tcs a.x.val a.y.val a.z.val) rfl Tryz.underlying164) ?_
   obtain ⟨z18,hz18⟩:∃ z:Fp,z=z5*a.z:=⟨_,rfl⟩
   refine sD 14 rfl (fv z18.val) (qF 164 #[fv z5.val,fv a.z.val] (λw=>by rw [hz18]; exact mulR_c w z5 a.z))<|sZ 15 rfl (tv z13.val z17.val z18.val)<|sX 16 rfl 3 g3 219 (tcs 0 0 0) (tcs z13.val z17.val z18.val) (wS 0 219 (tcs z13.val z17.val z18.val) rfl) ?_
   refine sI ?_
   refine Sy.ret ?_
   rw [show (tv (plusR a x y).x.val (plusR a x y).y.val (plusR a x y).z.val:Value)=tv z13.val z17.val z18.val from by
    rw [plusR_4 eb1 (by have q:=eb2; simp only [hz2,hz1] at q; exact q)]; simp only
    have k0:pxR a x y=z13:=by
     simp only [dblJ,pxR,pyR,hR,rR]
     simp only [hz13,hz12,hz11,hz10,hz9,hz8,hz7,hz6,hz5,hz4,hz3,hz2,hz1]
     grobner
    have k1:pyR a x y=z17:=by
     simp only [dblJ,pxR,pyR,hR,rR]
     simp only [hz17,hz16,hz15,hz14,hz13,hz12,hz11,hz10,hz9,hz8,hz7,hz6,hz5,hz4,hz3,hz2,hz1]
     grobner
    have k2:a.z*hR a x=z18:=by
     simp only [dblJ,pxR,pyR,hR,rR]
     simp only [hz18,hz5,hz2,hz1]
     grobner
    simp only [k0,k1,k2]]
   exact rC (v:=tv z13.val z17.val z18.val) 219 g3 3 (tcs z13.val z17.val z18.val) rfl Tryz.underlying219
  ·have eb2:z2=a.x:=Fin.ext (of_decide_eq_true hb2.symm)
   refine sT<|Sy.seq<|sC ?_
   refine sS (fv z4.val) (qL 6 g6 0 4 164 164 (fcs z4.val) rfl Tryz.underlying164)<|sP (.pointer (some ⟨g0,4,none⟩))<|sS (fv a.y.val) (qL 0 g0 4 4 219 164 (tcs a.x.val a.y.val a.z.val) rfl Tryz.underlying164) ?_
   obtain ⟨b3,hb3⟩:∃ z:Bool,z=decide (z4.val=a.y.val):=⟨_,rfl⟩
   refine sS (.bool b3) (Quiet.pure (λw=>by rw [hb3]; exact eql_num w _ _ _ _ _ _ rfl rfl rfl lK lK)) ?_
   refine sG ?_
   cases b3
   ·have eb3:z4≠a.y:=λe=>of_decide_eq_false hb3.symm (congrArg Fin.val e)
    refine sU<|Sy.skip<|sB ?_
    refine sP (tv 0 0 0)<|sW 3 g3 219 (tcs 0 0 0) (tcs 0 0 0) (wS 0 219 (tcs 0 0 0) rfl) ?_
    refine sG<|Sy.ret<|Sy.then_ret ?_
    rw [show (tv (plusR a x y).x.val (plusR a x y).y.val (plusR a x y).z.val:Value)=tv 0 0 0 from by rw [plusR_3 eb1 (by have q:=eb2; simp only [hz2,hz1] at q; exact q) (by have q:=eb3; simp only [hz4,hz3,hz1] at q; exact q)]; rfl]
    exact rC (v:=tv 0 0 0) 219 g3 3 (tcs 0 0 0) rfl Tryz.underlying219
   ·have eb3:z4=a.y:=Fin.ext (of_decide_eq_true hb3.symm)
    refine sT<|sC ?_
    refine sS (tv a.x.val a.y.val a.z.val) (qL 0 g0 0 12 219 219 (tcs a.x.val a.y.val a.z.val) rfl Tryz.underlying219)<|sS (tv ((dblR a).x.val) ((dblR a).y.val) ((dblR a).z.val)) (qF 169 #[tv a.x.val a.y.val a.z.val] (λw=>twiceR_c w a))<|sW 3 g3 219 (tcs 0 0 0) (tcs ((dblR a).x.val) ((dblR a).y.val) ((dblR a).z.val)) (wS 0 219 (tcs ((dblR a).x.val) ((dblR a).y.val) ((dblR a).z.val)) rfl) ?_
    refine sG<|Sy.ret<|Sy.then_ret<|Sy.then_ret ?_
    rw [show (tv (plusR a x y).x.val (plusR a x y).y.val (plusR a x y).z.val:Value)=tv ((dblR a).x.val) ((dblR a).y.val) ((dblR a).z.val) from by rw [plusR_2 eb1 (by have q:=eb2; simp only [hz2,hz1] at q; exact q) (by have q:=eb3; simp only [hz4,hz3,hz1] at q; exact q)]]
    exact rC (v:=tv ((dblR a).x.val) ((dblR a).y.val) ((dblR a).z.val)) 219 g3 3 (tcs ((dblR a).x.val) ((dblR a).y.val) ((dblR a).z.val)) rfl Tryz.underlying219
 ·have eb1:a.z=(0:Fp):=Fin.ext (of_decide_eq_true hb1.symm)
  refine sT<|Sy.seq ?_
  refine Sy.regionD (λj=>j == 4) kR ?_
  refine sD 0 rfl (fv x.val) (qL 1 g1 0 4 164 164 (fcs x.val) rfl Tryz.underlying164)<|sD 1 rfl (fv y.val) (qL 2 g2 0 4 164 164 (fcs y.val) rfl Tryz.underlying164) ?_
  obtain ⟨z19,hz19⟩:∃ z:Fp,z=(1:Fp):=⟨_,rfl⟩
  refine sD 2 rfl (fv z19.val) (qF 180 #[.int .u64 1] (λw=>by rw [hz19]; exact small_c w 1 (by decide)))<|sZ 3 rfl (tv x.val y.val z19.val)<|sX 4 rfl 3 g3 219 (tcs 0 0 0) (tcs x.val y.val z19.val) (wS 0 219 (tcs x.val y.val z19.val) rfl) ?_
  refine sI ?_
  refine Sy.ret<|Sy.then_ret ?_
  rw [show (tv (plusR a x y).x.val (plusR a x y).y.val (plusR a x y).z.val:Value)=tv x.val y.val z19.val from by rw [plusR_1 eb1]; simp only [hz19]]
  exact rC (v:=tv x.val y.val z19.val) 219 g3 3 (tcs x.val y.val z19.val) rfl Tryz.underlying219
end Cu
end
end Go.Proofs.YtnbenphcpenbeaaGreatDoor
