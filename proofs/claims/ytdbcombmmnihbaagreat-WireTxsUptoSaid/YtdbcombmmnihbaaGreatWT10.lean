/-
  Texts of ours, put together: WirGX, WirGR, WirGM, WirGN, WirGO, WirGS, WirAA, WireOnlyL, WireTxsL.
-/
import Derived.Test.YtdbcombmmnihbaaGreatWT9
set_option linter.unusedVariables false
set_option linter.unusedSimpArgs false
set_option maxRecDepth 100000
set_option maxHeartbeats 40000000
namespace Go.Proofs.YtdbcombmmnihbaaGreat
section
namespace Wr
open Go.RowKit Sy
abbrev zeIN:List Value:=((([]:List Value))++([Value.int .i64 0]++(Z32++([Value.int .u32 0]++(([Value.int .i64 0]++(([Value.bool false]++([Value.int .u64 0]++lPT ⟨0,0,false⟩))++([Value.slice none 0 0]++([Value.int .u64 0]++(Z32++(Cu.fws 0))))))++((Z32++([Value.slice none 0 0]++([Value.int .u32 0]++([Value.int .u32 0]++([Value.slice none 0 0]++([Value.slice none 0 0]))))))++([Value.slice none 0 0]++(([]:List Value)))))))))
abbrev zeTR:List Value:=((([]:List Value))++([Value.int .u64 0]++([Value.slice none 0 0]++([Value.slice none 0 0]++(([]:List Value))))))
theorem Mn (w0:Base) (gr:Nat) (sl:Value) (b:Byt) (at_ e:Nat) (R:AA) (hat:at_≤b.length) (he:e≤200) (hl:b.length≤70368744177664) (hv:BytR (rdW w0.world) sl b) (w:World) (hw:St w0 w (RB gr sl at_ e R)) :
  AL 72 #[ptr gr] w (AQ w0 (Rfd EY (J6 122 CT) gr sl b R at_ e)):=by
 have L0:([]:List Value).length=0:=rfl
 refine Sy.enterT (args:=[ptr gr]) hw Tryz.func72 J kL<|sC<|sM 151 zeIN.toArray (λg2=>?_)
 refine Sy.movT (pre:=[(gr,166,rrC sl at_ e)]) (T:=R)<|sA<|sM 151 ((([]:List Value))++([Value.int .i64 0]++(Z32++([Value.int .u32 0]++(([Value.int .i64 0]++(([Value.bool false]++([Value.int .u64 0]++lPT ⟨0,0,false⟩))++([Value.slice none 0 0]++([Value.int .u64 0]++(Z32++(Cu.fws 0))))))++((Z32++([Value.slice none 0 0]++([Value.int .u32 0]++([Value.int .u32 0]++([Value.slice none 0 0]++([Value.slice none 0 0]))))))++([Value.slice none 0 0]++(([]:List Value))))))))).toArray (λg3=>?_)
 refine Sy.movT (pre:=[(gr,166,rrC sl at_ e),(g2,151,zeIN.toArray)]) (T:=R)<|sA<|sp J<|Sy.callT (λw hw=>DY 1 2 w0.inn gr sl b at_ e ((g2,151,zeIN.toArray)::(g3,151,((([]:List Value))++([Value.int .i64 0]++(Z32++([Value.int .u32 0]++(([Value.int .i64 0]++(([Value.bool false]++([Value.int .u64 0]++lPT ⟨0,0,false⟩))++([Value.slice none 0 0]++([Value.int .u64 0]++(Z32++(Cu.fws 0))))))++((Z32++([Value.slice none 0 0]++([Value.int .u32 0]++([Value.int .u32 0]++([Value.slice none 0 0]++([Value.slice none 0 0]))))))++([Value.slice none 0 0]++(([]:List Value))))))))).toArray)::R) hat he hl hv w hw) (λu M hM=>?_)
 obtain ⟨x1,a1,e1,N1,p1,⟨rfl,rfl⟩,u1,v1_,rfl⟩:=hM
 rw [List.append_nil ((g2,151,zeIN.toArray)::(g3,151,((([]:List Value))++([Value.int .i64 0]++(Z32++([Value.int .u32 0]++(([Value.int .i64 0]++(([Value.bool false]++([Value.int .u64 0]++lPT ⟨0,0,false⟩))++([Value.slice none 0 0]++([Value.int .u64 0]++(Z32++(Cu.fws 0))))))++((Z32++([Value.slice none 0 0]++([Value.int .u32 0]++([Value.int .u32 0]++([Value.slice none 0 0]++([Value.slice none 0 0]))))))++([Value.slice none 0 0]++(([]:List Value))))))))).toArray)::R)]
 refine sP (pT g3 0)<|sw 2 J ((([]:List Value)++([Value.int .i64 x1]))++(Z32++([Value.int .u32 0]++(([Value.int .i64 0]++(([Value.bool false]++([Value.int .u64 0]++lPT ⟨0,0,false⟩))++([Value.slice none 0 0]++([Value.int .u64 0]++(Z32++(Cu.fws 0))))))++((Z32++([Value.slice none 0 0]++([Value.int .u32 0]++([Value.int .u32 0]++([Value.slice none 0 0]++([Value.slice none 0 0]))))))++([Value.slice none 0 0]++(([]:List Value)))))))).toArray (by rw [show ((([]:List Value)++([Value.int .i64 x1]))++(Z32++([Value.int .u32 0]++(([Value.int .i64 0]++(([Value.bool false]++([Value.int .u64 0]++lPT ⟨0,0,false⟩))++([Value.slice none 0 0]++([Value.int .u64 0]++(Z32++(Cu.fws 0))))))++((Z32++([Value.slice none 0 0]++([Value.int .u32 0]++([Value.int .u32 0]++([Value.slice none 0 0]++([Value.slice none 0 0]))))))++([Value.slice none 0 0]++(([]:List Value))))))))=(([]:List Value))++([Value.int .i64 x1]++(Z32++([Value.int .u32 0]++(([Value.int .i64 0]++(([Value.bool false]++([Value.int .u64 0]++lPT ⟨0,0,false⟩))++([Value.slice none 0 0]++([Value.int .u64 0]++(Z32++(Cu.fws 0))))))++((Z32++([Value.slice none 0 0]++([Value.int .u32 0]++([Value.int .u32 0]++([Value.slice none 0 0]++([Value.slice none 0 0]))))))++([Value.slice none 0 0]++(([]:List Value)))))))) from List.append_assoc ..]; exact Writes.one 0 3 (.int .i64 x1) _ _ J kR kR kR J J (by rw [List.size_toArray,List.length_append,L0]; exact Nat.lt_add_of_pos_right (Nat.succ_pos _)) (Aq L0)) ?_
 have L1:(([]:List Value)++([Value.int .i64 x1])).length=1:=by rw [List.length_append,L0]; rfl
 refine sA<|sp J<|Sy.callT (λw hw=>EF w0.inn gr sl b a1 e1 ((g2,151,zeIN.toArray)::(g3,151,((([]:List Value)++([Value.int .i64 x1]))++(Z32++([Value.int .u32 0]++(([Value.int .i64 0]++(([Value.bool false]++([Value.int .u64 0]++lPT ⟨0,0,false⟩))++([Value.slice none 0 0]++([Value.int .u64 0]++(Z32++(Cu.fws 0))))))++((Z32++([Value.slice none 0 0]++([Value.int .u32 0]++([Value.int .u32 0]++([Value.slice none 0 0]++([Value.slice none 0 0]))))))++([Value.slice none 0 0]++(([]:List Value)))))))).toArray)::R) u1 v1_ hl hv w hw) (λu M hM=>?_)
 obtain ⟨x2,a2,e2,N2,p2,⟨rfl,r2,rfl⟩,u2,v2_,rfl⟩:=hM
 rw [List.append_nil ((g2,151,zeIN.toArray)::(g3,151,((([]:List Value)++([Value.int .i64 x1]))++(Z32++([Value.int .u32 0]++(([Value.int .i64 0]++(([Value.bool false]++([Value.int .u64 0]++lPT ⟨0,0,false⟩))++([Value.slice none 0 0]++([Value.int .u64 0]++(Z32++(Cu.fws 0))))))++((Z32++([Value.slice none 0 0]++([Value.int .u32 0]++([Value.int .u32 0]++([Value.slice none 0 0]++([Value.slice none 0 0]))))))++([Value.slice none 0 0]++(([]:List Value)))))))).toArray)::R)]
 have n2:(x2.map bv).length=32:=by rw [List.length_map,r2]
 refine sP (pT g3 1)<|sP (pT g3 1)<|sw 2 J ((([]:List Value)++([Value.int .i64 x1])++(x2.map bv))++([Value.int .u32 0]++(([Value.int .i64 0]++(([Value.bool false]++([Value.int .u64 0]++lPT ⟨0,0,false⟩))++([Value.slice none 0 0]++([Value.int .u64 0]++(Z32++(Cu.fws 0))))))++((Z32++([Value.slice none 0 0]++([Value.int .u32 0]++([Value.int .u32 0]++([Value.slice none 0 0]++([Value.slice none 0 0]))))))++([Value.slice none 0 0]++(([]:List Value))))))).toArray (by rw [show ((([]:List Value)++([Value.int .i64 x1])++(x2.map bv))++([Value.int .u32 0]++(([Value.int .i64 0]++(([Value.bool false]++([Value.int .u64 0]++lPT ⟨0,0,false⟩))++([Value.slice none 0 0]++([Value.int .u64 0]++(Z32++(Cu.fws 0))))))++((Z32++([Value.slice none 0 0]++([Value.int .u32 0]++([Value.int .u32 0]++([Value.slice none 0 0]++([Value.slice none 0 0]))))))++([Value.slice none 0 0]++(([]:List Value)))))))=(([]:List Value)++([Value.int .i64 x1]))++(x2.map bv++([Value.int .u32 0]++(([Value.int .i64 0]++(([Value.bool false]++([Value.int .u64 0]++lPT ⟨0,0,false⟩))++([Value.slice none 0 0]++([Value.int .u64 0]++(Z32++(Cu.fws 0))))))++((Z32++([Value.slice none 0 0]++([Value.int .u32 0]++([Value.int .u32 0]++([Value.slice none 0 0]++([Value.slice none 0 0]))))))++([Value.slice none 0 0]++(([]:List Value))))))) from List.append_assoc ..]; exact wM 37 (([]:List Value)++([Value.int .i64 x1])) Z32 (x2.map bv) ([Value.int .u32 0]++(([Value.int .i64 0]++(([Value.bool false]++([Value.int .u64 0]++lPT ⟨0,0,false⟩))++([Value.slice none 0 0]++([Value.int .u64 0]++(Z32++(Cu.fws 0))))))++((Z32++([Value.slice none 0 0]++([Value.int .u32 0]++([Value.int .u32 0]++([Value.slice none 0 0]++([Value.slice none 0 0]))))))++([Value.slice none 0 0]++(([]:List Value)))))) 32 1 _ _ J kR kR kR L1 DS n2 (Bw x2)) ?_
 have L2:(([]:List Value)++([Value.int .i64 x1])++(x2.map bv)).length=33:=by rw [List.length_append,L1,n2]
 refine sA<|sp J<|Sy.callT (λw hw=>Hu w0.inn gr sl b a2 e2 ((g2,151,zeIN.toArray)::(g3,151,((([]:List Value)++([Value.int .i64 x1])++(x2.map bv))++([Value.int .u32 0]++(([Value.int .i64 0]++(([Value.bool false]++([Value.int .u64 0]++lPT ⟨0,0,false⟩))++([Value.slice none 0 0]++([Value.int .u64 0]++(Z32++(Cu.fws 0))))))++((Z32++([Value.slice none 0 0]++([Value.int .u32 0]++([Value.int .u32 0]++([Value.slice none 0 0]++([Value.slice none 0 0]))))))++([Value.slice none 0 0]++(([]:List Value))))))).toArray)::R) u2 v2_ hl hv w hw) (λu M hM=>?_)
 obtain ⟨x3,a3,e3,N3,p3,⟨rfl,r3,rfl⟩,u3,v3_,rfl⟩:=hM
 rw [List.append_nil ((g2,151,zeIN.toArray)::(g3,151,((([]:List Value)++([Value.int .i64 x1])++(x2.map bv))++([Value.int .u32 0]++(([Value.int .i64 0]++(([Value.bool false]++([Value.int .u64 0]++lPT ⟨0,0,false⟩))++([Value.slice none 0 0]++([Value.int .u64 0]++(Z32++(Cu.fws 0))))))++((Z32++([Value.slice none 0 0]++([Value.int .u32 0]++([Value.int .u32 0]++([Value.slice none 0 0]++([Value.slice none 0 0]))))))++([Value.slice none 0 0]++(([]:List Value))))))).toArray)::R)]
 refine sS (.int .u32 (x3:Int)) (Quiet.pure (λw=>G2 w _ _ _ x3 r3 J J))<|sP (pT g3 1)<|sP (pT g3 33)<|sw 2 J ((([]:List Value)++([Value.int .i64 x1])++(x2.map bv)++([Value.int .u32 (x3:Int)]))++(([Value.int .i64 0]++(([Value.bool false]++([Value.int .u64 0]++lPT ⟨0,0,false⟩))++([Value.slice none 0 0]++([Value.int .u64 0]++(Z32++(Cu.fws 0))))))++((Z32++([Value.slice none 0 0]++([Value.int .u32 0]++([Value.int .u32 0]++([Value.slice none 0 0]++([Value.slice none 0 0]))))))++([Value.slice none 0 0]++(([]:List Value)))))).toArray (by rw [show ((([]:List Value)++([Value.int .i64 x1])++(x2.map bv)++([Value.int .u32 (x3:Int)]))++(([Value.int .i64 0]++(([Value.bool false]++([Value.int .u64 0]++lPT ⟨0,0,false⟩))++([Value.slice none 0 0]++([Value.int .u64 0]++(Z32++(Cu.fws 0))))))++((Z32++([Value.slice none 0 0]++([Value.int .u32 0]++([Value.int .u32 0]++([Value.slice none 0 0]++([Value.slice none 0 0]))))))++([Value.slice none 0 0]++(([]:List Value))))))=(([]:List Value)++([Value.int .i64 x1])++(x2.map bv))++([Value.int .u32 (x3:Int)]++(([Value.int .i64 0]++(([Value.bool false]++([Value.int .u64 0]++lPT ⟨0,0,false⟩))++([Value.slice none 0 0]++([Value.int .u64 0]++(Z32++(Cu.fws 0))))))++((Z32++([Value.slice none 0 0]++([Value.int .u32 0]++([Value.int .u32 0]++([Value.slice none 0 0]++([Value.slice none 0 0]))))))++([Value.slice none 0 0]++(([]:List Value)))))) from List.append_assoc ..]; exact Writes.one 33 140 (.int .u32 (x3:Int)) _ _ J kR kR kR J J (by rw [List.size_toArray,List.length_append,L2]; exact Nat.lt_add_of_pos_right (Nat.succ_pos _)) (Aq L2)) ?_
 have L3:(([]:List Value)++([Value.int .i64 x1])++(x2.map bv)++([Value.int .u32 (x3:Int)])).length=34:=by rw [List.length_append,L2]; rfl
 refine sA<|sp J<|Sy.callT (λw hw=>P4 w0.inn gr sl b a3 e3 ((g2,151,zeIN.toArray)::(g3,151,((([]:List Value)++([Value.int .i64 x1])++(x2.map bv)++([Value.int .u32 (x3:Int)]))++(([Value.int .i64 0]++(([Value.bool false]++([Value.int .u64 0]++lPT ⟨0,0,false⟩))++([Value.slice none 0 0]++([Value.int .u64 0]++(Z32++(Cu.fws 0))))))++((Z32++([Value.slice none 0 0]++([Value.int .u32 0]++([Value.int .u32 0]++([Value.slice none 0 0]++([Value.slice none 0 0]))))))++([Value.slice none 0 0]++(([]:List Value)))))).toArray)::R) u3 v3_ hl hv w hw) (λu M hM=>?_)
 obtain ⟨x4,a4,e4,N4,p4,⟨c4,rfl,n4,o4,r4⟩,u4,v4_,rfl⟩:=hM
 refine Sy.permS (M:=RB gr sl a4 e4 ((g2,151,zeIN.toArray)::(g3,151,((([]:List Value)++([Value.int .i64 x1])++(x2.map bv)++([Value.int .u32 (x3:Int)]))++(([Value.int .i64 0]++(([Value.bool false]++([Value.int .u64 0]++lPT ⟨0,0,false⟩))++([Value.slice none 0 0]++([Value.int .u64 0]++(Z32++(Cu.fws 0))))))++((Z32++([Value.slice none 0 0]++([Value.int .u32 0]++([Value.int .u32 0]++([Value.slice none 0 0]++([Value.slice none 0 0]))))))++([Value.slice none 0 0]++(([]:List Value)))))).toArray)::(R++N4))) (List.Perm.of_eq (by simp only [List.cons_append,List.append_assoc]))<|sP (pT g3 34)<|sw 2 J ((([]:List Value)++([Value.int .i64 x1])++(x2.map bv)++([Value.int .u32 (x3:Int)])++(c4))++((Z32++([Value.slice none 0 0]++([Value.int .u32 0]++([Value.int .u32 0]++([Value.slice none 0 0]++([Value.slice none 0 0]))))))++([Value.slice none 0 0]++(([]:List Value))))).toArray (by rw [show ((([]:List Value)++([Value.int .i64 x1])++(x2.map bv)++([Value.int .u32 (x3:Int)])++(c4))++((Z32++([Value.slice none 0 0]++([Value.int .u32 0]++([Value.int .u32 0]++([Value.slice none 0 0]++([Value.slice none 0 0]))))))++([Value.slice none 0 0]++(([]:List Value)))))=(([]:List Value)++([Value.int .i64 x1])++(x2.map bv)++([Value.int .u32 (x3:Int)]))++(c4++((Z32++([Value.slice none 0 0]++([Value.int .u32 0]++([Value.int .u32 0]++([Value.slice none 0 0]++([Value.slice none 0 0]))))))++([Value.slice none 0 0]++(([]:List Value))))) from List.append_assoc ..]; exact wM 145 (([]:List Value)++([Value.int .i64 x1])++(x2.map bv)++([Value.int .u32 (x3:Int)])) ([Value.int .i64 0]++(([Value.bool false]++([Value.int .u64 0]++lPT ⟨0,0,false⟩))++([Value.slice none 0 0]++([Value.int .u64 0]++(Z32++(Cu.fws 0)))))) c4 ((Z32++([Value.slice none 0 0]++([Value.int .u32 0]++([Value.int .u32 0]++([Value.slice none 0 0]++([Value.slice none 0 0]))))))++([Value.slice none 0 0]++(([]:List Value)))) 50 34 _ _ J kR kR kR L3 J n4 o4) ?_
 have L4:(([]:List Value)++([Value.int .i64 x1])++(x2.map bv)++([Value.int .u32 (x3:Int)])++(c4)).length=84:=by rw [List.length_append,L3,n4]
 refine sG<|Sy.seq<|Sj (T:=MPg×List Value×Nat×Nat×AA) (λ_=>[(0,ptr gr),(2,ptr g2),(3,ptr g3)]) (λy=>RB gr sl y.2.2.1 y.2.2.2.1 ((g2,151,zeIN.toArray)::(g3,151,((([]:List Value)++([Value.int .i64 x1])++(x2.map bv)++([Value.int .u32 (x3:Int)])++(c4)++(y.2.1))++([Value.slice none 0 0]++(([]:List Value)))).toArray)::((R++N4)++y.2.2.2.2))) (λy=>After (if x1=2 then JI else BO zPG) ⟨b.drop a4,e4⟩ y.1 ⟨b.drop y.2.2.1,y.2.2.2.1⟩∧y.2.1.length=37∧(∀ u∈y.2.1,u.oneCell'=true)∧D3 (rdB y.2.2.2.2) y.2.1 y.1∧y.2.2.1≤b.length∧y.2.2.2.1≤200) (λy hy=>?_) (λK=>?_)
 case' refine_2 =>
  refine sC ?_
  by_cases hk:x1=2
  ·subst hk
   refine sP (pT g3 0)<|sS (.int .i64 2) (Quiet.cell 2 g3 0 151 3 ((([]:List Value)++([Value.int .i64 2])++(x2.map bv)++([Value.int .u32 (x3:Int)])++(c4))++((Z32++([Value.slice none 0 0]++([Value.int .u32 0]++([Value.int .u32 0]++([Value.slice none 0 0]++([Value.slice none 0 0]))))))++([Value.slice none 0 0]++(([]:List Value))))).toArray _ _ J kR J uy3 J _ J)<|sP (.bool true)<|sG<|sT<|Sy.region<|sp J<|Sy.callT (λw hw=>PN w0.inn gr sl b a4 e4 ((g2,151,zeIN.toArray)::(g3,151,((([]:List Value)++([Value.int .i64 2])++(x2.map bv)++([Value.int .u32 (x3:Int)])++(c4))++((Z32++([Value.slice none 0 0]++([Value.int .u32 0]++([Value.int .u32 0]++([Value.slice none 0 0]++([Value.slice none 0 0]))))))++([Value.slice none 0 0]++(([]:List Value))))).toArray)::(R++N4)) u4 v4_ hl hv w hw) (λu M hM=>?_)
   obtain ⟨x5,a5,e5,N5,p5,⟨c5,rfl,n5,o5,r5⟩,u5,v5_,rfl⟩:=hM
   refine Sy.permS (M:=RB gr sl a5 e5 ((g2,151,zeIN.toArray)::(g3,151,((([]:List Value)++([Value.int .i64 2])++(x2.map bv)++([Value.int .u32 (x3:Int)])++(c4))++((Z32++([Value.slice none 0 0]++([Value.int .u32 0]++([Value.int .u32 0]++([Value.slice none 0 0]++([Value.slice none 0 0]))))))++([Value.slice none 0 0]++(([]:List Value))))).toArray)::((R++N4)++N5))) (List.Perm.of_eq (by simp only [List.cons_append,List.append_assoc]))<|sP (pT g3 84)<|sw 2 J ((([]:List Value)++([Value.int .i64 2])++(x2.map bv)++([Value.int .u32 (x3:Int)])++(c4)++(c5))++([Value.slice none 0 0]++(([]:List Value)))).toArray (by rw [show ((([]:List Value)++([Value.int .i64 2])++(x2.map bv)++([Value.int .u32 (x3:Int)])++(c4)++(c5))++([Value.slice none 0 0]++(([]:List Value))))=(([]:List Value)++([Value.int .i64 2])++(x2.map bv)++([Value.int .u32 (x3:Int)])++(c4))++(c5++([Value.slice none 0 0]++(([]:List Value)))) from List.append_assoc ..]; exact wM 148 (([]:List Value)++([Value.int .i64 2])++(x2.map bv)++([Value.int .u32 (x3:Int)])++(c4)) (Z32++([Value.slice none 0 0]++([Value.int .u32 0]++([Value.int .u32 0]++([Value.slice none 0 0]++([Value.slice none 0 0])))))) c5 ([Value.slice none 0 0]++(([]:List Value))) 37 84 _ _ J kR kR kR L4 J n5 o5) ?_
   have L5:(([]:List Value)++([Value.int .i64 2])++(x2.map bv)++([Value.int .u32 (x3:Int)])++(c4)++(c5)).length=121:=by rw [List.length_append,L4,n5]
   refine Sy.nil ?_
   exact Ml K (x5,c5,a5,e5,N5) ⟨by rw [if_pos J]; exact p5,n5,o5,r5,u5,v5_⟩ ac3 (λ_ h=>h)
  refine sP (pT g3 0)<|sS (.int .i64 x1) (Quiet.cell 2 g3 0 151 3 ((([]:List Value)++([Value.int .i64 x1])++(x2.map bv)++([Value.int .u32 (x3:Int)])++(c4))++((Z32++([Value.slice none 0 0]++([Value.int .u32 0]++([Value.int .u32 0]++([Value.slice none 0 0]++([Value.slice none 0 0]))))))++([Value.slice none 0 0]++(([]:List Value))))).toArray _ _ J kR J uy3 J _ J)<|sS (.bool false) (Quiet.pure (AD .eql _ _ _ .i64 _ _ _ J J J (Ab _ _ _ _ _ (decide_eq_false hk))))<|sG<|sU<|Sy.skip ?_
  exact Ml K (zPG,(Z32++([Value.slice none 0 0]++([Value.int .u32 0]++([Value.int .u32 0]++([Value.slice none 0 0]++([Value.slice none 0 0])))))),a4,e4,[]) ⟨by rw [if_neg hk]; exact After.ret zPG _,rfl,PY (Gs (rdB [])),Gs (rdB []),u4,v4_⟩ ac3 (λw h=>Sy.St.perm (L:=RB gr sl a4 e4 ((g2,151,zeIN.toArray)::(g3,151,((([]:List Value)++([Value.int .i64 x1])++(x2.map bv)++([Value.int .u32 (x3:Int)])++(c4))++((Z32++([Value.slice none 0 0]++([Value.int .u32 0]++([Value.int .u32 0]++([Value.slice none 0 0]++([Value.slice none 0 0]))))))++([Value.slice none 0 0]++(([]:List Value))))).toArray)::(R++N4))) h (List.Perm.of_eq (by simp only [List.append_assoc,List.append_nil])))
 obtain ⟨x5,c5,a5,e5,N5⟩:=y
 obtain ⟨p5,n5,o5,r5,u5,v5_⟩:=hy
 dsimp only at p5 n5 o5 r5 u5 v5_ ⊢
 refine Sy.then_ ?_
 have L5:(([]:List Value)++([Value.int .i64 x1])++(x2.map bv)++([Value.int .u32 (x3:Int)])++(c4)++(c5)).length=121:=by rw [List.length_append,L4,n5]
 refine sC ?_
 obtain ⟨CW,hCW⟩:=xE ((([]:List Value)++([Value.int .i64 x1])++(x2.map bv)++([Value.int .u32 (x3:Int)])++(c4)++(c5)))
 rw [← hCW] at L5 ⊢
 refine sp J<|Sy.callT (λw hw=>E0 w0.inn gr sl b a5 e5 16 ((g2,151,zeIN.toArray)::(g3,151,(CW++([Value.slice none 0 0]++(([]:List Value)))).toArray)::((R++N4)++N5)) u5 v5_ dZ hl hv w hw) (λu M hM=>?_)
 obtain ⟨nW,amW,emW,NmW,qmW,⟨rfl,hmW,rfl⟩,umW,vmW,rfl⟩:=hM
 rw [List.append_nil ((g2,151,zeIN.toArray)::(g3,151,(CW++([Value.slice none 0 0]++(([]:List Value)))).toArray)::((R++N4)++N5))]
 refine sp J<|sG<|Sy.seq<|sC<|sP (.int .i64 0)<|sG<|Sy.block<|Sy.loopT (Y:=RLsN Byt) nW (λi _=>[(0,ptr gr),(2,ptr g2),(3,ptr g3),(4,.int .i64 (nW:Int)),(5,.int .i64 (i:Int))]) (λ_ y=>[(gr,166,rrC sl y.at_ y.e),(g2,151,zeIN.toArray),(g3,151,(CW++([y.r.v]++(([]:List Value)))).toArray)]++(y.r.bl++(((R++N4)++N5)++y.N))) (λi y=>After (CK (Bu 256) i) ⟨b.drop amW,emW⟩ y.xs ⟨b.drop y.at_,y.e⟩∧y.at_≤b.length∧y.e≤200∧y.xs.length=i∧RowsOk 27 1 DP y.r y.N y.xs) ⟨amW,emW,[],nilS,[]⟩ ⟨After.ret [] _,umW,vmW,rfl,RowsOk.nil⟩ ac5 (λ_ h=>h.perm (List.Perm.of_eq (congrArg (λz=>(gr,166,rrC sl amW emW)::(g2,151,zeIN.toArray)::(g3,151,(CW++([Value.slice none 0 0]++(([]:List Value)))).toArray)::z) (List.append_nil ((R++N4)++N5)).symm))) (λi y hi hy=>?_)
 obtain ⟨alW,elW,xsW,rW,NlW⟩:=y
 obtain ⟨y1,ulW,vlW,y4,y5W⟩:=hy
 dsimp only at y1 ulW vlW y4 y5W ⊢
 obtain ⟨b3,hb3⟩:=xE (decide (i<nW∧elW=0))
 refine Sy.seq<|Sy.seq<|De [(0,ptr gr),(2,ptr g2),(3,ptr g3),(4,.int .i64 (nW:Int)),(5,.int .i64 (i:Int)),(35,.bool b3)] ([(gr,166,rrC sl alW elW),(g2,151,zeIN.toArray),(g3,151,(CW++([rW.v]++(([]:List Value)))).toArray)]++(rW.bl++(((R++N4)++N5)++NlW))) ?_ ?_
 ·refine Sy.region ?_
  obtain ⟨b1,hb1⟩:=xE (decide (i<nW))
  refine sp J<|sp J<|sS (.bool b1) (qls J J J hb1)<|sp J ?_
  cases b1
  ·obtain rfl:b3=false:=by rw [hb3]; exact decide_eq_false (λh=>of_decide_eq_false hb1.symm h.1)
   refine sN<|sN<|sP (.bool false)<|Sy.nil ?_
   exact BK ac6 (λ_ h=>h)
  ·obtain ⟨b2,hb2⟩:=xE (decide (elW=0))
   obtain rfl:b3=b2:=by rw [hb3,hb2]; exact decide_eq_decide.2 ⟨λh=>h.2,λh=>⟨of_decide_eq_true hb1.symm,h⟩⟩
   refine sp J<|sS (.bool b3) (qg (λw hw=>by rw [hb2]; exact Fw w0.inn gr sl alW elW (List.mem_cons_self ..) w hw))<|sP (.bool b3)<|Sy.nil ?_
   exact BK ac6 (λ_ h=>h)
 refine Sy.then_ ?_
 cases b3
 case' false =>
  have l3:=dN hb3
  have hAW:After (CK (Bu 256) nW) ⟨b.drop amW,emW⟩ xsW ⟨b.drop alW,elW⟩:=by
   by_cases h:i<nW
   ·exact y1.stop (λh0=>l3 ⟨h,h0⟩) hi
   ·obtain rfl:nW=i:=om
    exact y1
  have hLW:=RowsOk.lst (rep:=DP) Cr y5W
  refine sU<|Sy.exit<|Sy.then_exit<|Sy.then_exit<|Sy.in_exit<|Sy.then_ ?_
  have L6:(CW++([rW.v])).length=122:=by rw [List.length_append,L5]; rfl
  have hAf:After EY ⟨b.drop at_,e⟩ ⟨x1,x2,x3,x4,x5,xsW⟩ ⟨b.drop alW,elW⟩:=by unfold EY; rw [← S6]; exact p1.bind (p2.bind (p3.bind (p4.bind (p5.bind ((qmW.bind hAW).bind (After.ret _ _))))))
  have hrp:CT (rdB (N4++(N5++(NlW++(rW.bl))))) ((CW++([rW.v]))++([]:List Value)) ⟨x1,x2,x3,x4,x5,xsW⟩:=⟨c4,c5,rW.v,by rw [hCW]; simp only [List.append_assoc,List.append_nil,List.nil_append],r2,r3,Hw (Ac λb h=>by simp [h]) r4,LZ (Ac λb h=>by simp [h]) r5,LstR.le (rep:=DP) Cr (Ac λb h=>by simp only [List.mem_append] at h ⊢; rcases h with h | h <;> simp [h]) hLW⟩
  have hln:((CW++([rW.v]))++([]:List Value)).length=122:=by rw [List.length_append,L6]; rfl
  have hon:∀ u∈((CW++([rW.v]))++([]:List Value)),u.oneCell'=true:=MZ hrp
  refine sC<|Sy.permS (M:=RB gr sl alW elW ((g2,151,zeIN.toArray)::(g3,151,((CW++([rW.v]))++([]:List Value)).toArray)::(rW.bl++(((R++N4)++N5)++NlW)))) (List.Perm.of_eq (by simp only [List.append_assoc,List.cons_append,List.nil_append]))<|sS (.agg ((CW++([rW.v]))++([]:List Value)).toArray) (Quiet.mid 2 g3 0 122 151 151 ((CW++([rW.v]))++([]:List Value)) ((CW++([rW.v]))++([]:List Value)) _ _ J kR J E8 J kR (by rw [List.drop_zero,List.take_of_length_le om]) om)<|sw 1 J ((CW++([rW.v]))++([]:List Value)).toArray (Writes.row 151 ((CW++([rW.v]))++([]:List Value)) 122 _ _ J kR kR kR hln kZ hon)<|sG<|Sy.ret ?_
  exact Sy.retT1 (RB gr sl alW elW (R++(N4++(N5++(NlW++(rW.bl)))))) J (.inl (Sy.Res.cell (ty':=151) g2 1 ((CW++([rW.v]))++([]:List Value)).toArray _ kZ J E8 J (by rw [List.size_toArray,hln]; kernel_rfl) rfl)) (λ_ h=>Sy.St.parts (ls:=[[(gr,166,rrC sl alW elW)],[(g2,151,((CW++([rW.v]))++([]:List Value)).toArray)],[(g3,151,((CW++([rW.v]))++([]:List Value)).toArray)],rW.bl,R,N4,N5,NlW]) (ms:=[[(gr,166,rrC sl alW elW)],R,N4,N5,NlW,rW.bl]) [[(g2,151,((CW++([rW.v]))++([]:List Value)).toArray)],[(g3,151,((CW++([rW.v]))++([]:List Value)).toArray)]] [0,4,5,6,7,3,1,2] kZ (by rfl) (by simp) (by simp) h) ⟨_,alW,elW,N4++(N5++(NlW++(rW.bl))),hAf,⟨((CW++([rW.v]))++([]:List Value)),rfl,hln,hon,hrp⟩,ulW,vlW,rfl⟩
 obtain ⟨l1,l2⟩:i<nW∧elW=0:=of_decide_eq_true hb3.symm
 obtain ⟨ys,t1,t2,t3⟩:=y5W
 refine sT<|Sy.skip<|Sy.then_<|Sy.seq<|Sy.block<|Sy.regionD (λj=>j == 3 || j == 5 || j == 7) kR<|sb 0 J (pT g3 121)<|sa 2 J J<|Sy.joinG (T:=Byt×Nat×Nat×Nat×List Value×AA) (λy=>[(0,ptr gr),(2,ptr g2),(3,ptr g3),(4,.int .i64 (nW:Int)),(5,.int .i64 (i:Int)),(39,rW.v),(41,hd1 y.2.2.2.2.1),(42,.slice (some ⟨y.2.2.2.1,0,none⟩) 1 1)]) (λy=>[(gr,166,rrC sl y.2.1 y.2.2.1),(g2,151,zeIN.toArray),(g3,151,(CW++([rW.v]++(([]:List Value)))).toArray),(y.2.2.2.1,27,y.2.2.2.2.1.toArray)]++(rW.bl++(((R++N4)++N5)++(NlW++y.2.2.2.2.2)))) (λy=>After (Bu 256) ⟨b.drop alW,elW⟩ y.1 ⟨b.drop y.2.1,y.2.2.1⟩∧y.2.2.2.2.1.length=1∧(∀ u∈y.2.2.2.2.1,u.oneCell'=true)∧DP (rdB y.2.2.2.2.2) y.2.2.2.2.1 y.1∧y.2.1≤b.length∧y.2.2.1≤200) 3 #[true,true,true,true,true,false,false,false] (λy hy=>?_) (λk=>?_)
 case refine_2 =>
  refine Sy.anyOf [1,3] kZ dZ (Sy.each2 ?_ ?_)
  ·refine Sy.oneQuiet J kZ rW.v (Quiet.cell 2 g3 121 151 149 (CW++([rW.v]++(([]:List Value)))).toArray _ _ J kR J DX J _ (by rw [List.getElem?_toArray,List.getElem?_append_right (Nat.le_of_eq L5),L5]; rfl)) ?_
   refine Sy.soleD 3 J (λQ2 hq2=>?_)
   refine Sy.callT (λw hw=>CV 256 dZ w0.inn gr sl b alW elW ((g2,151,zeIN.toArray)::(g3,151,(CW++([rW.v]++(([]:List Value)))).toArray)::(rW.bl++(((R++N4)++N5)++NlW))) ulW vlW hl hv w hw) (λu M hM=>?_)
   obtain ⟨x2',a4',e4',N5',s1,tb,s3,s4,rfl⟩:=hM
   obtain ⟨A8,n8,c8,rfl,t8⟩:=tb.byt
   have t6:∀ u'∈[Value.slice A8 n8 c8],u'.oneCell'=true:=λu' hu'=>by rw [List.mem_singleton.1 hu']; rfl
   have t7:DP (rdB N5') [Value.slice A8 n8 c8] x2':=⟨_,rfl,_,_,_,rfl,t8⟩
   refine Sy.permS (M:=[(gr,166,rrC sl a4' e4'),(g2,151,zeIN.toArray),(g3,151,(CW++([rW.v]++(([]:List Value)))).toArray)]++(rW.bl++(((R++N4)++N5)++(NlW++N5')))) (List.Perm.of_eq (by simp only [List.append_assoc,List.cons_append,List.nil_append]))<|hq2 _ _<|Sy.makeD 4 J kR kR 27 #[.slice A8 n8 c8] (λg=>.slice (pA g) 1 1) kF (λg7=>?_)
   exact EW k (x2',a4',e4',g7,[.slice A8 n8 c8],N5') ⟨s1,rfl,t6,t7,s3,s4⟩ rfl ac8 (Sy.mov_perm (pre:=[(gr,166,rrC sl a4' e4'),(g2,151,zeIN.toArray),(g3,151,(CW++([rW.v]++(([]:List Value)))).toArray)]) (T:=rW.bl++(((R++N4)++N5)++(NlW++N5'))))
  ·refine RT J kZ J (λQ2 hq2=>?_)
   refine Sy.callT (λw hw=>CV 256 dZ w0.inn gr sl b alW elW ((g2,151,zeIN.toArray)::(g3,151,(CW++([rW.v]++(([]:List Value)))).toArray)::(rW.bl++(((R++N4)++N5)++NlW))) ulW vlW hl hv w hw) (λu M hM=>?_)
   obtain ⟨x2',a4',e4',N5',s1,tb,s3,s4,rfl⟩:=hM
   obtain ⟨A8,n8,c8,rfl,t8⟩:=tb.byt
   have t6:∀ u'∈[Value.slice A8 n8 c8],u'.oneCell'=true:=λu' hu'=>by rw [List.mem_singleton.1 hu']; rfl
   have t7:DP (rdB N5') [Value.slice A8 n8 c8] x2':=⟨_,rfl,_,_,_,rfl,t8⟩
   refine Sy.permS (M:=[(gr,166,rrC sl a4' e4'),(g2,151,zeIN.toArray),(g3,151,(CW++([rW.v]++(([]:List Value)))).toArray)]++(rW.bl++(((R++N4)++N5)++(NlW++N5')))) (List.Perm.of_eq (by simp only [List.append_assoc,List.cons_append,List.nil_append]))<|hq2 _ _<|Sy.anyOf [1,4] kZ dZ (Sy.each2 ?_ ?_)
   ·refine Sy.oneQuiet J kZ rW.v (Quiet.cell 2 g3 121 151 149 (CW++([rW.v]++(([]:List Value)))).toArray _ _ J kR J DX J _ (by rw [List.getElem?_toArray,List.getElem?_append_right (Nat.le_of_eq L5),L5]; rfl)) ?_
    refine Sy.makeD 4 J kR kR 27 #[.slice A8 n8 c8] (λg=>.slice (pA g) 1 1) kF (λg7=>?_)
    exact EW k (x2',a4',e4',g7,[.slice A8 n8 c8],N5') ⟨s1,rfl,t6,t7,s3,s4⟩ rfl ac8 (Sy.mov_perm (pre:=[(gr,166,rrC sl a4' e4'),(g2,151,zeIN.toArray),(g3,151,(CW++([rW.v]++(([]:List Value)))).toArray)]) (T:=rW.bl++(((R++N4)++N5)++(NlW++N5'))))
   ·refine Sy.oneMake J kZ 27 #[.slice A8 n8 c8] (λg=>.slice (pA g) 1 1) kF (λg7=>?_)
    refine Sy.anyOf [1] kZ dZ (Sy.each1 ?_)
    refine Sy.oneQuiet J kZ rW.v (Quiet.cell 2 g3 121 151 149 (CW++([rW.v]++(([]:List Value)))).toArray _ _ J kR J DX J _ (by rw [List.getElem?_toArray,List.getElem?_append_right (Nat.le_of_eq L5),L5]; rfl)) ?_
    exact EW k (x2',a4',e4',g7,[.slice A8 n8 c8],N5') ⟨s1,rfl,t6,t7,s3,s4⟩ rfl ac8 (Sy.mov_perm (pre:=[(gr,166,rrC sl a4' e4'),(g2,151,zeIN.toArray),(g3,151,(CW++([rW.v]++(([]:List Value)))).toArray)]) (T:=rW.bl++(((R++N4)++N5)++(NlW++N5'))))
 obtain ⟨z2,z4,w4,g7,cx,N6⟩:=y
 obtain ⟨s1,t5,t6,t7,s3,s4⟩:=hy
 dsimp only at s1 t5 t6 t7 s3 s4 ⊢
 obtain ⟨A9,n9,c9,rfl⟩:=Hq t7
 refine Sy.soleD 5 J (λQ2 hq2=>?_)
 refine Sy.appendR (pre:=[(gr,166,rrC sl z4 w4),(g2,151,zeIN.toArray),(g3,151,(CW++([rW.v]++(([]:List Value)))).toArray),(g7,27,[.slice A9 n9 c9].toArray)]) (T:=((R++N4)++N5)++(NlW++N6)) kR 149 27 _ _ 1 24 DX Kb J J J J dZ _ _ J t1 kR [.slice A9 n9 c9] t5 t6 3 g7 27 kR kR om (by simp only [maxLen]; omega) (λr' hr'=>?_)
 refine hq2 _ _<|sb 6 J (pT g3 121)<|sx 7 J 2 J (CW++([r'.v]++(([]:List Value)))).toArray (Writes.one 121 149 r'.v _ _ J kR kR kR hr'.cells.1 hr'.cells.2 (by rw [List.size_toArray,List.length_append,L5]; exact Nat.lt_add_of_pos_right (Nat.succ_pos _)) (Aq L5))<|sE<|Sy.in_<|Sy.then_<|Sy.region<|sp J<|sS (iZ (i+1)) (qad J J J)<|sp J<|Sy.nil ?_
 have hrows:RowsOk 27 1 DP r' (NlW++N6) (xsW++[z2]):=RowsOk.add (rep:=DP) t2 (λj x hx=>by
  obtain ⟨c,d1,d2⟩:=t3 j x hx
  exact ⟨c,d1,Cr (Ac λb h=>List.mem_append_left _ h) d2⟩) hr' (Cr (Ac λb h=>List.mem_append_right _ h) t7)
 exact Sy.againT ⟨z4,w4,xsW++[z2],r',NlW++N6⟩ l1 ⟨y1.snoc s1,s3,s4,by show (xsW++[_]).length=_; rw [List.length_append,y4]; rfl,hrows⟩ ac5 (λw h=>Sy.St.parts (ls:=[[(gr,166,rrC sl z4 w4),(g2,151,zeIN.toArray),(g3,151,(CW++([r'.v]++(([]:List Value)))).toArray)],[(g7,27,[.slice A9 n9 c9].toArray)],r'.bl++(((R++N4)++N5)++(NlW++N6))]) (ms:=[[(gr,166,rrC sl z4 w4),(g2,151,zeIN.toArray),(g3,151,(CW++([r'.v]++(([]:List Value)))).toArray)],r'.bl++(((R++N4)++N5)++(NlW++N6))]) [[(g7,27,[.slice A9 n9 c9].toArray)]] [0,2,1] kZ (by rfl) (by simp) (by simp) h)
theorem Qs (w0:Base) (gr:Nat) (sl:Value) (b:Byt) (at_ e:Nat) (R:AA) (hat:at_≤b.length) (he:e≤200) (hl:b.length≤70368744177664) (hv:BytR (rdW w0.world) sl b) (w:World) (hw:St w0 w (RB gr sl at_ e R)) :
  AL 33 #[ptr gr] w (AQ w0 (Rfd JH (J6 3 Cy) gr sl b R at_ e)):=by
 have L0:([]:List Value).length=0:=rfl
 refine Sy.enterT (args:=[ptr gr]) hw Tryz.func33 J kL<|sC<|sM 26 zeTR.toArray (λg2=>?_)
 refine Sy.movT (pre:=[(gr,166,rrC sl at_ e)]) (T:=R)<|sA<|sM 26 ((([]:List Value))++([Value.int .u64 0]++([Value.slice none 0 0]++([Value.slice none 0 0]++(([]:List Value)))))).toArray (λg3=>?_)
 refine Sy.movT (pre:=[(gr,166,rrC sl at_ e),(g2,26,zeTR.toArray)]) (T:=R)<|sA<|sp J<|Sy.callT (λw hw=>Ht w0.inn gr sl b at_ e 8 ((g2,26,zeTR.toArray)::(g3,26,((([]:List Value))++([Value.int .u64 0]++([Value.slice none 0 0]++([Value.slice none 0 0]++(([]:List Value)))))).toArray)::R) hat he dZ hl hv w hw) (λu M hM=>?_)
 obtain ⟨x1,a1,e1,N1,p1,⟨rfl,r1,rfl⟩,u1,v1_,rfl⟩:=hM
 rw [List.append_nil ((g2,26,zeTR.toArray)::(g3,26,((([]:List Value))++([Value.int .u64 0]++([Value.slice none 0 0]++([Value.slice none 0 0]++(([]:List Value)))))).toArray)::R)]
 refine sP (pT g3 0)<|sw 2 J ((([]:List Value)++([Value.int .u64 (x1:Int)]))++([Value.slice none 0 0]++([Value.slice none 0 0]++(([]:List Value))))).toArray (by rw [show ((([]:List Value)++([Value.int .u64 (x1:Int)]))++([Value.slice none 0 0]++([Value.slice none 0 0]++(([]:List Value)))))=(([]:List Value))++([Value.int .u64 (x1:Int)]++([Value.slice none 0 0]++([Value.slice none 0 0]++(([]:List Value))))) from List.append_assoc ..]; exact Writes.one 0 22 (uZ (x1:Int)) _ _ J kR kR kR J J (by rw [List.size_toArray,List.length_append,L0]; exact Nat.lt_add_of_pos_right (Nat.succ_pos _)) (Aq L0)) ?_
 have L1:(([]:List Value)++([Value.int .u64 (x1:Int)])).length=1:=by rw [List.length_append,L0]; rfl
 refine sA ?_
 obtain ⟨CI,hCI⟩:=xE ((([]:List Value)++([Value.int .u64 (x1:Int)])))
 rw [← hCI] at L1 ⊢
 refine sp J<|Sy.callT (λw hw=>E0 w0.inn gr sl b a1 e1 16 ((g2,26,zeTR.toArray)::(g3,26,(CI++([Value.slice none 0 0]++([Value.slice none 0 0]++(([]:List Value))))).toArray)::R) u1 v1_ dZ hl hv w hw) (λu M hM=>?_)
 obtain ⟨nI,amI,emI,NmI,qmI,⟨rfl,hmI,rfl⟩,umI,vmI,rfl⟩:=hM
 rw [List.append_nil ((g2,26,zeTR.toArray)::(g3,26,(CI++([Value.slice none 0 0]++([Value.slice none 0 0]++(([]:List Value))))).toArray)::R)]
 refine sp J<|sG<|Sy.seq<|sC<|sP (.int .i64 0)<|sG<|Sy.block<|Sy.loopT (Y:=RLsN MIn) nI (λi _=>[(0,ptr gr),(2,ptr g2),(3,ptr g3),(4,.int .i64 (nI:Int)),(5,.int .i64 (i:Int))]) (λ_ y=>[(gr,166,rrC sl y.at_ y.e),(g2,26,zeTR.toArray),(g3,26,(CI++([y.r.v]++([Value.slice none 0 0]++(([]:List Value))))).toArray)]++(y.r.bl++(R++y.N))) (λi y=>After (CK EY i) ⟨b.drop amI,emI⟩ y.xs ⟨b.drop y.at_,y.e⟩∧y.at_≤b.length∧y.e≤200∧y.xs.length=i∧RowsOk 151 122 CT y.r y.N y.xs) ⟨amI,emI,[],nilS,[]⟩ ⟨After.ret [] _,umI,vmI,rfl,RowsOk.nil⟩ ac5 (λ_ h=>h.perm (List.Perm.of_eq (congrArg (λz=>(gr,166,rrC sl amI emI)::(g2,26,zeTR.toArray)::(g3,26,(CI++([Value.slice none 0 0]++([Value.slice none 0 0]++(([]:List Value))))).toArray)::z) (List.append_nil R).symm))) (λi y hi hy=>?_)
 obtain ⟨alI,elI,xsI,rI,NlI⟩:=y
 obtain ⟨y1,ulI,vlI,y4,y5I⟩:=hy
 dsimp only at y1 ulI vlI y4 y5I ⊢
 obtain ⟨b3,hb3⟩:=xE (decide (i<nI∧elI=0))
 refine Sy.seq<|Sy.seq<|De [(0,ptr gr),(2,ptr g2),(3,ptr g3),(4,.int .i64 (nI:Int)),(5,.int .i64 (i:Int)),(18,.bool b3)] ([(gr,166,rrC sl alI elI),(g2,26,zeTR.toArray),(g3,26,(CI++([rI.v]++([Value.slice none 0 0]++(([]:List Value))))).toArray)]++(rI.bl++(R++NlI))) ?_ ?_
 ·refine Sy.region ?_
  obtain ⟨b1,hb1⟩:=xE (decide (i<nI))
  refine sp J<|sp J<|sS (.bool b1) (qls J J J hb1)<|sp J ?_
  cases b1
  ·obtain rfl:b3=false:=by rw [hb3]; exact decide_eq_false (λh=>of_decide_eq_false hb1.symm h.1)
   refine sN<|sN<|sP (.bool false)<|Sy.nil ?_
   exact BK ac6 (λ_ h=>h)
  ·obtain ⟨b2,hb2⟩:=xE (decide (elI=0))
   obtain rfl:b3=b2:=by rw [hb3,hb2]; exact decide_eq_decide.2 ⟨λh=>h.2,λh=>⟨of_decide_eq_true hb1.symm,h⟩⟩
   refine sp J<|sS (.bool b3) (qg (λw hw=>by rw [hb2]; exact Fw w0.inn gr sl alI elI (List.mem_cons_self ..) w hw))<|sP (.bool b3)<|Sy.nil ?_
   exact BK ac6 (λ_ h=>h)
 refine Sy.then_ ?_
 cases b3
 case' false =>
  have l3:=dN hb3
  have hAI:After (CK EY nI) ⟨b.drop amI,emI⟩ xsI ⟨b.drop alI,elI⟩:=by
   by_cases h:i<nI
   ·exact y1.stop (λh0=>l3 ⟨h,h0⟩) hi
   ·obtain rfl:nI=i:=om
    exact y1
  have hLI:=RowsOk.lst (rep:=CT) En y5I
  refine sU<|Sy.exit<|Sy.then_exit<|Sy.then_exit<|Sy.in_exit<|Sy.then_ ?_
  have L2:(CI++([rI.v])).length=2:=by rw [List.length_append,L1]; rfl
  refine sC<|Sy.permS (M:=RB gr sl alI elI ((g2,26,zeTR.toArray)::(g3,26,((CI++([rI.v]))++([Value.slice none 0 0]++(([]:List Value)))).toArray)::(rI.bl++(R++NlI)))) (List.Perm.of_eq (by simp only [List.append_assoc,List.cons_append,List.nil_append])) ?_
  obtain ⟨CO,hCO⟩:=xE ((CI++([rI.v])))
  rw [← hCO] at L2 ⊢
  refine sp J<|Sy.callT (λw hw=>E0 w0.inn gr sl b alI elI 16 ((g2,26,zeTR.toArray)::(g3,26,(CO++([Value.slice none 0 0]++(([]:List Value)))).toArray)::(rI.bl++(R++NlI))) ulI vlI dZ hl hv w hw) (λu M hM=>?_)
  obtain ⟨nO,amO,emO,NmO,qmO,⟨rfl,hmO,rfl⟩,umO,vmO,rfl⟩:=hM
  rw [List.append_nil ((g2,26,zeTR.toArray)::(g3,26,(CO++([Value.slice none 0 0]++(([]:List Value)))).toArray)::(rI.bl++(R++NlI)))]
  refine sp J<|sG<|Sy.seq<|sC<|sP (.int .i64 0)<|sG<|Sy.block<|Sy.loopT (Y:=RLsN MOu) nO (λi _=>[(0,ptr gr),(2,ptr g2),(3,ptr g3),(4,.int .i64 (nO:Int)),(6,.int .i64 (i:Int))]) (λ_ y=>[(gr,166,rrC sl y.at_ y.e),(g2,26,zeTR.toArray),(g3,26,(CO++([y.r.v]++(([]:List Value)))).toArray)]++(y.r.bl++((rI.bl++(R++NlI))++y.N))) (λi y=>After (CK GM i) ⟨b.drop amO,emO⟩ y.xs ⟨b.drop y.at_,y.e⟩∧y.at_≤b.length∧y.e≤200∧y.xs.length=i∧RowsOk 63 58 Cf y.r y.N y.xs) ⟨amO,emO,[],nilS,[]⟩ ⟨After.ret [] _,umO,vmO,rfl,RowsOk.nil⟩ ac5 (λ_ h=>h.perm (List.Perm.of_eq (congrArg (λz=>(gr,166,rrC sl amO emO)::(g2,26,zeTR.toArray)::(g3,26,(CO++([Value.slice none 0 0]++(([]:List Value)))).toArray)::z) (List.append_nil (rI.bl++(R++NlI))).symm))) (λi y hi hy=>?_)
  obtain ⟨alO,elO,xsO,rO,NlO⟩:=y
  obtain ⟨y1,ulO,vlO,y4,y5O⟩:=hy
  dsimp only at y1 ulO vlO y4 y5O ⊢
  obtain ⟨b3,hb3⟩:=xE (decide (i<nO∧elO=0))
  refine Sy.seq<|Sy.seq<|De [(0,ptr gr),(2,ptr g2),(3,ptr g3),(4,.int .i64 (nO:Int)),(6,.int .i64 (i:Int)),(36,.bool b3)] ([(gr,166,rrC sl alO elO),(g2,26,zeTR.toArray),(g3,26,(CO++([rO.v]++(([]:List Value)))).toArray)]++(rO.bl++((rI.bl++(R++NlI))++NlO))) ?_ ?_
  ·refine Sy.region ?_
   obtain ⟨b1,hb1⟩:=xE (decide (i<nO))
   refine sp J<|sp J<|sS (.bool b1) (qls J J J hb1)<|sp J ?_
   cases b1
   ·obtain rfl:b3=false:=by rw [hb3]; exact decide_eq_false (λh=>of_decide_eq_false hb1.symm h.1)
    refine sN<|sN<|sP (.bool false)<|Sy.nil ?_
    exact BK ac6 (λ_ h=>h)
   ·obtain ⟨b2,hb2⟩:=xE (decide (elO=0))
    obtain rfl:b3=b2:=by rw [hb3,hb2]; exact decide_eq_decide.2 ⟨λh=>h.2,λh=>⟨of_decide_eq_true hb1.symm,h⟩⟩
    refine sp J<|sS (.bool b3) (qg (λw hw=>by rw [hb2]; exact Fw w0.inn gr sl alO elO (List.mem_cons_self ..) w hw))<|sP (.bool b3)<|Sy.nil ?_
    exact BK ac6 (λ_ h=>h)
  refine Sy.then_ ?_
  cases b3
  case' false =>
   have l3:=dN hb3
   have hAO:After (CK GM nO) ⟨b.drop amO,emO⟩ xsO ⟨b.drop alO,elO⟩:=by
    by_cases h:i<nO
    ·exact y1.stop (λh0=>l3 ⟨h,h0⟩) hi
    ·obtain rfl:nO=i:=om
     exact y1
   have hLO:=RowsOk.lst (rep:=Cf) Em y5O
   refine sU<|Sy.exit<|Sy.then_exit<|Sy.then_exit<|Sy.in_exit<|Sy.then_ ?_
   have L3:(CO++([rO.v])).length=3:=by rw [List.length_append,L2]; rfl
   have hAf:After JH ⟨b.drop at_,e⟩ ⟨x1,xsI,xsO⟩ ⟨b.drop alO,elO⟩:=p1.bind ((qmI.bind hAI).bind ((qmO.bind hAO).bind (After.ret _ _)))
   have hrp:Cy (rdB (NlI++(rI.bl++(NlO++(rO.bl))))) ((CO++([rO.v]))++([]:List Value)) ⟨x1,xsI,xsO⟩:=⟨rI.v,rO.v,by rw [hCO]; rw [hCI]; simp only [List.append_assoc,List.append_nil,List.nil_append],r1,LstR.le (rep:=CT) En (Ac λb h=>by simp only [List.mem_append] at h ⊢; rcases h with h | h <;> simp [h]) hLI,LstR.le (rep:=Cf) Em (Ac λb h=>by simp only [List.mem_append] at h ⊢; rcases h with h | h <;> simp [h]) hLO⟩
   have hln:((CO++([rO.v]))++([]:List Value)).length=3:=by rw [List.length_append,L3]; rfl
   have hon:∀ u∈((CO++([rO.v]))++([]:List Value)),u.oneCell'=true:=MX hrp
   refine sC<|Sy.permS (M:=RB gr sl alO elO ((g2,26,zeTR.toArray)::(g3,26,((CO++([rO.v]))++([]:List Value)).toArray)::(rO.bl++((rI.bl++(R++NlI))++NlO)))) (List.Perm.of_eq (by simp only [List.append_assoc,List.cons_append,List.nil_append]))<|sS (.agg ((CO++([rO.v]))++([]:List Value)).toArray) (Quiet.mid 2 g3 0 3 26 26 ((CO++([rO.v]))++([]:List Value)) ((CO++([rO.v]))++([]:List Value)) _ _ J kR J EX J kR (by rw [List.drop_zero,List.take_of_length_le om]) om)<|sw 1 J ((CO++([rO.v]))++([]:List Value)).toArray (Writes.row 26 ((CO++([rO.v]))++([]:List Value)) 3 _ _ J kR kR kR hln kZ hon)<|sG<|Sy.ret ?_
   exact Sy.retT1 (RB gr sl alO elO (R++(NlI++(rI.bl++(NlO++(rO.bl)))))) J (.inl (Sy.Res.cell (ty':=26) g2 1 ((CO++([rO.v]))++([]:List Value)).toArray _ kZ J EX J (by rw [List.size_toArray,hln]; kernel_rfl) rfl)) (λ_ h=>Sy.St.parts (ls:=[[(gr,166,rrC sl alO elO)],[(g2,26,((CO++([rO.v]))++([]:List Value)).toArray)],[(g3,26,((CO++([rO.v]))++([]:List Value)).toArray)],rO.bl,rI.bl,R,NlI,NlO]) (ms:=[[(gr,166,rrC sl alO elO)],R,NlI,rI.bl,NlO,rO.bl]) [[(g2,26,((CO++([rO.v]))++([]:List Value)).toArray)],[(g3,26,((CO++([rO.v]))++([]:List Value)).toArray)]] [0,5,6,4,7,3,1,2] kZ (by rfl) (by simp) (by simp) h) ⟨_,alO,elO,NlI++(rI.bl++(NlO++(rO.bl))),hAf,⟨((CO++([rO.v]))++([]:List Value)),rfl,hln,hon,hrp⟩,ulO,vlO,rfl⟩
  obtain ⟨l1,l2⟩:i<nO∧elO=0:=of_decide_eq_true hb3.symm
  obtain ⟨ys,t1,t2,t3⟩:=y5O
  refine sT<|Sy.skip<|Sy.then_<|Sy.seq<|Sy.block<|Sy.regionD (λj=>j == 3 || j == 5 || j == 7) kR<|sb 0 J (pT g3 2)<|sa 2 J J<|Sy.joinG (T:=MOu×Nat×Nat×Nat×List Value×AA) (λy=>[(0,ptr gr),(2,ptr g2),(3,ptr g3),(4,.int .i64 (nO:Int)),(6,.int .i64 (i:Int)),(40,rO.v),(42,.agg y.2.2.2.2.1.toArray),(43,.slice (some ⟨y.2.2.2.1,0,none⟩) 1 1)]) (λy=>[(gr,166,rrC sl y.2.1 y.2.2.1),(g2,26,zeTR.toArray),(g3,26,(CO++([rO.v]++(([]:List Value)))).toArray),(y.2.2.2.1,63,y.2.2.2.2.1.toArray)]++(rO.bl++((rI.bl++(R++NlI))++(NlO++y.2.2.2.2.2)))) (λy=>After GM ⟨b.drop alO,elO⟩ y.1 ⟨b.drop y.2.1,y.2.2.1⟩∧y.2.2.2.2.1.length=58∧(∀ u∈y.2.2.2.2.1,u.oneCell'=true)∧Cf (rdB y.2.2.2.2.2) y.2.2.2.2.1 y.1∧y.2.1≤b.length∧y.2.2.1≤200) 3 #[true,true,true,true,true,false,false,false] (λy hy=>?_) (λk=>?_)
  case refine_2 =>
   refine Sy.anyOf [1,3] kZ dZ (Sy.each2 ?_ ?_)
   ·refine Sy.oneQuiet J kZ rO.v (Quiet.cell 2 g3 2 26 24 (CO++([rO.v]++(([]:List Value)))).toArray _ _ J kR J EL J _ (by rw [List.getElem?_toArray,List.getElem?_append_right (Nat.le_of_eq L2),L2]; rfl)) ?_
    refine Sy.soleD 3 J (λQ2 hq2=>?_)
    refine Sy.callT (λw hw=>KF w0.inn gr sl b alO elO ((g2,26,zeTR.toArray)::(g3,26,(CO++([rO.v]++(([]:List Value)))).toArray)::(rO.bl++((rI.bl++(R++NlI))++NlO))) ulO vlO hl hv w hw) (λu M hM=>?_)
    obtain ⟨x2',a4',e4',N5',s1,⟨cx,rfl,t5,t6,t7⟩,s3,s4,rfl⟩:=hM
    refine Sy.permS (M:=[(gr,166,rrC sl a4' e4'),(g2,26,zeTR.toArray),(g3,26,(CO++([rO.v]++(([]:List Value)))).toArray)]++(rO.bl++((rI.bl++(R++NlI))++(NlO++N5')))) (List.Perm.of_eq (by simp only [List.append_assoc,List.cons_append,List.nil_append]))<|hq2 _ _<|Sy.makeD 4 J kR kR 63 cx.toArray (λg=>.slice (pA g) 1 1) (Makes.one 24 63 _ _ 58 _ cx J kR EL D' J J t5 dZ dZ) (λg7=>?_)
    exact EW k (x2',a4',e4',g7,cx,N5') ⟨s1,t5,t6,t7,s3,s4⟩ rfl ac8 (Sy.mov_perm (pre:=[(gr,166,rrC sl a4' e4'),(g2,26,zeTR.toArray),(g3,26,(CO++([rO.v]++(([]:List Value)))).toArray)]) (T:=rO.bl++((rI.bl++(R++NlI))++(NlO++N5'))))
   ·refine RT J kZ J (λQ2 hq2=>?_)
    refine Sy.callT (λw hw=>KF w0.inn gr sl b alO elO ((g2,26,zeTR.toArray)::(g3,26,(CO++([rO.v]++(([]:List Value)))).toArray)::(rO.bl++((rI.bl++(R++NlI))++NlO))) ulO vlO hl hv w hw) (λu M hM=>?_)
    obtain ⟨x2',a4',e4',N5',s1,⟨cx,rfl,t5,t6,t7⟩,s3,s4,rfl⟩:=hM
    refine Sy.permS (M:=[(gr,166,rrC sl a4' e4'),(g2,26,zeTR.toArray),(g3,26,(CO++([rO.v]++(([]:List Value)))).toArray)]++(rO.bl++((rI.bl++(R++NlI))++(NlO++N5')))) (List.Perm.of_eq (by simp only [List.append_assoc,List.cons_append,List.nil_append]))<|hq2 _ _<|Sy.anyOf [1,4] kZ dZ (Sy.each2 ?_ ?_)
    ·refine Sy.oneQuiet J kZ rO.v (Quiet.cell 2 g3 2 26 24 (CO++([rO.v]++(([]:List Value)))).toArray _ _ J kR J EL J _ (by rw [List.getElem?_toArray,List.getElem?_append_right (Nat.le_of_eq L2),L2]; rfl)) ?_
     refine Sy.makeD 4 J kR kR 63 cx.toArray (λg=>.slice (pA g) 1 1) (Makes.one 24 63 _ _ 58 _ cx J kR EL D' J J t5 dZ dZ) (λg7=>?_)
     exact EW k (x2',a4',e4',g7,cx,N5') ⟨s1,t5,t6,t7,s3,s4⟩ rfl ac8 (Sy.mov_perm (pre:=[(gr,166,rrC sl a4' e4'),(g2,26,zeTR.toArray),(g3,26,(CO++([rO.v]++(([]:List Value)))).toArray)]) (T:=rO.bl++((rI.bl++(R++NlI))++(NlO++N5'))))
    ·refine Sy.oneMake J kZ 63 cx.toArray (λg=>.slice (pA g) 1 1) (Makes.one 24 63 _ _ 58 _ cx J kR EL D' J J t5 dZ dZ) (λg7=>?_)
     refine Sy.anyOf [1] kZ dZ (Sy.each1 ?_)
     refine Sy.oneQuiet J kZ rO.v (Quiet.cell 2 g3 2 26 24 (CO++([rO.v]++(([]:List Value)))).toArray _ _ J kR J EL J _ (by rw [List.getElem?_toArray,List.getElem?_append_right (Nat.le_of_eq L2),L2]; rfl)) ?_
     exact EW k (x2',a4',e4',g7,cx,N5') ⟨s1,t5,t6,t7,s3,s4⟩ rfl ac8 (Sy.mov_perm (pre:=[(gr,166,rrC sl a4' e4'),(g2,26,zeTR.toArray),(g3,26,(CO++([rO.v]++(([]:List Value)))).toArray)]) (T:=rO.bl++((rI.bl++(R++NlI))++(NlO++N5'))))
  obtain ⟨z2,z4,w4,g7,cx,N6⟩:=y
  obtain ⟨s1,t5,t6,t7,s3,s4⟩:=hy
  dsimp only at s1 t5 t6 t7 s3 s4 ⊢
  refine Sy.soleD 5 J (λQ2 hq2=>?_)
  refine Sy.appendR (pre:=[(gr,166,rrC sl z4 w4),(g2,26,zeTR.toArray),(g3,26,(CO++([rO.v]++(([]:List Value)))).toArray),(g7,63,cx.toArray)]) (T:=(rI.bl++(R++NlI))++(NlO++N6)) kR 24 63 _ _ 58 304 EL D' J J J J dZ _ _ J t1 kR cx t5 t6 3 g7 63 kR kR om (by simp only [maxLen]; omega) (λr' hr'=>?_)
  refine hq2 _ _<|sb 6 J (pT g3 2)<|sx 7 J 2 J (CO++([r'.v]++(([]:List Value)))).toArray (Writes.one 2 24 r'.v _ _ J kR kR kR hr'.cells.1 hr'.cells.2 (by rw [List.size_toArray,List.length_append,L2]; exact Nat.lt_add_of_pos_right (Nat.succ_pos _)) (Aq L2))<|sE<|Sy.in_<|Sy.then_<|Sy.region<|sp J<|sS (iZ (i+1)) (qad J J J)<|sp J<|Sy.nil ?_
  have hrows:RowsOk 63 58 Cf r' (NlO++N6) (xsO++[z2]):=RowsOk.add (rep:=Cf) t2 (λj x hx=>by
   obtain ⟨c,d1,d2⟩:=t3 j x hx
   exact ⟨c,d1,Em (Ac λb h=>List.mem_append_left _ h) d2⟩) hr' (Em (Ac λb h=>List.mem_append_right _ h) t7)
  exact Sy.againT ⟨z4,w4,xsO++[z2],r',NlO++N6⟩ l1 ⟨y1.snoc s1,s3,s4,by show (xsO++[_]).length=_; rw [List.length_append,y4]; rfl,hrows⟩ ac5 (λw h=>Sy.St.parts (ls:=[[(gr,166,rrC sl z4 w4),(g2,26,zeTR.toArray),(g3,26,(CO++([r'.v]++(([]:List Value)))).toArray)],[(g7,63,cx.toArray)],r'.bl++((rI.bl++(R++NlI))++(NlO++N6))]) (ms:=[[(gr,166,rrC sl z4 w4),(g2,26,zeTR.toArray),(g3,26,(CO++([r'.v]++(([]:List Value)))).toArray)],r'.bl++((rI.bl++(R++NlI))++(NlO++N6))]) [[(g7,63,cx.toArray)]] [0,2,1] kZ (by rfl) (by simp) (by simp) h)
 obtain ⟨l1,l2⟩:i<nI∧elI=0:=of_decide_eq_true hb3.symm
 obtain ⟨ys,t1,t2,t3⟩:=y5I
 refine sT<|Sy.skip<|Sy.then_<|Sy.seq<|Sy.block<|Sy.regionD (λj=>j == 3 || j == 5 || j == 7) kR<|sb 0 J (pT g3 1)<|sa 2 J J<|Sy.joinG (T:=MIn×Nat×Nat×Nat×List Value×AA) (λy=>[(0,ptr gr),(2,ptr g2),(3,ptr g3),(4,.int .i64 (nI:Int)),(5,.int .i64 (i:Int)),(22,rI.v),(24,.agg y.2.2.2.2.1.toArray),(25,.slice (some ⟨y.2.2.2.1,0,none⟩) 1 1)]) (λy=>[(gr,166,rrC sl y.2.1 y.2.2.1),(g2,26,zeTR.toArray),(g3,26,(CI++([rI.v]++([Value.slice none 0 0]++(([]:List Value))))).toArray),(y.2.2.2.1,151,y.2.2.2.2.1.toArray)]++(rI.bl++(R++(NlI++y.2.2.2.2.2)))) (λy=>After EY ⟨b.drop alI,elI⟩ y.1 ⟨b.drop y.2.1,y.2.2.1⟩∧y.2.2.2.2.1.length=122∧(∀ u∈y.2.2.2.2.1,u.oneCell'=true)∧CT (rdB y.2.2.2.2.2) y.2.2.2.2.1 y.1∧y.2.1≤b.length∧y.2.2.1≤200) 3 #[true,true,true,true,true,false,false,false] (λy hy=>?_) (λk=>?_)
 case refine_2 =>
  refine Sy.anyOf [1,3] kZ dZ (Sy.each2 ?_ ?_)
  ·refine Sy.oneQuiet J kZ rI.v (Quiet.cell 2 g3 1 26 23 (CI++([rI.v]++([Value.slice none 0 0]++(([]:List Value))))).toArray _ _ J kR J EM J _ (by rw [List.getElem?_toArray,List.getElem?_append_right (Nat.le_of_eq L1),L1]; rfl)) ?_
   refine Sy.soleD 3 J (λQ2 hq2=>?_)
   refine Sy.callT (λw hw=>Mn w0.inn gr sl b alI elI ((g2,26,zeTR.toArray)::(g3,26,(CI++([rI.v]++([Value.slice none 0 0]++(([]:List Value))))).toArray)::(rI.bl++(R++NlI))) ulI vlI hl hv w hw) (λu M hM=>?_)
   obtain ⟨x2',a4',e4',N5',s1,⟨cx,rfl,t5,t6,t7⟩,s3,s4,rfl⟩:=hM
   refine Sy.permS (M:=[(gr,166,rrC sl a4' e4'),(g2,26,zeTR.toArray),(g3,26,(CI++([rI.v]++([Value.slice none 0 0]++(([]:List Value))))).toArray)]++(rI.bl++(R++(NlI++N5')))) (List.Perm.of_eq (by simp only [List.append_assoc,List.cons_append,List.nil_append]))<|hq2 _ _<|Sy.makeD 4 J kR kR 151 cx.toArray (λg=>.slice (pA g) 1 1) (Makes.one 23 151 _ _ 122 _ cx J kR EM EA J J t5 dZ dZ) (λg7=>?_)
   exact EW k (x2',a4',e4',g7,cx,N5') ⟨s1,t5,t6,t7,s3,s4⟩ rfl ac8 (Sy.mov_perm (pre:=[(gr,166,rrC sl a4' e4'),(g2,26,zeTR.toArray),(g3,26,(CI++([rI.v]++([Value.slice none 0 0]++(([]:List Value))))).toArray)]) (T:=rI.bl++(R++(NlI++N5'))))
  ·refine RT J kZ J (λQ2 hq2=>?_)
   refine Sy.callT (λw hw=>Mn w0.inn gr sl b alI elI ((g2,26,zeTR.toArray)::(g3,26,(CI++([rI.v]++([Value.slice none 0 0]++(([]:List Value))))).toArray)::(rI.bl++(R++NlI))) ulI vlI hl hv w hw) (λu M hM=>?_)
   obtain ⟨x2',a4',e4',N5',s1,⟨cx,rfl,t5,t6,t7⟩,s3,s4,rfl⟩:=hM
   refine Sy.permS (M:=[(gr,166,rrC sl a4' e4'),(g2,26,zeTR.toArray),(g3,26,(CI++([rI.v]++([Value.slice none 0 0]++(([]:List Value))))).toArray)]++(rI.bl++(R++(NlI++N5')))) (List.Perm.of_eq (by simp only [List.append_assoc,List.cons_append,List.nil_append]))<|hq2 _ _<|Sy.anyOf [1,4] kZ dZ (Sy.each2 ?_ ?_)
   ·refine Sy.oneQuiet J kZ rI.v (Quiet.cell 2 g3 1 26 23 (CI++([rI.v]++([Value.slice none 0 0]++(([]:List Value))))).toArray _ _ J kR J EM J _ (by rw [List.getElem?_toArray,List.getElem?_append_right (Nat.le_of_eq L1),L1]; rfl)) ?_
    refine Sy.makeD 4 J kR kR 151 cx.toArray (λg=>.slice (pA g) 1 1) (Makes.one 23 151 _ _ 122 _ cx J kR EM EA J J t5 dZ dZ) (λg7=>?_)
    exact EW k (x2',a4',e4',g7,cx,N5') ⟨s1,t5,t6,t7,s3,s4⟩ rfl ac8 (Sy.mov_perm (pre:=[(gr,166,rrC sl a4' e4'),(g2,26,zeTR.toArray),(g3,26,(CI++([rI.v]++([Value.slice none 0 0]++(([]:List Value))))).toArray)]) (T:=rI.bl++(R++(NlI++N5'))))
   ·refine Sy.oneMake J kZ 151 cx.toArray (λg=>.slice (pA g) 1 1) (Makes.one 23 151 _ _ 122 _ cx J kR EM EA J J t5 dZ dZ) (λg7=>?_)
    refine Sy.anyOf [1] kZ dZ (Sy.each1 ?_)
    refine Sy.oneQuiet J kZ rI.v (Quiet.cell 2 g3 1 26 23 (CI++([rI.v]++([Value.slice none 0 0]++(([]:List Value))))).toArray _ _ J kR J EM J _ (by rw [List.getElem?_toArray,List.getElem?_append_right (Nat.le_of_eq L1),L1]; rfl)) ?_
    exact EW k (x2',a4',e4',g7,cx,N5') ⟨s1,t5,t6,t7,s3,s4⟩ rfl ac8 (Sy.mov_perm (pre:=[(gr,166,rrC sl a4' e4'),(g2,26,zeTR.toArray),(g3,26,(CI++([rI.v]++([Value.slice none 0 0]++(([]:List Value))))).toArray)]) (T:=rI.bl++(R++(NlI++N5'))))
 obtain ⟨z2,z4,w4,g7,cx,N6⟩:=y
 obtain ⟨s1,t5,t6,t7,s3,s4⟩:=hy
 dsimp only at s1 t5 t6 t7 s3 s4 ⊢
 refine Sy.soleD 5 J (λQ2 hq2=>?_)
 refine Sy.appendR (pre:=[(gr,166,rrC sl z4 w4),(g2,26,zeTR.toArray),(g3,26,(CI++([rI.v]++([Value.slice none 0 0]++(([]:List Value))))).toArray),(g7,151,cx.toArray)]) (T:=R++(NlI++N6)) kR 23 151 _ _ 122 376 EM EA J J J J dZ _ _ J t1 kR cx t5 t6 3 g7 151 kR kR om (by simp only [maxLen]; omega) (λr' hr'=>?_)
 refine hq2 _ _<|sb 6 J (pT g3 1)<|sx 7 J 2 J (CI++([r'.v]++([Value.slice none 0 0]++(([]:List Value))))).toArray (Writes.one 1 23 r'.v _ _ J kR kR kR hr'.cells.1 hr'.cells.2 (by rw [List.size_toArray,List.length_append,L1]; exact Nat.lt_add_of_pos_right (Nat.succ_pos _)) (Aq L1))<|sE<|Sy.in_<|Sy.then_<|Sy.region<|sp J<|sS (iZ (i+1)) (qad J J J)<|sp J<|Sy.nil ?_
 have hrows:RowsOk 151 122 CT r' (NlI++N6) (xsI++[z2]):=RowsOk.add (rep:=CT) t2 (λj x hx=>by
  obtain ⟨c,d1,d2⟩:=t3 j x hx
  exact ⟨c,d1,En (Ac λb h=>List.mem_append_left _ h) d2⟩) hr' (En (Ac λb h=>List.mem_append_right _ h) t7)
 exact Sy.againT ⟨z4,w4,xsI++[z2],r',NlI++N6⟩ l1 ⟨y1.snoc s1,s3,s4,by show (xsI++[_]).length=_; rw [List.length_append,y4]; rfl,hrows⟩ ac5 (λw h=>Sy.St.parts (ls:=[[(gr,166,rrC sl z4 w4),(g2,26,zeTR.toArray),(g3,26,(CI++([r'.v]++([Value.slice none 0 0]++(([]:List Value))))).toArray)],[(g7,151,cx.toArray)],r'.bl++(R++(NlI++N6))]) (ms:=[[(gr,166,rrC sl z4 w4),(g2,26,zeTR.toArray),(g3,26,(CI++([r'.v]++([Value.slice none 0 0]++(([]:List Value))))).toArray)],r'.bl++(R++(NlI++N6))]) [[(g7,151,cx.toArray)]] [0,2,1] kZ (by rfl) (by simp) (by simp) h)
theorem I_ {α:Type} {ok:α→Bool} {wt:α→Nat} {c:Nat} (h:∀ x,ok x=true→wt x≤c):∀ {l:List α} {n:Nat},(decide (l.length≤n) && l.all ok)=true→(l.map wt).sum≤n*c:=λ{l} {n} hk=>by
 rw [Bool.and_eq_true] at hk
 have hn:=of_decide_eq_true hk.1
 have hs:(l.map wt).sum≤l.length*c:=by
  have ha:=hk.2
  clear hk hn
  induction l with
  | nil=>exact Nat.zero_le _
  | cons x l ih =>
   rw [List.all_cons,Bool.and_eq_true] at ha
   have a:=h x ha.1
   have b:=ih ha.2
   rw [List.map_cons,List.sum_cons,List.length_cons,Nat.succ_mul]
   omega
 exact Nat.le_trans hs (Nat.mul_le_mul_right c hn)
theorem Uh {o:MOu} (h:GO o=true):Dv o≤20000:=by
 unfold GO at h
 simp only [Bool.and_eq_true,decide_eq_true_eq] at h
 obtain ⟨_,_,_,h1,h2,h3,h4⟩:=h
 unfold Dv
 omega
theorem Ui {i:MIs} (h:C4 i=true):DH i≤7000:=by
 unfold C4 at h
 unfold DH
 by_cases h0:i.kind=0
 ·rw [if_pos h0] at h
  unfold DE at h
  simp only [Bool.and_eq_true,decide_eq_true_eq] at h
  omega
 ·rw [if_neg h0] at h
  by_cases hk:i.kind=1∨i.kind=2
  ·rw [if_pos hk] at h
   unfold Iq at h
   simp only [Bool.and_eq_true,decide_eq_true_eq] at h
   omega
  ·rw [if_neg hk] at h; cases h
theorem MG (l:List Byt):(l.map λ_=>32).sum=32*l.length:=by
 induction l with
 | nil=>rfl
 | cons o l ih=>rw [List.map_cons,List.sum_cons,ih,List.length_cons]; omega
theorem Sw {p:MPg} (h:Hr p=true∨DL p=true):EZ p≤3000:=by
 unfold EZ
 rw [MG]
 rcases h with h | h
 ·unfold Hr at h
  simp only [Bool.and_eq_true,decide_eq_true_eq] at h
  omega
 ·unfold DL at h
  simp only [Bool.and_eq_true,decide_eq_true_eq] at h
  omega
theorem Uj {i:MIn} (h:E7 i=true):Dg i≤20000:=by
 unfold E7 at h
 rw [Bool.and_eq_true,Bool.and_eq_true,Bool.and_eq_true] at h
 obtain ⟨_,h1,h2,h3⟩:=h
 have a:=Ui h1
 have b:EZ i.peg≤3000:=by
  by_cases hk:i.kind=2
  ·rw [if_pos hk] at h2; exact Sw (.inl h2)
  ·rw [if_neg hk] at h2; exact Sw (.inr h2)
 have c:(i.wit.map wtT).sum≤16*265:=I_ (ok:=Hs) (λx hx=>by unfold Hs at hx; have:=of_decide_eq_true hx; unfold wtT; omega) h3
 unfold Dg
 omega
theorem Ug {t:MTr} (h:Dx t=true):FJ t≤1000000:=by
 unfold Dx at h
 rw [Bool.and_eq_true] at h
 have a:=I_ (wt:=Dg) (λx hx=>Uj hx) h.1
 have b:=I_ (wt:=Dv) (λx hx=>Uh hx) h.2
 unfold FJ
 omega
def NE:MTr:=⟨0,[],[]⟩
theorem Mj {α:Type} (C:Rdr) (k:Nat) (rep:Rdr→List Value→α→Prop):LstR C k rep (.slice none 0 0) []:=⟨none,0,0,rfl,rfl,Nat.le_refl _,Nat.zero_le _,λh=>(h J).elim⟩
theorem Um:(0:Nat)<18446744073709551616:=dZ
theorem Js (C:Rdr):Cy C ([Value.int .u64 0]++([Value.slice none 0 0]++([Value.slice none 0 0]))) NE:=⟨_,_,rfl,Um,Mj _ _ _,Mj _ _ _⟩
theorem Ak {α β:Type} {p:Ps α} {q:α→Ps β} {l r:Byt} {x:β} (h:AJ p q l=some (x,r)):∃ y r1,p l=some (y,r1)∧q y r1=some (x,r):=by
  cases hp:p l with
  | none=>rw [bind_none hp] at h; cases h
  | some u=>obtain ⟨y,r1⟩:=u; rw [bind_some hp] at h; exact ⟨y,r1,rfl,h⟩
theorem F1 {b:Bool} {l r:Byt} {u:Unit} (h:BJ b l=some (u,r)):b=true∧l=r:=by
  unfold BJ at h
  cases b
  · cases h
  · cases h; exact ⟨rfl,rfl⟩
theorem Gf {α:Type} {b:Bool} (hb:b=true) (q:Unit→Ps α) (l:Byt):AJ (BJ b) q l=q () l:=by subst hb; rfl
structure Fits {α:Type} (p:Ps α) (ok:α→Bool) (enc:α→Byt) (dom:α→Prop):Prop where
  inv:∀ {l r:Byt} {x:α},p l=some (x,r)→(ok x=true∧dom x)∧l=enc x++r
  fwd:∀ {x:α} (r:Byt),ok x=true→dom x→p (enc x++r)=some (x,r)
theorem Fits.only {α : Type} {p : Ps α} {ok : α → Bool} {enc : α → Byt} {dom : α → Prop} (h : Fits p ok enc dom) {l : Byt} {x : α} (hp : GG p l = some x) : (ok x = true ∧ dom x) ∧ enc x = l := by
  unfold GG at hp
  cases e:p l with
  | none=>rw [e] at hp; cases hp
  | some u =>
    obtain ⟨y,r⟩:=u
    rw [e] at hp
    cases r with
    | nil =>
      cases hp
      obtain ⟨h1,h2⟩:=h.inv e
      exact ⟨h1,by rw [h2,List.append_nil]⟩
    | cons=>cases hp
theorem Bq (n:Nat):Fits (A_ n) (λ_=>true) (λx=>x) (λx=>x.length=n):=by
  refine ⟨λh=>⟨⟨rfl,(D1 h).1⟩,(D1 h).2⟩,λ{x} r _ hx=>?_⟩
  show A_ n (x++r)=some (x,r)
  unfold A_
  subst hx
  rw [if_pos (by rw [List.length_append]; omega),List.take_left,List.drop_left]
theorem CE (k : Nat) : Fits (Bj k) (fun _ => true) (nb k) (fun n => n < 256 ^ k) := by
  refine ⟨λ{l r n} h=>?_,λ{n} r _ hn=>?_⟩
  · have hlt:=PZ h
    obtain ⟨b,r1,h1,h2⟩:=Ak h
    cases h2
    obtain ⟨e1,rfl⟩:=D1 h1
    refine ⟨⟨rfl,hlt⟩,?_⟩
    rw [← e1,Re]
  · unfold Bj
    rw [bind_some ((Bq k).fwd r J (Ch k n)),Qx k n hn]
    rfl
theorem fitOct : Fits CY okO (fun z => [CZ z]) (fun _ => True) := by
  refine ⟨λ{l r z} h=>?_,λ{z} r hz _=>?_⟩
  · obtain ⟨n, r1, h1, h2⟩ := Ak h
    cases h2
    obtain ⟨⟨_,h3⟩,rfl⟩:=(CE 1).inv h1
    have h3:n<256:=h3
    refine ⟨⟨?_,trivial⟩,?_⟩
    · unfold okO
      rw [decide_eq_true (show (0:Int)≤n by omega),decide_eq_true (show (n:Int)≤255 by omega)]; rfl
    · have e:((n:Int)%256).toNat=n:=om
      unfold CZ
      rw [e]
      show UInt8.ofNat (n / 256 ^ 0)::[]++r=_
      rw [Nat.pow_zero,Nat.div_one]
  · unfold okO at hz
    rw [Bool.and_eq_true,decide_eq_true_eq,decide_eq_true_eq] at hz
    have e:[CZ z]=nb 1 z.toNat:=by
      unfold CZ
      rw [show (z%256).toNat=z.toNat by omega]
      show _=[UInt8.ofNat (z.toNat / 256 ^ 0)]
      rw [Nat.pow_zero,Nat.div_one]
    unfold CY
    rw [e,bind_some ((CE 1).fwd r J (show z.toNat<256 by omega))]
    show some (((z.toNat:Nat):Int),r)=some (z,r)
    rw [Int.toNat_of_nonneg hz.1]
theorem Jf (most : Nat) : Fits (Dw most) (fun n => decide (n ≤ most)) Af (fun n => n < 18446744073709551616) := by
  have one:∀ (c:Nat) (r:Byt),c<256→Bj 1 (UInt8.ofNat c::r)=some (c,r):=λc r hc=>by
    have e:UInt8.ofNat c::r=nb 1 c++r:=by show _=UInt8.ofNat (c / 256 ^ 0)::([]++r); rw [Nat.pow_zero,Nat.div_one,List.nil_append]
    rw [e]; exact (CE 1).fwd r J hc
  refine ⟨λ{l r n} h=>?_,λ{n} r hn hd=>?_⟩
  · obtain ⟨m, r1, h1, h2⟩ := Ak h
    obtain ⟨_,r2,h3,h4⟩:=Ak h2
    obtain ⟨hm,rfl⟩:=F1 h3
    cases h4
    refine ⟨⟨hm,?_⟩,?_⟩ <;> obtain ⟨c,r3,h5,h6⟩:=Ak h1 <;> obtain ⟨⟨_,h7⟩,rfl⟩:=(CE 1).inv h5 <;> have h7:c<256:=h7
    all_goals by_cases hc:c<253
    · rw [if_pos hc] at h6; cases h6; omega
    · rw [if_neg hc] at h6
      obtain ⟨k,r4,h8,h9⟩:=Ak h6
      obtain ⟨_,r5,h10,h11⟩:=Ak h9
      obtain ⟨hk,rfl⟩:=F1 h10
      cases h11
      have h12:=PZ h8
      have hw : wide c ≤ 8 := by unfold wide; repeat' split
                                 all_goals omega
      exact Nat.lt_of_lt_of_le h12 (Nat.pow_le_pow_right dZ hw)
    · rw [if_pos hc] at h6; cases h6
      unfold Af
      rw [if_pos hc]
      show UInt8.ofNat (_ / 256 ^ 0)::[]++_=_
      rw [Nat.pow_zero,Nat.div_one]
    · rw [if_neg hc] at h6
      obtain ⟨k,r4,h8,h9⟩:=Ak h6
      obtain ⟨_,r5,h10,h11⟩:=Ak h9
      obtain ⟨hk,rfl⟩:=F1 h10
      cases h11
      obtain ⟨⟨_,h12⟩,rfl⟩:=(CE (wide c)).inv h8
      have hk:=of_decide_eq_true hk
      have h13:c=253∨c=254∨c=255:=om
      have e0:nb 1 c=[UInt8.ofNat c]:=by show UInt8.ofNat (c / 256 ^ 0)::[]=_; rw [Nat.pow_zero,Nat.div_one]
      rw [e0]
      unfold Af
      rcases h13 with rfl|rfl|rfl
      · have h12:_<65536:=h12
        have hk:253≤_:=hk
        rw [if_neg om,if_pos h12]; rfl
      · have h12:_<4294967296:=h12
        have hk:65536≤_:=hk
        rw [if_neg om,if_neg om,if_pos h12]; rfl
      · have hk:4294967296≤_:=hk
        rw [if_neg om,if_neg om,if_neg om]; rfl
  · have lng : ∀ (c : Nat), c < 256 → 253 ≤ c → n < 256 ^ wide c → CG c ≤ n → AJ (AJ (Bj 1) fun c => if c < 253 then BO c else Gh c) (fun n => AJ (BJ (decide (n ≤ most))) fun _ => BO n) (UInt8.ofNat c :: (nb (wide c) n ++ r)) = some (n, r) := fun c h1 h2 h3 h4 => by
      have e:AJ (Bj 1) (λc=>if c<253 then BO c else Gh c) (UInt8.ofNat c::(nb (wide c) n++r))=some (n,r):=by
        rw [bind_some (one c _ h1),if_neg om]
        unfold Gh
        rw [bind_some ((CE (wide c)).fwd r J h3),Gf (decide_eq_true h4)]
        rfl
      rw [bind_some e,Gf hn]
      rfl
    unfold Dw Af
    by_cases a1:n<253
    · rw [if_pos a1]
      have e:AJ (Bj 1) (λc=>if c<253 then BO c else Gh c) ([UInt8.ofNat n]++r)=some (n,r):=by
        show AJ _ _ (UInt8.ofNat n::r)=_
        rw [bind_some (one n r om),if_pos a1]
        rfl
      rw [bind_some e,Gf hn]
      rfl
    · rw [if_neg a1]
      by_cases a2:n<65536
      · rw [if_pos a2]; exact lng 253 dZ dZ a2 (show 253≤n by omega)
      · rw [if_neg a2]
        by_cases a3:n<4294967296
        · rw [if_pos a3]; exact lng 254 dZ dZ a3 (show 65536≤n by omega)
        · rw [if_neg a3]; exact lng 255 dZ dZ hd (show 4294967296≤n by omega)
theorem B0 (most : Nat) : Fits (Bu most) (fun x => decide (x.length ≤ most)) Er (fun x => x.length < 18446744073709551616) := by
  refine ⟨λ{l r x} h=>?_,λ{x} r hx hd=>?_⟩
  · obtain ⟨n,r1,h1,h2⟩:=Ak h
    obtain ⟨⟨h3,h4⟩,rfl⟩:=(Jf most).inv h1
    obtain ⟨⟨_,h5⟩,rfl⟩:=(Bq n).inv h2
    subst h5
    exact ⟨⟨h3,h4⟩,by unfold Er; rw [List.append_assoc]⟩
  · unfold Er Bu
    rw [List.append_assoc,bind_some ((Jf most).fwd _ hx hd),(Bq x.length).fwd r J J]
theorem Lv {α : Type} {p : Ps α} {ok : α → Bool} {enc : α → Byt} {dom : α → Prop} (hp : Fits p ok enc dom) : ∀ (n : Nat), Fits (CK p n) (fun l => l.all ok) (fun l => l.flatMap enc) (fun l => l.length = n ∧ ∀ x ∈ l, dom x)
  | 0 => ⟨fun {l r x} h => by cases h; exact ⟨⟨rfl, rfl, fun _ hx => by cases hx⟩, rfl⟩, fun {x} r _ hx => by
      obtain rfl:x=[]:=List.length_eq_zero_iff.1 hx.1
      rfl⟩
  | n + 1 => by
    have ih:=Lv hp n
    refine ⟨λ{l r x} h=>?_,λ{x} r hx hd=>?_⟩
    · obtain ⟨y, r1, h1, h2⟩ := Ak (p := p) h
      obtain ⟨ys,r2,h3,h4⟩:=Ak (p:=CK p n) h2
      cases h4
      obtain ⟨⟨a1,a2⟩,rfl⟩:=hp.inv h1
      obtain ⟨⟨b1,b2,b3⟩,rfl⟩:=ih.inv h3
      refine ⟨⟨?_,by rw [List.length_cons,b2],λz hz=>?_⟩,by rw [List.flatMap_cons,List.append_assoc]⟩
      · rw [List.all_cons,a1,b1]; rfl
      · rcases List.mem_cons.1 hz with rfl | hz
        · exact a2
        · exact b3 z hz
    · cases x with
      | nil=>cases hd.1
      | cons y ys =>
        rw [List.all_cons,Bool.and_eq_true] at hx
        show AJ p (λx=>AJ (CK p n) λl=>BO (x::l)) _=_
        rw [List.flatMap_cons,List.append_assoc,bind_some (hp.fwd _ hx.1 (hd.2 y (List.mem_cons_self ..))),bind_some (ih.fwd r hx.2 ⟨by have:=hd.1; rw [List.length_cons] at this; omega,λz hz=>hd.2 z (List.mem_cons_of_mem _ hz)⟩)]
        rfl
theorem DQ {α : Type} {p : Ps α} {ok : α → Bool} {enc : α → Byt} {dom : α → Prop} (hp : Fits p ok enc dom) (most : Nat) : Fits (Cz most p) (fun l => decide (l.length ≤ most) && l.all ok) (IR enc) (fun l => l.length < 18446744073709551616 ∧ ∀ x ∈ l, dom x) := by
  refine ⟨λ{l r x} h=>?_,λ{x} r hx hd=>?_⟩
  · obtain ⟨n,r1,h1,h2⟩:=Ak h
    obtain ⟨⟨h3,h4⟩,rfl⟩:=(Jf most).inv h1
    obtain ⟨⟨h5,h6,h7⟩,rfl⟩:=(Lv hp n).inv h2
    subst h6
    exact ⟨⟨by rw [h3,h5]; rfl,h4,h7⟩,by unfold IR; rw [List.append_assoc]⟩
  · rw [Bool.and_eq_true] at hx
    unfold IR Cz
    rw [List.append_assoc,bind_some ((Jf most).fwd _ hx.1 hd.1),(Lv hp x.length).fwd r hx.2 ⟨rfl,hd.2⟩]
theorem fitTru : Fits HO (fun _ => true) (fun b => [trB b]) (fun _ => True) := by
  refine ⟨λ{l r x} h=>?_,λ{x} r _ _=>?_⟩
  · obtain ⟨z,r1,h1,h2⟩:=Ak h
    obtain ⟨_,r2,h3,h4⟩:=Ak h2
    obtain ⟨hz,rfl⟩:=F1 h3
    cases h4
    obtain ⟨⟨ho,_⟩,rfl⟩:=fitOct.inv h1
    refine ⟨⟨rfl,trivial⟩,?_⟩
    have hz:=of_decide_eq_true hz
    unfold okO at ho
    rw [Bool.and_eq_true,decide_eq_true_eq,decide_eq_true_eq] at ho
    have:z=0∨z=1:=om
    rcases this with rfl|rfl <;> rfl
  · unfold HO trB
    rw [bind_some (fitOct.fwd r (by cases x <;> rfl) trivial)]
    cases x <;> rfl
theorem My {P : Cu.Pt} (h : Ec.On P) : Cu.dec (mPt P).x (mPt P).y (mPt P).i = P := by
  cases P with
  | none=>rfl
  | some p =>
    obtain ⟨x,y⟩:=p
    have hon:y.val*y.val%pM=(x.val*x.val%pM*x.val%pM+7)%pM:=congrArg Fin.val h
    unfold Cu.dec
    exact dif_pos (⟨rfl,x.isLt,y.isLt,hon⟩:false=false∧x.val<pM∧y.val<pM∧_)
theorem TN {p : MPt} (h : Ek p = true) : ∃ P, p = mPt P ∧ Ec.On P := by
  obtain ⟨x,y,i⟩:=p
  unfold Ek at h
  rw [Bool.and_eq_true] at h
  obtain ⟨h1,h2⟩:=h
  cases i with
  | true=>cases h2
  | false =>
    unfold Cu.rightB at h1
    rw [if_neg (show ¬ (false=true) by decide)] at h1
    simp only [Bool.and_eq_true,decide_eq_true_eq] at h1
    obtain ⟨⟨hx,hy⟩,he⟩:=h1
    exact ⟨some (⟨x,hx⟩,⟨y,hy⟩),rfl,Fin.ext he⟩
theorem fitPt : Fits ptP Ek CN (fun p => p.x < Cu.K4 ∧ p.y < Cu.K4) := by
  refine ⟨λ{l r x} h=>?_,λ{x} r hx hd=>?_⟩
  · obtain ⟨b, r1, h1, h2⟩ := Ak h
    obtain ⟨_,r2,h3,h4⟩:=Ak h2
    obtain ⟨hz,rfl⟩:=F1 h3
    cases h4
    obtain ⟨⟨_,h5⟩,rfl⟩:=(Bq 33).inv h1
    refine ⟨⟨by rw [KH]; exact hz,La _⟩,?_⟩
    congr 1
    have hb : Cu.decOk b = true := by
      cases hd:Cu.decOk b with
      | true=>rfl
      | false =>
        have e:Cu.decP b=none:=by unfold Cu.decP; rw [if_neg (by rw [hd]; decide)]
        rw [e] at hz
        cases hz
    obtain ⟨_,h6,_⟩:=Cu.decP_ok hb
    unfold CN
    rw [My (Cu.decP_on b),h6]
  · obtain ⟨P, hP, hon⟩ := TN hx
    have e:Cu.dec x.x x.y x.i=P:=by rw [hP]; exact My hon
    obtain ⟨d1,d2⟩:=Cu.dec_enc hon
    unfold ptP CN
    rw [e,bind_some ((Bq 33).fwd r J (Cu.encS_length P)),d2, ← hP,Gf (by
      have h:=hx
      unfold Ek at h
      rw [Bool.and_eq_true] at h
      exact h.2)]
    rfl
theorem fitSC:Fits Nd JV Dd (λn=>n<Cu.K4):=by
 refine ⟨λ{l r x} h=>?_,λ{x} r hx hd=>?_⟩
 ·obtain ⟨b,r1,h1,u1⟩:=Ak h
  obtain ⟨_,r2,h2,u2⟩:=Ak u1
  obtain ⟨hz,rfl⟩:=F1 h2
  cases u2
  obtain ⟨⟨_,h5⟩,rfl⟩:=(Bq 32).inv h1
  have e:Sc.readS b=(Ag b,true)∧Ag b<Sc.pM:=by
   unfold Sc.readS at hz ⊢
   by_cases hv:Ag b<Sc.pM
   ·rw [if_pos hv]; exact ⟨rfl,hv⟩
   ·rw [if_neg hv] at hz; cases hz
  rw [e.1]
  have em:Ag b%Sc.pM=Ag b:=Nat.mod_eq_of_lt e.2
  refine ⟨⟨by unfold JV; exact decide_eq_true em,Bo b h5⟩,?_⟩
  unfold Dd
  rw [em,Kr b h5]
 ·have em:=of_decide_eq_true hx
  have hlt:x<Sc.pM:=by rw [← em]; exact Nat.mod_lt _ dZ
  have hv:Ag (AV x)=x:=Ea x hd
  unfold Nd Dd
  rw [em,bind_some ((Bq 32).fwd r J (AN x))]
  have e:Sc.readS (AV x)=(x,true):=by unfold Sc.readS; rw [hv,if_pos hlt]
  rw [e]
  rfl
theorem LP {p:MPt} (hd:p.x<Cu.K4∧p.y<Cu.K4) (h:FD p=true):p=⟨0,0,false⟩:=by
 obtain ⟨x,y,i⟩:=p
 unfold FD Cu.sameB at h
 simp only [Bool.and_eq_true,decide_eq_true_eq,beq_iff_eq] at h
 obtain ⟨rfl,rfl,rfl⟩:=h
 rfl
def Ss (t:MTag):Prop:=t.id.length=32∧t.pt.x<Cu.K4∧t.pt.y<Cu.K4
theorem Sl:Fits J9 Nv IA Ss:=by
 refine ⟨λ{l r x} h=>?_,λ{x} r hx hd=>?_⟩
 ·obtain ⟨b,r1,h1,u3⟩:=Ak h
  obtain ⟨_,rfl⟩:=fitTru.inv h1
  cases b
  ·rw [if_neg dZ] at u3
   obtain ⟨d,r2,h2,u4⟩:=Ak u3
   cases u4
   obtain ⟨⟨_,h3⟩,rfl⟩:=(Bq 32).inv h2
   exact ⟨⟨rfl,h3,(show 0<Cu.K4 by decide),(show 0<Cu.K4 by decide)⟩,by unfold IA; rfl⟩
  ·rw [if_pos J] at u3
   obtain ⟨d,r2,h2,u5⟩:=Ak u3
   cases u5
   obtain ⟨⟨h3,h4⟩,rfl⟩:=fitPt.inv h2
   refine ⟨⟨?_,rfl,h4⟩,by unfold IA; rfl⟩
   unfold Nv; rw [if_pos J,h3]; rfl
 ·obtain ⟨b,d,p⟩:=x
  obtain ⟨h1,h2⟩:=hd
  unfold Nv at hx
  unfold IA J9
  dsimp only at h1 h2 hx ⊢
  cases b
  ·rw [if_neg dZ] at hx ⊢
   obtain rfl:=LP h2 hx
   rw [List.append_assoc,bind_some (fitTru.fwd _ J trivial),if_neg dZ,bind_some ((Bq 32).fwd r J h1)]
   rfl
  ·rw [if_pos J] at hx ⊢
   rw [Bool.and_eq_true] at hx
   obtain rfl:=of_decide_eq_true hx.2
   rw [List.append_assoc,bind_some (fitTru.fwd _ J trivial),if_pos J,bind_some (fitPt.fwd r hx.1 h2)]
   rfl
def Mw (t:MAmt):Prop:=t.value<18446744073709551616∧t.pt.x<Cu.K4∧t.pt.y<Cu.K4
theorem fitAM:Fits JJ LO Gk Mw:=by
 refine ⟨λ{l r x} h=>?_,λ{x} r hx hd=>?_⟩
 ·obtain ⟨b,r1,h1,u6⟩:=Ak h
  obtain ⟨_,rfl⟩:=fitTru.inv h1
  cases b
  ·rw [if_neg dZ] at u6
   obtain ⟨d,r2,h2,u7⟩:=Ak u6
   cases u7
   obtain ⟨⟨_,h3⟩,rfl⟩:=(CE 8).inv h2
   exact ⟨⟨rfl,h3,(show 0<Cu.K4 by decide),(show 0<Cu.K4 by decide)⟩,by unfold Gk; rfl⟩
  ·rw [if_pos J] at u6
   obtain ⟨d,r2,h2,u8⟩:=Ak u6
   cases u8
   obtain ⟨⟨h3,h4⟩,rfl⟩:=fitPt.inv h2
   refine ⟨⟨?_,(show 0<18446744073709551616 by decide),h4⟩,by unfold Gk; rfl⟩
   unfold LO; rw [if_pos J,h3]; rfl
 ·obtain ⟨b,d,p⟩:=x
  obtain ⟨h1,h2⟩:=hd
  unfold LO at hx
  unfold Gk JJ
  dsimp only at h1 h2 hx ⊢
  cases b
  ·rw [if_neg dZ] at hx ⊢
   obtain rfl:=LP h2 hx
   rw [List.append_assoc,bind_some (fitTru.fwd _ J trivial),if_neg dZ,bind_some ((CE 8).fwd r J h1)]
   rfl
  ·rw [if_pos J] at hx ⊢
   rw [Bool.and_eq_true] at hx
   obtain rfl:=of_decide_eq_true hx.2
   rw [List.append_assoc,bind_some (fitTru.fwd _ J trivial),if_pos J,bind_some (fitPt.fwd r hx.1 h2)]
   rfl
theorem Ms (k:Int→Bool) (hk:∀ z,k z=true→okO z=true):Fits (λl=>AJ CY (λz=>AJ (BJ (k z)) λ_=>BO z) l) k (λz=>[CZ z]) (λ_=>True):=by
 refine ⟨λ{l r x} h=>?_,λ{x} r hx _=>?_⟩
 ·obtain ⟨z,r1,h1,u9⟩:=Ak h
  obtain ⟨_,r2,h2,u10⟩:=Ak u9
  obtain ⟨hz,rfl⟩:=F1 h2
  cases u10
  obtain ⟨_,rfl⟩:=fitOct.inv h1
  exact ⟨⟨hz,trivial⟩,rfl⟩
 ·show AJ CY _ _=_
  rw [bind_some (fitOct.fwd r (hk x hx) trivial),Gf hx]
  rfl
theorem Lj {α:Type} (k:Int→Bool) (f:Int→Ps α):AJ CY (λz=>AJ (BJ (k z)) λ_=>f z)=AJ (λl=>AJ CY (λz=>AJ (BJ (k z)) λ_=>BO z) l) f:=by
 funext l
 cases h:CY l with
 | none=>rw [bind_none h,bind_none]; exact bind_none h
 | some u =>
  obtain ⟨z,r⟩:=u
  rw [bind_some h]
  cases hk:k z with
  | false =>
   have e:(λl=>AJ CY (λz=>AJ (BJ (k z)) λ_=>BO z) l) l=none:=by
    show AJ CY _ l=none
    rw [bind_some h,hk]
    rfl
   rw [bind_none e]
   rfl
  | true =>
   have e:(λl=>AJ CY (λz=>AJ (BJ (k z)) λ_=>BO z) l) l=some (z,r):=by
    show AJ CY _ l=_
    rw [bind_some h,hk]
    rfl
   rw [bind_some e]
   rfl
theorem Si (z:Int) (h:okK z=true):okO z=true:=by
 unfold okK at h; unfold okO
 rw [Bool.and_eq_true,decide_eq_true_eq,decide_eq_true_eq] at h ⊢
 omega
theorem P1 (z:Int) (h:Fx z=true):okO z=true:=by
 unfold Fx at h; unfold okO
 rw [Bool.and_eq_true,decide_eq_true_eq,decide_eq_true_eq] at h ⊢
 omega
def Gl (x:Byt):Prop:=x.length<18446744073709551616
def O':Ps MOu:=AJ (λl=>AJ CY (λz=>AJ (BJ (okK z)) λ_=>BO z) l) λk=>AJ J9 λa=>AJ JJ λb=>AJ (Bu 6000) λr=>AJ (Bu 6000) λs=>AJ (Bu 128) λn=>AJ (Bu 256) λc=>BO ⟨k,a,b,r,s,n,c⟩
theorem Q5:GM=O':=Lj okK _
def QW (x:MOu):Prop:=True∧Ss x.asset∧Mw x.amount∧Gl x.range∧Gl x.surject∧Gl x.note∧Gl x.script
theorem Tf:Fits O' GO F_ QW:=by
 refine ⟨λ{l r x} h=>?_,λ{x} r hx hd=>?_⟩
 ·obtain ⟨y1,r1,h1,u11⟩:=Ak h
  obtain ⟨⟨o1,d1⟩,rfl⟩:=(Ms okK Si).inv h1
  obtain ⟨y2,r2,h2,u12⟩:=Ak u11
  obtain ⟨⟨o2,d2⟩,rfl⟩:=(Sl).inv h2
  obtain ⟨y3,r3,h3,u13⟩:=Ak u12
  obtain ⟨⟨o3,d3⟩,rfl⟩:=(fitAM).inv h3
  obtain ⟨y4,r4,h4,u14⟩:=Ak u13
  obtain ⟨⟨o4,d4⟩,rfl⟩:=(B0 6000).inv h4
  obtain ⟨y5,r5,h5,u15⟩:=Ak u14
  obtain ⟨⟨o5,d5⟩,rfl⟩:=(B0 6000).inv h5
  obtain ⟨y6,r6,h6,u16⟩:=Ak u15
  obtain ⟨⟨o6,d6⟩,rfl⟩:=(B0 128).inv h6
  obtain ⟨y7,r7,h7,u17⟩:=Ak u16
  obtain ⟨⟨o7,d7⟩,rfl⟩:=(B0 256).inv h7
  cases u17
  refine ⟨⟨?_,⟨d1,d2,d3,d4,d5,d6,d7⟩⟩,?_⟩
  ·unfold GO; simp only [o1,o2,o3,o4,o5,o6,o7,Bool.and_self]; try rfl
  ·unfold F_; simp only [List.append_assoc]
 ·obtain ⟨y1,y2,y3,y4,y5,y6,y7⟩:=x
  obtain ⟨d1,d2,d3,d4,d5,d6,d7⟩:=hd
  unfold GO at hx
  simp only [Bool.and_eq_true] at hx
  obtain ⟨o1,o2,o3,o4,o5,o6,o7⟩:=hx
  dsimp only at *
  unfold F_ O'
  simp only [List.append_assoc]
  rw [bind_some ((Ms okK Si).fwd _ o1 d1),bind_some ((Sl).fwd _ o2 d2),bind_some ((fitAM).fwd _ o3 d3),bind_some ((B0 6000).fwd _ o4 d4),bind_some ((B0 6000).fwd _ o5 d5),bind_some ((B0 128).fwd _ o6 d6),bind_some ((B0 256).fwd _ o7 d7)]
  rfl
theorem Sm:Fits GM GO F_ QW:=by rw [Q5]; exact Tf
def Mv (i:MIs):Prop:=Mw i.amount∧Gl i.range∧i.tokens<18446744073709551616∧i.entropy.length=32∧i.blind<Cu.K4
theorem TS {a:MAmt} (hd:Mw a) (h:El a=true):a=zAM:=by
 obtain ⟨b,v,p⟩:=a
 unfold El at h
 simp only [Bool.and_eq_true,decide_eq_true_eq] at h
 obtain ⟨⟨h1,h2⟩,h3⟩:=h
 obtain rfl:=LP hd.2 h3
 cases b
 ·subst h2; rfl
 ·cases h1
theorem TR {i:MIs} (hd:Mv i) (h0:i.kind=0) (h:DE i=true):i=zIS:=by
 obtain ⟨k,a,r,t,e,s⟩:=i
 unfold DE at h
 simp only [Bool.and_eq_true,decide_eq_true_eq] at h
 obtain ⟨h1,h2,h3,h4,h5⟩:=h
 obtain rfl:=TS hd.1 h1
 obtain rfl:r=[]:=List.length_eq_zero_iff.1 h2
 dsimp only at h0
 subst h0 h3 h4 h5
 rfl
theorem R':Mv zIS:=⟨⟨(show 0<18446744073709551616 by decide),(show 0<Cu.K4 by decide),(show 0<Cu.K4 by decide)⟩,(show 0<18446744073709551616 by decide),(show 0<18446744073709551616 by decide),rfl,(show 0<Cu.K4 by decide)⟩
theorem TM:C4 zIS=true:=dZ
theorem fitIS:Fits Gq C4 Dq Mv:=by
 refine ⟨λ{l r x} h=>?_,λ{x} r hx hd=>?_⟩
 ·obtain ⟨k,r1,h1,u1⟩:=Ak h
  obtain ⟨⟨o1,_⟩,rfl⟩:=fitOct.inv h1
  by_cases hk:k=0
  ·rw [if_pos hk] at u1
   cases u1
   subst hk
   exact ⟨⟨TM,R'⟩,by unfold Dq; rfl⟩
  ·rw [if_neg hk] at u1
   obtain ⟨_,r2,h2,u2⟩:=Ak u1
   obtain ⟨hz,rfl⟩:=F1 h2
   unfold Ke at u2
   obtain ⟨y1,r1,h1,u3⟩:=Ak u2
   obtain ⟨⟨o1,d1⟩,rfl⟩:=fitAM.inv h1
   obtain ⟨y2,r2,h2,u4⟩:=Ak u3
   obtain ⟨⟨o2,d2⟩,rfl⟩:=(B0 6000).inv h2
   obtain ⟨y3,r3,h3,u5⟩:=Ak u4
   obtain ⟨⟨_,d3⟩,rfl⟩:=(CE 8).inv h3
   obtain ⟨y4,r4,h4,u6⟩:=Ak u5
   obtain ⟨⟨_,d4⟩,rfl⟩:=(Bq 32).inv h4
   obtain ⟨y5,r5,h5,u7⟩:=Ak u6
   obtain ⟨⟨o5,d5⟩,rfl⟩:=fitSC.inv h5
   cases u7
   refine ⟨⟨?_,d1,d2,d3,d4,d5⟩,?_⟩
   ·unfold C4 Iq; dsimp only; rw [if_neg hk,if_pos (of_decide_eq_true hz),o1,o2,o5]; rfl
   ·unfold Dq IG; dsimp only; rw [if_neg hk]; simp only [List.append_assoc]
 ·by_cases hk:x.kind=0
  ·have hn:DE x=true:=by unfold C4 at hx; rwa [if_pos hk] at hx
   obtain rfl:=TR hd hk hn
   show AJ CY _ ([CZ 0]++[]++r)=_
   rw [List.append_nil,bind_some (fitOct.fwd r dZ trivial)]
   rfl
  ·unfold C4 at hx
   rw [if_neg hk] at hx
   by_cases hk2:x.kind=1∨x.kind=2
   ·rw [if_pos hk2] at hx
    obtain ⟨k,y1,y2,y3,y4,y5⟩:=x
    unfold Iq at hx
    simp only [Bool.and_eq_true] at hx
    obtain ⟨o1,o2,o5⟩:=hx
    obtain ⟨d1,d2,d3,d4,d5⟩:=hd
    dsimp only at *
    unfold Dq IG Gq
    dsimp only
    rw [if_neg hk]
    simp only [List.append_assoc]
    rw [bind_some (fitOct.fwd _ (by rcases hk2 with rfl|rfl <;> decide) trivial),if_neg hk,Gf (decide_eq_true hk2)]
    unfold Ke
    rw [bind_some (fitAM.fwd _ o1 d1),bind_some ((B0 6000).fwd _ o2 d2),bind_some ((CE 8).fwd _ J d3),bind_some ((Bq 32).fwd _ J d4),bind_some (fitSC.fwd _ o5 d5)]
    rfl
   ·rw [if_neg hk2] at hx; cases hx
def QV (x:MPg):Prop:=x.header.length=32∧Gl x.tx∧x.place<4294967296∧x.many<4294967296∧(x.path.length<18446744073709551616∧∀ k∈x.path,k.length=32)∧Gl x.script
theorem fitPG:Fits JI Hr F9 QV:=by
 refine ⟨λ{l r x} h=>?_,λ{x} r hx hd=>?_⟩
 ·obtain ⟨y1,r1,h1,u8⟩:=Ak h
  obtain ⟨⟨o1,d1⟩,rfl⟩:=(Bq 32).inv h1
  obtain ⟨y2,r2,h2,u9⟩:=Ak u8
  obtain ⟨⟨o2,d2⟩,rfl⟩:=(B0 1024).inv h2
  obtain ⟨y3,r3,h3,u10⟩:=Ak u9
  obtain ⟨⟨o3,d3⟩,rfl⟩:=(CE 4).inv h3
  obtain ⟨y4,r4,h4,u11⟩:=Ak u10
  obtain ⟨⟨o4,d4⟩,rfl⟩:=(CE 4).inv h4
  obtain ⟨y5,r5,h5,u12⟩:=Ak u11
  obtain ⟨⟨o5,d5⟩,rfl⟩:=(DQ (Bq 32) 32).inv h5
  obtain ⟨y6,r6,h6,u13⟩:=Ak u12
  obtain ⟨⟨o6,d6⟩,rfl⟩:=(B0 256).inv h6
  cases u13
  refine ⟨⟨?_,⟨d1,d2,d3,d4,d5,d6⟩⟩,?_⟩
  ·unfold Hr; rw [Eu,Bool.and_true] at o5; simp only [o2,o5,o6,Bool.and_self]; try rfl
  ·unfold F9; simp only [List.append_assoc]
 ·obtain ⟨y1,y2,y3,y4,y5,y6⟩:=x
  obtain ⟨d1,d2,d3,d4,d5,d6⟩:=hd
  unfold Hr at hx
  simp only [Bool.and_eq_true] at hx
  obtain ⟨o2,o5,o6⟩:=hx
  have o5:(decide (y5.length≤32) && y5.all λ_=>true)=true:=by rw [o5,Eu]; rfl
  dsimp only at *
  unfold F9 JI
  simp only [List.append_assoc]
  rw [bind_some ((Bq 32).fwd _ J d1),bind_some ((B0 1024).fwd _ o2 d2),bind_some ((CE 4).fwd _ J d3),bind_some ((CE 4).fwd _ J d4),bind_some ((DQ (Bq 32) 32).fwd _ o5 d5),bind_some ((B0 256).fwd _ o6 d6)]
  rfl
theorem TQ {p:MPg} (h:DL p=true):p=zPG:=by
 obtain ⟨h,t,p,m,l,s⟩:=p
 unfold DL at h
 simp only [Bool.and_eq_true,decide_eq_true_eq] at h
 obtain ⟨h1,h2,h3,h4,h5,h6⟩:=h
 obtain rfl:=List.length_eq_zero_iff.1 h2
 obtain rfl:=List.length_eq_zero_iff.1 h5
 obtain rfl:=List.length_eq_zero_iff.1 h6
 subst h1 h3 h4
 rfl
theorem R_:QV zPG:=⟨rfl,(show 0<18446744073709551616 by decide),(show 0<4294967296 by decide),(show 0<4294967296 by decide),⟨(show 0<18446744073709551616 by decide),λ_ h=>by cases h⟩,(show 0<18446744073709551616 by decide)⟩
def Su (i:MIn):Prop:=i.prev.length=32∧i.index<4294967296∧Mv i.issue∧QV i.peg∧i.wit.length<18446744073709551616∧∀ x∈i.wit,Gl x
theorem Sn:Fits EY E7 Dr Su:=by
 refine ⟨λ{l r x} h=>?_,λ{x} r hx hd=>?_⟩
 ·obtain ⟨k,r1,h1,u14⟩:=Ak h
  obtain ⟨⟨o0,_⟩,rfl⟩:=fitOct.inv h1
  obtain ⟨_,r2,h2,u15⟩:=Ak u14
  obtain ⟨ok,rfl⟩:=F1 h2
  obtain ⟨y1,r1,h1,u16⟩:=Ak u15
  obtain ⟨⟨_,d1⟩,rfl⟩:=(Bq 32).inv h1
  obtain ⟨y2,r2,h2,u17⟩:=Ak u16
  obtain ⟨⟨_,d2⟩,rfl⟩:=(CE 4).inv h2
  obtain ⟨y3,r3,h3,u18⟩:=Ak u17
  obtain ⟨⟨o3,d3⟩,rfl⟩:=fitIS.inv h3
  obtain ⟨y4,r4,h4,u19⟩:=Ak u18
  obtain ⟨y5,r5,h5,u20⟩:=Ak u19
  obtain ⟨⟨o5,d5⟩,rfl⟩:=(DQ (B0 256) 16).inv h5
  cases u20
  have o5':okW y5=true:=o5
  by_cases hk:k=2
  ·rw [if_pos hk] at h4
   obtain ⟨⟨o4,d4⟩,rfl⟩:=fitPG.inv h4
   refine ⟨⟨?_,d1,d2,d3,d4,d5⟩,?_⟩
   ·unfold E7; dsimp only; rw [if_pos hk,ok,o3,o4,o5']; rfl
   ·unfold Dr; dsimp only; rw [if_pos hk]; simp only [List.append_assoc]
  ·rw [if_neg hk] at h4
   cases h4
   refine ⟨⟨?_,d1,d2,d3,R_,d5⟩,?_⟩
   ·unfold E7; dsimp only; rw [if_neg hk,ok,o3,o5']; rfl
   ·unfold Dr; dsimp only; rw [if_neg hk]; simp only [List.append_assoc,List.nil_append]
 ·obtain ⟨k,y1,y2,y3,y4,y5⟩:=x
  obtain ⟨d1,d2,d3,d4,d5⟩:=hd
  unfold E7 at hx
  rw [Bool.and_eq_true,Bool.and_eq_true,Bool.and_eq_true] at hx
  obtain ⟨ok,o3,o4,o5⟩:=hx
  dsimp only at *
  unfold Dr EY
  dsimp only
  by_cases hk:k=2
  ·rw [if_pos hk] at o4 ⊢
   simp only [List.append_assoc]
   rw [bind_some (fitOct.fwd _ (P1 k ok) trivial),Gf ok,bind_some ((Bq 32).fwd _ J d1),bind_some ((CE 4).fwd _ J d2),bind_some (fitIS.fwd _ o3 d3),if_pos hk,bind_some (fitPG.fwd _ o4 d4),bind_some ((DQ (B0 256) 16).fwd _ o5 d5)]
   rfl
  ·rw [if_neg hk] at o4 ⊢
   obtain rfl:=TQ o4
   simp only [List.append_assoc,List.nil_append]
   rw [bind_some (fitOct.fwd _ (P1 k ok) trivial),Gf ok,bind_some ((Bq 32).fwd _ J d1),bind_some ((CE 4).fwd _ J d2),bind_some (fitIS.fwd _ o3 d3),if_neg hk,bind_some (show BO zPG _=some (zPG,_) from rfl),bind_some ((DQ (B0 256) 16).fwd _ o5 d5)]
   rfl
def Uf (x:MTr):Prop:=x.after<18446744073709551616∧(x.ins.length<18446744073709551616∧∀ o∈x.ins,Su o)∧(x.outs.length<18446744073709551616∧∀ o∈x.outs,QW o)
theorem Ud:Fits JH Dx Dp Uf:=by
 refine ⟨λ{l r x} h=>?_,λ{x} r hx hd=>?_⟩
 ·obtain ⟨y1,r1,h1,u21⟩:=Ak h
  obtain ⟨⟨o1,d1⟩,rfl⟩:=(CE 8).inv h1
  obtain ⟨y2,r2,h2,u22⟩:=Ak u21
  obtain ⟨⟨o2,d2⟩,rfl⟩:=(DQ Sn 16).inv h2
  obtain ⟨y3,r3,h3,u23⟩:=Ak u22
  obtain ⟨⟨o3,d3⟩,rfl⟩:=(DQ Sm 16).inv h3
  cases u23
  refine ⟨⟨?_,⟨d1,d2,d3⟩⟩,?_⟩
  ·unfold Dx; simp only [o2,o3,Bool.and_self]; try rfl
  ·unfold Dp; simp only [List.append_assoc]
 ·obtain ⟨y1,y2,y3⟩:=x
  obtain ⟨d1,d2,d3⟩:=hd
  unfold Dx at hx
  simp only [Bool.and_eq_true] at hx
  obtain ⟨o2,o3⟩:=hx
  rw [← Bool.and_eq_true] at o2 o3
  dsimp only at *
  unfold Dp JH
  simp only [List.append_assoc]
  rw [bind_some ((CE 8).fwd _ J d1),bind_some ((DQ Sn 16).fwd _ o2 d2),bind_some ((DQ Sm 16).fwd _ o3 d3)]
  rfl
theorem I8 {α:Type} {wt sz:α→Nat} {a c:Nat} (h:∀ x,wt x≤a*sz x+c) (l:List α):(l.map wt).sum≤a*(l.map sz).sum+c*l.length:=by
 induction l with
 | nil=>exact Nat.zero_le _
 | cons x l ih =>
  have q:=h x
  rw [List.map_cons,List.sum_cons,List.map_cons,List.sum_cons,List.length_cons,Nat.mul_add,Nat.mul_succ]
  omega
theorem UW (o:MOu):Dv o≤1*NS o+105:=by unfold Dv NS; omega
theorem UX (i:MIn):Dg i≤32*NT i+300:=by
 have a:=I8 (wt:=wtT) (sz:=λx=>x.length) (a:=1) (c:=9) (λx=>by unfold wtT; omega) i.wit
 unfold Dg DH EZ NT Ok Oj
 rw [MG]
 omega
theorem UV (t:MTr):FJ t≤332*Qu t+100:=by
 have a:=I8 UX t.ins
 have b:=I8 UW t.outs
 unfold FJ Qu
 omega
def m0:MTx:=⟨1,[⟨2,List.replicate 32 0⟩]⟩
def b49:Byt:=QH m0
theorem UT:RV m0=true:=kZ
theorem b49_len:b49.length=49:=kZ
theorem Sg:GG Q7 b49=some m0:=kZ
theorem UU {w0:Base} {w:World} {L:AA} {g:Nat} {t:TypeId} (hw:St w0 w L) (hL:(g,t,(Value.int .u64 2::Z32).toArray)∈L):GZ (rdW w) [.int .u64 1,.slice (pA g) 1 1] m0:=by
 refine ⟨_,rfl,(show 1<18446744073709551616 by decide),_,_,_,rfl,rfl,Nat.le_refl _,dZ,λ_=>⟨g,0,rfl,λj x hx=>?_⟩⟩
 cases j with
 | succ j=>cases hx
 | zero =>
  cases hx
  refine ⟨Value.int .u64 2::Z32,rfl,λu hu=>?_,⟨rfl,by decide,rfl⟩,λi u hu=>?_⟩
  ·rcases List.mem_cons.1 hu with rfl | hu
   ·rfl
   ·obtain ⟨y,_,rfl⟩:=List.mem_map.1 hu; rfl
  ·exact B_ hw (R:=[(g,t,(Value.int .u64 2::Z32).toArray)]) (λb hb=>by rw [List.mem_singleton.1 hb]; exact hL) _ _ _ ⟨t,_,List.mem_singleton.2 J,by rw [Nat.zero_mul,Nat.add_zero,Nat.zero_add,List.getElem?_toArray]; exact hu⟩
theorem SO (w:World):AL 11 #[] w (Ai w (.bool true)):=by
 refine Sy.enter (args:=[]) Tryz.func11 J kL<|sC<|sP (.bool false)<|sA<|sP (.agg (Value.int .u64 2::Z32).toArray)<|Sy.make kR 98 (Value.int .u64 2::Z32).toArray (λg=>.slice (pA g) 1 1) (Makes.one 99 98 _ _ 33 _ (Value.int .u64 2::Z32) rfl kR G_ Jd J J J dZ dZ) (λg=>?_)
 refine sP (.agg #[uZ 1,.slice (pA g) 1 1])<|Sy.callN kR 35 #[.agg #[uZ 1,.slice (pA g) 1 1]] kF (BytE (RV m0) b49) (λw' hw=>Th (rep:=GZ) (ok:=RV) (enc:=QH) (wt:=S0) Pj Pm w' [uZ 1,.slice (pA g) 1 1] m0 (UU hw (List.mem_append_right _ (List.mem_singleton.2 J))) J dZ) (λv M1 hM=>?_)
 rcases hM with ⟨_,u,rfl,hN⟩ | ⟨h,_⟩
 case inr=>rw [UT] at h; cases h
 have hN0:=hN.byt
 obtain ⟨A,n,cp,rfl,h2,h3,h4,h5⟩:=hN.byt
 obtain rfl:49=n:=by rw [← h2]; exact b49_len.symm
 obtain ⟨gb,ob,rfl,hq⟩:=h5 (by intro e; have q:=b49_len; rw [e] at q; cases q)
 refine sp J<|sp J<|sp J<|sp J<|sp J<|sA<|sp J<|Sy.callN kR 36 #[.slice (some ⟨gb,ob,none⟩) 49 cp] kF (RdE 2 ([Value.int .u64 0]++[Value.slice none 0 0]) GZ (GG Q7 b49)) (λw' hw=>Q4 (rep:=GZ) (p:=Q7) Pj (@UQ) Pn w' _ b49 (hN0.le (B_ hw (λb hb=>List.mem_append_right _ hb))) (by rw [b49_len]; decide)) (λv M2 hM=>?_)
 rcases hM with ⟨x,cs,hx,rfl,hcs,hrep⟩ | ⟨h,_⟩
 case inr=>rw [Sg] at h; cases h
 rw [Sg] at hx
 obtain rfl:m0=x:=by injection hx
 obtain ⟨v2,rfl,_,A2,n2,c2,rfl,k2,k3,k4,k5⟩:=hrep
 obtain rfl:1=n2:=k2
 obtain ⟨g2,o2,rfl,hq2⟩:=k5 (by intro e; cases e)
 obtain ⟨cs0,d1,d2,⟨rfl,_,_⟩,d3⟩:=hq2 0 _ J
 refine sp J<|sp J<|sp J<|sM 101 #[uZ 0,.slice none 0 0] (λg3=>?_)
 refine Sy.permS List.perm_append_comm<|sw 0 J #[uZ 1,.slice (some ⟨g2,o2,none⟩) 1 c2] (wA J)<|sp J<|sA<|sP (.agg zOut.toArray)<|Sy.callN kR 20 #[.agg zOut.toArray] kF (BytE false []) (λw' hw=>R6 (rep:=O4) (ok:=λ_=>false) (enc:=λ_=>[]) (wt:=λ_=>1) TW TF w' zOut () J J dZ) (λv M3 hM=>?_)
 rcases hM with ⟨h,_⟩ | ⟨_,rfl,rfl⟩
 case inl=>cases h
 rw [List.append_nil]
 refine sp J<|sp J<|sp J<|sp J<|sp J ?_
 obtain ⟨X,hX⟩:∃ X,X=[(g,98,(Value.int .u64 2::Z32).toArray)]++M1++M2:=⟨_,rfl⟩
 have i1:∀ b∈M1,b∈(g3,101,#[uZ 1,.slice (some ⟨g2,o2,none⟩) 1 c2])::([]++[(g,98,(Value.int .u64 2::Z32).toArray)]++M1++M2):=λb hb=>by simp [hb]
 have i2:∀ b∈M2,b∈(g3,101,#[uZ 1,.slice (some ⟨g2,o2,none⟩) 1 c2])::([]++[(g,98,(Value.int .u64 2::Z32).toArray)]++M1++M2):=λb hb=>by simp [hb]
 refine sA<|sp J<|sP (.bool true)<|sp J<|sp J<|sP (.int .i64 49)<|sP (.bool true)<|sP (.bool true)<|sp J<|sp J<|sS (.pointer (some ⟨gb,ob+7*1,none⟩)) (Quiet.pure (Bl 27 _ _ _ (some ⟨gb,ob,none⟩) gb ob 49 cp 7 1 .i64 J J J J Ay kF dZ))<|sS (bv 1) (AH (w0:=Base.of w) (R:=M1) (g:=gb) (f:=ob+7*1) (v:=bv 1) (.inr (hq 7 1 kZ)) i1 J uy5)<|sP (.bool true)<|sP (.bool true)<|sp J<|sp J<|sS (.pointer (some ⟨gb,ob+8*1,none⟩)) (Quiet.pure (Bl 27 _ _ _ (some ⟨gb,ob,none⟩) gb ob 49 cp 8 1 .i64 J J J J Ay kF dZ))<|sS (bv 1) (AH (w0:=Base.of w) (R:=M1) (g:=gb) (f:=ob+8*1) (v:=bv 1) (.inr (hq 8 1 kZ)) i1 J uy5)<|sP (.bool true)<|sP (.bool true)<|sp J<|sp J<|sP (.bool true)<|sP (.bool true)<|sp J<|sP (pT g3 0)<|sS (uZ 1) (qc 0 0 J J CF)<|sP (.bool true)<|sP (.bool true)<|sp J<|sP (pT g3 1)<|sS (.slice (some ⟨g2,o2,none⟩) 1 c2) (qc 0 1 J J G_)<|sP (.int .i64 1)<|sP (.bool true)<|sP (.bool true)<|sp J<|sP (pT g3 1)<|sS (.slice (some ⟨g2,o2,none⟩) 1 c2) (qc 0 1 J J G_)<|sS (.pointer (some ⟨g2,o2+0*33,none⟩)) (Quiet.pure (Bl 99 _ _ _ (some ⟨g2,o2,none⟩) g2 o2 1 c2 0 33 .i64 J J J J G_ kF dZ))<|sP (.pointer (some ⟨g2,o2+0*33,none⟩))<|sS (uZ 2) (AH (w0:=Base.of w) (R:=M2) (g:=g2) (f:=o2+0*33) (v:=uZ 2) (.inr d3.one) i2 J CF)<|sP (.bool true)<|sP (.bool true)<|sp J<|sp J<|sP (.bool true)<|sP (.bool true)<|sp J<|sG<|Sy.ret ?_
 exact rV (.bool true) rfl
theorem RP {α:Type} {p:Ps α} {ok:α→Bool} {enc:α→Byt} {dom:α→Prop} {wt:α→Nat} {c:Nat} (hF:Fits p ok enc dom) (hc:∀ x,ok x=true→wt x≤c) (z:α) (hz:wt z≤c) (raw:Byt) (o:Option α) (ho:o=GG p raw):(o.isSome=true→byE (ok (o.getD z)) (enc (o.getD z))=raw)∧wt (o.getD z)≤c:=by
 cases o with
 | none=>exact ⟨λh=>(by cases h),hz⟩
 | some x =>
  obtain ⟨⟨h1,_⟩,h2⟩:=hF.only ho.symm
  refine ⟨λ_=>?_,hc x h1⟩
  show byE (ok x) (enc x)=raw
  rw [h1,h2]; rfl
theorem Od (w:World) (x:MTr) (cs:List Value) (hx:Cy (rdW w) cs x) (hwt:FJ x≤1000000000000) :
  AL 8 #[.agg cs.toArray] w (A0 w (BytE (Dx x) (Dp x))):=by
 have hlen:cs.length=3:=by
  exact Sh hx
 refine Sy.enter (args:=[.agg cs.toArray]) Tryz.func8 J kL ?_
 refine sC<|sM 26 cs.toArray (λg1=>?_) kR (λw=>An J J kZ hlen w)
 refine sP (.slice none 0 0)<|sP (.int .i64 0)<|sA<|sP (.agg #[.slice none 0 0,.bool false])<|sM 88 #[.slice none 0 0,.bool false] (λgw=>?_)
 refine sp J<|sA<|Sy.permS (M:=WB gw false nilS [(g1,26,cs.toArray)]) (Sy.perm_at [1,0] kZ (by rfl))<|sp J<|sS (.agg cs.toArray) (Quiet.mid 1 g1 0 3 26 26 cs cs _ _ J kR J EX J kR (by rw [List.drop_zero,List.take_of_length_le om]) om)<|Sy.callT (λw' hw=>Qr (Base.of w) gw false nilS [(g1,26,cs.toArray)] [] x cs hx BS.nil (by show 0+_≤_; omega) w' hw) (λu M hM=>?_)
 obtain ⟨s',bad,b',q1,q2,rfl⟩:=hM
 have qb:=q1.bad
 refine sA<|sp J<|Sy.callT (λw' hw=>ON (Base.of w) gw bad s' [(g1,26,cs.toArray)] w' hw) (λu M hM=>?_)
 obtain ⟨rfl,rfl⟩:=hM
 cases bad
 ·have hok:Dx x=true:=by
   cases h:Dx x with
   | true=>rfl
   | false=>rw [h] at qb; cases qb
  have hbb:b'=Dp x:=q1.bytes J
  rw [if_neg dZ]
  refine sp J<|sp J<|sp J<|sp J<|sG<|Sy.ret ?_
  exact Sy.retGM2 s'.bl J (.inl (show _=_ by kernel_rfl)) (.inl (show _=_ by kernel_rfl)) (λ_ h=>h.less ((List.sublist_append_left _ _).trans (List.sublist_append_right _ _))) (.inl ⟨hok,_,rfl,by rw [← hbb]; exact q2.as⟩)
 ·have hok:Dx x=false:=by
   cases h:Dx x with
   | false=>rfl
   | true=>rw [h] at qb; cases qb
  rw [if_pos J]
  refine sp J<|sp J<|sp J<|sp J<|sG<|Sy.ret ?_
  exact Sy.retGM2 [] rfl (.inl (show _=_ by kernel_rfl)) (.inl (show _=_ by kernel_rfl)) (λ_ h=>h.none) (.inr ⟨hok,rfl,rfl⟩)
theorem Nc {α:Type} {rep:Rdr→List Value→α→Prop} {p:Ps α} (hp:∀ (w0:Base) (gr:Nat) (sl:Value) (b:Byt) (at_ e:Nat) (R:AA),at_≤b.length→e≤200→b.length≤70368744177664→BytR (rdW w0.world) sl b→∀ w,St w0 w (RB gr sl at_ e R)→AL 33 #[ptr gr] w (AQ w0 (Rfd p (J6 3 rep) gr sl b R at_ e))) (w:World) (v:Value) (b:Byt) (hv:BytR (rdW w) v b) (hl:b.length≤70368744177664) :
  AL 10 #[v] w (A0 w (RdE 3 ([Value.int .u64 0]++([Value.slice none 0 0]++([Value.slice none 0 0]))) rep (GG p b))):=by
 refine Sy.enter (args:=[v]) Tryz.func10 J kL<|sC<|sM 26 ([Value.int .u64 0]++([Value.slice none 0 0]++([Value.slice none 0 0]))).toArray (λg2=>?_)
 refine sP (.int .i64 0)<|sA<|sp J<|Sy.callN kR 32 #[v] kF _ (λw' hw=>L9 w' v b (hv.at hw)) (λu M hM=>?_)
 obtain ⟨gr,rfl,rfl⟩:=hM
 refine sp J<|sA<|Sy.permS (M:=RB gr v 0 0 [(g2,26,([Value.int .u64 0]++([Value.slice none 0 0]++([Value.slice none 0 0]))).toArray)]) (Sy.perm_at [1,0] kZ (by rfl))<|sp J<|Sy.callT (λw' hw=>hp (Base.of w) gr v b 0 0 [(g2,26,([Value.int .u64 0]++([Value.slice none 0 0]++([Value.slice none 0 0]))).toArray)] (Nat.zero_le _) (Nat.zero_le _) hl hv w' hw) (λu M hM=>?_)
 obtain ⟨x,a2,e2,N,q1,⟨cs,rfl,q2,q3,q4⟩,q5,q6,rfl⟩:=hM
 obtain ⟨o1,o2⟩:=L_ q1
 refine sM 26 ([Value.int .u64 0]++([Value.slice none 0 0]++([Value.slice none 0 0]))).toArray (λg5=>?_)
 refine Sy.movT (pre:=[(gr,166,rrC v a2 e2),(g2,26,([Value.int .u64 0]++([Value.slice none 0 0]++([Value.slice none 0 0]))).toArray)]) (T:=N)<|sw 2 J cs.toArray (Writes.row 26 cs 3 _ _ J kR kR kR q2 kZ q3)<|sG<|Sy.seq<|sC<|sp J<|Sy.callT (λw' hw=>Lz (Base.of w) gr v b a2 e2 ((g2,26,([Value.int .u64 0]++([Value.slice none 0 0]++([Value.slice none 0 0]))).toArray)::(g5,26,cs.toArray)::N) q6 q5 hl hv w' hw) (λu M hM=>?_)
 obtain ⟨rfl,rfl⟩:=hM
 obtain ⟨f,hf⟩:=xE (if Kl b a2 e2≠0 then 120 else 0)
 rw [← hf]
 have hfl:f≤200:=by rw [hf]; split <;> omega
 obtain ⟨b1,hb1⟩:=xE (decide (f≠0))
 refine sS (.bool b1) (qne J J J hb1)<|sG ?_
 cases b1
 ·have l1:f=0:=Decidable.of_not_not (of_decide_eq_false hb1.symm)
  have l2:Kl b a2 e2=0:=by
   rw [hf] at l1
   by_cases h:Kl b a2 e2=0
   ·exact h
   ·rw [if_pos h] at l1; cases l1
  have l3:e2=0∧b.drop a2=[]:=by
   unfold Kl at l2
   by_cases h:e2=0∧a2<b.length
   ·rw [if_pos h] at l2; cases l2
   ·rw [if_neg h] at l2
    exact ⟨l2,List.drop_eq_nil_of_le om⟩
  refine sU<|Sy.skip<|sB<|sS (.agg cs.toArray) (Quiet.mid 2 g5 0 3 26 26 cs cs _ _ J kR J EX J kR (by rw [List.drop_zero,List.take_of_length_le om]) om)<|sw 1 J cs.toArray (Writes.row 26 cs 3 _ _ J kR kR kR q2 kZ q3)<|sP (.int .i64 0)<|sG<|Sy.ret ?_
  exact Sy.retGM2 N J (.inl (Sy.Res.cell (ty':=26) g2 1 cs.toArray _ kZ J EX J (by rw [List.size_toArray,q2]; kernel_rfl) rfl)) (.inl (show _=_ by kernel_rfl)) (λ_ h=>h.less (((List.sublist_cons_self (g5,26,cs.toArray) N).cons (g2,26,cs.toArray)).cons (gr,166,rrC v a2 e2))) (.inl ⟨x,cs,o1 l3.1 l3.2,rfl,q2,q4⟩)
 ·have l1:=dY hb1
  have l3:e2≠0∨b.drop a2≠[]:=by
   by_cases h:e2=0∧a2<b.length
   ·refine .inr (λe=>?_)
    have:=congrArg List.length e
    rw [List.length_drop] at this
    simp at this; omega
   ·refine .inl (λe=>l1 ?_)
    rw [hf]; unfold Kl; rw [if_neg h,e]; rfl
  refine sT<|sC<|sP (.agg ([Value.int .u64 0]++([Value.slice none 0 0]++([Value.slice none 0 0]))).toArray)<|sw 1 J ([Value.int .u64 0]++([Value.slice none 0 0]++([Value.slice none 0 0]))).toArray (wA J)<|sP (.int .i64 120)<|sG<|Sy.ret<|Sy.then_ret ?_
  exact Sy.retGM2 [] rfl (.inl (Sy.Res.cell (ty':=26) g2 1 ([Value.int .u64 0]++([Value.slice none 0 0]++([Value.slice none 0 0]))).toArray _ kZ J EX J kZ J)) (.inl (show _=_ by kernel_rfl)) (λ_ h=>h.none) (.inr ⟨o2 l3,rfl,rfl⟩)
theorem law_wiretxs (w:World) (cs:List Value) (t:MTr) (hx:Cy (rdW w) cs t) (v:Value) (raw:Byt) (hv:BytR (rdW w) v raw) (hsz:Qu t≤1048576) (hl:raw.length≤1048576) :
  AL 3 #[.agg cs.toArray,v] w (Ai w (.bool true)):=by
 have hx0:=hx
 have lc:=Sh hx
 have hwt:FJ t≤1000000000:=Nat.le_trans (UV t) om
 obtain ⟨o1,ho1⟩:=xE (GG JH raw)
 obtain ⟨y,hY⟩:=xE (o1.getD NE)
 have hwy:FJ y≤1000000:=by rw [hY]; exact (RP (wt:=FJ) Ud (λx hx=>Ug hx) NE (show FJ NE≤1000000 by decide) raw o1 ho1).2
 obtain ⟨e1,he1⟩:=xE (erE (Dx t))
 obtain ⟨b1,hb1⟩:=xE (byE (Dx t) (Dp t))
 obtain ⟨e3,he3⟩:=xE (erE o1.isSome)
 obtain ⟨e5,he5⟩:=xE (erE (Dx y))
 obtain ⟨b5,hb5⟩:=xE (byE (Dx y) (Dp y))
 refine Sy.enter (args:=[.agg cs.toArray,v]) Tryz.func3 J kL ?_
 refine sC<|sM 26 cs.toArray (λg3=>?_) kR (λw=>An J J kZ lc w)
 refine sP (.bool false)<|sA<|sS (.agg cs.toArray) (Quiet.mid 0 g3 0 3 26 26 cs cs _ _ J kR J EX J kR (by rw [List.drop_zero,List.take_of_length_le om]) om)<|Sy.callN kR 7 #[.agg cs.toArray] kF (BytE (Dx t) (Dp t)) (λw' hw=>Tg (rep:=Cy) (ok:=Dx) (enc:=Dp) (wt:=FJ) GP Un w' cs t (GP (λg o u hu=>Aa (w0:=Base.of w) (R:=[]) hw (λ_ h=>by cases h) g o u (.inl hu)) hx0) lc om) (λu M1 hM=>?_)
 obtain ⟨u1,rfl,k1⟩:=hM.uni
 rw [← he1]
 rw [← hb1] at k1
 refine sp J<|sp J<|sp J<|sp J<|sp J<|sA<|sS (.agg cs.toArray) (Quiet.mid 0 g3 0 3 26 26 cs cs _ _ J kR J EX J kR (by rw [List.drop_zero,List.take_of_length_le om]) om)<|Sy.callN kR 8 #[.agg cs.toArray] kF (BytE (Dx t) (Dp t)) (λw' hw=>Od w' t cs (GP (λg o u hu=>Aa (w0:=Base.of w) (R:=[]) hw (λ_ h=>by cases h) g o u (.inl hu)) hx0) om) (λu M2 hM=>?_)
 obtain ⟨u2,rfl,k2⟩:=hM.uni
 rw [← he1]
 rw [← hb1] at k2
 refine sp J<|sp J<|sp J<|sp J<|sp J<|sA<|sp J<|Sy.callN kR 9 #[v] kF (RdE 3 ([Value.int .u64 0]++([Value.slice none 0 0]++([Value.slice none 0 0]))) Cy o1) (λw' hw=>by rw [ho1]; exact Q3 (rep:=Cy) (p:=JH) GP (@MX) Uo w' v raw (hv.le (λg o u hu=>Aa (w0:=Base.of w) (R:=[]) hw (λ_ h=>by cases h) g o u (.inl hu))) om) (λu M3 hM=>?_)
 obtain ⟨cs3,rfl,l3,r3⟩:=hM.uni NE (Js _) rfl
 rw [← he3]
 rw [← hY] at r3
 have l3a:cs3.length=3:=l3
 refine sp J<|sp J<|sp J<|sM 26 ([Value.int .u64 0]++([Value.slice none 0 0]++([Value.slice none 0 0]))).toArray (λg11=>?_)
 refine Sy.permS List.perm_append_comm<|sw 0 J cs3.toArray (Writes.row 26 cs3 3 _ _ J kR kR kR l3 kZ (MX r3))<|sp J<|sA<|sp J<|Sy.callN kR 10 #[v] kF (RdE 3 ([Value.int .u64 0]++([Value.slice none 0 0]++([Value.slice none 0 0]))) Cy o1) (λw' hw=>by rw [ho1]; exact Nc (rep:=Cy) (p:=JH) Qs w' v raw (hv.le (λg o u hu=>Aa (w0:=Base.of w) (R:=[]) hw (λ_ h=>by cases h) g o u (.inl hu))) om) (λu M4 hM=>?_)
 obtain ⟨cs4,rfl,l4,r4⟩:=hM.uni NE (Js _) rfl
 rw [← he3]
 rw [← hY] at r4
 have l4a:cs4.length=3:=l4
 refine sp J<|sp J<|sp J<|sM 26 ([Value.int .u64 0]++([Value.slice none 0 0]++([Value.slice none 0 0]))).toArray (λg13=>?_)
 refine Sy.permS List.perm_append_comm<|sw 0 J cs4.toArray (Writes.row 26 cs4 3 _ _ J kR kR kR l4 kZ (MX r4))<|sp J<|sA<|sS (.agg cs3.toArray) (Quiet.mid 1 g11 0 3 26 26 cs3 cs3 _ _ J kR J EX J kR (by rw [List.drop_zero,List.take_of_length_le om]) om)<|Sy.callN kR 8 #[.agg cs3.toArray] kF (BytE (Dx y) (Dp y)) (λw' hw=>Od w' y cs3 (GP (B_ hw (λb hb=>by simp [hb])) r3) om) (λu M5 hM=>?_)
 obtain ⟨u5,rfl,k5⟩:=hM.uni
 rw [← he5]
 rw [← hb5] at k5
 refine sp J<|sp J<|sp J<|sp J<|sp J<|sA<|sS (.agg cs4.toArray) (Quiet.mid 0 g13 0 3 26 26 cs4 cs4 _ _ J kR J EX J kR (by rw [List.drop_zero,List.take_of_length_le om]) om)<|Sy.callN kR 8 #[.agg cs4.toArray] kF (BytE (Dx y) (Dp y)) (λw' hw=>Od w' y cs4 (GP (B_ hw (λb hb=>by simp [hb])) r4) om) (λu M6 hM=>?_)
 obtain ⟨u6,rfl,k6⟩:=hM.uni
 rw [← he5]
 rw [← hb5] at k6
 refine sp J<|sp J<|sp J<|sp J<|sp J<|sA<|sS (.bool true) (qg (λw' hw=>SO w'))<|sp J<|sp J<|sp J<|sS (.bool true) (qg (λw' hw=>by have q:=J2 w' u1 u2 b1 b1 (k1.le (B_ hw (λb hb=>by simp [hb]))) (k2.le (B_ hw (λb hb=>by simp [hb]))); rw [decide_eq_true J] at q; exact q))<|sP (.bool true)<|sp J<|sp J<|sp J<|sS (.bool true) (Quiet.pure (AD .eql _ _ _ .i64 _ _ _ J J J (Ab _ _ _ _ _ (decide_eq_true J))))<|sP (.bool true)<|sp J<|sp J<|sp J<|sS (.bool true) (Quiet.pure (AD .eql _ _ _ .i64 _ _ _ J J J (Ab _ _ _ _ _ (decide_eq_true J))))<|sP (.bool true)<|sp J<|sp J<|sp J<|sS (.bool true) (qg (λw' hw=>by have q:=J2 w' u5 u6 b5 b5 (k5.le (B_ hw (λb hb=>by simp [hb]))) (k6.le (B_ hw (λb hb=>by simp [hb]))); rw [decide_eq_true J] at q; exact q))<|sP (.bool true)<|sp J<|sG<|Sy.ret ?_
 exact rV (.bool true) rfl
end Wr
end
end Go.Proofs.YtdbcombmmnihbaaGreat
