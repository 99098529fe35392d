/-
  Texts of ours, put together: WirGX, WirGZ, WirGR, WirGM, WirGN, WirGO, WirGS, WirGY, WirAA, WireOnlyL, WireBlocksL.
-/
import Derived.Test.YtdbcombmmnihbaaGreatWB9
set_option linter.unusedVariables false
set_option linter.unusedSimpArgs false
set_option maxRecDepth 100000
set_option maxHeartbeats 40000000
namespace Go.Proofs.YtdbcombmmnihbaaGreat
section
namespace Wr
open Go.RowKit Sy
abbrev zeIN:List Value:=((([]:List Value))++([Value.int .i64 0]++(Z32++([Value.int .u32 0]++(([Value.int .i64 0]++(([Value.bool false]++([Value.int .u64 0]++lPT ⟨0,0,false⟩))++([Value.slice none 0 0]++([Value.int .u64 0]++(Z32++(Cu.fws 0))))))++((Z32++([Value.slice none 0 0]++([Value.int .u32 0]++([Value.int .u32 0]++([Value.slice none 0 0]++([Value.slice none 0 0]))))))++([Value.slice none 0 0]++(([]:List Value)))))))))
abbrev zeTR:List Value:=((([]:List Value))++([Value.int .u64 0]++([Value.slice none 0 0]++([Value.slice none 0 0]++(([]:List Value))))))
theorem NX (w0:Base) (gr:Nat) (sl:Value) (b:Byt) (at_ e:Nat) (R:AA) (hat:at_≤b.length) (he:e≤200) (hl:b.length≤70368744177664) (hv:BytR (rdW w0.world) sl b) (w:World) (hw:St w0 w (RB gr sl at_ e R)) :
  AL 72 #[ptr gr] w (AQ w0 (Rfd Ej (H9 122 CY) gr sl b R at_ e)):=by
 have L0:([]:List Value).length=0:=rfl
 refine Sy.enterT (args:=[ptr gr]) hw Tryz.func72 J kL<|sC<|sM 151 zeIN.toArray (λg2=>?_)
 refine Sy.movT (pre:=[(gr,166,rrC sl at_ e)]) (T:=R)<|sA<|sM 151 ((([]:List Value))++([Value.int .i64 0]++(Z32++([Value.int .u32 0]++(([Value.int .i64 0]++(([Value.bool false]++([Value.int .u64 0]++lPT ⟨0,0,false⟩))++([Value.slice none 0 0]++([Value.int .u64 0]++(Z32++(Cu.fws 0))))))++((Z32++([Value.slice none 0 0]++([Value.int .u32 0]++([Value.int .u32 0]++([Value.slice none 0 0]++([Value.slice none 0 0]))))))++([Value.slice none 0 0]++(([]:List Value))))))))).toArray (λg3=>?_)
 refine Sy.movT (pre:=[(gr,166,rrC sl at_ e),(g2,151,zeIN.toArray)]) (T:=R)<|sA<|sp J<|Sy.callT (λw hw=>CX 1 2 w0.inn gr sl b at_ e _ hat he hl hv w hw) (λu M hM=>?_)
 obtain ⟨x1,a1,e1,N1,p1,⟨rfl,rfl⟩,u1,v1_,rfl⟩:=hM
 refine Sy.permS (List.Perm.of_eq (congrArg (RB gr sl a1 e1) (List.append_nil _)))<|sP (pT g3 0)<|sw 2 J _ (wOa 3 (.int .i64 x1) 0 J kR kR kR J J L0) ?_
 have L1:(([]:List Value)++([Value.int .i64 x1])).length=1:=by rw [List.length_append,L0]; rfl
 refine sA<|sp J<|Sy.callT (λw hw=>Ca w0.inn gr sl b a1 e1 _ u1 v1_ hl hv w hw) (λu M hM=>?_)
 obtain ⟨x2,a2,e2,N2,p2,⟨rfl,r2,rfl⟩,u2,v2_,rfl⟩:=hM
 refine Sy.permS (List.Perm.of_eq (congrArg (RB gr sl a2 e2) (List.append_nil _))) ?_
 have n2:(x2.map bv).length=32:=by rw [List.length_map,r2]
 refine sP (pT g3 1)<|sP (pT g3 1)<|sw 2 J _ (wMa 37 (x2.map bv) 32 1 J kR kR kR L1 Cn n2 (Bv x2)) ?_
 have L2:(([]:List Value)++([Value.int .i64 x1])++(x2.map bv)).length=33:=by rw [List.length_append,L1,n2]
 refine sA<|sp J<|Sy.callT (λw hw=>IR w0.inn gr sl b a2 e2 _ u2 v2_ hl hv w hw) (λu M hM=>?_)
 obtain ⟨x3,a3,e3,N3,p3,⟨rfl,r3,rfl⟩,u3,v3_,rfl⟩:=hM
 refine Sy.permS (List.Perm.of_eq (congrArg (RB gr sl a3 e3) (List.append_nil _)))<|sS (.int .u32 (x3:Int)) (Quiet.pure (λw=>Hq w _ _ _ x3 r3 J J))<|sP (pT g3 1)<|sP (pT g3 33)<|sw 2 J _ (wOa 140 (.int .u32 (x3:Int)) 33 J kR kR kR J J L2) ?_
 have L3:(([]:List Value)++([Value.int .i64 x1])++(x2.map bv)++([Value.int .u32 (x3:Int)])).length=34:=by rw [List.length_append,L2]; rfl
 refine sA<|sp J<|Sy.callT (λw hw=>Qw w0.inn gr sl b a3 e3 ((g2,151,zeIN.toArray)::(g3,151,((([]:List Value)++([Value.int .i64 x1])++(x2.map bv)++([Value.int .u32 (x3:Int)]))++(([Value.int .i64 0]++(([Value.bool false]++([Value.int .u64 0]++lPT ⟨0,0,false⟩))++([Value.slice none 0 0]++([Value.int .u64 0]++(Z32++(Cu.fws 0))))))++((Z32++([Value.slice none 0 0]++([Value.int .u32 0]++([Value.int .u32 0]++([Value.slice none 0 0]++([Value.slice none 0 0]))))))++([Value.slice none 0 0]++(([]:List Value)))))).toArray)::R) u3 v3_ hl hv w hw) (λu M hM=>?_)
 obtain ⟨x4,a4,e4,N4,p4,⟨c4,rfl,n4,o4,r4⟩,u4,v4_,rfl⟩:=hM
 refine Sy.permS (M:=RB gr sl a4 e4 ((g2,151,zeIN.toArray)::(g3,151,((([]:List Value)++([Value.int .i64 x1])++(x2.map bv)++([Value.int .u32 (x3:Int)]))++(([Value.int .i64 0]++(([Value.bool false]++([Value.int .u64 0]++lPT ⟨0,0,false⟩))++([Value.slice none 0 0]++([Value.int .u64 0]++(Z32++(Cu.fws 0))))))++((Z32++([Value.slice none 0 0]++([Value.int .u32 0]++([Value.int .u32 0]++([Value.slice none 0 0]++([Value.slice none 0 0]))))))++([Value.slice none 0 0]++(([]:List Value)))))).toArray)::(R++N4))) (List.Perm.of_eq (by simp only [List.cons_append,List.append_assoc]))<|sP (pT g3 34)<|sw 2 J _ (wMa 145 c4 50 34 J kR kR kR L3 J n4 o4) ?_
 have L4:(([]:List Value)++([Value.int .i64 x1])++(x2.map bv)++([Value.int .u32 (x3:Int)])++(c4)).length=84:=by rw [List.length_append,L3,n4]
 refine sG<|Sy.seq<|Ti (T:=MPg×List Value×Nat×Nat×AA) (λ_=>[(0,ptr gr),(2,ptr g2),(3,ptr g3)]) (λy=>RB gr sl y.2.2.1 y.2.2.2.1 ((g2,151,zeIN.toArray)::(g3,151,((([]:List Value)++([Value.int .i64 x1])++(x2.map bv)++([Value.int .u32 (x3:Int)])++(c4)++(y.2.1))++([Value.slice none 0 0]++(([]:List Value)))).toArray)::((R++N4)++y.2.2.2.2))) (λy=>After (if x1=2 then Jp else BF zPG) ⟨b.drop a4,e4⟩ y.1 ⟨b.drop y.2.2.1,y.2.2.2.1⟩∧y.2.1.length=37∧(∀ u∈y.2.1,u.oneCell'=true)∧ED (rdB y.2.2.2.2) y.2.1 y.1∧y.2.2.1≤b.length∧y.2.2.2.1≤200) (λy hy=>?_) (λK=>?_)
 case' refine_2 =>
  refine sC ?_
  by_cases hk:x1=2
  ·subst hk
   refine sP (pT g3 0)<|sS (.int .i64 2) (Quiet.cell 2 g3 0 151 3 ((([]:List Value)++([Value.int .i64 2])++(x2.map bv)++([Value.int .u32 (x3:Int)])++(c4))++((Z32++([Value.slice none 0 0]++([Value.int .u32 0]++([Value.int .u32 0]++([Value.slice none 0 0]++([Value.slice none 0 0]))))))++([Value.slice none 0 0]++(([]:List Value))))).toArray _ _ J kR J uy3 J _ J)<|sP (.bool true)<|sG<|sT<|Sy.region<|sp J<|Sy.callT (λw hw=>P_ w0.inn gr sl b a4 e4 ((g2,151,zeIN.toArray)::(g3,151,((([]:List Value)++([Value.int .i64 2])++(x2.map bv)++([Value.int .u32 (x3:Int)])++(c4))++((Z32++([Value.slice none 0 0]++([Value.int .u32 0]++([Value.int .u32 0]++([Value.slice none 0 0]++([Value.slice none 0 0]))))))++([Value.slice none 0 0]++(([]:List Value))))).toArray)::(R++N4)) u4 v4_ hl hv w hw) (λu M hM=>?_)
   obtain ⟨x5,a5,e5,N5,p5,⟨c5,rfl,n5,o5,r5⟩,u5,v5_,rfl⟩:=hM
   refine Sy.permS (M:=RB gr sl a5 e5 ((g2,151,zeIN.toArray)::(g3,151,((([]:List Value)++([Value.int .i64 2])++(x2.map bv)++([Value.int .u32 (x3:Int)])++(c4))++((Z32++([Value.slice none 0 0]++([Value.int .u32 0]++([Value.int .u32 0]++([Value.slice none 0 0]++([Value.slice none 0 0]))))))++([Value.slice none 0 0]++(([]:List Value))))).toArray)::((R++N4)++N5))) (List.Perm.of_eq (by simp only [List.cons_append,List.append_assoc]))<|sP (pT g3 84)<|sw 2 J _ (wMa 148 c5 37 84 J kR kR kR L4 J n5 o5) ?_
   have L5:(([]:List Value)++([Value.int .i64 2])++(x2.map bv)++([Value.int .u32 (x3:Int)])++(c4)++(c5)).length=121:=by rw [List.length_append,L4,n5]
   refine Sy.nil ?_
   exact NO K (x5,c5,a5,e5,N5) ⟨by rw [if_pos J]; exact p5,n5,o5,r5,u5,v5_⟩ ac3 (λ_ h=>h)
  refine sP (pT g3 0)<|sS (.int .i64 x1) (Quiet.cell 2 g3 0 151 3 ((([]:List Value)++([Value.int .i64 x1])++(x2.map bv)++([Value.int .u32 (x3:Int)])++(c4))++((Z32++([Value.slice none 0 0]++([Value.int .u32 0]++([Value.int .u32 0]++([Value.slice none 0 0]++([Value.slice none 0 0]))))))++([Value.slice none 0 0]++(([]:List Value))))).toArray _ _ J kR J uy3 J _ J)<|sS (.bool false) (Quiet.pure (AE .eql _ _ _ .i64 _ _ _ J J J (Aa _ _ _ _ _ (decide_eq_false hk))))<|sG<|sU<|Sy.skip ?_
  exact NO K (zPG,(Z32++([Value.slice none 0 0]++([Value.int .u32 0]++([Value.int .u32 0]++([Value.slice none 0 0]++([Value.slice none 0 0])))))),a4,e4,[]) ⟨by rw [if_neg hk]; exact After.ret zPG _,rfl,QM (Hf (rdB [])),Hf (rdB []),u4,v4_⟩ ac3 (λw h=>Sy.St.perm (L:=RB gr sl a4 e4 ((g2,151,zeIN.toArray)::(g3,151,((([]:List Value)++([Value.int .i64 x1])++(x2.map bv)++([Value.int .u32 (x3:Int)])++(c4))++((Z32++([Value.slice none 0 0]++([Value.int .u32 0]++([Value.int .u32 0]++([Value.slice none 0 0]++([Value.slice none 0 0]))))))++([Value.slice none 0 0]++(([]:List Value))))).toArray)::(R++N4))) h (List.Perm.of_eq (by simp only [List.append_assoc,List.append_nil])))
 obtain ⟨x5,c5,a5,e5,N5⟩:=y
 obtain ⟨p5,n5,o5,r5,u5,v5_⟩:=hy
 dsimp only at p5 n5 o5 r5 u5 v5_ ⊢
 refine Sy.then_ ?_
 have L5:(([]:List Value)++([Value.int .i64 x1])++(x2.map bv)++([Value.int .u32 (x3:Int)])++(c4)++(c5)).length=121:=by rw [List.length_append,L4,n5]
 refine sC ?_
 obtain ⟨CW,hCW⟩:=xE ((([]:List Value)++([Value.int .i64 x1])++(x2.map bv)++([Value.int .u32 (x3:Int)])++(c4)++(c5)))
 rw [← hCW] at L5 ⊢
 refine sp J<|Sy.callT (λw hw=>C' w0.inn gr sl b a5 e5 16 ((g2,151,zeIN.toArray)::(g3,151,(CW++([Value.slice none 0 0]++(([]:List Value)))).toArray)::((R++N4)++N5)) u5 v5_ dZ hl hv w hw) (λu M hM=>?_)
 obtain ⟨nW,amW,emW,NmW,qmW,⟨rfl,hmW,rfl⟩,umW,vmW,rfl⟩:=hM
 rw [List.append_nil ((g2,151,zeIN.toArray)::(g3,151,(CW++([Value.slice none 0 0]++(([]:List Value)))).toArray)::((R++N4)++N5))]
 refine sp J<|sG<|Sy.seq<|sC<|sP (.int .i64 0)<|sG<|Sy.block<|Sy.loopT (Y:=RLsN Byt) nW (λi _=>[(0,ptr gr),(2,ptr g2),(3,ptr g3),(4,.int .i64 (nW:Int)),(5,.int .i64 (i:Int))]) (λ_ y=>[(gr,166,rrC sl y.at_ y.e),(g2,151,zeIN.toArray),(g3,151,(CW++([y.r.v]++(([]:List Value)))).toArray)]++(y.r.bl++(((R++N4)++N5)++y.N))) (λi y=>After (Bz (Bq 256) i) ⟨b.drop amW,emW⟩ y.xs ⟨b.drop y.at_,y.e⟩∧y.at_≤b.length∧y.e≤200∧y.xs.length=i∧RowsOk 27 1 DX y.r y.N y.xs) ⟨amW,emW,[],nilS,[]⟩ ⟨After.ret [] _,umW,vmW,rfl,RowsOk.nil⟩ ac5 (λ_ h=>h.perm (List.Perm.of_eq (congrArg (λz=>(gr,166,rrC sl amW emW)::(g2,151,zeIN.toArray)::(g3,151,(CW++([Value.slice none 0 0]++(([]:List Value)))).toArray)::z) (List.append_nil ((R++N4)++N5)).symm))) (λi y hi hy=>?_)
 obtain ⟨alW,elW,xsW,rW,NlW⟩:=y
 obtain ⟨y1,ulW,vlW,y4,y5W⟩:=hy
 dsimp only at y1 ulW vlW y4 y5W ⊢
 obtain ⟨b3,hb3⟩:=xE (decide (i<nW∧elW=0))
 refine Sy.seq<|Sy.seq<|DN [(0,ptr gr),(2,ptr g2),(3,ptr g3),(4,.int .i64 (nW:Int)),(5,.int .i64 (i:Int)),(35,.bool b3)] ([(gr,166,rrC sl alW elW),(g2,151,zeIN.toArray),(g3,151,(CW++([rW.v]++(([]:List Value)))).toArray)]++(rW.bl++(((R++N4)++N5)++NlW))) ?_ ?_
 ·refine Sy.region ?_
  obtain ⟨b1,hb1⟩:=xE (decide (i<nW))
  refine sp J<|sp J<|sS (.bool b1) (qls J J J hb1)<|sp J ?_
  cases b1
  ·obtain rfl:b3=false:=by rw [hb3]; exact decide_eq_false (λh=>of_decide_eq_false hb1.symm h.1)
   refine sN<|sN<|sP (.bool false)<|Sy.nil ?_
   exact A_ ac6 (λ_ h=>h)
  ·obtain ⟨b2,hb2⟩:=xE (decide (elW=0))
   obtain rfl:b3=b2:=by rw [hb3,hb2]; exact decide_eq_decide.2 ⟨λh=>h.2,λh=>⟨of_decide_eq_true hb1.symm,h⟩⟩
   refine sp J<|sS (.bool b3) (qg (λw hw=>by rw [hb2]; exact Dt w0.inn gr sl alW elW (List.mem_cons_self ..) w hw))<|sP (.bool b3)<|Sy.nil ?_
   exact A_ ac6 (λ_ h=>h)
 refine Sy.then_ ?_
 cases b3
 case' false =>
  have l3:=dN hb3
  have hAW:After (Bz (Bq 256) nW) ⟨b.drop amW,emW⟩ xsW ⟨b.drop alW,elW⟩:=by
   by_cases h:i<nW
   ·exact y1.stop (λh0=>l3 ⟨h,h0⟩) hi
   ·obtain rfl:nW=i:=om
    exact y1
  have hLW:=RowsOk.lst (rep:=DX) Cv y5W
  refine sU<|Sy.exit<|Sy.then_exit<|Sy.then_exit<|Sy.in_exit<|Sy.then_ ?_
  have L6:(CW++([rW.v])).length=122:=by rw [List.length_append,L5]; rfl
  have hAf:After Ej ⟨b.drop at_,e⟩ ⟨x1,x2,x3,x4,x5,xsW⟩ ⟨b.drop alW,elW⟩:=by unfold Ej; rw [← T9]; exact p1.bind (p2.bind (p3.bind (p4.bind (p5.bind ((qmW.bind hAW).bind (After.ret _ _))))))
  have hrp:CY (rdB (N4++(N5++(NlW++(rW.bl))))) ((CW++([rW.v]))++([]:List Value)) ⟨x1,x2,x3,x4,x5,xsW⟩:=⟨c4,c5,rW.v,by rw [hCW]; simp only [List.append_assoc,List.append_nil,List.nil_append],r2,r3,IV (AV λb h=>by simp [h]) r4,ME (AV λb h=>by simp [h]) r5,LstR.le (rep:=DX) Cv (AV λb h=>by simp only [List.mem_append] at h ⊢; rcases h with h | h <;> simp [h]) hLW⟩
  have hln:((CW++([rW.v]))++([]:List Value)).length=122:=by rw [List.length_append,L6]; rfl
  have hon:∀ u∈((CW++([rW.v]))++([]:List Value)),u.oneCell'=true:=NC hrp
  refine sC<|Sy.permS (M:=RB gr sl alW elW ((g2,151,zeIN.toArray)::(g3,151,((CW++([rW.v]))++([]:List Value)).toArray)::(rW.bl++(((R++N4)++N5)++NlW)))) (List.Perm.of_eq (by simp only [List.append_assoc,List.cons_append,List.nil_append]))<|sS (.agg ((CW++([rW.v]))++([]:List Value)).toArray) (Quiet.mid 2 g3 0 122 151 151 ((CW++([rW.v]))++([]:List Value)) ((CW++([rW.v]))++([]:List Value)) _ _ J kR J KR J kR (by rw [List.drop_zero,List.take_of_length_le om]) om)<|sw 1 J ((CW++([rW.v]))++([]:List Value)).toArray (Writes.row 151 ((CW++([rW.v]))++([]:List Value)) 122 _ _ J kR kR kR hln kZ hon)<|sG<|Sy.ret ?_
  exact Sy.retT1 (RB gr sl alW elW (R++(N4++(N5++(NlW++(rW.bl)))))) J (.inl (Sy.Res.cell (ty':=151) g2 1 ((CW++([rW.v]))++([]:List Value)).toArray _ kZ J KR J (by rw [List.size_toArray,hln]; kernel_rfl) rfl)) (λ_ h=>Sy.St.parts (ls:=[[(gr,166,rrC sl alW elW)],[(g2,151,((CW++([rW.v]))++([]:List Value)).toArray)],[(g3,151,((CW++([rW.v]))++([]:List Value)).toArray)],rW.bl,R,N4,N5,NlW]) (ms:=[[(gr,166,rrC sl alW elW)],R,N4,N5,NlW,rW.bl]) [[(g2,151,((CW++([rW.v]))++([]:List Value)).toArray)],[(g3,151,((CW++([rW.v]))++([]:List Value)).toArray)]] [0,4,5,6,7,3,1,2] kZ (by rfl) (by simp) (by simp) h) ⟨_,alW,elW,N4++(N5++(NlW++(rW.bl))),hAf,⟨((CW++([rW.v]))++([]:List Value)),rfl,hln,hon,hrp⟩,ulW,vlW,rfl⟩
 obtain ⟨l1,l2⟩:i<nW∧elW=0:=of_decide_eq_true hb3.symm
 obtain ⟨ys,t1,t2,t3⟩:=y5W
 refine sT<|Sy.skip<|Sy.then_<|Sy.seq<|Sy.block<|Sy.regionD (λj=>j == 3 || j == 5 || j == 7) kR<|sb 0 J (pT g3 121)<|sa 2 J J<|Sy.joinG (T:=Byt×Nat×Nat×Nat×List Value×AA) (λy=>[(0,ptr gr),(2,ptr g2),(3,ptr g3),(4,.int .i64 (nW:Int)),(5,.int .i64 (i:Int)),(39,rW.v),(41,hd1 y.2.2.2.2.1),(42,.slice (some ⟨y.2.2.2.1,0,none⟩) 1 1)]) (λy=>[(gr,166,rrC sl y.2.1 y.2.2.1),(g2,151,zeIN.toArray),(g3,151,(CW++([rW.v]++(([]:List Value)))).toArray),(y.2.2.2.1,27,y.2.2.2.2.1.toArray)]++(rW.bl++(((R++N4)++N5)++(NlW++y.2.2.2.2.2)))) (λy=>After (Bq 256) ⟨b.drop alW,elW⟩ y.1 ⟨b.drop y.2.1,y.2.2.1⟩∧y.2.2.2.2.1.length=1∧(∀ u∈y.2.2.2.2.1,u.oneCell'=true)∧DX (rdB y.2.2.2.2.2) y.2.2.2.2.1 y.1∧y.2.1≤b.length∧y.2.2.1≤200) 3 #[true,true,true,true,true,false,false,false] (λy hy=>?_) (λk=>?_)
 case refine_2 =>
  refine Sy.anyOf [1,3] kZ dZ (Sy.each2 ?_ ?_)
  ·refine Sy.oneQuiet J kZ rW.v (Quiet.cell 2 g3 121 151 149 (CW++([rW.v]++(([]:List Value)))).toArray _ _ J kR J Df J _ (by rw [List.getElem?_toArray,List.getElem?_append_right (Nat.le_of_eq L5),L5]; rfl)) ?_
   refine Sy.soleD 3 J (λQ2 hq2=>?_)
   refine Sy.callT (λw hw=>CK 256 dZ w0.inn gr sl b alW elW ((g2,151,zeIN.toArray)::(g3,151,(CW++([rW.v]++(([]:List Value)))).toArray)::(rW.bl++(((R++N4)++N5)++NlW))) ulW vlW hl hv w hw) (λu M hM=>?_)
   obtain ⟨x2',a4',e4',N5',s1,tb,s3,s4,rfl⟩:=hM
   obtain ⟨A8,n8,c8,rfl,t8⟩:=tb.byt
   have t6:∀ u'∈[Value.slice A8 n8 c8],u'.oneCell'=true:=λu' hu'=>by rw [List.mem_singleton.1 hu']; rfl
   have t7:DX (rdB N5') [Value.slice A8 n8 c8] x2':=⟨_,rfl,_,_,_,rfl,t8⟩
   refine Sy.permS (M:=[(gr,166,rrC sl a4' e4'),(g2,151,zeIN.toArray),(g3,151,(CW++([rW.v]++(([]:List Value)))).toArray)]++(rW.bl++(((R++N4)++N5)++(NlW++N5')))) (List.Perm.of_eq (by simp only [List.append_assoc,List.cons_append,List.nil_append]))<|hq2 _ _<|Sy.makeD 4 J kR kR 27 #[.slice A8 n8 c8] (λg=>.slice (pA g) 1 1) kF (λg7=>?_)
   exact C4 k (x2',a4',e4',g7,[.slice A8 n8 c8],N5') ⟨s1,rfl,t6,t7,s3,s4⟩ rfl ac8 (Sy.mov_perm (pre:=[(gr,166,rrC sl a4' e4'),(g2,151,zeIN.toArray),(g3,151,(CW++([rW.v]++(([]:List Value)))).toArray)]) (T:=rW.bl++(((R++N4)++N5)++(NlW++N5'))))
  ·refine Oe J kZ J (λQ2 hq2=>?_)
   refine Sy.callT (λw hw=>CK 256 dZ w0.inn gr sl b alW elW ((g2,151,zeIN.toArray)::(g3,151,(CW++([rW.v]++(([]:List Value)))).toArray)::(rW.bl++(((R++N4)++N5)++NlW))) ulW vlW hl hv w hw) (λu M hM=>?_)
   obtain ⟨x2',a4',e4',N5',s1,tb,s3,s4,rfl⟩:=hM
   obtain ⟨A8,n8,c8,rfl,t8⟩:=tb.byt
   have t6:∀ u'∈[Value.slice A8 n8 c8],u'.oneCell'=true:=λu' hu'=>by rw [List.mem_singleton.1 hu']; rfl
   have t7:DX (rdB N5') [Value.slice A8 n8 c8] x2':=⟨_,rfl,_,_,_,rfl,t8⟩
   refine Sy.permS (M:=[(gr,166,rrC sl a4' e4'),(g2,151,zeIN.toArray),(g3,151,(CW++([rW.v]++(([]:List Value)))).toArray)]++(rW.bl++(((R++N4)++N5)++(NlW++N5')))) (List.Perm.of_eq (by simp only [List.append_assoc,List.cons_append,List.nil_append]))<|hq2 _ _<|Sy.anyOf [1,4] kZ dZ (Sy.each2 ?_ ?_)
   ·refine Sy.oneQuiet J kZ rW.v (Quiet.cell 2 g3 121 151 149 (CW++([rW.v]++(([]:List Value)))).toArray _ _ J kR J Df J _ (by rw [List.getElem?_toArray,List.getElem?_append_right (Nat.le_of_eq L5),L5]; rfl)) ?_
    refine Sy.makeD 4 J kR kR 27 #[.slice A8 n8 c8] (λg=>.slice (pA g) 1 1) kF (λg7=>?_)
    exact C4 k (x2',a4',e4',g7,[.slice A8 n8 c8],N5') ⟨s1,rfl,t6,t7,s3,s4⟩ rfl ac8 (Sy.mov_perm (pre:=[(gr,166,rrC sl a4' e4'),(g2,151,zeIN.toArray),(g3,151,(CW++([rW.v]++(([]:List Value)))).toArray)]) (T:=rW.bl++(((R++N4)++N5)++(NlW++N5'))))
   ·refine Sy.oneMake J kZ 27 #[.slice A8 n8 c8] (λg=>.slice (pA g) 1 1) kF (λg7=>?_)
    refine Sy.anyOf [1] kZ dZ (Sy.each1 ?_)
    refine Sy.oneQuiet J kZ rW.v (Quiet.cell 2 g3 121 151 149 (CW++([rW.v]++(([]:List Value)))).toArray _ _ J kR J Df J _ (by rw [List.getElem?_toArray,List.getElem?_append_right (Nat.le_of_eq L5),L5]; rfl)) ?_
    exact C4 k (x2',a4',e4',g7,[.slice A8 n8 c8],N5') ⟨s1,rfl,t6,t7,s3,s4⟩ rfl ac8 (Sy.mov_perm (pre:=[(gr,166,rrC sl a4' e4'),(g2,151,zeIN.toArray),(g3,151,(CW++([rW.v]++(([]:List Value)))).toArray)]) (T:=rW.bl++(((R++N4)++N5)++(NlW++N5'))))
 obtain ⟨z2,z4,w4,g7,cx,N6⟩:=y
 obtain ⟨s1,t5,t6,t7,s3,s4⟩:=hy
 dsimp only at s1 t5 t6 t7 s3 s4 ⊢
 obtain ⟨A9,n9,c9,rfl⟩:=IOz t7
 refine Sy.soleD 5 J (λQ2 hq2=>?_)
 refine Sy.appendR (pre:=[(gr,166,rrC sl z4 w4),(g2,151,zeIN.toArray),(g3,151,(CW++([rW.v]++(([]:List Value)))).toArray),(g7,27,[.slice A9 n9 c9].toArray)]) (T:=((R++N4)++N5)++(NlW++N6)) kR 149 27 _ _ 1 24 Df K5 J J J J dZ _ _ J t1 kR [.slice A9 n9 c9] t5 t6 3 g7 27 kR kR om (by simp only [maxLen]; omega) (λr' hr'=>?_)
 refine hq2 _ _<|sb 6 J (pT g3 121)<|sx 7 J 2 J (CW++([r'.v]++(([]:List Value)))).toArray (Writes.one 121 149 r'.v _ _ J kR kR kR hr'.cells.1 hr'.cells.2 (by rw [List.size_toArray,List.length_append,L5]; exact Nat.lt_add_of_pos_right (Nat.succ_pos _)) (Bt L5))<|sE<|Sy.in_<|Sy.then_<|Sy.region<|sp J<|sS (iZ (i+1)) (qad J J J)<|sp J<|Sy.nil ?_
 have hrows:RowsOk 27 1 DX r' (NlW++N6) (xsW++[z2]):=RowsOk.add (rep:=DX) t2 (λj x hx=>by
  obtain ⟨c,d1,d2⟩:=t3 j x hx
  exact ⟨c,d1,Cv (AV λb h=>List.mem_append_left _ h) d2⟩) hr' (Cv (AV λb h=>List.mem_append_right _ h) t7)
 exact Sy.againT ⟨z4,w4,xsW++[z2],r',NlW++N6⟩ l1 ⟨y1.snoc s1,s3,s4,by show (xsW++[_]).length=_; rw [List.length_append,y4]; rfl,hrows⟩ ac5 (λw h=>Sy.St.parts (ls:=[[(gr,166,rrC sl z4 w4),(g2,151,zeIN.toArray),(g3,151,(CW++([r'.v]++(([]:List Value)))).toArray)],[(g7,27,[.slice A9 n9 c9].toArray)],r'.bl++(((R++N4)++N5)++(NlW++N6))]) (ms:=[[(gr,166,rrC sl z4 w4),(g2,151,zeIN.toArray),(g3,151,(CW++([r'.v]++(([]:List Value)))).toArray)],r'.bl++(((R++N4)++N5)++(NlW++N6))]) [[(g7,27,[.slice A9 n9 c9].toArray)]] [0,2,1] kZ (by rfl) (by simp) (by simp) h)
theorem Mn (w0:Base) (gr:Nat) (sl:Value) (b:Byt) (at_ e:Nat) (R:AA) (hat:at_≤b.length) (he:e≤200) (hl:b.length≤70368744177664) (hv:BytR (rdW w0.world) sl b) (w:World) (hw:St w0 w (RB gr sl at_ e R)) :
  AL 33 #[ptr gr] w (AQ w0 (Rfd IC (H9 3 Cp) gr sl b R at_ e)):=by
 have L0:([]:List Value).length=0:=rfl
 refine Sy.enterT (args:=[ptr gr]) hw Tryz.func33 J kL<|sC<|sM 26 zeTR.toArray (λg2=>?_)
 refine Sy.movT (pre:=[(gr,166,rrC sl at_ e)]) (T:=R)<|sA<|sM 26 ((([]:List Value))++([Value.int .u64 0]++([Value.slice none 0 0]++([Value.slice none 0 0]++(([]:List Value)))))).toArray (λg3=>?_)
 refine Sy.movT (pre:=[(gr,166,rrC sl at_ e),(g2,26,zeTR.toArray)]) (T:=R)<|sA<|sp J<|Sy.callT (λw hw=>Eu w0.inn gr sl b at_ e 8 _ hat he dZ hl hv w hw) (λu M hM=>?_)
 obtain ⟨x1,a1,e1,N1,p1,⟨rfl,r1,rfl⟩,u1,v1_,rfl⟩:=hM
 refine Sy.permS (List.Perm.of_eq (congrArg (RB gr sl a1 e1) (List.append_nil _)))<|sP (pT g3 0)<|sw 2 J _ (wOa 22 (uZ (x1:Int)) 0 J kR kR kR J J L0) ?_
 have L1:(([]:List Value)++([Value.int .u64 (x1:Int)])).length=1:=by rw [List.length_append,L0]; rfl
 refine sA ?_
 obtain ⟨CI,hCI⟩:=xE ((([]:List Value)++([Value.int .u64 (x1:Int)])))
 rw [← hCI] at L1 ⊢
 refine sp J<|Sy.callT (λw hw=>C' w0.inn gr sl b a1 e1 16 ((g2,26,zeTR.toArray)::(g3,26,(CI++([Value.slice none 0 0]++([Value.slice none 0 0]++(([]:List Value))))).toArray)::R) u1 v1_ dZ hl hv w hw) (λu M hM=>?_)
 obtain ⟨nI,amI,emI,NmI,qmI,⟨rfl,hmI,rfl⟩,umI,vmI,rfl⟩:=hM
 rw [List.append_nil ((g2,26,zeTR.toArray)::(g3,26,(CI++([Value.slice none 0 0]++([Value.slice none 0 0]++(([]:List Value))))).toArray)::R)]
 refine sp J<|sG<|Sy.seq<|sC<|sP (.int .i64 0)<|sG<|Sy.block<|Sy.loopT (Y:=RLsN MIn) nI (λi _=>[(0,ptr gr),(2,ptr g2),(3,ptr g3),(4,.int .i64 (nI:Int)),(5,.int .i64 (i:Int))]) (λ_ y=>[(gr,166,rrC sl y.at_ y.e),(g2,26,zeTR.toArray),(g3,26,(CI++([y.r.v]++([Value.slice none 0 0]++(([]:List Value))))).toArray)]++(y.r.bl++(R++y.N))) (λi y=>After (Bz Ej i) ⟨b.drop amI,emI⟩ y.xs ⟨b.drop y.at_,y.e⟩∧y.at_≤b.length∧y.e≤200∧y.xs.length=i∧RowsOk 151 122 CY y.r y.N y.xs) ⟨amI,emI,[],nilS,[]⟩ ⟨After.ret [] _,umI,vmI,rfl,RowsOk.nil⟩ ac5 (λ_ h=>h.perm (List.Perm.of_eq (congrArg (λz=>(gr,166,rrC sl amI emI)::(g2,26,zeTR.toArray)::(g3,26,(CI++([Value.slice none 0 0]++([Value.slice none 0 0]++(([]:List Value))))).toArray)::z) (List.append_nil R).symm))) (λi y hi hy=>?_)
 obtain ⟨alI,elI,xsI,rI,NlI⟩:=y
 obtain ⟨y1,ulI,vlI,y4,y5I⟩:=hy
 dsimp only at y1 ulI vlI y4 y5I ⊢
 obtain ⟨b3,hb3⟩:=xE (decide (i<nI∧elI=0))
 refine Sy.seq<|Sy.seq<|DN [(0,ptr gr),(2,ptr g2),(3,ptr g3),(4,.int .i64 (nI:Int)),(5,.int .i64 (i:Int)),(18,.bool b3)] ([(gr,166,rrC sl alI elI),(g2,26,zeTR.toArray),(g3,26,(CI++([rI.v]++([Value.slice none 0 0]++(([]:List Value))))).toArray)]++(rI.bl++(R++NlI))) ?_ ?_
 ·refine Sy.region ?_
  obtain ⟨b1,hb1⟩:=xE (decide (i<nI))
  refine sp J<|sp J<|sS (.bool b1) (qls J J J hb1)<|sp J ?_
  cases b1
  ·obtain rfl:b3=false:=by rw [hb3]; exact decide_eq_false (λh=>of_decide_eq_false hb1.symm h.1)
   refine sN<|sN<|sP (.bool false)<|Sy.nil ?_
   exact A_ ac6 (λ_ h=>h)
  ·obtain ⟨b2,hb2⟩:=xE (decide (elI=0))
   obtain rfl:b3=b2:=by rw [hb3,hb2]; exact decide_eq_decide.2 ⟨λh=>h.2,λh=>⟨of_decide_eq_true hb1.symm,h⟩⟩
   refine sp J<|sS (.bool b3) (qg (λw hw=>by rw [hb2]; exact Dt w0.inn gr sl alI elI (List.mem_cons_self ..) w hw))<|sP (.bool b3)<|Sy.nil ?_
   exact A_ ac6 (λ_ h=>h)
 refine Sy.then_ ?_
 cases b3
 case' false =>
  have l3:=dN hb3
  have hAI:After (Bz Ej nI) ⟨b.drop amI,emI⟩ xsI ⟨b.drop alI,elI⟩:=by
   by_cases h:i<nI
   ·exact y1.stop (λh0=>l3 ⟨h,h0⟩) hi
   ·obtain rfl:nI=i:=om
    exact y1
  have hLI:=RowsOk.lst (rep:=CY) Ey y5I
  refine sU<|Sy.exit<|Sy.then_exit<|Sy.then_exit<|Sy.in_exit<|Sy.then_ ?_
  have L2:(CI++([rI.v])).length=2:=by rw [List.length_append,L1]; rfl
  refine sC<|Sy.permS (M:=RB gr sl alI elI ((g2,26,zeTR.toArray)::(g3,26,((CI++([rI.v]))++([Value.slice none 0 0]++(([]:List Value)))).toArray)::(rI.bl++(R++NlI)))) (List.Perm.of_eq (by simp only [List.append_assoc,List.cons_append,List.nil_append])) ?_
  obtain ⟨CO,hCO⟩:=xE ((CI++([rI.v])))
  rw [← hCO] at L2 ⊢
  refine sp J<|Sy.callT (λw hw=>C' w0.inn gr sl b alI elI 16 ((g2,26,zeTR.toArray)::(g3,26,(CO++([Value.slice none 0 0]++(([]:List Value)))).toArray)::(rI.bl++(R++NlI))) ulI vlI dZ hl hv w hw) (λu M hM=>?_)
  obtain ⟨nO,amO,emO,NmO,qmO,⟨rfl,hmO,rfl⟩,umO,vmO,rfl⟩:=hM
  rw [List.append_nil ((g2,26,zeTR.toArray)::(g3,26,(CO++([Value.slice none 0 0]++(([]:List Value)))).toArray)::(rI.bl++(R++NlI)))]
  refine sp J<|sG<|Sy.seq<|sC<|sP (.int .i64 0)<|sG<|Sy.block<|Sy.loopT (Y:=RLsN MOu) nO (λi _=>[(0,ptr gr),(2,ptr g2),(3,ptr g3),(4,.int .i64 (nO:Int)),(6,.int .i64 (i:Int))]) (λ_ y=>[(gr,166,rrC sl y.at_ y.e),(g2,26,zeTR.toArray),(g3,26,(CO++([y.r.v]++(([]:List Value)))).toArray)]++(y.r.bl++((rI.bl++(R++NlI))++y.N))) (λi y=>After (Bz Gn i) ⟨b.drop amO,emO⟩ y.xs ⟨b.drop y.at_,y.e⟩∧y.at_≤b.length∧y.e≤200∧y.xs.length=i∧RowsOk 63 58 Cg y.r y.N y.xs) ⟨amO,emO,[],nilS,[]⟩ ⟨After.ret [] _,umO,vmO,rfl,RowsOk.nil⟩ ac5 (λ_ h=>h.perm (List.Perm.of_eq (congrArg (λz=>(gr,166,rrC sl amO emO)::(g2,26,zeTR.toArray)::(g3,26,(CO++([Value.slice none 0 0]++(([]:List Value)))).toArray)::z) (List.append_nil (rI.bl++(R++NlI))).symm))) (λi y hi hy=>?_)
  obtain ⟨alO,elO,xsO,rO,NlO⟩:=y
  obtain ⟨y1,ulO,vlO,y4,y5O⟩:=hy
  dsimp only at y1 ulO vlO y4 y5O ⊢
  obtain ⟨b3,hb3⟩:=xE (decide (i<nO∧elO=0))
  refine Sy.seq<|Sy.seq<|DN [(0,ptr gr),(2,ptr g2),(3,ptr g3),(4,.int .i64 (nO:Int)),(6,.int .i64 (i:Int)),(36,.bool b3)] ([(gr,166,rrC sl alO elO),(g2,26,zeTR.toArray),(g3,26,(CO++([rO.v]++(([]:List Value)))).toArray)]++(rO.bl++((rI.bl++(R++NlI))++NlO))) ?_ ?_
  ·refine Sy.region ?_
   obtain ⟨b1,hb1⟩:=xE (decide (i<nO))
   refine sp J<|sp J<|sS (.bool b1) (qls J J J hb1)<|sp J ?_
   cases b1
   ·obtain rfl:b3=false:=by rw [hb3]; exact decide_eq_false (λh=>of_decide_eq_false hb1.symm h.1)
    refine sN<|sN<|sP (.bool false)<|Sy.nil ?_
    exact A_ ac6 (λ_ h=>h)
   ·obtain ⟨b2,hb2⟩:=xE (decide (elO=0))
    obtain rfl:b3=b2:=by rw [hb3,hb2]; exact decide_eq_decide.2 ⟨λh=>h.2,λh=>⟨of_decide_eq_true hb1.symm,h⟩⟩
    refine sp J<|sS (.bool b3) (qg (λw hw=>by rw [hb2]; exact Dt w0.inn gr sl alO elO (List.mem_cons_self ..) w hw))<|sP (.bool b3)<|Sy.nil ?_
    exact A_ ac6 (λ_ h=>h)
  refine Sy.then_ ?_
  cases b3
  case' false =>
   have l3:=dN hb3
   have hAO:After (Bz Gn nO) ⟨b.drop amO,emO⟩ xsO ⟨b.drop alO,elO⟩:=by
    by_cases h:i<nO
    ·exact y1.stop (λh0=>l3 ⟨h,h0⟩) hi
    ·obtain rfl:nO=i:=om
     exact y1
   have hLO:=RowsOk.lst (rep:=Cg) Ex y5O
   refine sU<|Sy.exit<|Sy.then_exit<|Sy.then_exit<|Sy.in_exit<|Sy.then_ ?_
   have L3:(CO++([rO.v])).length=3:=by rw [List.length_append,L2]; rfl
   have hAf:After IC ⟨b.drop at_,e⟩ ⟨x1,xsI,xsO⟩ ⟨b.drop alO,elO⟩:=p1.bind ((qmI.bind hAI).bind ((qmO.bind hAO).bind (After.ret _ _)))
   have hrp:Cp (rdB (NlI++(rI.bl++(NlO++(rO.bl))))) ((CO++([rO.v]))++([]:List Value)) ⟨x1,xsI,xsO⟩:=⟨rI.v,rO.v,by rw [hCO]; rw [hCI]; simp only [List.append_assoc,List.append_nil,List.nil_append],r1,LstR.le (rep:=CY) Ey (AV λb h=>by simp only [List.mem_append] at h ⊢; rcases h with h | h <;> simp [h]) hLI,LstR.le (rep:=Cg) Ex (AV λb h=>by simp only [List.mem_append] at h ⊢; rcases h with h | h <;> simp [h]) hLO⟩
   have hln:((CO++([rO.v]))++([]:List Value)).length=3:=by rw [List.length_append,L3]; rfl
   have hon:∀ u∈((CO++([rO.v]))++([]:List Value)),u.oneCell'=true:=Vc hrp
   refine sC<|Sy.permS (M:=RB gr sl alO elO ((g2,26,zeTR.toArray)::(g3,26,((CO++([rO.v]))++([]:List Value)).toArray)::(rO.bl++((rI.bl++(R++NlI))++NlO)))) (List.Perm.of_eq (by simp only [List.append_assoc,List.cons_append,List.nil_append]))<|sS (.agg ((CO++([rO.v]))++([]:List Value)).toArray) (Quiet.mid 2 g3 0 3 26 26 ((CO++([rO.v]))++([]:List Value)) ((CO++([rO.v]))++([]:List Value)) _ _ J kR J PI J kR (by rw [List.drop_zero,List.take_of_length_le om]) om)<|sw 1 J ((CO++([rO.v]))++([]:List Value)).toArray (Writes.row 26 ((CO++([rO.v]))++([]:List Value)) 3 _ _ J kR kR kR hln kZ hon)<|sG<|Sy.ret ?_
   exact Sy.retT1 (RB gr sl alO elO (R++(NlI++(rI.bl++(NlO++(rO.bl)))))) J (.inl (Sy.Res.cell (ty':=26) g2 1 ((CO++([rO.v]))++([]:List Value)).toArray _ kZ J PI J (by rw [List.size_toArray,hln]; kernel_rfl) rfl)) (λ_ h=>Sy.St.parts (ls:=[[(gr,166,rrC sl alO elO)],[(g2,26,((CO++([rO.v]))++([]:List Value)).toArray)],[(g3,26,((CO++([rO.v]))++([]:List Value)).toArray)],rO.bl,rI.bl,R,NlI,NlO]) (ms:=[[(gr,166,rrC sl alO elO)],R,NlI,rI.bl,NlO,rO.bl]) [[(g2,26,((CO++([rO.v]))++([]:List Value)).toArray)],[(g3,26,((CO++([rO.v]))++([]:List Value)).toArray)]] [0,5,6,4,7,3,1,2] kZ (by rfl) (by simp) (by simp) h) ⟨_,alO,elO,NlI++(rI.bl++(NlO++(rO.bl))),hAf,⟨((CO++([rO.v]))++([]:List Value)),rfl,hln,hon,hrp⟩,ulO,vlO,rfl⟩
  obtain ⟨l1,l2⟩:i<nO∧elO=0:=of_decide_eq_true hb3.symm
  obtain ⟨ys,t1,t2,t3⟩:=y5O
  refine sT<|Sy.skip<|Sy.then_<|Sy.seq<|Sy.block<|Sy.regionD (λj=>j == 3 || j == 5 || j == 7) kR<|sb 0 J (pT g3 2)<|sa 2 J J<|Sy.joinG (T:=MOu×Nat×Nat×Nat×List Value×AA) (λy=>[(0,ptr gr),(2,ptr g2),(3,ptr g3),(4,.int .i64 (nO:Int)),(6,.int .i64 (i:Int)),(40,rO.v),(42,.agg y.2.2.2.2.1.toArray),(43,.slice (some ⟨y.2.2.2.1,0,none⟩) 1 1)]) (λy=>[(gr,166,rrC sl y.2.1 y.2.2.1),(g2,26,zeTR.toArray),(g3,26,(CO++([rO.v]++(([]:List Value)))).toArray),(y.2.2.2.1,63,y.2.2.2.2.1.toArray)]++(rO.bl++((rI.bl++(R++NlI))++(NlO++y.2.2.2.2.2)))) (λy=>After Gn ⟨b.drop alO,elO⟩ y.1 ⟨b.drop y.2.1,y.2.2.1⟩∧y.2.2.2.2.1.length=58∧(∀ u∈y.2.2.2.2.1,u.oneCell'=true)∧Cg (rdB y.2.2.2.2.2) y.2.2.2.2.1 y.1∧y.2.1≤b.length∧y.2.2.1≤200) 3 #[true,true,true,true,true,false,false,false] (λy hy=>?_) (λk=>?_)
  case refine_2 =>
   refine Sy.anyOf [1,3] kZ dZ (Sy.each2 ?_ ?_)
   ·refine Sy.oneQuiet J kZ rO.v (Quiet.cell 2 g3 2 26 24 (CO++([rO.v]++(([]:List Value)))).toArray _ _ J kR J Gh J _ (by rw [List.getElem?_toArray,List.getElem?_append_right (Nat.le_of_eq L2),L2]; rfl)) ?_
    refine Sy.soleD 3 J (λQ2 hq2=>?_)
    refine Sy.callT (λw hw=>Kn w0.inn gr sl b alO elO ((g2,26,zeTR.toArray)::(g3,26,(CO++([rO.v]++(([]:List Value)))).toArray)::(rO.bl++((rI.bl++(R++NlI))++NlO))) ulO vlO hl hv w hw) (λu M hM=>?_)
    obtain ⟨x2',a4',e4',N5',s1,⟨cx,rfl,t5,t6,t7⟩,s3,s4,rfl⟩:=hM
    refine Sy.permS (M:=[(gr,166,rrC sl a4' e4'),(g2,26,zeTR.toArray),(g3,26,(CO++([rO.v]++(([]:List Value)))).toArray)]++(rO.bl++((rI.bl++(R++NlI))++(NlO++N5')))) (List.Perm.of_eq (by simp only [List.append_assoc,List.cons_append,List.nil_append]))<|hq2 _ _<|Sy.makeD 4 J kR kR 63 cx.toArray (λg=>.slice (pA g) 1 1) (Makes.one 24 63 _ _ 58 _ cx J kR Gh E1 J J t5 dZ dZ) (λg7=>?_)
    exact C4 k (x2',a4',e4',g7,cx,N5') ⟨s1,t5,t6,t7,s3,s4⟩ rfl ac8 (Sy.mov_perm (pre:=[(gr,166,rrC sl a4' e4'),(g2,26,zeTR.toArray),(g3,26,(CO++([rO.v]++(([]:List Value)))).toArray)]) (T:=rO.bl++((rI.bl++(R++NlI))++(NlO++N5'))))
   ·refine Oe J kZ J (λQ2 hq2=>?_)
    refine Sy.callT (λw hw=>Kn w0.inn gr sl b alO elO ((g2,26,zeTR.toArray)::(g3,26,(CO++([rO.v]++(([]:List Value)))).toArray)::(rO.bl++((rI.bl++(R++NlI))++NlO))) ulO vlO hl hv w hw) (λu M hM=>?_)
    obtain ⟨x2',a4',e4',N5',s1,⟨cx,rfl,t5,t6,t7⟩,s3,s4,rfl⟩:=hM
    refine Sy.permS (M:=[(gr,166,rrC sl a4' e4'),(g2,26,zeTR.toArray),(g3,26,(CO++([rO.v]++(([]:List Value)))).toArray)]++(rO.bl++((rI.bl++(R++NlI))++(NlO++N5')))) (List.Perm.of_eq (by simp only [List.append_assoc,List.cons_append,List.nil_append]))<|hq2 _ _<|Sy.anyOf [1,4] kZ dZ (Sy.each2 ?_ ?_)
    ·refine Sy.oneQuiet J kZ rO.v (Quiet.cell 2 g3 2 26 24 (CO++([rO.v]++(([]:List Value)))).toArray _ _ J kR J Gh J _ (by rw [List.getElem?_toArray,List.getElem?_append_right (Nat.le_of_eq L2),L2]; rfl)) ?_
     refine Sy.makeD 4 J kR kR 63 cx.toArray (λg=>.slice (pA g) 1 1) (Makes.one 24 63 _ _ 58 _ cx J kR Gh E1 J J t5 dZ dZ) (λg7=>?_)
     exact C4 k (x2',a4',e4',g7,cx,N5') ⟨s1,t5,t6,t7,s3,s4⟩ rfl ac8 (Sy.mov_perm (pre:=[(gr,166,rrC sl a4' e4'),(g2,26,zeTR.toArray),(g3,26,(CO++([rO.v]++(([]:List Value)))).toArray)]) (T:=rO.bl++((rI.bl++(R++NlI))++(NlO++N5'))))
    ·refine Sy.oneMake J kZ 63 cx.toArray (λg=>.slice (pA g) 1 1) (Makes.one 24 63 _ _ 58 _ cx J kR Gh E1 J J t5 dZ dZ) (λg7=>?_)
     refine Sy.anyOf [1] kZ dZ (Sy.each1 ?_)
     refine Sy.oneQuiet J kZ rO.v (Quiet.cell 2 g3 2 26 24 (CO++([rO.v]++(([]:List Value)))).toArray _ _ J kR J Gh J _ (by rw [List.getElem?_toArray,List.getElem?_append_right (Nat.le_of_eq L2),L2]; rfl)) ?_
     exact C4 k (x2',a4',e4',g7,cx,N5') ⟨s1,t5,t6,t7,s3,s4⟩ rfl ac8 (Sy.mov_perm (pre:=[(gr,166,rrC sl a4' e4'),(g2,26,zeTR.toArray),(g3,26,(CO++([rO.v]++(([]:List Value)))).toArray)]) (T:=rO.bl++((rI.bl++(R++NlI))++(NlO++N5'))))
  obtain ⟨z2,z4,w4,g7,cx,N6⟩:=y
  obtain ⟨s1,t5,t6,t7,s3,s4⟩:=hy
  dsimp only at s1 t5 t6 t7 s3 s4 ⊢
  refine Sy.soleD 5 J (λQ2 hq2=>?_)
  refine Sy.appendR (pre:=[(gr,166,rrC sl z4 w4),(g2,26,zeTR.toArray),(g3,26,(CO++([rO.v]++(([]:List Value)))).toArray),(g7,63,cx.toArray)]) (T:=(rI.bl++(R++NlI))++(NlO++N6)) kR 24 63 _ _ 58 304 Gh E1 J J J J dZ _ _ J t1 kR cx t5 t6 3 g7 63 kR kR om (by simp only [maxLen]; omega) (λr' hr'=>?_)
  refine hq2 _ _<|sb 6 J (pT g3 2)<|sx 7 J 2 J (CO++([r'.v]++(([]:List Value)))).toArray (Writes.one 2 24 r'.v _ _ J kR kR kR hr'.cells.1 hr'.cells.2 (by rw [List.size_toArray,List.length_append,L2]; exact Nat.lt_add_of_pos_right (Nat.succ_pos _)) (Bt L2))<|sE<|Sy.in_<|Sy.then_<|Sy.region<|sp J<|sS (iZ (i+1)) (qad J J J)<|sp J<|Sy.nil ?_
  have hrows:RowsOk 63 58 Cg r' (NlO++N6) (xsO++[z2]):=RowsOk.add (rep:=Cg) t2 (λj x hx=>by
   obtain ⟨c,d1,d2⟩:=t3 j x hx
   exact ⟨c,d1,Ex (AV λb h=>List.mem_append_left _ h) d2⟩) hr' (Ex (AV λb h=>List.mem_append_right _ h) t7)
  exact Sy.againT ⟨z4,w4,xsO++[z2],r',NlO++N6⟩ l1 ⟨y1.snoc s1,s3,s4,by show (xsO++[_]).length=_; rw [List.length_append,y4]; rfl,hrows⟩ ac5 (λw h=>Sy.St.parts (ls:=[[(gr,166,rrC sl z4 w4),(g2,26,zeTR.toArray),(g3,26,(CO++([r'.v]++(([]:List Value)))).toArray)],[(g7,63,cx.toArray)],r'.bl++((rI.bl++(R++NlI))++(NlO++N6))]) (ms:=[[(gr,166,rrC sl z4 w4),(g2,26,zeTR.toArray),(g3,26,(CO++([r'.v]++(([]:List Value)))).toArray)],r'.bl++((rI.bl++(R++NlI))++(NlO++N6))]) [[(g7,63,cx.toArray)]] [0,2,1] kZ (by rfl) (by simp) (by simp) h)
 obtain ⟨l1,l2⟩:i<nI∧elI=0:=of_decide_eq_true hb3.symm
 obtain ⟨ys,t1,t2,t3⟩:=y5I
 refine sT<|Sy.skip<|Sy.then_<|Sy.seq<|Sy.block<|Sy.regionD (λj=>j == 3 || j == 5 || j == 7) kR<|sb 0 J (pT g3 1)<|sa 2 J J<|Sy.joinG (T:=MIn×Nat×Nat×Nat×List Value×AA) (λy=>[(0,ptr gr),(2,ptr g2),(3,ptr g3),(4,.int .i64 (nI:Int)),(5,.int .i64 (i:Int)),(22,rI.v),(24,.agg y.2.2.2.2.1.toArray),(25,.slice (some ⟨y.2.2.2.1,0,none⟩) 1 1)]) (λy=>[(gr,166,rrC sl y.2.1 y.2.2.1),(g2,26,zeTR.toArray),(g3,26,(CI++([rI.v]++([Value.slice none 0 0]++(([]:List Value))))).toArray),(y.2.2.2.1,151,y.2.2.2.2.1.toArray)]++(rI.bl++(R++(NlI++y.2.2.2.2.2)))) (λy=>After Ej ⟨b.drop alI,elI⟩ y.1 ⟨b.drop y.2.1,y.2.2.1⟩∧y.2.2.2.2.1.length=122∧(∀ u∈y.2.2.2.2.1,u.oneCell'=true)∧CY (rdB y.2.2.2.2.2) y.2.2.2.2.1 y.1∧y.2.1≤b.length∧y.2.2.1≤200) 3 #[true,true,true,true,true,false,false,false] (λy hy=>?_) (λk=>?_)
 case refine_2 =>
  refine Sy.anyOf [1,3] kZ dZ (Sy.each2 ?_ ?_)
  ·refine Sy.oneQuiet J kZ rI.v (Quiet.cell 2 g3 1 26 23 (CI++([rI.v]++([Value.slice none 0 0]++(([]:List Value))))).toArray _ _ J kR J Gi J _ (by rw [List.getElem?_toArray,List.getElem?_append_right (Nat.le_of_eq L1),L1]; rfl)) ?_
   refine Sy.soleD 3 J (λQ2 hq2=>?_)
   refine Sy.callT (λw hw=>NX w0.inn gr sl b alI elI ((g2,26,zeTR.toArray)::(g3,26,(CI++([rI.v]++([Value.slice none 0 0]++(([]:List Value))))).toArray)::(rI.bl++(R++NlI))) ulI vlI hl hv w hw) (λu M hM=>?_)
   obtain ⟨x2',a4',e4',N5',s1,⟨cx,rfl,t5,t6,t7⟩,s3,s4,rfl⟩:=hM
   refine Sy.permS (M:=[(gr,166,rrC sl a4' e4'),(g2,26,zeTR.toArray),(g3,26,(CI++([rI.v]++([Value.slice none 0 0]++(([]:List Value))))).toArray)]++(rI.bl++(R++(NlI++N5')))) (List.Perm.of_eq (by simp only [List.append_assoc,List.cons_append,List.nil_append]))<|hq2 _ _<|Sy.makeD 4 J kR kR 151 cx.toArray (λg=>.slice (pA g) 1 1) (Makes.one 23 151 _ _ 122 _ cx J kR Gi E3 J J t5 dZ dZ) (λg7=>?_)
   exact C4 k (x2',a4',e4',g7,cx,N5') ⟨s1,t5,t6,t7,s3,s4⟩ rfl ac8 (Sy.mov_perm (pre:=[(gr,166,rrC sl a4' e4'),(g2,26,zeTR.toArray),(g3,26,(CI++([rI.v]++([Value.slice none 0 0]++(([]:List Value))))).toArray)]) (T:=rI.bl++(R++(NlI++N5'))))
  ·refine Oe J kZ J (λQ2 hq2=>?_)
   refine Sy.callT (λw hw=>NX w0.inn gr sl b alI elI ((g2,26,zeTR.toArray)::(g3,26,(CI++([rI.v]++([Value.slice none 0 0]++(([]:List Value))))).toArray)::(rI.bl++(R++NlI))) ulI vlI hl hv w hw) (λu M hM=>?_)
   obtain ⟨x2',a4',e4',N5',s1,⟨cx,rfl,t5,t6,t7⟩,s3,s4,rfl⟩:=hM
   refine Sy.permS (M:=[(gr,166,rrC sl a4' e4'),(g2,26,zeTR.toArray),(g3,26,(CI++([rI.v]++([Value.slice none 0 0]++(([]:List Value))))).toArray)]++(rI.bl++(R++(NlI++N5')))) (List.Perm.of_eq (by simp only [List.append_assoc,List.cons_append,List.nil_append]))<|hq2 _ _<|Sy.anyOf [1,4] kZ dZ (Sy.each2 ?_ ?_)
   ·refine Sy.oneQuiet J kZ rI.v (Quiet.cell 2 g3 1 26 23 (CI++([rI.v]++([Value.slice none 0 0]++(([]:List Value))))).toArray _ _ J kR J Gi J _ (by rw [List.getElem?_toArray,List.getElem?_append_right (Nat.le_of_eq L1),L1]; rfl)) ?_
    refine Sy.makeD 4 J kR kR 151 cx.toArray (λg=>.slice (pA g) 1 1) (Makes.one 23 151 _ _ 122 _ cx J kR Gi E3 J J t5 dZ dZ) (λg7=>?_)
    exact C4 k (x2',a4',e4',g7,cx,N5') ⟨s1,t5,t6,t7,s3,s4⟩ rfl ac8 (Sy.mov_perm (pre:=[(gr,166,rrC sl a4' e4'),(g2,26,zeTR.toArray),(g3,26,(CI++([rI.v]++([Value.slice none 0 0]++(([]:List Value))))).toArray)]) (T:=rI.bl++(R++(NlI++N5'))))
   ·refine Sy.oneMake J kZ 151 cx.toArray (λg=>.slice (pA g) 1 1) (Makes.one 23 151 _ _ 122 _ cx J kR Gi E3 J J t5 dZ dZ) (λg7=>?_)
    refine Sy.anyOf [1] kZ dZ (Sy.each1 ?_)
    refine Sy.oneQuiet J kZ rI.v (Quiet.cell 2 g3 1 26 23 (CI++([rI.v]++([Value.slice none 0 0]++(([]:List Value))))).toArray _ _ J kR J Gi J _ (by rw [List.getElem?_toArray,List.getElem?_append_right (Nat.le_of_eq L1),L1]; rfl)) ?_
    exact C4 k (x2',a4',e4',g7,cx,N5') ⟨s1,t5,t6,t7,s3,s4⟩ rfl ac8 (Sy.mov_perm (pre:=[(gr,166,rrC sl a4' e4'),(g2,26,zeTR.toArray),(g3,26,(CI++([rI.v]++([Value.slice none 0 0]++(([]:List Value))))).toArray)]) (T:=rI.bl++(R++(NlI++N5'))))
 obtain ⟨z2,z4,w4,g7,cx,N6⟩:=y
 obtain ⟨s1,t5,t6,t7,s3,s4⟩:=hy
 dsimp only at s1 t5 t6 t7 s3 s4 ⊢
 refine Sy.soleD 5 J (λQ2 hq2=>?_)
 refine Sy.appendR (pre:=[(gr,166,rrC sl z4 w4),(g2,26,zeTR.toArray),(g3,26,(CI++([rI.v]++([Value.slice none 0 0]++(([]:List Value))))).toArray),(g7,151,cx.toArray)]) (T:=R++(NlI++N6)) kR 23 151 _ _ 122 376 Gi E3 J J J J dZ _ _ J t1 kR cx t5 t6 3 g7 151 kR kR om (by simp only [maxLen]; omega) (λr' hr'=>?_)
 refine hq2 _ _<|sb 6 J (pT g3 1)<|sx 7 J 2 J (CI++([r'.v]++([Value.slice none 0 0]++(([]:List Value))))).toArray (Writes.one 1 23 r'.v _ _ J kR kR kR hr'.cells.1 hr'.cells.2 (by rw [List.size_toArray,List.length_append,L1]; exact Nat.lt_add_of_pos_right (Nat.succ_pos _)) (Bt L1))<|sE<|Sy.in_<|Sy.then_<|Sy.region<|sp J<|sS (iZ (i+1)) (qad J J J)<|sp J<|Sy.nil ?_
 have hrows:RowsOk 151 122 CY r' (NlI++N6) (xsI++[z2]):=RowsOk.add (rep:=CY) t2 (λj x hx=>by
  obtain ⟨c,d1,d2⟩:=t3 j x hx
  exact ⟨c,d1,Ey (AV λb h=>List.mem_append_left _ h) d2⟩) hr' (Ey (AV λb h=>List.mem_append_right _ h) t7)
 exact Sy.againT ⟨z4,w4,xsI++[z2],r',NlI++N6⟩ l1 ⟨y1.snoc s1,s3,s4,by show (xsI++[_]).length=_; rw [List.length_append,y4]; rfl,hrows⟩ ac5 (λw h=>Sy.St.parts (ls:=[[(gr,166,rrC sl z4 w4),(g2,26,zeTR.toArray),(g3,26,(CI++([r'.v]++([Value.slice none 0 0]++(([]:List Value))))).toArray)],[(g7,151,cx.toArray)],r'.bl++(R++(NlI++N6))]) (ms:=[[(gr,166,rrC sl z4 w4),(g2,26,zeTR.toArray),(g3,26,(CI++([r'.v]++([Value.slice none 0 0]++(([]:List Value))))).toArray)],r'.bl++(R++(NlI++N6))]) [[(g7,151,cx.toArray)]] [0,2,1] kZ (by rfl) (by simp) (by simp) h)
abbrev zeBL:List Value:=((([]:List Value))++((Z32++([Value.int .u64 0]++([Value.int .u64 0]++(Z32++(Z32++([Value.slice none 0 0]++([Value.bool false]++([Value.int .i64 0]++[Value.slice none 0 0]))))))))++([Value.slice none 0 0]++([Value.slice none 0 0]++(([]:List Value))))))
theorem Rd (w0:Base) (gr:Nat) (sl:Value) (b:Byt) (at_ e:Nat) (R:AA) (hat:at_≤b.length) (he:e≤200) (hl:b.length≤70368744177664) (hv:BytR (rdW w0.world) sl b) (w:World) (hw:St w0 w (RB gr sl at_ e R)) :
  AL 41 #[ptr gr] w (AQ w0 (Rfd Jr (H9 104 C3) gr sl b R at_ e)):=by
 have L0:([]:List Value).length=0:=rfl
 refine Sy.enterT (args:=[ptr gr]) hw Tryz.func41 J kL<|sC<|sM 46 zeBL.toArray (λg2=>?_)
 refine Sy.movT (pre:=[(gr,166,rrC sl at_ e)]) (T:=R)<|sA<|sM 46 ((([]:List Value))++((Z32++([Value.int .u64 0]++([Value.int .u64 0]++(Z32++(Z32++([Value.slice none 0 0]++([Value.bool false]++([Value.int .i64 0]++[Value.slice none 0 0]))))))))++([Value.slice none 0 0]++([Value.slice none 0 0]++(([]:List Value)))))).toArray (λg3=>?_)
 refine Sy.movT (pre:=[(gr,166,rrC sl at_ e),(g2,46,zeBL.toArray)]) (T:=R)<|sA<|sp J<|Sy.callT (λw hw=>Q2 w0.inn gr sl b at_ e ((g2,46,zeBL.toArray)::(g3,46,((([]:List Value))++((Z32++([Value.int .u64 0]++([Value.int .u64 0]++(Z32++(Z32++([Value.slice none 0 0]++([Value.bool false]++([Value.int .i64 0]++[Value.slice none 0 0]))))))))++([Value.slice none 0 0]++([Value.slice none 0 0]++(([]:List Value)))))).toArray)::R) hat he hl hv w hw) (λu M hM=>?_)
 obtain ⟨x1,a1,e1,N1,p1,⟨c1,rfl,n1,o1,r1⟩,u1,v1_,rfl⟩:=hM
 refine Sy.permS (M:=RB gr sl a1 e1 ((g2,46,zeBL.toArray)::(g3,46,((([]:List Value))++((Z32++([Value.int .u64 0]++([Value.int .u64 0]++(Z32++(Z32++([Value.slice none 0 0]++([Value.bool false]++([Value.int .i64 0]++[Value.slice none 0 0]))))))))++([Value.slice none 0 0]++([Value.slice none 0 0]++(([]:List Value)))))).toArray)::(R++N1))) (List.Perm.of_eq (by simp only [List.cons_append,List.append_assoc]))<|sP (pT g3 0)<|sw 2 J _ (wMa 42 c1 102 0 J kR kR kR L0 J n1 o1) ?_
 have L1:(([]:List Value)++(c1)).length=102:=by rw [List.length_append,L0,n1]
 refine sA ?_
 obtain ⟨CS,hCS⟩:=xE ((([]:List Value)++(c1)))
 rw [← hCS] at L1 ⊢
 refine sp J<|Sy.callT (λw hw=>C' w0.inn gr sl b a1 e1 16 ((g2,46,zeBL.toArray)::(g3,46,(CS++([Value.slice none 0 0]++([Value.slice none 0 0]++(([]:List Value))))).toArray)::(R++N1)) u1 v1_ dZ hl hv w hw) (λu M hM=>?_)
 obtain ⟨nS,amS,emS,NmS,qmS,⟨rfl,hmS,rfl⟩,umS,vmS,rfl⟩:=hM
 rw [List.append_nil ((g2,46,zeBL.toArray)::(g3,46,(CS++([Value.slice none 0 0]++([Value.slice none 0 0]++(([]:List Value))))).toArray)::(R++N1))]
 refine sp J<|sG<|Sy.seq<|sC<|sP (.int .i64 0)<|sG<|Sy.block<|Sy.loopT (Y:=RLsN MSg) nS (λi _=>[(0,ptr gr),(2,ptr g2),(3,ptr g3),(4,.int .i64 (nS:Int)),(5,.int .i64 (i:Int))]) (λ_ y=>[(gr,166,rrC sl y.at_ y.e),(g2,46,zeBL.toArray),(g3,46,(CS++([y.r.v]++([Value.slice none 0 0]++(([]:List Value))))).toArray)]++(y.r.bl++((R++N1)++y.N))) (λi y=>After (Bz I0 i) ⟨b.drop amS,emS⟩ y.xs ⟨b.drop y.at_,y.e⟩∧y.at_≤b.length∧y.e≤200∧y.xs.length=i∧RowsOk 182 65 DT y.r y.N y.xs) ⟨amS,emS,[],nilS,[]⟩ ⟨After.ret [] _,umS,vmS,rfl,RowsOk.nil⟩ ac5 (λ_ h=>h.perm (List.Perm.of_eq (congrArg (λz=>(gr,166,rrC sl amS emS)::(g2,46,zeBL.toArray)::(g3,46,(CS++([Value.slice none 0 0]++([Value.slice none 0 0]++(([]:List Value))))).toArray)::z) (List.append_nil (R++N1)).symm))) (λi y hi hy=>?_)
 obtain ⟨alS,elS,xsS,rS,NlS⟩:=y
 obtain ⟨y1,ulS,vlS,y4,y5S⟩:=hy
 dsimp only at y1 ulS vlS y4 y5S ⊢
 obtain ⟨b3,hb3⟩:=xE (decide (i<nS∧elS=0))
 refine Sy.seq<|Sy.seq<|DN [(0,ptr gr),(2,ptr g2),(3,ptr g3),(4,.int .i64 (nS:Int)),(5,.int .i64 (i:Int)),(21,.bool b3)] ([(gr,166,rrC sl alS elS),(g2,46,zeBL.toArray),(g3,46,(CS++([rS.v]++([Value.slice none 0 0]++(([]:List Value))))).toArray)]++(rS.bl++((R++N1)++NlS))) ?_ ?_
 ·refine Sy.region ?_
  obtain ⟨b1,hb1⟩:=xE (decide (i<nS))
  refine sp J<|sp J<|sS (.bool b1) (qls J J J hb1)<|sp J ?_
  cases b1
  ·obtain rfl:b3=false:=by rw [hb3]; exact decide_eq_false (λh=>of_decide_eq_false hb1.symm h.1)
   refine sN<|sN<|sP (.bool false)<|Sy.nil ?_
   exact A_ ac6 (λ_ h=>h)
  ·obtain ⟨b2,hb2⟩:=xE (decide (elS=0))
   obtain rfl:b3=b2:=by rw [hb3,hb2]; exact decide_eq_decide.2 ⟨λh=>h.2,λh=>⟨of_decide_eq_true hb1.symm,h⟩⟩
   refine sp J<|sS (.bool b3) (qg (λw hw=>by rw [hb2]; exact Dt w0.inn gr sl alS elS (List.mem_cons_self ..) w hw))<|sP (.bool b3)<|Sy.nil ?_
   exact A_ ac6 (λ_ h=>h)
 refine Sy.then_ ?_
 cases b3
 case' false =>
  have l3:=dN hb3
  have hAS:After (Bz I0 nS) ⟨b.drop amS,emS⟩ xsS ⟨b.drop alS,elS⟩:=by
   by_cases h:i<nS
   ·exact y1.stop (λh0=>l3 ⟨h,h0⟩) hi
   ·obtain rfl:nS=i:=om
    exact y1
  have hLS:=RowsOk.lst (rep:=DT) Gs y5S
  refine sU<|Sy.exit<|Sy.then_exit<|Sy.then_exit<|Sy.in_exit<|Sy.then_ ?_
  have L2:(CS++([rS.v])).length=103:=by rw [List.length_append,L1]; rfl
  refine sC<|Sy.permS (M:=RB gr sl alS elS ((g2,46,zeBL.toArray)::(g3,46,((CS++([rS.v]))++([Value.slice none 0 0]++(([]:List Value)))).toArray)::(rS.bl++((R++N1)++NlS)))) (List.Perm.of_eq (by simp only [List.append_assoc,List.cons_append,List.nil_append])) ?_
  obtain ⟨CT,hCT⟩:=xE ((CS++([rS.v])))
  rw [← hCT] at L2 ⊢
  refine sp J<|Sy.callT (λw hw=>C' w0.inn gr sl b alS elS 64 ((g2,46,zeBL.toArray)::(g3,46,(CT++([Value.slice none 0 0]++(([]:List Value)))).toArray)::(rS.bl++((R++N1)++NlS))) ulS vlS dZ hl hv w hw) (λu M hM=>?_)
  obtain ⟨nT,amT,emT,NmT,qmT,⟨rfl,hmT,rfl⟩,umT,vmT,rfl⟩:=hM
  rw [List.append_nil ((g2,46,zeBL.toArray)::(g3,46,(CT++([Value.slice none 0 0]++(([]:List Value)))).toArray)::(rS.bl++((R++N1)++NlS)))]
  refine sp J<|sG<|Sy.seq<|sC<|sP (.int .i64 0)<|sG<|Sy.block<|Sy.loopT (Y:=RLsN MTr) nT (λi _=>[(0,ptr gr),(2,ptr g2),(3,ptr g3),(4,.int .i64 (nT:Int)),(9,.int .i64 (i:Int))]) (λ_ y=>[(gr,166,rrC sl y.at_ y.e),(g2,46,zeBL.toArray),(g3,46,(CT++([y.r.v]++(([]:List Value)))).toArray)]++(y.r.bl++((rS.bl++((R++N1)++NlS))++y.N))) (λi y=>After (Bz IC i) ⟨b.drop amT,emT⟩ y.xs ⟨b.drop y.at_,y.e⟩∧y.at_≤b.length∧y.e≤200∧y.xs.length=i∧RowsOk 26 3 Cp y.r y.N y.xs) ⟨amT,emT,[],nilS,[]⟩ ⟨After.ret [] _,umT,vmT,rfl,RowsOk.nil⟩ ac5 (λ_ h=>h.perm (List.Perm.of_eq (congrArg (λz=>(gr,166,rrC sl amT emT)::(g2,46,zeBL.toArray)::(g3,46,(CT++([Value.slice none 0 0]++(([]:List Value)))).toArray)::z) (List.append_nil (rS.bl++((R++N1)++NlS))).symm))) (λi y hi hy=>?_)
  obtain ⟨alT,elT,xsT,rT,NlT⟩:=y
  obtain ⟨y1,ulT,vlT,y4,y5T⟩:=hy
  dsimp only at y1 ulT vlT y4 y5T ⊢
  obtain ⟨b3,hb3⟩:=xE (decide (i<nT∧elT=0))
  refine Sy.seq<|Sy.seq<|DN [(0,ptr gr),(2,ptr g2),(3,ptr g3),(4,.int .i64 (nT:Int)),(9,.int .i64 (i:Int)),(54,.bool b3)] ([(gr,166,rrC sl alT elT),(g2,46,zeBL.toArray),(g3,46,(CT++([rT.v]++(([]:List Value)))).toArray)]++(rT.bl++((rS.bl++((R++N1)++NlS))++NlT))) ?_ ?_
  ·refine Sy.region ?_
   obtain ⟨b1,hb1⟩:=xE (decide (i<nT))
   refine sp J<|sp J<|sS (.bool b1) (qls J J J hb1)<|sp J ?_
   cases b1
   ·obtain rfl:b3=false:=by rw [hb3]; exact decide_eq_false (λh=>of_decide_eq_false hb1.symm h.1)
    refine sN<|sN<|sP (.bool false)<|Sy.nil ?_
    exact A_ ac6 (λ_ h=>h)
   ·obtain ⟨b2,hb2⟩:=xE (decide (elT=0))
    obtain rfl:b3=b2:=by rw [hb3,hb2]; exact decide_eq_decide.2 ⟨λh=>h.2,λh=>⟨of_decide_eq_true hb1.symm,h⟩⟩
    refine sp J<|sS (.bool b3) (qg (λw hw=>by rw [hb2]; exact Dt w0.inn gr sl alT elT (List.mem_cons_self ..) w hw))<|sP (.bool b3)<|Sy.nil ?_
    exact A_ ac6 (λ_ h=>h)
  refine Sy.then_ ?_
  cases b3
  case' false =>
   have l3:=dN hb3
   have hAT:After (Bz IC nT) ⟨b.drop amT,emT⟩ xsT ⟨b.drop alT,elT⟩:=by
    by_cases h:i<nT
    ·exact y1.stop (λh0=>l3 ⟨h,h0⟩) hi
    ·obtain rfl:nT=i:=om
     exact y1
   have hLT:=RowsOk.lst (rep:=Cp) Ew y5T
   refine sU<|Sy.exit<|Sy.then_exit<|Sy.then_exit<|Sy.in_exit<|Sy.then_ ?_
   have L3:(CT++([rT.v])).length=104:=by rw [List.length_append,L2]; rfl
   have hAf:After Jr ⟨b.drop at_,e⟩ ⟨x1,xsS,xsT⟩ ⟨b.drop alT,elT⟩:=p1.bind ((qmS.bind hAS).bind ((qmT.bind hAT).bind (After.ret _ _)))
   have hrp:C3 (rdB (N1++(NlS++(rS.bl++(NlT++(rT.bl)))))) ((CT++([rT.v]))++([]:List Value)) ⟨x1,xsS,xsT⟩:=⟨c1,rS.v,rT.v,by rw [hCT]; rw [hCS]; simp only [List.append_assoc,List.append_nil,List.nil_append],MF (AV λb h=>by simp [h]) r1,LstR.le (rep:=DT) Gs (AV λb h=>by simp only [List.mem_append] at h ⊢; rcases h with h | h <;> simp [h]) hLS,LstR.le (rep:=Cp) Ew (AV λb h=>by simp only [List.mem_append] at h ⊢; rcases h with h | h <;> simp [h]) hLT⟩
   have hln:((CT++([rT.v]))++([]:List Value)).length=104:=by rw [List.length_append,L3]; rfl
   have hon:∀ u∈((CT++([rT.v]))++([]:List Value)),u.oneCell'=true:=ND hrp
   refine sC<|Sy.permS (M:=RB gr sl alT elT ((g2,46,zeBL.toArray)::(g3,46,((CT++([rT.v]))++([]:List Value)).toArray)::(rT.bl++((rS.bl++((R++N1)++NlS))++NlT)))) (List.Perm.of_eq (by simp only [List.append_assoc,List.cons_append,List.nil_append]))<|sS (.agg ((CT++([rT.v]))++([]:List Value)).toArray) (Quiet.mid 2 g3 0 104 46 46 ((CT++([rT.v]))++([]:List Value)) ((CT++([rT.v]))++([]:List Value)) _ _ J kR J Ei J kR (by rw [List.drop_zero,List.take_of_length_le om]) om)<|sw 1 J ((CT++([rT.v]))++([]:List Value)).toArray (Writes.row 46 ((CT++([rT.v]))++([]:List Value)) 104 _ _ J kR kR kR hln kZ hon)<|sG<|Sy.ret ?_
   exact Sy.retT1 (RB gr sl alT elT (R++(N1++(NlS++(rS.bl++(NlT++(rT.bl))))))) J (.inl (Sy.Res.cell (ty':=46) g2 1 ((CT++([rT.v]))++([]:List Value)).toArray _ kZ J Ei J (by rw [List.size_toArray,hln]; kernel_rfl) rfl)) (λ_ h=>Sy.St.parts (ls:=[[(gr,166,rrC sl alT elT)],[(g2,46,((CT++([rT.v]))++([]:List Value)).toArray)],[(g3,46,((CT++([rT.v]))++([]:List Value)).toArray)],rT.bl,rS.bl,R,N1,NlS,NlT]) (ms:=[[(gr,166,rrC sl alT elT)],R,N1,NlS,rS.bl,NlT,rT.bl]) [[(g2,46,((CT++([rT.v]))++([]:List Value)).toArray)],[(g3,46,((CT++([rT.v]))++([]:List Value)).toArray)]] [0,5,6,7,4,8,3,1,2] kZ (by rfl) (by simp) (by simp) h) ⟨_,alT,elT,N1++(NlS++(rS.bl++(NlT++(rT.bl)))),hAf,⟨((CT++([rT.v]))++([]:List Value)),rfl,hln,hon,hrp⟩,ulT,vlT,rfl⟩
  obtain ⟨l1,l2⟩:i<nT∧elT=0:=of_decide_eq_true hb3.symm
  obtain ⟨ys,t1,t2,t3⟩:=y5T
  refine sT<|Sy.skip<|Sy.then_<|Sy.seq<|Sy.block<|Sy.regionD (λj=>j == 3 || j == 5 || j == 7) kR<|sb 0 J (pT g3 103)<|sa 2 J J<|Sy.joinG (T:=MTr×Nat×Nat×Nat×List Value×AA) (λy=>[(0,ptr gr),(2,ptr g2),(3,ptr g3),(4,.int .i64 (nT:Int)),(9,.int .i64 (i:Int)),(58,rT.v),(60,.agg y.2.2.2.2.1.toArray),(61,.slice (some ⟨y.2.2.2.1,0,none⟩) 1 1)]) (λy=>[(gr,166,rrC sl y.2.1 y.2.2.1),(g2,46,zeBL.toArray),(g3,46,(CT++([rT.v]++(([]:List Value)))).toArray),(y.2.2.2.1,26,y.2.2.2.2.1.toArray)]++(rT.bl++((rS.bl++((R++N1)++NlS))++(NlT++y.2.2.2.2.2)))) (λy=>After IC ⟨b.drop alT,elT⟩ y.1 ⟨b.drop y.2.1,y.2.2.1⟩∧y.2.2.2.2.1.length=3∧(∀ u∈y.2.2.2.2.1,u.oneCell'=true)∧Cp (rdB y.2.2.2.2.2) y.2.2.2.2.1 y.1∧y.2.1≤b.length∧y.2.2.1≤200) 3 #[true,true,true,true,true,false,false,false] (λy hy=>?_) (λk=>?_)
  case refine_2 =>
   refine Sy.anyOf [1,3] kZ dZ (Sy.each2 ?_ ?_)
   ·refine Sy.oneQuiet J kZ rT.v (Quiet.cell 2 g3 103 46 44 (CT++([rT.v]++(([]:List Value)))).toArray _ _ J kR J Gg J _ (by rw [List.getElem?_toArray,List.getElem?_append_right (Nat.le_of_eq L2),L2]; rfl)) ?_
    refine Sy.soleD 3 J (λQ2 hq2=>?_)
    refine Sy.callT (λw hw=>Mn w0.inn gr sl b alT elT ((g2,46,zeBL.toArray)::(g3,46,(CT++([rT.v]++(([]:List Value)))).toArray)::(rT.bl++((rS.bl++((R++N1)++NlS))++NlT))) ulT vlT hl hv w hw) (λu M hM=>?_)
    obtain ⟨x2',a4',e4',N5',s1,⟨cx,rfl,t5,t6,t7⟩,s3,s4,rfl⟩:=hM
    refine Sy.permS (M:=[(gr,166,rrC sl a4' e4'),(g2,46,zeBL.toArray),(g3,46,(CT++([rT.v]++(([]:List Value)))).toArray)]++(rT.bl++((rS.bl++((R++N1)++NlS))++(NlT++N5')))) (List.Perm.of_eq (by simp only [List.append_assoc,List.cons_append,List.nil_append]))<|hq2 _ _<|Sy.makeD 4 J kR kR 26 cx.toArray (λg=>.slice (pA g) 1 1) (Makes.one 44 26 _ _ 3 _ cx J kR Gg E0 J J t5 dZ dZ) (λg7=>?_)
    exact C4 k (x2',a4',e4',g7,cx,N5') ⟨s1,t5,t6,t7,s3,s4⟩ rfl ac8 (Sy.mov_perm (pre:=[(gr,166,rrC sl a4' e4'),(g2,46,zeBL.toArray),(g3,46,(CT++([rT.v]++(([]:List Value)))).toArray)]) (T:=rT.bl++((rS.bl++((R++N1)++NlS))++(NlT++N5'))))
   ·refine Oe J kZ J (λQ2 hq2=>?_)
    refine Sy.callT (λw hw=>Mn w0.inn gr sl b alT elT ((g2,46,zeBL.toArray)::(g3,46,(CT++([rT.v]++(([]:List Value)))).toArray)::(rT.bl++((rS.bl++((R++N1)++NlS))++NlT))) ulT vlT hl hv w hw) (λu M hM=>?_)
    obtain ⟨x2',a4',e4',N5',s1,⟨cx,rfl,t5,t6,t7⟩,s3,s4,rfl⟩:=hM
    refine Sy.permS (M:=[(gr,166,rrC sl a4' e4'),(g2,46,zeBL.toArray),(g3,46,(CT++([rT.v]++(([]:List Value)))).toArray)]++(rT.bl++((rS.bl++((R++N1)++NlS))++(NlT++N5')))) (List.Perm.of_eq (by simp only [List.append_assoc,List.cons_append,List.nil_append]))<|hq2 _ _<|Sy.anyOf [1,4] kZ dZ (Sy.each2 ?_ ?_)
    ·refine Sy.oneQuiet J kZ rT.v (Quiet.cell 2 g3 103 46 44 (CT++([rT.v]++(([]:List Value)))).toArray _ _ J kR J Gg J _ (by rw [List.getElem?_toArray,List.getElem?_append_right (Nat.le_of_eq L2),L2]; rfl)) ?_
     refine Sy.makeD 4 J kR kR 26 cx.toArray (λg=>.slice (pA g) 1 1) (Makes.one 44 26 _ _ 3 _ cx J kR Gg E0 J J t5 dZ dZ) (λg7=>?_)
     exact C4 k (x2',a4',e4',g7,cx,N5') ⟨s1,t5,t6,t7,s3,s4⟩ rfl ac8 (Sy.mov_perm (pre:=[(gr,166,rrC sl a4' e4'),(g2,46,zeBL.toArray),(g3,46,(CT++([rT.v]++(([]:List Value)))).toArray)]) (T:=rT.bl++((rS.bl++((R++N1)++NlS))++(NlT++N5'))))
    ·refine Sy.oneMake J kZ 26 cx.toArray (λg=>.slice (pA g) 1 1) (Makes.one 44 26 _ _ 3 _ cx J kR Gg E0 J J t5 dZ dZ) (λg7=>?_)
     refine Sy.anyOf [1] kZ dZ (Sy.each1 ?_)
     refine Sy.oneQuiet J kZ rT.v (Quiet.cell 2 g3 103 46 44 (CT++([rT.v]++(([]:List Value)))).toArray _ _ J kR J Gg J _ (by rw [List.getElem?_toArray,List.getElem?_append_right (Nat.le_of_eq L2),L2]; rfl)) ?_
     exact C4 k (x2',a4',e4',g7,cx,N5') ⟨s1,t5,t6,t7,s3,s4⟩ rfl ac8 (Sy.mov_perm (pre:=[(gr,166,rrC sl a4' e4'),(g2,46,zeBL.toArray),(g3,46,(CT++([rT.v]++(([]:List Value)))).toArray)]) (T:=rT.bl++((rS.bl++((R++N1)++NlS))++(NlT++N5'))))
  obtain ⟨z2,z4,w4,g7,cx,N6⟩:=y
  obtain ⟨s1,t5,t6,t7,s3,s4⟩:=hy
  dsimp only at s1 t5 t6 t7 s3 s4 ⊢
  refine Sy.soleD 5 J (λQ2 hq2=>?_)
  refine Sy.appendR (pre:=[(gr,166,rrC sl z4 w4),(g2,46,zeBL.toArray),(g3,46,(CT++([rT.v]++(([]:List Value)))).toArray),(g7,26,cx.toArray)]) (T:=(rS.bl++((R++N1)++NlS))++(NlT++N6)) kR 44 26 _ _ 3 56 Gg E0 J J J J dZ _ _ J t1 kR cx t5 t6 3 g7 26 kR kR om (by simp only [maxLen]; omega) (λr' hr'=>?_)
  refine hq2 _ _<|sb 6 J (pT g3 103)<|sx 7 J 2 J (CT++([r'.v]++(([]:List Value)))).toArray (Writes.one 103 44 r'.v _ _ J kR kR kR hr'.cells.1 hr'.cells.2 (by rw [List.size_toArray,List.length_append,L2]; exact Nat.lt_add_of_pos_right (Nat.succ_pos _)) (Bt L2))<|sE<|Sy.in_<|Sy.then_<|Sy.region<|sp J<|sS (iZ (i+1)) (qad J J J)<|sp J<|Sy.nil ?_
  have hrows:RowsOk 26 3 Cp r' (NlT++N6) (xsT++[z2]):=RowsOk.add (rep:=Cp) t2 (λj x hx=>by
   obtain ⟨c,d1,d2⟩:=t3 j x hx
   exact ⟨c,d1,Ew (AV λb h=>List.mem_append_left _ h) d2⟩) hr' (Ew (AV λb h=>List.mem_append_right _ h) t7)
  exact Sy.againT ⟨z4,w4,xsT++[z2],r',NlT++N6⟩ l1 ⟨y1.snoc s1,s3,s4,by show (xsT++[_]).length=_; rw [List.length_append,y4]; rfl,hrows⟩ ac5 (λw h=>Sy.St.parts (ls:=[[(gr,166,rrC sl z4 w4),(g2,46,zeBL.toArray),(g3,46,(CT++([r'.v]++(([]:List Value)))).toArray)],[(g7,26,cx.toArray)],r'.bl++((rS.bl++((R++N1)++NlS))++(NlT++N6))]) (ms:=[[(gr,166,rrC sl z4 w4),(g2,46,zeBL.toArray),(g3,46,(CT++([r'.v]++(([]:List Value)))).toArray)],r'.bl++((rS.bl++((R++N1)++NlS))++(NlT++N6))]) [[(g7,26,cx.toArray)]] [0,2,1] kZ (by rfl) (by simp) (by simp) h)
 obtain ⟨l1,l2⟩:i<nS∧elS=0:=of_decide_eq_true hb3.symm
 obtain ⟨ys,t1,t2,t3⟩:=y5S
 refine sT<|Sy.skip<|Sy.then_<|Sy.seq<|Sy.block<|sC<|sM 182 ([Value.int .i64 0]++List.replicate 64 (Value.int .u8 0)).toArray (λg6=>?_)
 refine Sy.movT (pre:=[(gr,166,rrC sl alS elS),(g2,46,zeBL.toArray),(g3,46,(CS++([rS.v]++([Value.slice none 0 0]++(([]:List Value))))).toArray)]) (T:=rS.bl++((R++N1)++NlS))<|sA<|sp J<|Sy.callT (λw hw=>CX 0 255 w0.inn gr sl b alS elS ((g2,46,zeBL.toArray)::(g3,46,(CS++([rS.v]++([Value.slice none 0 0]++(([]:List Value))))).toArray)::(g6,182,([Value.int .i64 0]++List.replicate 64 (Value.int .u8 0)).toArray)::(rS.bl++((R++N1)++NlS))) ulS vlS hl hv w hw) (λu M hM=>?_)
 obtain ⟨z2,a2,e2,N2,p2,⟨rfl,rfl⟩,u2,v2_,rfl⟩:=hM
 rw [List.append_nil ((g2,46,zeBL.toArray)::(g3,46,(CS++([rS.v]++([Value.slice none 0 0]++(([]:List Value))))).toArray)::(g6,182,([Value.int .i64 0]++List.replicate 64 (Value.int .u8 0)).toArray)::(rS.bl++((R++N1)++NlS)))]
 refine sP (pT g6 0)<|sw 3 J ([Value.int .i64 z2]++List.replicate 64 (Value.int .u8 0)).toArray (Writes.one 0 3 (.int .i64 z2) _ _ J kR kR kR J J (by rw [List.size_toArray,List.length_append]; exact Nat.lt_of_lt_of_le Nat.zero_lt_one (Nat.le_add_right 1 _)) J)<|sA<|sp J<|Sy.callT (λw hw=>Dk w0.inn gr sl b a2 e2 64 ((g2,46,zeBL.toArray)::(g3,46,(CS++([rS.v]++([Value.slice none 0 0]++(([]:List Value))))).toArray)::(g6,182,([Value.int .i64 z2]++List.replicate 64 (Value.int .u8 0)).toArray)::(rS.bl++((R++N1)++NlS))) u2 v2_ dZ hl hv w hw) (λu M hM=>?_)
 obtain ⟨x3,a3,e3,N3,p3,⟨w1,w2⟩,u3,v3_,rfl⟩:=hM
 obtain ⟨A7,n7,c7,rfl,m1,m2,m3,m4⟩:=w1.byt
 obtain rfl:n7=64:=om
 obtain ⟨gs,os,rfl,hq⟩:=m4 (by intro e; rw [e] at w2; cases w2)
 refine sp J<|Sy.permS (M:=[(gr,166,rrC sl a3 e3),(g2,46,zeBL.toArray),(g3,46,(CS++([rS.v]++([Value.slice none 0 0]++(([]:List Value))))).toArray)]++((g6,182,([Value.int .i64 z2]++List.replicate 64 (Value.int .u8 0)).toArray)::(rS.bl++((R++N1)++(NlS++N3))))) (List.Perm.of_eq (by simp only [List.cons_append,List.nil_append,List.append_assoc]))<|sG<|Sy.seq<|sC<|sP (.int .i64 0)<|sG<|Sy.block<|Sy.loopT (Y:=Unit) 64 (λj _=>[(0,ptr gr),(2,ptr g2),(3,ptr g3),(4,.int .i64 (nS:Int)),(5,.int .i64 (i:Int)),(6,ptr g6),(7,.slice (some ⟨gs,os,none⟩) 64 c7),(8,.int .i64 (j:Int))]) (λj _=>[(gr,166,rrC sl a3 e3),(g2,46,zeBL.toArray),(g3,46,(CS++([rS.v]++([Value.slice none 0 0]++(([]:List Value))))).toArray)]++((g6,182,(([Value.int .i64 z2]++(x3.map bv).take j)++List.replicate (64 - j) (Value.int .u8 0)).toArray)::(rS.bl++((R++N1)++(NlS++N3))))) (λ_ _=>True) () trivial ac8 (λ_ h=>h) (λj _ hj _=>?_)
 dsimp only
 refine Sy.seq<|sC ?_
 obtain ⟨t8,ht8⟩:=xE (decide (j<64))
 refine sp J<|sS (.bool t8) (qls J J J ht8)<|sG ?_
 cases t8
 case' true =>
  have l7:=dY ht8
  obtain ⟨u,hu⟩:∃ u,x3[j]? = some u:=⟨_,List.getElem?_eq_getElem om⟩
  have hz:List.replicate (64 - j) (Value.int .u8 0)=.int .u8 0::List.replicate (64 - (j+1)) (.int .u8 0):=by
   rw [show 64 - j=(64 - (j+1))+1 by omega]; rfl
  have hA:([Value.int .i64 z2]++(x3.map bv).take j).length=1+j:=by rw [List.length_append,List.length_take,List.length_map,w2]; show 1+_=_; omega
  have hn:([Value.int .i64 z2]++(x3.map bv).take (j+1))++List.replicate (64 - (j+1)) (Value.int .u8 0)=(([Value.int .i64 z2]++(x3.map bv).take j)++(bv u::List.replicate (64 - (j+1)) (Value.int .u8 0))):=by
   rw [List.take_add_one,List.getElem?_map,hu]; simp only [List.append_assoc]; rfl
  rw [hz]
  refine sT<|Sy.skip<|Sy.then_<|Sy.seq<|Sy.block<|Sy.region<|sp J<|sp J<|sp J<|sS (.pointer (some ⟨gs,os+j*1,none⟩)) (Quiet.pure (BJ 27 _ _ _ (some ⟨gs,os,none⟩) gs os 64 c7 j 1 .i64 J J J J Aw kF l7))<|sS (bv u) (AK (R:=N3) (g:=gs) (f:=os+j*1) (.inr (by rw [Nat.mul_one]; exact hq j u hu)) (λb h=>List.mem_append_right _ (List.mem_cons_of_mem _ (List.mem_append_right _ (List.mem_append_right _ (List.mem_append_right _ h))))) J uy5)<|sP (pT g6 1)<|sS (.pointer (some ⟨g6,1+j*1,none⟩)) (Quiet.pure (BA 180 _ _ _ g6 1 _ j 1 .i64 J J J Mm kF l7))<|sw 3 J (([Value.int .i64 z2]++(x3.map bv).take j)++(bv u::List.replicate (64 - (j+1)) (Value.int .u8 0))).toArray (Writes.one (1+j*1) 5 (bv u) _ _ J kR kR kR J J (by rw [List.size_toArray,List.length_append,hA]; simp) (Bt (by rw [hA]; omega)))<|Sy.nil<|Sy.in_<|Sy.then_<|Sy.region<|sp J<|sS (iZ (j+1)) (qad J J J)<|sp J<|Sy.nil ?_
  exact Sy.againT () l7 trivial ac8 (λw h=>by rw [hn]; exact h)
 have l7:=dN ht8
 obtain rfl:j=64:=om
 obtain ⟨cx,hcx⟩:∃ cx,cx=[Value.int .i64 z2]++x3.map bv:=⟨_,rfl⟩
 have hT:([Value.int .i64 z2]++(x3.map bv).take 64)++List.replicate (64 - 64) (Value.int .u8 0)=cx:=by
  rw [List.take_of_length_le (by rw [List.length_map,w2]; exact Nat.le_refl _),hcx]; exact List.append_nil _
 rw [hT]
 have hrp:DT (rdB []) cx ⟨z2,x3⟩:=⟨hcx,w2⟩
 have t5:cx.length=65:=by rw [hcx,List.length_append,List.length_map,w2]; rfl
 have t6:∀ u∈cx,u.oneCell'=true:=by
  rw [hcx]
  intro u hu
  rcases List.mem_append.1 hu with h | h
  ·rw [List.mem_singleton.1 h]; rfl
  ·exact Ho x3 u h
 have s1:After I0 ⟨b.drop alS,elS⟩ ⟨z2,x3⟩ ⟨b.drop a3,e3⟩:=by
  unfold I0
  rw [← Mr]
  exact p2.bind (p3.bind (After.ret _ _))
 refine sU<|Sy.exit<|Sy.then_exit<|Sy.then_exit<|Sy.in_exit<|Sy.then_<|Sy.region<|sP (pT g3 102)<|sS rS.v (Quiet.cell 2 g3 102 46 43 (CS++([rS.v]++([Value.slice none 0 0]++(([]:List Value))))).toArray _ _ J kR J Hy J _ (by rw [List.getElem?_toArray,List.getElem?_append_right (Nat.le_of_eq L1),L1]; rfl))<|sS (.agg cx.toArray) (Quiet.mid 3 g6 0 65 182 182 cx cx _ _ J kR J PJ J kR (by rw [List.drop_zero,List.take_of_length_le om]) om) ?_
 refine Sy.make kR 182 cx.toArray (λg=>.slice (pA g) 1 1) (Makes.one 43 182 _ _ 65 _ cx J kR Hy Ib J J t5 dZ dZ) (λg7=>?_)
 refine Sy.movT (pre:=[(gr,166,rrC sl a3 e3),(g2,46,zeBL.toArray),(g3,46,(CS++([rS.v]++([Value.slice none 0 0]++(([]:List Value))))).toArray),(g6,182,cx.toArray)]) (T:=(rS.bl++((R++N1)++(NlS++N3))))<|Sy.appendR (pre:=[(gr,166,rrC sl a3 e3),(g2,46,zeBL.toArray),(g3,46,(CS++([rS.v]++([Value.slice none 0 0]++(([]:List Value))))).toArray),(g6,182,cx.toArray),(g7,182,cx.toArray)]) (T:=(R++N1)++(NlS++N3)) kR 43 182 _ _ 65 72 Hy Ib J J J J dZ _ _ J t1 kR cx t5 t6 4 g7 182 kR kR om (by simp only [maxLen]; omega) (λr' hr'=>?_)
 refine sP (pT g3 102)<|sw 2 J (CS++([r'.v]++([Value.slice none 0 0]++(([]:List Value))))).toArray (Writes.one 102 43 r'.v _ _ J kR kR kR hr'.cells.1 hr'.cells.2 (by rw [List.size_toArray,List.length_append,L1]; exact Nat.lt_add_of_pos_right (Nat.succ_pos _)) (Bt L1))<|Sy.nil<|Sy.in_<|Sy.then_<|Sy.region<|sp J<|sS (iZ (i+1)) (qad J J J)<|sp J<|Sy.nil ?_
 have hrows:RowsOk 182 65 DT r' NlS (xsS++[⟨z2,x3⟩]):=RowsOk.add (rep:=DT) t2 t3 hr' hrp
 exact Sy.againT ⟨a3,e3,xsS++[⟨z2,x3⟩],r',NlS⟩ l1 ⟨y1.snoc s1,u3,v3_,by show (xsS++[_]).length=_; rw [List.length_append,y4]; rfl,hrows⟩ ac5 (λw h=>Sy.St.parts (ls:=[[(gr,166,rrC sl a3 e3),(g2,46,zeBL.toArray),(g3,46,(CS++([r'.v]++([Value.slice none 0 0]++(([]:List Value))))).toArray)],[(g6,182,cx.toArray)],[(g7,182,cx.toArray)],r'.bl,(R++N1),NlS,N3]) (ms:=[[(gr,166,rrC sl a3 e3),(g2,46,zeBL.toArray),(g3,46,(CS++([r'.v]++([Value.slice none 0 0]++(([]:List Value))))).toArray)],r'.bl,(R++N1),NlS]) [[(g6,182,cx.toArray)],[(g7,182,cx.toArray)],N3] [0,3,4,5,1,2,6] kZ (by rfl) (by simp) (by simp) h)
theorem F2 {α:Type} {ok:α→Bool} {wt:α→Nat} {c:Nat} (h:∀ x,ok x=true→wt x≤c):∀ {l:List α} {n:Nat},(decide (l.length≤n) && l.all ok)=true→(l.map wt).sum≤n*c:=λ{l} {n} hk=>by
 rw [Bool.and_eq_true] at hk
 have hn:=of_decide_eq_true hk.1
 have hs:(l.map wt).sum≤l.length*c:=by
  have ha:=hk.2
  clear hk hn
  induction l with
  | nil=>exact Nat.zero_le _
  | cons x l ih =>
   rw [List.all_cons,Bool.and_eq_true] at ha
   have a:=h x ha.1
   have b:=ih ha.2
   rw [List.map_cons,List.sum_cons,List.length_cons,Nat.succ_mul]
   omega
 exact Nat.le_trans hs (Nat.mul_le_mul_right c hn)
theorem V2 {o:MOu} (h:Gq o=true):D7 o≤20000:=by
 unfold Gq at h
 simp only [Bool.and_eq_true,decide_eq_true_eq] at h
 obtain ⟨_,_,_,h1,h2,h3,h4⟩:=h
 unfold D7
 omega
theorem V3 {i:MIs} (h:C9 i=true):DQ i≤7000:=by
 unfold C9 at h
 unfold DQ
 by_cases h0:i.kind=0
 ·rw [if_pos h0] at h
  unfold DL at h
  simp only [Bool.and_eq_true,decide_eq_true_eq] at h
  omega
 ·rw [if_neg h0] at h
  by_cases hk:i.kind=1∨i.kind=2
  ·rw [if_pos hk] at h
   unfold JL at h
   simp only [Bool.and_eq_true,decide_eq_true_eq] at h
   omega
  ·rw [if_neg hk] at h; cases h
theorem F3 (l:List Byt):(l.map λ_=>32).sum=32*l.length:=by
 induction l with
 | nil=>rfl
 | cons o l ih=>rw [List.map_cons,List.sum_cons,ih,List.length_cons]; omega
theorem T0 {p:MPg} (h:IP p=true∨DU p=true):Ek p≤3000:=by
 unfold Ek
 rw [F3]
 rcases h with h | h
 ·unfold IP at h
  simp only [Bool.and_eq_true,decide_eq_true_eq] at h
  omega
 ·unfold DU at h
  simp only [Bool.and_eq_true,decide_eq_true_eq] at h
  omega
theorem V4 {i:MIn} (h:FT i=true):Dp i≤20000:=by
 unfold FT at h
 rw [Bool.and_eq_true,Bool.and_eq_true,Bool.and_eq_true] at h
 obtain ⟨_,h1,h2,h3⟩:=h
 have a:=V3 h1
 have b:Ek i.peg≤3000:=by
  by_cases hk:i.kind=2
  ·rw [if_pos hk] at h2; exact T0 (.inl h2)
  ·rw [if_neg hk] at h2; exact T0 (.inr h2)
 have c:(i.wit.map wtT).sum≤16*265:=F2 (ok:=IQ) (λx hx=>by unfold IQ at hx; have:=of_decide_eq_true hx; unfold wtT; omega) h3
 unfold Dp
 omega
theorem Vz {t:MTr} (h:I1 t=true):D' t≤1000000:=by
 unfold I1 at h
 rw [Bool.and_eq_true] at h
 have a:=F2 (wt:=Dp) (λx hx=>V4 hx) h.1
 have b:=F2 (wt:=D7) (λx hx=>V2 hx) h.2
 unfold D'
 omega
theorem V1 {p:MPa} (h:Kr p=true):Gd p≤1000:=by
 unfold Kr at h
 simp only [Bool.and_eq_true,decide_eq_true_eq] at h
 unfold Gd
 rw [F3]
 omega
theorem V5 {h:MHe} (hk:GH h=true):Dq h≤3000:=by
 unfold GH at hk
 rw [Bool.and_eq_true,decide_eq_true_eq] at hk
 obtain ⟨h1,h2⟩:=hk
 have a:Gd h.next≤1000:=by
  by_cases hc:h.change=true
  ·rw [if_pos hc] at h2; exact V1 h2
  ·rw [if_neg hc] at h2
   rw [Bool.and_eq_true,decide_eq_true_eq,decide_eq_true_eq] at h2
   unfold Gd
   rw [F3,h2.2]
   omega
 unfold Dq
 omega
theorem V6 {b:MBl} (h:D8 b=true):Fi b≤100000000:=by
 unfold D8 at h
 rw [Bool.and_eq_true,Bool.and_eq_true] at h
 have a:=V5 h.1
 have c:=F2 (wt:=λ_:MSg=>65) (c:=65) (λx _=>Nat.le_refl _) h.2.1
 have d:=F2 (wt:=D') (λx hx=>Vz hx) h.2.2
 unfold Fi
 omega
def Uy:MHe:=⟨z32,0,0,z32,z32,[],false,⟨0,[]⟩⟩
def Nu:MBl:=⟨Uy,[],[]⟩
theorem J8 {α:Type} (C:Rdr) (k:Nat) (rep:Rdr→List Value→α→Prop):LstR C k rep (.slice none 0 0) []:=⟨none,0,0,rfl,rfl,Nat.le_refl _,Nat.zero_le _,λh=>(h J).elim⟩
theorem Uz:(0:Nat)<18446744073709551616:=dZ
theorem O' (C:Rdr):Ds C (Z32++([Value.int .u64 0]++([Value.int .u64 0]++(Z32++(Z32++([Value.slice none 0 0]++([Value.bool false]++([Value.int .i64 0]++[Value.slice none 0 0])))))))) Uy:=⟨_,_,rfl,rfl,rfl,rfl,Uz,Uz,BytR.nil _,J8 _ _ _⟩
theorem KL (C:Rdr):C3 C ((Z32++([Value.int .u64 0]++([Value.int .u64 0]++(Z32++(Z32++([Value.slice none 0 0]++([Value.bool false]++([Value.int .i64 0]++[Value.slice none 0 0]))))))))++([Value.slice none 0 0]++([Value.slice none 0 0]))) Nu:=⟨_,_,_,rfl,O' C,J8 _ _ _,J8 _ _ _⟩
theorem Ac {α β:Type} {p:Ps α} {q:α→Ps β} {l r:Byt} {x:β} (h:AH p q l=some (x,r)):∃ y r1,p l=some (y,r1)∧q y r1=some (x,r):=by
  cases hp:p l with
  | none=>rw [bind_none hp] at h; cases h
  | some u=>obtain ⟨y,r1⟩:=u; rw [bind_some hp] at h; exact ⟨y,r1,rfl,h⟩
theorem GK {b:Bool} {l r:Byt} {u:Unit} (h:BH b l=some (u,r)):b=true∧l=r:=by
  unfold BH at h
  cases b
  · cases h
  · cases h; exact ⟨rfl,rfl⟩
theorem G' {α:Type} {b:Bool} (hb:b=true) (q:Unit→Ps α) (l:Byt):AH (BH b) q l=q () l:=by subst hb; rfl
structure Fits {α:Type} (p:Ps α) (ok:α→Bool) (enc:α→Byt) (dom:α→Prop):Prop where
  inv:∀ {l r:Byt} {x:α},p l=some (x,r)→(ok x=true∧dom x)∧l=enc x++r
  fwd:∀ {x:α} (r:Byt),ok x=true→dom x→p (enc x++r)=some (x,r)
theorem Fits.only {α : Type} {p : Ps α} {ok : α → Bool} {enc : α → Byt} {dom : α → Prop} (h : Fits p ok enc dom) {l : Byt} {x : α} (hp : Gc p l = some x) : (ok x = true ∧ dom x) ∧ enc x = l := by
  unfold Gc at hp
  cases e:p l with
  | none=>rw [e] at hp; cases hp
  | some u =>
    obtain ⟨y,r⟩:=u
    rw [e] at hp
    cases r with
    | nil =>
      cases hp
      obtain ⟨h1,h2⟩:=h.inv e
      exact ⟨h1,by rw [h2,List.append_nil]⟩
    | cons=>cases hp
theorem Ax (n:Nat):Fits (An n) (λ_=>true) (λx=>x) (λx=>x.length=n):=by
  refine ⟨λh=>⟨⟨rfl,(EB h).1⟩,(EB h).2⟩,λ{x} r _ hx=>?_⟩
  show An n (x++r)=some (x,r)
  unfold An
  subst hx
  rw [if_pos (by rw [List.length_append]; omega),List.take_left,List.drop_left]
theorem Bn (k : Nat) : Fits (BT k) (fun _ => true) (nb k) (fun n => n < 256 ^ k) := by
  refine ⟨λ{l r n} h=>?_,λ{n} r _ hn=>?_⟩
  · have hlt:=Lz h
    obtain ⟨b,r1,h1,h2⟩:=Ac h
    cases h2
    obtain ⟨e1,rfl⟩:=EB h1
    refine ⟨⟨rfl,hlt⟩,?_⟩
    rw [← e1,Sd]
  · unfold BT
    rw [bind_some ((Ax k).fwd r J (B1 k n)),Ru k n hn]
    rfl
theorem fitOct : Fits CH okO (fun z => [CQ z]) (fun _ => True) := by
  refine ⟨λ{l r z} h=>?_,λ{z} r hz _=>?_⟩
  · obtain ⟨n, r1, h1, h2⟩ := Ac h
    cases h2
    obtain ⟨⟨_,h3⟩,rfl⟩:=(Bn 1).inv h1
    have h3:n<256:=h3
    refine ⟨⟨?_,trivial⟩,?_⟩
    · unfold okO
      rw [decide_eq_true (show (0:Int)≤n by omega),decide_eq_true (show (n:Int)≤255 by omega)]; rfl
    · have e:((n:Int)%256).toNat=n:=om
      unfold CQ
      rw [e]
      show UInt8.ofNat (n / 256 ^ 0)::[]++r=_
      rw [Nat.pow_zero,Nat.div_one]
  · unfold okO at hz
    rw [Bool.and_eq_true,decide_eq_true_eq,decide_eq_true_eq] at hz
    have e:[CQ z]=nb 1 z.toNat:=by
      unfold CQ
      rw [show (z%256).toNat=z.toNat by omega]
      show _=[UInt8.ofNat (z.toNat / 256 ^ 0)]
      rw [Nat.pow_zero,Nat.div_one]
    unfold CH
    rw [e,bind_some ((Bn 1).fwd r J (show z.toNat<256 by omega))]
    show some (((z.toNat:Nat):Int),r)=some (z,r)
    rw [Int.toNat_of_nonneg hz.1]
theorem KA (most : Nat) : Fits (Fj most) (fun n => decide (n ≤ most)) Ap (fun n => n < 18446744073709551616) := by
  have one:∀ (c:Nat) (r:Byt),c<256→BT 1 (UInt8.ofNat c::r)=some (c,r):=λc r hc=>by
    have e:UInt8.ofNat c::r=nb 1 c++r:=by show _=UInt8.ofNat (c / 256 ^ 0)::([]++r); rw [Nat.pow_zero,Nat.div_one,List.nil_append]
    rw [e]; exact (Bn 1).fwd r J hc
  refine ⟨λ{l r n} h=>?_,λ{n} r hn hd=>?_⟩
  · obtain ⟨m, r1, h1, h2⟩ := Ac h
    obtain ⟨_,r2,h3,h4⟩:=Ac h2
    obtain ⟨hm,rfl⟩:=GK h3
    cases h4
    refine ⟨⟨hm,?_⟩,?_⟩ <;> obtain ⟨c,r3,h5,h6⟩:=Ac h1 <;> obtain ⟨⟨_,h7⟩,rfl⟩:=(Bn 1).inv h5 <;> have h7:c<256:=h7
    all_goals by_cases hc:c<253
    · rw [if_pos hc] at h6; cases h6; omega
    · rw [if_neg hc] at h6
      obtain ⟨k,r4,h8,h9⟩:=Ac h6
      obtain ⟨_,r5,h10,h11⟩:=Ac h9
      obtain ⟨hk,rfl⟩:=GK h10
      cases h11
      have h12:=Lz h8
      have hw : wide c ≤ 8 := by unfold wide; repeat' split
                                 all_goals omega
      exact Nat.lt_of_lt_of_le h12 (Nat.pow_le_pow_right dZ hw)
    · rw [if_pos hc] at h6; cases h6
      unfold Ap
      rw [if_pos hc]
      show UInt8.ofNat (_ / 256 ^ 0)::[]++_=_
      rw [Nat.pow_zero,Nat.div_one]
    · rw [if_neg hc] at h6
      obtain ⟨k,r4,h8,h9⟩:=Ac h6
      obtain ⟨_,r5,h10,h11⟩:=Ac h9
      obtain ⟨hk,rfl⟩:=GK h10
      cases h11
      obtain ⟨⟨_,h12⟩,rfl⟩:=(Bn (wide c)).inv h8
      have hk:=of_decide_eq_true hk
      have h13:c=253∨c=254∨c=255:=om
      have e0:nb 1 c=[UInt8.ofNat c]:=by show UInt8.ofNat (c / 256 ^ 0)::[]=_; rw [Nat.pow_zero,Nat.div_one]
      rw [e0]
      unfold Ap
      rcases h13 with rfl|rfl|rfl
      · have h12:_<65536:=h12
        have hk:253≤_:=hk
        rw [if_neg om,if_pos h12]; rfl
      · have h12:_<4294967296:=h12
        have hk:65536≤_:=hk
        rw [if_neg om,if_neg om,if_pos h12]; rfl
      · have hk:4294967296≤_:=hk
        rw [if_neg om,if_neg om,if_neg om]; rfl
  · have lng : ∀ (c : Nat), c < 256 → 253 ≤ c → n < 256 ^ wide c → CJ c ≤ n → AH (AH (BT 1) fun c => if c < 253 then BF c else HH c) (fun n => AH (BH (decide (n ≤ most))) fun _ => BF n) (UInt8.ofNat c :: (nb (wide c) n ++ r)) = some (n, r) := fun c h1 h2 h3 h4 => by
      have e:AH (BT 1) (λc=>if c<253 then BF c else HH c) (UInt8.ofNat c::(nb (wide c) n++r))=some (n,r):=by
        rw [bind_some (one c _ h1),if_neg om]
        unfold HH
        rw [bind_some ((Bn (wide c)).fwd r J h3),G' (decide_eq_true h4)]
        rfl
      rw [bind_some e,G' hn]
      rfl
    unfold Fj Ap
    by_cases a1:n<253
    · rw [if_pos a1]
      have e:AH (BT 1) (λc=>if c<253 then BF c else HH c) ([UInt8.ofNat n]++r)=some (n,r):=by
        show AH _ _ (UInt8.ofNat n::r)=_
        rw [bind_some (one n r om),if_pos a1]
        rfl
      rw [bind_some e,G' hn]
      rfl
    · rw [if_neg a1]
      by_cases a2:n<65536
      · rw [if_pos a2]; exact lng 253 dZ dZ a2 (show 253≤n by omega)
      · rw [if_neg a2]
        by_cases a3:n<4294967296
        · rw [if_pos a3]; exact lng 254 dZ dZ a3 (show 65536≤n by omega)
        · rw [if_neg a3]; exact lng 255 dZ dZ hd (show 4294967296≤n by omega)
theorem Bg (most : Nat) : Fits (Bq most) (fun x => decide (x.length ≤ most)) D_ (fun x => x.length < 18446744073709551616) := by
  refine ⟨λ{l r x} h=>?_,λ{x} r hx hd=>?_⟩
  · obtain ⟨n,r1,h1,h2⟩:=Ac h
    obtain ⟨⟨h3,h4⟩,rfl⟩:=(KA most).inv h1
    obtain ⟨⟨_,h5⟩,rfl⟩:=(Ax n).inv h2
    subst h5
    exact ⟨⟨h3,h4⟩,by unfold D_; rw [List.append_assoc]⟩
  · unfold D_ Bq
    rw [List.append_assoc,bind_some ((KA most).fwd _ hx hd),(Ax x.length).fwd r J J]
theorem Mb {α : Type} {p : Ps α} {ok : α → Bool} {enc : α → Byt} {dom : α → Prop} (hp : Fits p ok enc dom) : ∀ (n : Nat), Fits (Bz p n) (fun l => l.all ok) (fun l => l.flatMap enc) (fun l => l.length = n ∧ ∀ x ∈ l, dom x)
  | 0 => ⟨fun {l r x} h => by cases h; exact ⟨⟨rfl, rfl, fun _ hx => by cases hx⟩, rfl⟩, fun {x} r _ hx => by
      obtain rfl:x=[]:=List.length_eq_zero_iff.1 hx.1
      rfl⟩
  | n + 1 => by
    have ih:=Mb hp n
    refine ⟨λ{l r x} h=>?_,λ{x} r hx hd=>?_⟩
    · obtain ⟨y, r1, h1, h2⟩ := Ac (p := p) h
      obtain ⟨ys,r2,h3,h4⟩:=Ac (p:=Bz p n) h2
      cases h4
      obtain ⟨⟨a1,a2⟩,rfl⟩:=hp.inv h1
      obtain ⟨⟨b1,b2,b3⟩,rfl⟩:=ih.inv h3
      refine ⟨⟨?_,by rw [List.length_cons,b2],λz hz=>?_⟩,by rw [List.flatMap_cons,List.append_assoc]⟩
      · rw [List.all_cons,a1,b1]; rfl
      · rcases List.mem_cons.1 hz with rfl | hz
        · exact a2
        · exact b3 z hz
    · cases x with
      | nil=>cases hd.1
      | cons y ys =>
        rw [List.all_cons,Bool.and_eq_true] at hx
        show AH p (λx=>AH (Bz p n) λl=>BF (x::l)) _=_
        rw [List.flatMap_cons,List.append_assoc,bind_some (hp.fwd _ hx.1 (hd.2 y (List.mem_cons_self ..))),bind_some (ih.fwd r hx.2 ⟨by have:=hd.1; rw [List.length_cons] at this; omega,λz hz=>hd.2 z (List.mem_cons_of_mem _ hz)⟩)]
        rfl
theorem CG {α : Type} {p : Ps α} {ok : α → Bool} {enc : α → Byt} {dom : α → Prop} (hp : Fits p ok enc dom) (most : Nat) : Fits (Ch most p) (fun l => decide (l.length ≤ most) && l.all ok) (G0 enc) (fun l => l.length < 18446744073709551616 ∧ ∀ x ∈ l, dom x) := by
  refine ⟨λ{l r x} h=>?_,λ{x} r hx hd=>?_⟩
  · obtain ⟨n,r1,h1,h2⟩:=Ac h
    obtain ⟨⟨h3,h4⟩,rfl⟩:=(KA most).inv h1
    obtain ⟨⟨h5,h6,h7⟩,rfl⟩:=(Mb hp n).inv h2
    subst h6
    exact ⟨⟨by rw [h3,h5]; rfl,h4,h7⟩,by unfold G0; rw [List.append_assoc]⟩
  · rw [Bool.and_eq_true] at hx
    unfold G0 Ch
    rw [List.append_assoc,bind_some ((KA most).fwd _ hx.1 hd.1),(Mb hp x.length).fwd r hx.2 ⟨rfl,hd.2⟩]
theorem fitTru : Fits Gj (fun _ => true) (fun b => [trB b]) (fun _ => True) := by
  refine ⟨λ{l r x} h=>?_,λ{x} r _ _=>?_⟩
  · obtain ⟨z,r1,h1,h2⟩:=Ac h
    obtain ⟨_,r2,h3,h4⟩:=Ac h2
    obtain ⟨hz,rfl⟩:=GK h3
    cases h4
    obtain ⟨⟨ho,_⟩,rfl⟩:=fitOct.inv h1
    refine ⟨⟨rfl,trivial⟩,?_⟩
    have hz:=of_decide_eq_true hz
    unfold okO at ho
    rw [Bool.and_eq_true,decide_eq_true_eq,decide_eq_true_eq] at ho
    have:z=0∨z=1:=om
    rcases this with rfl|rfl <;> rfl
  · unfold Gj trB
    rw [bind_some (fitOct.fwd r (by cases x <;> rfl) trivial)]
    cases x <;> rfl
theorem Ni {P : Cu.Pt} (h : Ec.On P) : Cu.dec (mPt P).x (mPt P).y (mPt P).i = P := by
  cases P with
  | none=>rfl
  | some p =>
    obtain ⟨x,y⟩:=p
    have hon:y.val*y.val%pM=(x.val*x.val%pM*x.val%pM+7)%pM:=congrArg Fin.val h
    unfold Cu.dec
    exact dif_pos (⟨rfl,x.isLt,y.isLt,hon⟩:false=false∧x.val<pM∧y.val<pM∧_)
theorem UT {p : MPt} (h : Et p = true) : ∃ P, p = mPt P ∧ Ec.On P := by
  obtain ⟨x,y,i⟩:=p
  unfold Et at h
  rw [Bool.and_eq_true] at h
  obtain ⟨h1,h2⟩:=h
  cases i with
  | true=>cases h2
  | false =>
    unfold Cu.rightB at h1
    rw [if_neg (show ¬ (false=true) by decide)] at h1
    simp only [Bool.and_eq_true,decide_eq_true_eq] at h1
    obtain ⟨⟨hx,hy⟩,he⟩:=h1
    exact ⟨some (⟨x,hx⟩,⟨y,hy⟩),rfl,Fin.ext he⟩
theorem fitPt : Fits ptP Et CN (fun p => p.x < Cu.K4 ∧ p.y < Cu.K4) := by
  refine ⟨λ{l r x} h=>?_,λ{x} r hx hd=>?_⟩
  · obtain ⟨b, r1, h1, h2⟩ := Ac h
    obtain ⟨_,r2,h3,h4⟩:=Ac h2
    obtain ⟨hz,rfl⟩:=GK h3
    cases h4
    obtain ⟨⟨_,h5⟩,rfl⟩:=(Ax 33).inv h1
    refine ⟨⟨by rw [Kq]; exact hz,MG _⟩,?_⟩
    congr 1
    have hb : Cu.decOk b = true := by
      cases hd:Cu.decOk b with
      | true=>rfl
      | false =>
        have e:Cu.decP b=none:=by unfold Cu.decP; rw [if_neg (by rw [hd]; decide)]
        rw [e] at hz
        cases hz
    obtain ⟨_,h6,_⟩:=Cu.decP_ok hb
    unfold CN
    rw [Ni (Cu.decP_on b),h6]
  · obtain ⟨P, hP, hon⟩ := UT hx
    have e:Cu.dec x.x x.y x.i=P:=by rw [hP]; exact Ni hon
    obtain ⟨d1,d2⟩:=Cu.dec_enc hon
    unfold ptP CN
    rw [e,bind_some ((Ax 33).fwd r J (Cu.encS_length P)),d2, ← hP,G' (by
      have h:=hx
      unfold Et at h
      rw [Bool.and_eq_true] at h
      exact h.2)]
    rfl
theorem fitSC:Fits OT J1 Dn (λn=>n<Cu.K4):=by
 refine ⟨λ{l r x} h=>?_,λ{x} r hx hd=>?_⟩
 ·obtain ⟨b,r1,h1,u1⟩:=Ac h
  obtain ⟨_,r2,h2,u2⟩:=Ac u1
  obtain ⟨hz,rfl⟩:=GK h2
  cases u2
  obtain ⟨⟨_,h5⟩,rfl⟩:=(Ax 32).inv h1
  have e:Sc.readS b=(Ag b,true)∧Ag b<Sc.pM:=by
   unfold Sc.readS at hz ⊢
   by_cases hv:Ag b<Sc.pM
   ·rw [if_pos hv]; exact ⟨rfl,hv⟩
   ·rw [if_neg hv] at hz; cases hz
  rw [e.1]
  have em:Ag b%Sc.pM=Ag b:=Nat.mod_eq_of_lt e.2
  refine ⟨⟨by unfold J1; exact decide_eq_true em,Bl b h5⟩,?_⟩
  unfold Dn
  rw [em,LO b h5]
 ·have em:=of_decide_eq_true hx
  have hlt:x<Sc.pM:=by rw [← em]; exact Nat.mod_lt _ dZ
  have hv:Ag (AW x)=x:=El x hd
  unfold OT Dn
  rw [em,bind_some ((Ax 32).fwd r J (AN x))]
  have e:Sc.readS (AW x)=(x,true):=by unfold Sc.readS; rw [hv,if_pos hlt]
  rw [e]
  rfl
theorem L8 {p:MPt} (hd:p.x<Cu.K4∧p.y<Cu.K4) (h:Ff p=true):p=⟨0,0,false⟩:=by
 obtain ⟨x,y,i⟩:=p
 unfold Ff Cu.sameB at h
 simp only [Bool.and_eq_true,decide_eq_true_eq,beq_iff_eq] at h
 obtain ⟨rfl,rfl,rfl⟩:=h
 rfl
def Tu (t:MTag):Prop:=t.id.length=32∧t.pt.x<Cu.K4∧t.pt.y<Cu.K4
theorem Tl:Fits Ke Of Ij Tu:=by
 refine ⟨λ{l r x} h=>?_,λ{x} r hx hd=>?_⟩
 ·obtain ⟨b,r1,h1,u3⟩:=Ac h
  obtain ⟨_,rfl⟩:=fitTru.inv h1
  cases b
  ·rw [if_neg dZ] at u3
   obtain ⟨d,r2,h2,u4⟩:=Ac u3
   cases u4
   obtain ⟨⟨_,h3⟩,rfl⟩:=(Ax 32).inv h2
   exact ⟨⟨rfl,h3,(show 0<Cu.K4 by decide),(show 0<Cu.K4 by decide)⟩,by unfold Ij; rfl⟩
  ·rw [if_pos J] at u3
   obtain ⟨d,r2,h2,u5⟩:=Ac u3
   cases u5
   obtain ⟨⟨h3,h4⟩,rfl⟩:=fitPt.inv h2
   refine ⟨⟨?_,rfl,h4⟩,by unfold Ij; rfl⟩
   unfold Of; rw [if_pos J,h3]; rfl
 ·obtain ⟨b,d,p⟩:=x
  obtain ⟨h1,h2⟩:=hd
  unfold Of at hx
  unfold Ij Ke
  dsimp only at h1 h2 hx ⊢
  cases b
  ·rw [if_neg dZ] at hx ⊢
   obtain rfl:=L8 h2 hx
   rw [List.append_assoc,bind_some (fitTru.fwd _ J trivial),if_neg dZ,bind_some ((Ax 32).fwd r J h1)]
   rfl
  ·rw [if_pos J] at hx ⊢
   rw [Bool.and_eq_true] at hx
   obtain rfl:=of_decide_eq_true hx.2
   rw [List.append_assoc,bind_some (fitTru.fwd _ J trivial),if_pos J,bind_some (fitPt.fwd r hx.1 h2)]
   rfl
def Ng (t:MAmt):Prop:=t.value<18446744073709551616∧t.pt.x<Cu.K4∧t.pt.y<Cu.K4
theorem fitAM:Fits Js Ly Ha Ng:=by
 refine ⟨λ{l r x} h=>?_,λ{x} r hx hd=>?_⟩
 ·obtain ⟨b,r1,h1,u6⟩:=Ac h
  obtain ⟨_,rfl⟩:=fitTru.inv h1
  cases b
  ·rw [if_neg dZ] at u6
   obtain ⟨d,r2,h2,u7⟩:=Ac u6
   cases u7
   obtain ⟨⟨_,h3⟩,rfl⟩:=(Bn 8).inv h2
   exact ⟨⟨rfl,h3,(show 0<Cu.K4 by decide),(show 0<Cu.K4 by decide)⟩,by unfold Ha; rfl⟩
  ·rw [if_pos J] at u6
   obtain ⟨d,r2,h2,u8⟩:=Ac u6
   cases u8
   obtain ⟨⟨h3,h4⟩,rfl⟩:=fitPt.inv h2
   refine ⟨⟨?_,(show 0<18446744073709551616 by decide),h4⟩,by unfold Ha; rfl⟩
   unfold Ly; rw [if_pos J,h3]; rfl
 ·obtain ⟨b,d,p⟩:=x
  obtain ⟨h1,h2⟩:=hd
  unfold Ly at hx
  unfold Ha Js
  dsimp only at h1 h2 hx ⊢
  cases b
  ·rw [if_neg dZ] at hx ⊢
   obtain rfl:=L8 h2 hx
   rw [List.append_assoc,bind_some (fitTru.fwd _ J trivial),if_neg dZ,bind_some ((Bn 8).fwd r J h1)]
   rfl
  ·rw [if_pos J] at hx ⊢
   rw [Bool.and_eq_true] at hx
   obtain rfl:=of_decide_eq_true hx.2
   rw [List.append_assoc,bind_some (fitTru.fwd _ J trivial),if_pos J,bind_some (fitPt.fwd r hx.1 h2)]
   rfl
theorem Nb (k:Int→Bool) (hk:∀ z,k z=true→okO z=true):Fits (λl=>AH CH (λz=>AH (BH (k z)) λ_=>BF z) l) k (λz=>[CQ z]) (λ_=>True):=by
 refine ⟨λ{l r x} h=>?_,λ{x} r hx _=>?_⟩
 ·obtain ⟨z,r1,h1,u9⟩:=Ac h
  obtain ⟨_,r2,h2,u10⟩:=Ac u9
  obtain ⟨hz,rfl⟩:=GK h2
  cases u10
  obtain ⟨_,rfl⟩:=fitOct.inv h1
  exact ⟨⟨hz,trivial⟩,rfl⟩
 ·show AH CH _ _=_
  rw [bind_some (fitOct.fwd r (hk x hx) trivial),G' hx]
  rfl
theorem MT {α:Type} (k:Int→Bool) (f:Int→Ps α):AH CH (λz=>AH (BH (k z)) λ_=>f z)=AH (λl=>AH CH (λz=>AH (BH (k z)) λ_=>BF z) l) f:=by
 funext l
 cases h:CH l with
 | none=>rw [bind_none h,bind_none]; exact bind_none h
 | some u =>
  obtain ⟨z,r⟩:=u
  rw [bind_some h]
  cases hk:k z with
  | false =>
   have e:(λl=>AH CH (λz=>AH (BH (k z)) λ_=>BF z) l) l=none:=by
    show AH CH _ l=none
    rw [bind_some h,hk]
    rfl
   rw [bind_none e]
   rfl
  | true =>
   have e:(λl=>AH CH (λz=>AH (BH (k z)) λ_=>BF z) l) l=some (z,r):=by
    show AH CH _ l=_
    rw [bind_some h,hk]
    rfl
   rw [bind_some e]
   rfl
theorem Th (z:Int) (h:okK z=true):okO z=true:=by
 unfold okK at h; unfold okO
 rw [Bool.and_eq_true,decide_eq_true_eq,decide_eq_true_eq] at h ⊢
 omega
theorem Qs (z:Int) (h:GG z=true):okO z=true:=by
 unfold GG at h; unfold okO
 rw [Bool.and_eq_true,decide_eq_true_eq,decide_eq_true_eq] at h ⊢
 omega
def GV (x:Byt):Prop:=x.length<18446744073709551616
def Px:Ps MOu:=AH (λl=>AH CH (λz=>AH (BH (okK z)) λ_=>BF z) l) λk=>AH Ke λa=>AH Js λb=>AH (Bq 6000) λr=>AH (Bq 6000) λs=>AH (Bq 128) λn=>AH (Bq 256) λc=>BF ⟨k,a,b,r,s,n,c⟩
theorem R3:Gn=Px:=MT okK _
def RP (x:MOu):Prop:=True∧Tu x.asset∧Ng x.amount∧GV x.range∧GV x.surject∧GV x.note∧GV x.script
theorem Uk:Fits Px Gq GT RP:=by
 refine ⟨λ{l r x} h=>?_,λ{x} r hx hd=>?_⟩
 ·obtain ⟨y1,r1,h1,u11⟩:=Ac h
  obtain ⟨⟨o1,d1⟩,rfl⟩:=(Nb okK Th).inv h1
  obtain ⟨y2,r2,h2,u12⟩:=Ac u11
  obtain ⟨⟨o2,d2⟩,rfl⟩:=(Tl).inv h2
  obtain ⟨y3,r3,h3,u13⟩:=Ac u12
  obtain ⟨⟨o3,d3⟩,rfl⟩:=(fitAM).inv h3
  obtain ⟨y4,r4,h4,u14⟩:=Ac u13
  obtain ⟨⟨o4,d4⟩,rfl⟩:=(Bg 6000).inv h4
  obtain ⟨y5,r5,h5,u15⟩:=Ac u14
  obtain ⟨⟨o5,d5⟩,rfl⟩:=(Bg 6000).inv h5
  obtain ⟨y6,r6,h6,u16⟩:=Ac u15
  obtain ⟨⟨o6,d6⟩,rfl⟩:=(Bg 128).inv h6
  obtain ⟨y7,r7,h7,u17⟩:=Ac u16
  obtain ⟨⟨o7,d7⟩,rfl⟩:=(Bg 256).inv h7
  cases u17
  refine ⟨⟨?_,⟨d1,d2,d3,d4,d5,d6,d7⟩⟩,?_⟩
  ·unfold Gq; simp only [o1,o2,o3,o4,o5,o6,o7,Bool.and_self]; try rfl
  ·unfold GT; simp only [List.append_assoc]
 ·obtain ⟨y1,y2,y3,y4,y5,y6,y7⟩:=x
  obtain ⟨d1,d2,d3,d4,d5,d6,d7⟩:=hd
  unfold Gq at hx
  simp only [Bool.and_eq_true] at hx
  obtain ⟨o1,o2,o3,o4,o5,o6,o7⟩:=hx
  dsimp only at *
  unfold GT Px
  simp only [List.append_assoc]
  rw [bind_some ((Nb okK Th).fwd _ o1 d1),bind_some ((Tl).fwd _ o2 d2),bind_some ((fitAM).fwd _ o3 d3),bind_some ((Bg 6000).fwd _ o4 d4),bind_some ((Bg 6000).fwd _ o5 d5),bind_some ((Bg 128).fwd _ o6 d6),bind_some ((Bg 256).fwd _ o7 d7)]
  rfl
theorem Tn:Fits Gn Gq GT RP:=by rw [R3]; exact Uk
def Tw (x:MPa):Prop:=True∧(x.keys.length<18446744073709551616∧∀ k∈x.keys,k.length=32)
theorem fitPA:Fits Pw Kr HW Tw:=by
 refine ⟨λ{l r x} h=>?_,λ{x} r hx hd=>?_⟩
 ·obtain ⟨y1,r1,h1,u18⟩:=Ac h
  obtain ⟨⟨o1,d1⟩,rfl⟩:=(fitOct).inv h1
  obtain ⟨y2,r2,h2,u19⟩:=Ac u18
  obtain ⟨⟨o2,d2⟩,rfl⟩:=(CG (Ax 32) 16).inv h2
  cases u19
  refine ⟨⟨?_,⟨d1,d2⟩⟩,?_⟩
  ·unfold Kr; rw [DP,Bool.and_true] at o2; simp only [o1,o2,Bool.and_self]; try rfl
  ·unfold HW; simp only [List.append_assoc]
 ·obtain ⟨y1,y2⟩:=x
  obtain ⟨d1,d2⟩:=hd
  unfold Kr at hx
  simp only [Bool.and_eq_true] at hx
  obtain ⟨o1,o2⟩:=hx
  have o2:(decide (y2.length≤16) && y2.all λ_=>true)=true:=by rw [o2,DP]; rfl
  dsimp only at *
  unfold HW Pw
  simp only [List.append_assoc]
  rw [bind_some ((fitOct).fwd _ o1 d1),bind_some ((CG (Ax 32) 16).fwd _ o2 d2)]
  rfl
def Ty (h:MHe):Prop:=h.prev.length=32∧h.height<18446744073709551616∧h.time<18446744073709551616∧h.root.length=32∧h.main.length=32∧GV h.reward∧Tw h.next
theorem Tp:Fits Jq GH Fg Ty:=by
 refine ⟨λ{l r x} h=>?_,λ{x} r hx hd=>?_⟩
 ·obtain ⟨y1,r1,h1,u24⟩:=Ac h
  obtain ⟨⟨_,d1⟩,rfl⟩:=(Ax 32).inv h1
  obtain ⟨y2,r2,h2,u25⟩:=Ac u24
  obtain ⟨⟨_,d2⟩,rfl⟩:=(Bn 8).inv h2
  obtain ⟨y3,r3,h3,u26⟩:=Ac u25
  obtain ⟨⟨_,d3⟩,rfl⟩:=(Bn 8).inv h3
  obtain ⟨y4,r4,h4,u27⟩:=Ac u26
  obtain ⟨⟨_,d4⟩,rfl⟩:=(Ax 32).inv h4
  obtain ⟨y5,r5,h5,u28⟩:=Ac u27
  obtain ⟨⟨_,d5⟩,rfl⟩:=(Ax 32).inv h5
  obtain ⟨y6,r6,h6,u29⟩:=Ac u28
  obtain ⟨⟨o6,d6⟩,rfl⟩:=(Bg 256).inv h6
  obtain ⟨c,r7,h7,u30⟩:=Ac u29
  obtain ⟨_,rfl⟩:=fitTru.inv h7
  obtain ⟨n,r8,h8,u31⟩:=Ac u30
  cases u31
  cases c
  ·rw [if_neg dZ] at h8
   cases h8
   refine ⟨⟨?_,d1,d2,d3,d4,d5,d6,trivial,Nat.zero_lt_succ _,λ_ u31=>by cases u31⟩,?_⟩
   ·unfold GH; dsimp only; rw [o6]; rfl
   ·unfold Fg D_; dsimp only; rw [if_neg dZ]; simp only [List.append_assoc,List.nil_append]
  ·rw [if_pos J] at h8
   obtain ⟨⟨o8,d8⟩,rfl⟩:=fitPA.inv h8
   refine ⟨⟨?_,d1,d2,d3,d4,d5,d6,d8⟩,?_⟩
   ·unfold GH; dsimp only; rw [o6,if_pos J,o8]; rfl
   ·unfold Fg D_; dsimp only; rw [if_pos J]; simp only [List.append_assoc]
 ·obtain ⟨y1,y2,y3,y4,y5,y6,c,n⟩:=x
  obtain ⟨d1,d2,d3,d4,d5,d6,d7⟩:=hd
  unfold GH at hx
  rw [Bool.and_eq_true] at hx
  obtain ⟨o6,o7⟩:=hx
  unfold Fg Jq
  dsimp only at *
  show AH _ _ (_++r)=_
  rw [show y1++(nb 8 y2++(nb 8 y3++(y4++(y5++((Ap y6.length++y6)++([trB c]++(if c=true then HW n else [])))))))++r=y1++(nb 8 y2++(nb 8 y3++(y4++(y5++(D_ y6++([trB c]++((if c=true then HW n else [])++r))))))) by unfold D_; simp only [List.append_assoc]]
  rw [bind_some ((Ax 32).fwd _ J d1),bind_some ((Bn 8).fwd _ J d2),bind_some ((Bn 8).fwd _ J d3),bind_some ((Ax 32).fwd _ J d4),bind_some ((Ax 32).fwd _ J d5),bind_some ((Bg 256).fwd _ o6 d6),bind_some (fitTru.fwd _ J trivial)]
  cases c
  ·rw [if_neg dZ] at o7
   rw [Bool.and_eq_true] at o7
   obtain ⟨t,ks⟩:=n
   obtain rfl:t=0:=of_decide_eq_true o7.1
   obtain rfl:ks=[]:=List.length_eq_zero_iff.1 (of_decide_eq_true o7.2)
   rfl
  ·rw [if_pos J] at o7
   rw [if_pos J,if_pos J,bind_some (fitPA.fwd _ o7 d7)]
   rfl
def Nf (i:MIs):Prop:=Ng i.amount∧GV i.range∧i.tokens<18446744073709551616∧i.entropy.length=32∧i.blind<Cu.K4
theorem UY {a:MAmt} (hd:Ng a) (h:Ev a=true):a=zAM:=by
 obtain ⟨b,v,p⟩:=a
 unfold Ev at h
 simp only [Bool.and_eq_true,decide_eq_true_eq] at h
 obtain ⟨⟨h1,h2⟩,h3⟩:=h
 obtain rfl:=L8 hd.2 h3
 cases b
 ·subst h2; rfl
 ·cases h1
theorem UX {i:MIs} (hd:Nf i) (h0:i.kind=0) (h:DL i=true):i=zIS:=by
 obtain ⟨k,a,r,t,e,s⟩:=i
 unfold DL at h
 simp only [Bool.and_eq_true,decide_eq_true_eq] at h
 obtain ⟨h1,h2,h3,h4,h5⟩:=h
 obtain rfl:=UY hd.1 h1
 obtain rfl:r=[]:=List.length_eq_zero_iff.1 h2
 dsimp only at h0
 subst h0 h3 h4 h5
 rfl
theorem S9:Nf zIS:=⟨⟨(show 0<18446744073709551616 by decide),(show 0<Cu.K4 by decide),(show 0<Cu.K4 by decide)⟩,(show 0<18446744073709551616 by decide),(show 0<18446744073709551616 by decide),rfl,(show 0<Cu.K4 by decide)⟩
theorem US:C9 zIS=true:=dZ
theorem fitIS:Fits He C9 D1 Nf:=by
 refine ⟨λ{l r x} h=>?_,λ{x} r hx hd=>?_⟩
 ·obtain ⟨k,r1,h1,u1⟩:=Ac h
  obtain ⟨⟨o1,_⟩,rfl⟩:=fitOct.inv h1
  by_cases hk:k=0
  ·rw [if_pos hk] at u1
   cases u1
   subst hk
   exact ⟨⟨US,S9⟩,by unfold D1; rfl⟩
  ·rw [if_neg hk] at u1
   obtain ⟨_,r2,h2,u2⟩:=Ac u1
   obtain ⟨hz,rfl⟩:=GK h2
   unfold K8 at u2
   obtain ⟨y1,r1,h1,u3⟩:=Ac u2
   obtain ⟨⟨o1,d1⟩,rfl⟩:=fitAM.inv h1
   obtain ⟨y2,r2,h2,u4⟩:=Ac u3
   obtain ⟨⟨o2,d2⟩,rfl⟩:=(Bg 6000).inv h2
   obtain ⟨y3,r3,h3,u5⟩:=Ac u4
   obtain ⟨⟨_,d3⟩,rfl⟩:=(Bn 8).inv h3
   obtain ⟨y4,r4,h4,u6⟩:=Ac u5
   obtain ⟨⟨_,d4⟩,rfl⟩:=(Ax 32).inv h4
   obtain ⟨y5,r5,h5,u7⟩:=Ac u6
   obtain ⟨⟨o5,d5⟩,rfl⟩:=fitSC.inv h5
   cases u7
   refine ⟨⟨?_,d1,d2,d3,d4,d5⟩,?_⟩
   ·unfold C9 JL; dsimp only; rw [if_neg hk,if_pos (of_decide_eq_true hz),o1,o2,o5]; rfl
   ·unfold D1 Ip; dsimp only; rw [if_neg hk]; simp only [List.append_assoc]
 ·by_cases hk:x.kind=0
  ·have hn:DL x=true:=by unfold C9 at hx; rwa [if_pos hk] at hx
   obtain rfl:=UX hd hk hn
   show AH CH _ ([CQ 0]++[]++r)=_
   rw [List.append_nil,bind_some (fitOct.fwd r dZ trivial)]
   rfl
  ·unfold C9 at hx
   rw [if_neg hk] at hx
   by_cases hk2:x.kind=1∨x.kind=2
   ·rw [if_pos hk2] at hx
    obtain ⟨k,y1,y2,y3,y4,y5⟩:=x
    unfold JL at hx
    simp only [Bool.and_eq_true] at hx
    obtain ⟨o1,o2,o5⟩:=hx
    obtain ⟨d1,d2,d3,d4,d5⟩:=hd
    dsimp only at *
    unfold D1 Ip He
    dsimp only
    rw [if_neg hk]
    simp only [List.append_assoc]
    rw [bind_some (fitOct.fwd _ (by rcases hk2 with rfl|rfl <;> decide) trivial),if_neg hk,G' (decide_eq_true hk2)]
    unfold K8
    rw [bind_some (fitAM.fwd _ o1 d1),bind_some ((Bg 6000).fwd _ o2 d2),bind_some ((Bn 8).fwd _ J d3),bind_some ((Ax 32).fwd _ J d4),bind_some (fitSC.fwd _ o5 d5)]
    rfl
   ·rw [if_neg hk2] at hx; cases hx
def RO (x:MPg):Prop:=x.header.length=32∧GV x.tx∧x.place<4294967296∧x.many<4294967296∧(x.path.length<18446744073709551616∧∀ k∈x.path,k.length=32)∧GV x.script
theorem fitPG:Fits Jp IP GS RO:=by
 refine ⟨λ{l r x} h=>?_,λ{x} r hx hd=>?_⟩
 ·obtain ⟨y1,r1,h1,u8⟩:=Ac h
  obtain ⟨⟨o1,d1⟩,rfl⟩:=(Ax 32).inv h1
  obtain ⟨y2,r2,h2,u9⟩:=Ac u8
  obtain ⟨⟨o2,d2⟩,rfl⟩:=(Bg 1024).inv h2
  obtain ⟨y3,r3,h3,u10⟩:=Ac u9
  obtain ⟨⟨o3,d3⟩,rfl⟩:=(Bn 4).inv h3
  obtain ⟨y4,r4,h4,u11⟩:=Ac u10
  obtain ⟨⟨o4,d4⟩,rfl⟩:=(Bn 4).inv h4
  obtain ⟨y5,r5,h5,u12⟩:=Ac u11
  obtain ⟨⟨o5,d5⟩,rfl⟩:=(CG (Ax 32) 32).inv h5
  obtain ⟨y6,r6,h6,u13⟩:=Ac u12
  obtain ⟨⟨o6,d6⟩,rfl⟩:=(Bg 256).inv h6
  cases u13
  refine ⟨⟨?_,⟨d1,d2,d3,d4,d5,d6⟩⟩,?_⟩
  ·unfold IP; rw [DP,Bool.and_true] at o5; simp only [o2,o5,o6,Bool.and_self]; try rfl
  ·unfold GS; simp only [List.append_assoc]
 ·obtain ⟨y1,y2,y3,y4,y5,y6⟩:=x
  obtain ⟨d1,d2,d3,d4,d5,d6⟩:=hd
  unfold IP at hx
  simp only [Bool.and_eq_true] at hx
  obtain ⟨o2,o5,o6⟩:=hx
  have o5:(decide (y5.length≤32) && y5.all λ_=>true)=true:=by rw [o5,DP]; rfl
  dsimp only at *
  unfold GS Jp
  simp only [List.append_assoc]
  rw [bind_some ((Ax 32).fwd _ J d1),bind_some ((Bg 1024).fwd _ o2 d2),bind_some ((Bn 4).fwd _ J d3),bind_some ((Bn 4).fwd _ J d4),bind_some ((CG (Ax 32) 32).fwd _ o5 d5),bind_some ((Bg 256).fwd _ o6 d6)]
  rfl
theorem UW {p:MPg} (h:DU p=true):p=zPG:=by
 obtain ⟨h,t,p,m,l,s⟩:=p
 unfold DU at h
 simp only [Bool.and_eq_true,decide_eq_true_eq] at h
 obtain ⟨h1,h2,h3,h4,h5,h6⟩:=h
 obtain rfl:=List.length_eq_zero_iff.1 h2
 obtain rfl:=List.length_eq_zero_iff.1 h5
 obtain rfl:=List.length_eq_zero_iff.1 h6
 subst h1 h3 h4
 rfl
theorem S8:RO zPG:=⟨rfl,(show 0<18446744073709551616 by decide),(show 0<4294967296 by decide),(show 0<4294967296 by decide),⟨(show 0<18446744073709551616 by decide),λ_ h=>by cases h⟩,(show 0<18446744073709551616 by decide)⟩
def Tx (i:MIn):Prop:=i.prev.length=32∧i.index<4294967296∧Nf i.issue∧RO i.peg∧i.wit.length<18446744073709551616∧∀ x∈i.wit,GV x
theorem To:Fits Ej FT D2 Tx:=by
 refine ⟨λ{l r x} h=>?_,λ{x} r hx hd=>?_⟩
 ·obtain ⟨k,r1,h1,u14⟩:=Ac h
  obtain ⟨⟨o0,_⟩,rfl⟩:=fitOct.inv h1
  obtain ⟨_,r2,h2,u15⟩:=Ac u14
  obtain ⟨ok,rfl⟩:=GK h2
  obtain ⟨y1,r1,h1,u16⟩:=Ac u15
  obtain ⟨⟨_,d1⟩,rfl⟩:=(Ax 32).inv h1
  obtain ⟨y2,r2,h2,u17⟩:=Ac u16
  obtain ⟨⟨_,d2⟩,rfl⟩:=(Bn 4).inv h2
  obtain ⟨y3,r3,h3,u18⟩:=Ac u17
  obtain ⟨⟨o3,d3⟩,rfl⟩:=fitIS.inv h3
  obtain ⟨y4,r4,h4,u19⟩:=Ac u18
  obtain ⟨y5,r5,h5,u20⟩:=Ac u19
  obtain ⟨⟨o5,d5⟩,rfl⟩:=(CG (Bg 256) 16).inv h5
  cases u20
  have o5':okW y5=true:=o5
  by_cases hk:k=2
  ·rw [if_pos hk] at h4
   obtain ⟨⟨o4,d4⟩,rfl⟩:=fitPG.inv h4
   refine ⟨⟨?_,d1,d2,d3,d4,d5⟩,?_⟩
   ·unfold FT; dsimp only; rw [if_pos hk,ok,o3,o4,o5']; rfl
   ·unfold D2; dsimp only; rw [if_pos hk]; simp only [List.append_assoc]
  ·rw [if_neg hk] at h4
   cases h4
   refine ⟨⟨?_,d1,d2,d3,S8,d5⟩,?_⟩
   ·unfold FT; dsimp only; rw [if_neg hk,ok,o3,o5']; rfl
   ·unfold D2; dsimp only; rw [if_neg hk]; simp only [List.append_assoc,List.nil_append]
 ·obtain ⟨k,y1,y2,y3,y4,y5⟩:=x
  obtain ⟨d1,d2,d3,d4,d5⟩:=hd
  unfold FT at hx
  rw [Bool.and_eq_true,Bool.and_eq_true,Bool.and_eq_true] at hx
  obtain ⟨ok,o3,o4,o5⟩:=hx
  dsimp only at *
  unfold D2 Ej
  dsimp only
  by_cases hk:k=2
  ·rw [if_pos hk] at o4 ⊢
   simp only [List.append_assoc]
   rw [bind_some (fitOct.fwd _ (Qs k ok) trivial),G' ok,bind_some ((Ax 32).fwd _ J d1),bind_some ((Bn 4).fwd _ J d2),bind_some (fitIS.fwd _ o3 d3),if_pos hk,bind_some (fitPG.fwd _ o4 d4),bind_some ((CG (Bg 256) 16).fwd _ o5 d5)]
   rfl
  ·rw [if_neg hk] at o4 ⊢
   obtain rfl:=UW o4
   simp only [List.append_assoc,List.nil_append]
   rw [bind_some (fitOct.fwd _ (Qs k ok) trivial),G' ok,bind_some ((Ax 32).fwd _ J d1),bind_some ((Bn 4).fwd _ J d2),bind_some (fitIS.fwd _ o3 d3),if_neg hk,bind_some (show BF zPG _=some (zPG,_) from rfl),bind_some ((CG (Bg 256) 16).fwd _ o5 d5)]
   rfl
def Tt (x:MTr):Prop:=x.after<18446744073709551616∧(x.ins.length<18446744073709551616∧∀ o∈x.ins,Tx o)∧(x.outs.length<18446744073709551616∧∀ o∈x.outs,RP o)
theorem Tk:Fits IC I1 HO Tt:=by
 refine ⟨λ{l r x} h=>?_,λ{x} r hx hd=>?_⟩
 ·obtain ⟨y1,r1,h1,u21⟩:=Ac h
  obtain ⟨⟨o1,d1⟩,rfl⟩:=(Bn 8).inv h1
  obtain ⟨y2,r2,h2,u22⟩:=Ac u21
  obtain ⟨⟨o2,d2⟩,rfl⟩:=(CG To 16).inv h2
  obtain ⟨y3,r3,h3,u23⟩:=Ac u22
  obtain ⟨⟨o3,d3⟩,rfl⟩:=(CG Tn 16).inv h3
  cases u23
  refine ⟨⟨?_,⟨d1,d2,d3⟩⟩,?_⟩
  ·unfold I1; simp only [o2,o3,Bool.and_self]; try rfl
  ·unfold HO; simp only [List.append_assoc]
 ·obtain ⟨y1,y2,y3⟩:=x
  obtain ⟨d1,d2,d3⟩:=hd
  unfold I1 at hx
  simp only [Bool.and_eq_true] at hx
  obtain ⟨o2,o3⟩:=hx
  rw [← Bool.and_eq_true] at o2 o3
  dsimp only at *
  unfold HO IC
  simp only [List.append_assoc]
  rw [bind_some ((Bn 8).fwd _ J d1),bind_some ((CG To 16).fwd _ o2 d2),bind_some ((CG Tn 16).fwd _ o3 d3)]
  rfl
def Tv (x:MSg):Prop:=True∧x.sig.length=64
theorem Tm:Fits I0 Kp HQ Tv:=by
 refine ⟨λ{l r x} h=>?_,λ{x} r hx hd=>?_⟩
 ·obtain ⟨y1,r1,h1,u24⟩:=Ac h
  obtain ⟨⟨o1,d1⟩,rfl⟩:=(fitOct).inv h1
  obtain ⟨y2,r2,h2,u25⟩:=Ac u24
  obtain ⟨⟨o2,d2⟩,rfl⟩:=(Ax 64).inv h2
  cases u25
  refine ⟨⟨?_,⟨d1,d2⟩⟩,?_⟩
  ·unfold Kp; simp only [o1,Bool.and_self]; try rfl
  ·unfold HQ; simp only [List.append_assoc]
 ·obtain ⟨y1,y2⟩:=x
  obtain ⟨d1,d2⟩:=hd
  unfold Kp at hx
  have o1:=hx
  dsimp only at *
  unfold HQ I0
  simp only [List.append_assoc]
  rw [bind_some ((fitOct).fwd _ o1 d1),bind_some ((Ax 64).fwd _ J d2)]
  rfl
def Vy (x:MBl):Prop:=Ty x.header∧(x.sigs.length<18446744073709551616∧∀ o∈x.sigs,Tv o)∧(x.txs.length<18446744073709551616∧∀ o∈x.txs,Tt o)
theorem Vu:Fits Jr D8 D3 Vy:=by
 refine ⟨λ{l r x} h=>?_,λ{x} r hx hd=>?_⟩
 ·obtain ⟨y1,r1,h1,u26⟩:=Ac h
  obtain ⟨⟨o1,d1⟩,rfl⟩:=(Tp).inv h1
  obtain ⟨y2,r2,h2,u27⟩:=Ac u26
  obtain ⟨⟨o2,d2⟩,rfl⟩:=(CG Tm 16).inv h2
  obtain ⟨y3,r3,h3,u28⟩:=Ac u27
  obtain ⟨⟨o3,d3⟩,rfl⟩:=(CG Tk 64).inv h3
  cases u28
  refine ⟨⟨?_,⟨d1,d2,d3⟩⟩,?_⟩
  ·unfold D8; simp only [o1,o2,o3,Bool.and_self]; try rfl
  ·unfold D3; simp only [List.append_assoc]
 ·obtain ⟨y1,y2,y3⟩:=x
  obtain ⟨d1,d2,d3⟩:=hd
  unfold D8 at hx
  simp only [Bool.and_eq_true] at hx
  obtain ⟨o1,o2,o3⟩:=hx
  rw [← Bool.and_eq_true] at o2 o3
  dsimp only at *
  unfold D3 Jr
  simp only [List.append_assoc]
  rw [bind_some ((Tp).fwd _ o1 d1),bind_some ((CG Tm 16).fwd _ o2 d2),bind_some ((CG Tk 64).fwd _ o3 d3)]
  rfl
theorem Hk {α:Type} {wt sz:α→Nat} {a c:Nat} (h:∀ x,wt x≤a*sz x+c) (l:List α):(l.map wt).sum≤a*(l.map sz).sum+c*l.length:=by
 induction l with
 | nil=>exact Nat.zero_le _
 | cons x l ih =>
  have q:=h x
  rw [List.map_cons,List.sum_cons,List.map_cons,List.sum_cons,List.length_cons,Nat.mul_add,Nat.mul_succ]
  omega
theorem Vk (o:MOu):D7 o≤1*OJ o+105:=by unfold D7 OJ; omega
theorem Vl (i:MIn):Dp i≤32*OK i+300:=by
 have a:=Hk (wt:=wtT) (sz:=λx=>x.length) (a:=1) (c:=9) (λx=>by unfold wtT; omega) i.wit
 unfold Dp DQ Ek OK PR PQ
 rw [F3]
 omega
theorem Vj (t:MTr):D' t≤332*OI t+100:=by
 have a:=Hk Vl t.ins
 have b:=Hk Vk t.outs
 unfold D' OI
 omega
theorem PS (l:List MSg):(l.map λ_=>65).sum=65*l.length:=by
 induction l with
 | nil=>rfl
 | cons o l ih=>rw [List.map_cons,List.sum_cons,ih,List.length_cons]; omega
theorem Vm (b:MBl):Fi b≤432*Rr b+300:=by
 have a:=Hk Vj b.txs
 unfold Fi Rr Dq Gd
 rw [PS,F3]
 omega
def cBL (ch:List Value) (vs vt:Value):List Value:=ch++([vs]++[vt])
theorem Rc (w0:Base) (gw:Nat) (bad:Bool) (s:Slc) (R:AA) (b:Byt) (x:MBl) (cs:List Value) (hx:C3 (rdW w0.world) cs x) (hb:BS s b) (hl:b.length+Fi x≤1000000000000) (w:World) (hw:St w0 w (WB gw bad s R)) :
  AL 39 #[ptr gw,.agg cs.toArray] w (AQ w0 (Wd gw R (D8 x) (D3 x) (Fi x) bad b)):=by
 obtain ⟨hd,sigs,txs⟩:=x
 obtain ⟨ch,vs,vt,hcs,h1,⟨A,n,cp,rfl,n1,m2,m3,n4⟩,⟨A2,n2,cp2,rfl,k1,k2,k3,k4⟩⟩:=hx
 obtain rfl:cs=cBL ch (.slice A n cp) (.slice A2 n2 cp2):=hcs
 dsimp only at h1 n1 n4 k1 k4
 unfold Fi at hl
 dsimp only at hl
 have m1:ch.length=102:=Qp h1
 have hs9:(sigs.map λ_=>65).sum=65*sigs.length:=PS sigs
 have ho9:=H3 (wt:=D') (λx=>by unfold D'; omega) txs
 have hk9:hd.next.keys.length≤Dq hd:=by unfold Dq Gd; rw [PT]; omega
 have hlen:(cBL ch (.slice A n cp) (.slice A2 n2 cp2)).length=104:=by unfold cBL; rw [List.length_append,m1]; rfl
 refine Sy.enterT (args:=[ptr gw,.agg (cBL ch (.slice A n cp) (.slice A2 n2 cp2)).toArray]) hw Tryz.func39 J kL<|sC<|sM 46 (cBL ch (.slice A n cp) (.slice A2 n2 cp2)).toArray (λg3=>?_) kR (λw=>Aq J J kZ hlen w)
 refine Sy.permS (M:=WB gw bad s (R++[(g3,46,(cBL ch (.slice A n cp) (.slice A2 n2 cp2)).toArray)])) (List.Perm.of_eq (by simp only [List.append_assoc])) ?_
 have X0:XAt (rdC w0.inn [(g3,46,(cBL ch (.slice A n cp) (.slice A2 n2 cp2)).toArray)]) g3 0 ((cBL ch (.slice A n cp) (.slice A2 n2 cp2))):=λi u hu=>.inr ⟨_,_,List.mem_singleton.2 J,by rw [Nat.zero_add,List.getElem?_toArray]; exact hu⟩
 have X1:XAt (rdC w0.inn [(g3,46,(cBL ch (.slice A n cp) (.slice A2 n2 cp2)).toArray)]) g3 102 ([.slice A n cp]++([.slice A2 n2 cp2])):=X0.right m1
 have X2:XAt (rdC w0.inn [(g3,46,(cBL ch (.slice A n cp) (.slice A2 n2 cp2)).toArray)]) g3 103 ([.slice A2 n2 cp2]):=X1.right (n:=1) rfl
 refine sA<|sp J<|sP (pT g3 0)<|sS (.agg ch.toArray) (BQ (R:=[(g3,46,(cBL ch (.slice A n cp) (.slice A2 n2 cp2)).toArray)]) (g:=g3) (f:=0) (k:=102) (cs:=ch) X0.left (λy hy=>Aj (List.mem_append_right R hy)) m1 J OB)<|Sy.callT (λw hw=>Q1 w0.inn gw bad s (R++[(g3,46,(cBL ch (.slice A n cp) (.slice A2 n2 cp2)).toArray)]) b hd ch h1 hb om om w hw) (λu M hM=>?_)
 obtain ⟨s1,bad1,b1,q1,p1,rfl⟩:=hM
 have l1:b1.length≤b.length+Dq hd:=q1.len
 refine sA<|sp J<|sP (pT g3 102)<|sS (.slice A n cp) (AK (R:=[(g3,46,(cBL ch (.slice A n cp) (.slice A2 n2 cp2)).toArray)]) (g:=g3) (f:=102) X1.one (λy hy=>Aj (List.mem_append_right R hy)) J Hy)<|sP (.int .i64 (n:Int))<|Sy.callT (λw hw=>C_ w0.inn gw bad1 s1 (R++[(g3,46,(cBL ch (.slice A n cp) (.slice A2 n2 cp2)).toArray)]) b1 n 16 om dZ p1 om w hw) (λu M hM=>?_)
 obtain ⟨s2,bad2,b2,q2,p2,rfl⟩:=hM
 have l2:b2.length≤b1.length+9:=q2.len
 refine sG<|Sy.seq<|sC<|sP (.int .i64 0)<|sG<|Sy.block ?_
 have hsum3:∀ i,((sigs.take i).map (λ_:MSg=>65)).sum≤(sigs.map (λ_:MSg=>65)).sum:=λi=>by
  have e:=congrArg (λz=>(z.map (λ_:MSg=>65)).sum) (List.take_append_drop i sigs)
  simp only [List.map_append,List.sum_append] at e
  omega
 refine Sy.loopT (Y:=Slc×Bool×Byt) n (λi _=>[(0,ptr gw),(3,ptr g3),(4,.int .i64 (i:Int))]) (λ_ y=>WB gw y.2.1 y.1 (R++[(g3,46,(cBL ch (.slice A n cp) (.slice A2 n2 cp2)).toArray)])) (λi y=>Wrote ((sigs.take i).all Kp) ((sigs.take i).flatMap HQ) (((sigs.take i).map (λ_:MSg=>65)).sum) bad2 b2 y.2.1 y.2.2∧BS y.1 y.2.2) (s2,bad2,b2) ⟨by
  have e:=Wrote.raw [] bad2 b2 (k:=0) (Nat.le_refl 0)
  rw [List.append_nil] at e
  exact e,p2⟩ ac3 (λ_ h=>h) (λi y hi hy=>?_)
 obtain ⟨s3,bad3,b3⟩:=y
 obtain ⟨q3,p3⟩:=hy
 dsimp only at q3 p3 ⊢
 refine Sy.seq<|sC ?_
 obtain ⟨t9,ht9⟩:=xE (decide (i<n))
 refine sp J<|sP (pT g3 102)<|sS (.slice A n cp) (AK (R:=[(g3,46,(cBL ch (.slice A n cp) (.slice A2 n2 cp2)).toArray)]) (g:=g3) (f:=102) X1.one (λy hy=>Aj (List.mem_append_right R hy)) J Hy)<|sP (.int .i64 (n:Int))<|sS (.bool t9) (qls J J J ht9)<|sG ?_
 cases t9
 case' false =>
  have z3:=dN ht9
  obtain rfl:n=i:=om
  rw [List.take_of_length_le om] at q3
  have l3:b3.length≤b2.length+(sigs.map (λ_:MSg=>65)).sum:=q3.len
  refine sU<|Sy.exit<|Sy.then_exit<|Sy.then_exit<|Sy.in_exit<|Sy.then_<|sC<|sp J<|sP (pT g3 103)<|sS (.slice A2 n2 cp2) (AK (R:=[(g3,46,(cBL ch (.slice A n cp) (.slice A2 n2 cp2)).toArray)]) (g:=g3) (f:=103) X2.one (λy hy=>Aj (List.mem_append_right R hy)) J Gg)<|sP (.int .i64 (n2:Int))<|Sy.callT (λw hw=>C_ w0.inn gw bad3 s3 (R++[(g3,46,(cBL ch (.slice A n cp) (.slice A2 n2 cp2)).toArray)]) b3 n2 64 om dZ p3 om w hw) (λu M hM=>?_)
  obtain ⟨s4,bad4,b4,q4,p4,rfl⟩:=hM
  have l4:b4.length≤b3.length+9:=q4.len
  refine sA<|sP (.int .i64 0)<|sG<|Sy.block ?_
  have hsum5:∀ i,((txs.take i).map D').sum≤(txs.map D').sum:=λi=>by
   have e:=congrArg (λz=>(z.map D').sum) (List.take_append_drop i txs)
   simp only [List.map_append,List.sum_append] at e
   omega
  refine Sy.loopT (Y:=Slc×Bool×Byt) n2 (λi _=>[(0,ptr gw),(3,ptr g3),(7,.int .i64 (i:Int))]) (λ_ y=>WB gw y.2.1 y.1 (R++[(g3,46,(cBL ch (.slice A n cp) (.slice A2 n2 cp2)).toArray)])) (λi y=>Wrote ((txs.take i).all I1) ((txs.take i).flatMap HO) (((txs.take i).map D').sum) bad4 b4 y.2.1 y.2.2∧BS y.1 y.2.2) (s4,bad4,b4) ⟨by
   have e:=Wrote.raw [] bad4 b4 (k:=0) (Nat.le_refl 0)
   rw [List.append_nil] at e
   exact e,p4⟩ ac3 (λ_ h=>h) (λi y hi hy=>?_)
  obtain ⟨s5,bad5,b5⟩:=y
  obtain ⟨q5,p5⟩:=hy
  dsimp only at q5 p5 ⊢
  refine Sy.seq<|sC ?_
  obtain ⟨t9,ht9⟩:=xE (decide (i<n2))
  refine sp J<|sP (pT g3 103)<|sS (.slice A2 n2 cp2) (AK (R:=[(g3,46,(cBL ch (.slice A n cp) (.slice A2 n2 cp2)).toArray)]) (g:=g3) (f:=103) X2.one (λy hy=>Aj (List.mem_append_right R hy)) J Gg)<|sP (.int .i64 (n2:Int))<|sS (.bool t9) (qls J J J ht9)<|sG ?_
  cases t9
  case' false =>
   have z3:=dN ht9
   obtain rfl:n2=i:=om
   rw [List.take_of_length_le om] at q5
   have l5:b5.length≤b4.length+(txs.map D').sum:=q5.len
   refine sU<|Sy.exit<|Sy.then_exit<|Sy.then_exit<|Sy.in_exit ?_
   have q:=q1.then_ ((q2.then_ q3).then_ (q4.then_ q5))
   rw [← n1, ← k1] at q
   exact Sy.retT0 J (WB gw bad5 s5 R) (λ_ h=>Bo h) (λ_=>⟨s5,bad5,b5,q,p5,rfl⟩)
  have z3:=dY ht9
  obtain ⟨x,hx⟩:∃ x,txs[i]? = some x:=⟨_,List.getElem?_eq_getElem om⟩
  obtain ⟨g,o,hA,hq⟩:=k4 (by intro e; rw [e] at hx; cases hx)
  obtain ⟨cx,y1,y2,y3,y4⟩:=hq i x hx
  have d1:XAt (rdC w0.inn []) g (o+i*3) _:=λj u hu=>.inl (y4 j u hu)
  have htk:txs.take (i+1)=txs.take i++[x]:=by rw [List.take_add_one,hx]; rfl
  have hsi:=hsum5 (i+1)
  rw [htk] at hsi
  simp only [List.map_append,List.sum_append,List.map_cons,List.map_nil,List.sum_cons,List.sum_nil] at hsi
  have hyl:=q5.len
  refine sT<|Sy.skip<|Sy.then_<|Sy.seq<|Sy.block<|Sy.region<|sp J<|sP (pT g3 103)<|sS (.slice A2 n2 cp2) (AK (R:=[(g3,46,(cBL ch (.slice A n cp) (.slice A2 n2 cp2)).toArray)]) (g:=g3) (f:=103) X2.one (λy hy=>Aj (List.mem_append_right R hy)) J Gg)<|sp J<|sS (.pointer (some ⟨g,o+i*3,none⟩)) (Quiet.pure (BJ 44 _ _ _ A2 g o n2 cp2 i 3 .i64 hA J J J Gg kF z3))<|sS (.agg cx.toArray) (BQ (R:=[]) d1 (λy hy=>by cases hy) y1 J PI)<|Sy.callT (λw hw=>Rp w0.inn gw bad5 s5 (R++[(g3,46,(cBL ch (.slice A n cp) (.slice A2 n2 cp2)).toArray)]) b5 x cx y3 p5 om w hw) (λv M hM=>?_)
  obtain ⟨s9,bad9,b9,q9,p9,rfl⟩:=hM
  refine Sy.nil<|Sy.in_<|Sy.then_<|Sy.region<|sp J<|sS (iZ (i+1)) (qad J J J)<|sp J<|Sy.nil ?_
  have hW:=q5.then_ q9
  have hW':Wrote ((txs.take (i+1)).all I1) ((txs.take (i+1)).flatMap HO) (((txs.take (i+1)).map D').sum) bad4 b4 bad9 b9:=by
   rw [htk]
   simp only [List.all_append,List.flatMap_append,List.map_append,List.sum_append,List.all_cons,List.all_nil,List.flatMap_cons,List.flatMap_nil,List.map_cons,List.map_nil,List.sum_cons,List.sum_nil,Bool.and_true,List.append_nil,Nat.add_zero]
   first | exact hW | simpa only [Bool.and_true] using hW
  exact Sy.againT (s9,bad9,b9) z3 ⟨hW',p9⟩ ac3 (λw h=>h)
 have z3:=dY ht9
 obtain ⟨x,hx⟩:∃ x,sigs[i]? = some x:=⟨_,List.getElem?_eq_getElem om⟩
 obtain ⟨g,o,hA,hq⟩:=n4 (by intro e; rw [e] at hx; cases hx)
 obtain ⟨cx,y1,y2,y3,y4⟩:=hq i x hx
 obtain ⟨sk,sg⟩:=x
 obtain ⟨rfl,h64⟩:=y3
 dsimp only at h64
 have hsl:(sg.map bv).length=64:=by rw [List.length_map,h64]
 have d2:XAt (rdC w0.inn []) g (o+i*65+1) (sg.map bv):=XAt.right (n:=1) (λj u hu=>.inl (y4 j u hu)) J
 have d1:XAt (rdC w0.inn []) g (o+i*65) _:=λj u hu=>.inl (y4 j u hu)
 have htk:sigs.take (i+1)=sigs.take i++[⟨sk,sg⟩]:=by rw [List.take_add_one,hx]; rfl
 have hsi:=hsum3 (i+1)
 rw [htk] at hsi
 simp only [List.map_append,List.sum_append,List.map_cons,List.map_nil,List.sum_cons,List.sum_nil] at hsi
 have hyl:=q3.len
 refine sT<|Sy.skip<|Sy.then_<|Sy.seq<|Sy.block<|sC<|sp J<|sP (pT g3 102)<|sS (.slice A n cp) (AK (R:=[(g3,46,(cBL ch (.slice A n cp) (.slice A2 n2 cp2)).toArray)]) (g:=g3) (f:=102) X1.one (λy hy=>Aj (List.mem_append_right R hy)) J Hy)<|sp J<|sS (.pointer (some ⟨g,o+i*65,none⟩)) (Quiet.pure (BJ 43 _ _ _ A g o n cp i 65 .i64 hA J J J Hy kF z3))<|sP (.pointer (some ⟨g,o+i*65,none⟩))<|sS (.int .i64 sk) (AK (R:=[]) d1.one (λy hy=>by cases hy) rfl uy3)<|Sy.callT (λw hw=>Dh w0.inn gw bad3 s3 (R++[(g3,46,(cBL ch (.slice A n cp) (.slice A2 n2 cp2)).toArray)]) b3 0 255 sk p3 om w hw) (λv M hM=>?_)
 obtain ⟨s6,bad6,b6,q6,p6,rfl⟩:=hM
 have l6:b6.length≤b3.length+1:=q6.len
 refine sA<|sP (pT g3 102)<|sS (.slice A n cp) (AK (R:=[(g3,46,(cBL ch (.slice A n cp) (.slice A2 n2 cp2)).toArray)]) (g:=g3) (f:=102) X1.one (λy hy=>Aj (List.mem_append_right R hy)) J Hy)<|sp J<|sS (.pointer (some ⟨g,o+i*65,none⟩)) (Quiet.pure (BJ 43 _ _ _ A g o n cp i 65 .i64 hA J J J Hy kF z3))<|sP (.pointer (some ⟨g,o+i*65+1,none⟩))<|sS (.agg (sg.map bv).toArray) (BQ (R:=[]) d2 (λy hy=>by cases hy) hsl J Mm)<|sM 180 (List.replicate 64 (Value.int .u8 0)).toArray (λg5=>?_)
 refine Sy.permS (M:=(g5,180,(List.replicate 64 (Value.int .u8 0)).toArray)::WB gw bad6 s6 (R++[(g3,46,(cBL ch (.slice A n cp) (.slice A2 n2 cp2)).toArray)])) (List.perm_append_comm (l₁:=WB gw bad6 s6 (R++[(g3,46,(cBL ch (.slice A n cp) (.slice A2 n2 cp2)).toArray)])) (l₂:=[_]))<|sw 0 J (sg.map bv).toArray (Writes.row 180 (sg.map bv) 64 _ _ J kR kR kR hsl kZ (Ho sg))<|Sy.permS (M:=WB gw bad6 s6 ((R++[(g3,46,(cBL ch (.slice A n cp) (.slice A2 n2 cp2)).toArray)])++[(g5,180,(sg.map bv).toArray)])) ((List.perm_append_comm (l₁:=[_]) (l₂:=WB gw bad6 s6 (R++[(g3,46,(cBL ch (.slice A n cp) (.slice A2 n2 cp2)).toArray)]))).trans (List.Perm.of_eq (by simp only [List.append_assoc])))<|sA<|sP (.int .i64 0)<|sG<|Sy.block<|Sy.loopT (Y:=Slc) 64 (λj _=>[(0,ptr gw),(3,ptr g3),(4,.int .i64 (i:Int)),(5,ptr g5),(6,.int .i64 (j:Int))]) (λ_ y=>WB gw bad6 y ((R++[(g3,46,(cBL ch (.slice A n cp) (.slice A2 n2 cp2)).toArray)])++[(g5,180,(sg.map bv).toArray)])) (λj y=>BS y (b6++sg.take j)) s6 (by rw [List.take_zero,List.append_nil]; exact p6) ac5 (λ_ h=>h) (λj y hj hy=>?_)
 dsimp only at hy ⊢
 refine Sy.seq<|sC ?_
 obtain ⟨t8,ht8⟩:=xE (decide (j<64))
 refine sp J<|sS (.bool t8) (qls J J J ht8)<|sG ?_
 cases t8
 case' true =>
  have l7:=dY ht8
  obtain ⟨u,hu⟩:∃ u,sg[j]? = some u:=⟨_,List.getElem?_eq_getElem om⟩
  have h7:(b6++sg.take j).length≤b6.length+64:=by rw [List.length_append,List.length_take]; omega
  refine sT<|Sy.skip<|Sy.then_<|Sy.seq<|Sy.block<|Sy.region<|sp J<|sp J<|sS (.pointer (some ⟨g5,0+j*1,none⟩)) (Quiet.pure (BA 180 _ _ _ g5 0 _ j 1 .i64 J J J Mm kF l7))<|sS (bv u) (AK (R:=[(g5,180,(sg.map bv).toArray)]) (g:=g5) (f:=0+j*1) (.inr ⟨_,_,List.mem_singleton.2 J,by rw [Nat.zero_add,Nat.mul_one,List.getElem?_toArray,List.getElem?_map,hu]; rfl⟩) (λy hy=>Aj (List.mem_append_right _ hy)) J uy5) ?_
  refine Sy.make kR 5 #[bv u] (λg=>.slice (pA g) 1 1) kF (λg7=>?_)
  refine Sy.permS (M:=WB gw bad6 y (((R++[(g3,46,(cBL ch (.slice A n cp) (.slice A2 n2 cp2)).toArray)])++[(g5,180,(sg.map bv).toArray)])++[(g7,5,#[bv u])])) (List.Perm.of_eq (by simp only [List.append_assoc]))<|Sy.callT (λw hw=>B_ w0.inn gw bad6 y (((R++[(g3,46,(cBL ch (.slice A n cp) (.slice A2 n2 cp2)).toArray)])++[(g5,180,(sg.map bv).toArray)])++[(g7,5,#[bv u])]) (b6++sg.take j) (.slice (pA g7) 1 1) [u] hy ⟨_,_,_,rfl,rfl,Nat.le_refl _,by decide,λ_=>⟨g7,0,rfl,λk v hk=>.inr ⟨5,#[bv u],List.mem_append_right _ (List.mem_singleton.2 J),by
   cases k with
   | zero=>cases hk; rfl
   | succ k=>cases hk⟩⟩⟩ (by show _+1≤_; omega) w hw) (λv M hM=>?_)
  obtain ⟨r,hr,rfl⟩:=hM
  refine Sy.nil<|Sy.in_<|Sy.then_<|Sy.region<|sp J<|sS (iZ (j+1)) (qad J J J)<|sp J<|Sy.nil ?_
  exact Sy.againT r l7 (by rw [List.take_add_one,hu, ← List.append_assoc]; exact hr) ac5 (λw h=>Bo h)
 have l7:=dN ht8
 obtain rfl:j=64:=om
 rw [List.take_of_length_le (Nat.le_of_eq h64)] at hy
 refine sU<|Sy.exit<|Sy.then_exit<|Sy.then_exit<|Sy.in_exit ?_
 obtain ⟨s9,hs9⟩:=xE y
 obtain ⟨bad9,hb9⟩:=xE bad6
 obtain ⟨b9,hB9⟩:=xE (b6++sg)
 have p9:BS s9 b9:=by rw [hs9,hB9]; exact hy
 have q9:Wrote (Kp ⟨sk,sg⟩) (HQ ⟨sk,sg⟩) 65 bad3 b3 bad9 b9:=by
  have q:=q6.then_ (Wrote.raw sg bad6 b6 (k:=64) (Nat.le_of_eq h64))
  rw [Bool.and_true] at q
  rw [hb9,hB9]
  exact q
 rw [← hs9, ← hb9]
 refine Sy.in_<|Sy.then_<|Sy.region<|sp J<|sS (iZ (i+1)) (qad J J J)<|sp J<|Sy.nil ?_
 have hW:=q3.then_ q9
 have hW':Wrote ((sigs.take (i+1)).all Kp) ((sigs.take (i+1)).flatMap HQ) (((sigs.take (i+1)).map (λ_:MSg=>65)).sum) bad2 b2 bad9 b9:=by
  rw [htk]
  simp only [List.all_append,List.flatMap_append,List.map_append,List.sum_append,List.all_cons,List.all_nil,List.flatMap_cons,List.flatMap_nil,List.map_cons,List.map_nil,List.sum_cons,List.sum_nil,Bool.and_true,List.append_nil,Nat.add_zero]
  first | exact hW | simpa only [Bool.and_true] using hW
 exact Sy.againT (s9,bad9,b9) z3 ⟨hW',p9⟩ ac3 (λw h=>Bo h)
def m0:MTx:=⟨1,[⟨2,List.replicate 32 0⟩]⟩
def b49:Byt:=RG m0
theorem Vh:ST m0=true:=kZ
theorem b49_len:b49.length=49:=kZ
theorem Tf:Gc R5 b49=some m0:=kZ
theorem Vi {w0:Base} {w:World} {L:AA} {g:Nat} {t:TypeId} (hw:St w0 w L) (hL:(g,t,(Value.int .u64 2::Z32).toArray)∈L):G4 (rdW w) [.int .u64 1,.slice (pA g) 1 1] m0:=by
 refine ⟨_,rfl,(show 1<18446744073709551616 by decide),_,_,_,rfl,rfl,Nat.le_refl _,dZ,λ_=>⟨g,0,rfl,λj x hx=>?_⟩⟩
 cases j with
 | succ j=>cases hx
 | zero =>
  cases hx
  refine ⟨Value.int .u64 2::Z32,rfl,λu hu=>?_,⟨rfl,by decide,rfl⟩,λi u hu=>?_⟩
  ·rcases List.mem_cons.1 hu with rfl | hu
   ·rfl
   ·obtain ⟨y,_,rfl⟩:=List.mem_map.1 hu; rfl
  ·exact CA hw (R:=[(g,t,(Value.int .u64 2::Z32).toArray)]) (λb hb=>by rw [List.mem_singleton.1 hb]; exact hL) _ _ _ ⟨t,_,List.mem_singleton.2 J,by rw [Nat.zero_mul,Nat.add_zero,Nat.zero_add,List.getElem?_toArray]; exact hu⟩
theorem TO (w:World):AL 11 #[] w (Ai w (.bool true)):=by
 refine Sy.enter (args:=[]) Tryz.func11 J kL<|sC<|sP (.bool false)<|sA<|sP (.agg (Value.int .u64 2::Z32).toArray)<|Sy.make kR 98 (Value.int .u64 2::Z32).toArray (λg=>.slice (pA g) 1 1) (Makes.one 99 98 _ _ 33 _ (Value.int .u64 2::Z32) rfl kR PG NQ J J J dZ dZ) (λg=>?_)
 refine sP (.agg #[uZ 1,.slice (pA g) 1 1])<|Sy.callN kR 35 #[.agg #[uZ 1,.slice (pA g) 1 1]] kF (BytE (ST m0) b49) (λw' hw=>Ul (rep:=G4) (ok:=ST) (enc:=RG) (wt:=T3) Qd Qf w' [uZ 1,.slice (pA g) 1 1] m0 (Vi hw (List.mem_append_right _ (List.mem_singleton.2 J))) J dZ) (λv M1 hM=>?_)
 rcases hM with ⟨_,u,rfl,hN⟩ | ⟨h,_⟩
 case inr=>rw [Vh] at h; cases h
 have hN0:=hN.byt
 obtain ⟨A,n,cp,rfl,h2,h3,h4,h5⟩:=hN.byt
 obtain rfl:49=n:=by rw [← h2]; exact b49_len.symm
 obtain ⟨gb,ob,rfl,hq⟩:=h5 (by intro e; have q:=b49_len; rw [e] at q; cases q)
 refine sp J<|sp J<|sp J<|sp J<|sp J<|sA<|sp J<|Sy.callN kR 36 #[.slice (some ⟨gb,ob,none⟩) 49 cp] kF (RdE 2 ([Value.int .u64 0]++[Value.slice none 0 0]) G4 (Gc R5 b49)) (λw' hw=>R0 (rep:=G4) (p:=R5) Qd (@Ve) Qg w' _ b49 (hN0.le (CA hw (λb hb=>List.mem_append_right _ hb))) (by rw [b49_len]; decide)) (λv M2 hM=>?_)
 rcases hM with ⟨x,cs,hx,rfl,hcs,hrep⟩ | ⟨h,_⟩
 case inr=>rw [Tf] at h; cases h
 rw [Tf] at hx
 obtain rfl:m0=x:=by injection hx
 obtain ⟨v2,rfl,_,A2,n2,c2,rfl,k2,k3,k4,k5⟩:=hrep
 obtain rfl:1=n2:=k2
 obtain ⟨g2,o2,rfl,hq2⟩:=k5 (by intro e; cases e)
 obtain ⟨cs0,d1,d2,⟨rfl,_,_⟩,d3⟩:=hq2 0 _ J
 refine sp J<|sp J<|sp J<|sM 101 #[uZ 0,.slice none 0 0] (λg3=>?_)
 refine Sy.permS List.perm_append_comm<|sw 0 J #[uZ 1,.slice (some ⟨g2,o2,none⟩) 1 c2] (wA J)<|sp J<|sA<|sP (.agg zOut.toArray)<|Sy.callN kR 20 #[.agg zOut.toArray] kF (BytE false []) (λw' hw=>S6 (rep:=Pm) (ok:=λ_=>false) (enc:=λ_=>[]) (wt:=λ_=>1) Uc UL w' zOut () J J dZ) (λv M3 hM=>?_)
 rcases hM with ⟨h,_⟩ | ⟨_,rfl,rfl⟩
 case inl=>cases h
 rw [List.append_nil]
 refine sp J<|sp J<|sp J<|sp J<|sp J ?_
 obtain ⟨X,hX⟩:∃ X,X=[(g,98,(Value.int .u64 2::Z32).toArray)]++M1++M2:=⟨_,rfl⟩
 have i1:∀ b∈M1,b∈(g3,101,#[uZ 1,.slice (some ⟨g2,o2,none⟩) 1 c2])::([]++[(g,98,(Value.int .u64 2::Z32).toArray)]++M1++M2):=λb hb=>by simp [hb]
 have i2:∀ b∈M2,b∈(g3,101,#[uZ 1,.slice (some ⟨g2,o2,none⟩) 1 c2])::([]++[(g,98,(Value.int .u64 2::Z32).toArray)]++M1++M2):=λb hb=>by simp [hb]
 refine sA<|sp J<|sP (.bool true)<|sp J<|sp J<|sP (.int .i64 49)<|sP (.bool true)<|sP (.bool true)<|sp J<|sp J<|sS (.pointer (some ⟨gb,ob+7*1,none⟩)) (Quiet.pure (BJ 27 _ _ _ (some ⟨gb,ob,none⟩) gb ob 49 cp 7 1 .i64 J J J J Aw kF dZ))<|sS (bv 1) (AK (w0:=Base.of w) (R:=M1) (g:=gb) (f:=ob+7*1) (v:=bv 1) (.inr (hq 7 1 kZ)) i1 J uy5)<|sP (.bool true)<|sP (.bool true)<|sp J<|sp J<|sS (.pointer (some ⟨gb,ob+8*1,none⟩)) (Quiet.pure (BJ 27 _ _ _ (some ⟨gb,ob,none⟩) gb ob 49 cp 8 1 .i64 J J J J Aw kF dZ))<|sS (bv 1) (AK (w0:=Base.of w) (R:=M1) (g:=gb) (f:=ob+8*1) (v:=bv 1) (.inr (hq 8 1 kZ)) i1 J uy5)<|sP (.bool true)<|sP (.bool true)<|sp J<|sp J<|sP (.bool true)<|sP (.bool true)<|sp J<|sP (pT g3 0)<|sS (uZ 1) (qc 0 0 J J CD)<|sP (.bool true)<|sP (.bool true)<|sp J<|sP (pT g3 1)<|sS (.slice (some ⟨g2,o2,none⟩) 1 c2) (qc 0 1 J J PG)<|sP (.int .i64 1)<|sP (.bool true)<|sP (.bool true)<|sp J<|sP (pT g3 1)<|sS (.slice (some ⟨g2,o2,none⟩) 1 c2) (qc 0 1 J J PG)<|sS (.pointer (some ⟨g2,o2+0*33,none⟩)) (Quiet.pure (BJ 99 _ _ _ (some ⟨g2,o2,none⟩) g2 o2 1 c2 0 33 .i64 J J J J PG kF dZ))<|sP (.pointer (some ⟨g2,o2+0*33,none⟩))<|sS (uZ 2) (AK (w0:=Base.of w) (R:=M2) (g:=g2) (f:=o2+0*33) (v:=uZ 2) (.inr d3.one) i2 J CD)<|sP (.bool true)<|sP (.bool true)<|sp J<|sp J<|sP (.bool true)<|sP (.bool true)<|sp J<|sG<|Sy.ret ?_
 exact rV (.bool true) rfl
theorem SR {α:Type} {p:Ps α} {ok:α→Bool} {enc:α→Byt} {dom:α→Prop} {wt:α→Nat} {c:Nat} (hF:Fits p ok enc dom) (hc:∀ x,ok x=true→wt x≤c) (z:α) (hz:wt z≤c) (raw:Byt) (o:Option α) (ho:o=Gc p raw):(o.isSome=true→byE (ok (o.getD z)) (enc (o.getD z))=raw)∧wt (o.getD z)≤c:=by
 cases o with
 | none=>exact ⟨λh=>(by cases h),hz⟩
 | some x =>
  obtain ⟨⟨h1,_⟩,h2⟩:=hF.only ho.symm
  refine ⟨λ_=>?_,hc x h1⟩
  show byE (ok x) (enc x)=raw
  rw [h1,h2]; rfl
theorem Mh (w:World) (x:MBl) (cs:List Value) (hx:C3 (rdW w) cs x) (hwt:Fi x≤1000000000000) :
  AL 14 #[.agg cs.toArray] w (BD w (BytE (D8 x) (D3 x))):=by
 have hlen:cs.length=104:=by
  exact Tg hx
 refine Sy.enter (args:=[.agg cs.toArray]) Tryz.func14 J kL<|sC<|sM 46 cs.toArray (λg1=>?_) kR (λw=>Aq J J kZ hlen w)
 refine sP (.slice none 0 0)<|sP (.int .i64 0)<|sA<|sP (.agg #[.slice none 0 0,.bool false])<|sM 88 #[.slice none 0 0,.bool false] (λgw=>?_)
 refine sp J<|sA<|Sy.permS (M:=WB gw false nilS [(g1,46,cs.toArray)]) (Sy.perm_at [1,0] kZ (by rfl))<|sp J<|sS (.agg cs.toArray) (Quiet.mid 1 g1 0 104 46 46 cs cs _ _ J kR J Ei J kR (by rw [List.drop_zero,List.take_of_length_le om]) om)<|Sy.callT (λw' hw=>Rc (Base.of w) gw false nilS [(g1,46,cs.toArray)] [] x cs hx BS.nil (by show 0+_≤_; omega) w' hw) (λu M hM=>?_)
 obtain ⟨s',bad,b',q1,q2,rfl⟩:=hM
 have qb:=q1.bad
 refine sA<|sp J<|Sy.callT (λw' hw=>O3 (Base.of w) gw bad s' [(g1,46,cs.toArray)] w' hw) (λu M hM=>?_)
 obtain ⟨rfl,rfl⟩:=hM
 cases bad
 ·have hok:D8 x=true:=by
   cases h:D8 x with
   | true=>rfl
   | false=>rw [h] at qb; cases qb
  have hbb:b'=D3 x:=q1.bytes J
  rw [if_neg dZ]
  refine sp J<|sp J<|sp J<|sp J<|sG<|Sy.ret ?_
  exact Sy.retGM2 s'.bl J (.inl (show _=_ by kernel_rfl)) (.inl (show _=_ by kernel_rfl)) (λ_ h=>h.less ((List.sublist_append_left _ _).trans (List.sublist_append_right _ _))) (.inl ⟨hok,_,rfl,by rw [← hbb]; exact q2.as⟩)
 ·have hok:D8 x=false:=by
   cases h:D8 x with
   | false=>rfl
   | true=>rw [h] at qb; cases qb
  rw [if_pos J]
  refine sp J<|sp J<|sp J<|sp J<|sG<|Sy.ret ?_
  exact Sy.retGM2 [] rfl (.inl (show _=_ by kernel_rfl)) (.inl (show _=_ by kernel_rfl)) (λ_ h=>h.none) (.inr ⟨hok,rfl,rfl⟩)
theorem OS {α:Type} {rep:Rdr→List Value→α→Prop} {p:Ps α} (hp:∀ (w0:Base) (gr:Nat) (sl:Value) (b:Byt) (at_ e:Nat) (R:AA),at_≤b.length→e≤200→b.length≤70368744177664→BytR (rdW w0.world) sl b→∀ w,St w0 w (RB gr sl at_ e R)→AL 41 #[ptr gr] w (AQ w0 (Rfd p (H9 104 rep) gr sl b R at_ e))) (w:World) (v:Value) (b:Byt) (hv:BytR (rdW w) v b) (hl:b.length≤70368744177664) :
  AL 16 #[v] w (BD w (RdE 104 ((Z32++([Value.int .u64 0]++([Value.int .u64 0]++(Z32++(Z32++([Value.slice none 0 0]++([Value.bool false]++([Value.int .i64 0]++[Value.slice none 0 0]))))))))++([Value.slice none 0 0]++([Value.slice none 0 0]))) rep (Gc p b))):=by
 refine Sy.enter (args:=[v]) Tryz.func16 J kL<|sC<|sM 46 ((Z32++([Value.int .u64 0]++([Value.int .u64 0]++(Z32++(Z32++([Value.slice none 0 0]++([Value.bool false]++([Value.int .i64 0]++[Value.slice none 0 0]))))))))++([Value.slice none 0 0]++([Value.slice none 0 0]))).toArray (λg2=>?_)
 refine sP (.int .i64 0)<|sA<|sp J<|Sy.callN kR 32 #[v] kF _ (λw' hw=>Mi w' v b (hv.at hw)) (λu M hM=>?_)
 obtain ⟨gr,rfl,rfl⟩:=hM
 refine sp J<|sA<|Sy.permS (M:=RB gr v 0 0 [(g2,46,((Z32++([Value.int .u64 0]++([Value.int .u64 0]++(Z32++(Z32++([Value.slice none 0 0]++([Value.bool false]++([Value.int .i64 0]++[Value.slice none 0 0]))))))))++([Value.slice none 0 0]++([Value.slice none 0 0]))).toArray)]) (Sy.perm_at [1,0] kZ (by rfl))<|sp J<|Sy.callT (λw' hw=>hp (Base.of w) gr v b 0 0 [(g2,46,((Z32++([Value.int .u64 0]++([Value.int .u64 0]++(Z32++(Z32++([Value.slice none 0 0]++([Value.bool false]++([Value.int .i64 0]++[Value.slice none 0 0]))))))))++([Value.slice none 0 0]++([Value.slice none 0 0]))).toArray)] (Nat.zero_le _) (Nat.zero_le _) hl hv w' hw) (λu M hM=>?_)
 obtain ⟨x,a2,e2,N,q1,⟨cs,rfl,q2,q3,q4⟩,q5,q6,rfl⟩:=hM
 obtain ⟨o1,o2⟩:=Mj q1
 refine sM 46 ((Z32++([Value.int .u64 0]++([Value.int .u64 0]++(Z32++(Z32++([Value.slice none 0 0]++([Value.bool false]++([Value.int .i64 0]++[Value.slice none 0 0]))))))))++([Value.slice none 0 0]++([Value.slice none 0 0]))).toArray (λg5=>?_)
 refine Sy.movT (pre:=[(gr,166,rrC v a2 e2),(g2,46,((Z32++([Value.int .u64 0]++([Value.int .u64 0]++(Z32++(Z32++([Value.slice none 0 0]++([Value.bool false]++([Value.int .i64 0]++[Value.slice none 0 0]))))))))++([Value.slice none 0 0]++([Value.slice none 0 0]))).toArray)]) (T:=N)<|sw 2 J cs.toArray (Writes.row 46 cs 104 _ _ J kR kR kR q2 kZ q3)<|sG<|Sy.seq<|sC<|sp J<|Sy.callT (λw' hw=>Mf (Base.of w) gr v b a2 e2 ((g2,46,((Z32++([Value.int .u64 0]++([Value.int .u64 0]++(Z32++(Z32++([Value.slice none 0 0]++([Value.bool false]++([Value.int .i64 0]++[Value.slice none 0 0]))))))))++([Value.slice none 0 0]++([Value.slice none 0 0]))).toArray)::(g5,46,cs.toArray)::N) q6 q5 hl hv w' hw) (λu M hM=>?_)
 obtain ⟨rfl,rfl⟩:=hM
 obtain ⟨f,hf⟩:=xE (if LH b a2 e2≠0 then 120 else 0)
 rw [← hf]
 have hfl:f≤200:=by rw [hf]; split <;> omega
 obtain ⟨b1,hb1⟩:=xE (decide (f≠0))
 refine sS (.bool b1) (qne J J J hb1)<|sG ?_
 cases b1
 ·have l1:f=0:=Decidable.of_not_not (of_decide_eq_false hb1.symm)
  have l2:LH b a2 e2=0:=by
   rw [hf] at l1
   by_cases h:LH b a2 e2=0
   ·exact h
   ·rw [if_pos h] at l1; cases l1
  have l3:e2=0∧b.drop a2=[]:=by
   unfold LH at l2
   by_cases h:e2=0∧a2<b.length
   ·rw [if_pos h] at l2; cases l2
   ·rw [if_neg h] at l2
    exact ⟨l2,List.drop_eq_nil_of_le om⟩
  refine sU<|Sy.skip<|sB<|sS (.agg cs.toArray) (Quiet.mid 2 g5 0 104 46 46 cs cs _ _ J kR J Ei J kR (by rw [List.drop_zero,List.take_of_length_le om]) om)<|sw 1 J cs.toArray (Writes.row 46 cs 104 _ _ J kR kR kR q2 kZ q3)<|sP (.int .i64 0)<|sG<|Sy.ret ?_
  exact Sy.retGM2 N J (.inl (Sy.Res.cell (ty':=46) g2 1 cs.toArray _ kZ J Ei J (by rw [List.size_toArray,q2]; kernel_rfl) rfl)) (.inl (show _=_ by kernel_rfl)) (λ_ h=>h.less (((List.sublist_cons_self (g5,46,cs.toArray) N).cons (g2,46,cs.toArray)).cons (gr,166,rrC v a2 e2))) (.inl ⟨x,cs,o1 l3.1 l3.2,rfl,q2,q4⟩)
 ·have l1:=dY hb1
  have l3:e2≠0∨b.drop a2≠[]:=by
   by_cases h:e2=0∧a2<b.length
   ·refine .inr (λe=>?_)
    have:=congrArg List.length e
    rw [List.length_drop] at this
    simp at this; omega
   ·refine .inl (λe=>l1 ?_)
    rw [hf]; unfold LH; rw [if_neg h,e]; rfl
  refine sT<|sC<|sP (.agg ((Z32++([Value.int .u64 0]++([Value.int .u64 0]++(Z32++(Z32++([Value.slice none 0 0]++([Value.bool false]++([Value.int .i64 0]++[Value.slice none 0 0]))))))))++([Value.slice none 0 0]++([Value.slice none 0 0]))).toArray)<|sw 1 J ((Z32++([Value.int .u64 0]++([Value.int .u64 0]++(Z32++(Z32++([Value.slice none 0 0]++([Value.bool false]++([Value.int .i64 0]++[Value.slice none 0 0]))))))))++([Value.slice none 0 0]++([Value.slice none 0 0]))).toArray (wA J)<|sP (.int .i64 120)<|sG<|Sy.ret<|Sy.then_ret ?_
  exact Sy.retGM2 [] rfl (.inl (Sy.Res.cell (ty':=46) g2 1 ((Z32++([Value.int .u64 0]++([Value.int .u64 0]++(Z32++(Z32++([Value.slice none 0 0]++([Value.bool false]++([Value.int .i64 0]++[Value.slice none 0 0]))))))))++([Value.slice none 0 0]++([Value.slice none 0 0]))).toArray _ kZ J Ei J kZ J)) (.inl (show _=_ by kernel_rfl)) (λ_ h=>h.none) (.inr ⟨o2 l3,rfl,rfl⟩)
theorem law_wireblocks (w:World) (cs:List Value) (t:MBl) (hx:C3 (rdW w) cs t) (v:Value) (raw:Byt) (hv:BytR (rdW w) v raw) (hsz:Rr t≤1048576) (hl:raw.length≤1048576) :
  AL 4 #[.agg cs.toArray,v] w (Ai w (.bool true)):=by
 have hx0:=hx
 have lc:=Tg hx
 have hwt:Fi t≤1000000000:=Nat.le_trans (Vm t) om
 obtain ⟨o1,ho1⟩:=xE (Gc Jr raw)
 obtain ⟨y,hY⟩:=xE (o1.getD Nu)
 have hwy:Fi y≤100000000:=by rw [hY]; exact (SR (wt:=Fi) Vu (λx hx=>V6 hx) Nu (show Fi Nu≤100000000 by decide) raw o1 ho1).2
 obtain ⟨e1,he1⟩:=xE (erE (D8 t))
 obtain ⟨b1,hb1⟩:=xE (byE (D8 t) (D3 t))
 obtain ⟨e3,he3⟩:=xE (erE o1.isSome)
 obtain ⟨e5,he5⟩:=xE (erE (D8 y))
 obtain ⟨b5,hb5⟩:=xE (byE (D8 y) (D3 y))
 refine Sy.enter (args:=[.agg cs.toArray,v]) Tryz.func4 J kL ?_
 refine sC<|sM 46 cs.toArray (λg3=>?_) kR (λw=>Aq J J kZ lc w)
 refine sP (.bool false)<|sA<|sS (.agg cs.toArray) (Quiet.mid 0 g3 0 104 46 46 cs cs _ _ J kR J Ei J kR (by rw [List.drop_zero,List.take_of_length_le om]) om)<|Sy.callN kR 13 #[.agg cs.toArray] kF (BytE (D8 t) (D3 t)) (λw' hw=>Um (rep:=C3) (ok:=D8) (enc:=D3) (wt:=Fi) Gt TI w' cs t (Gt (λg o u hu=>Ad (w0:=Base.of w) (R:=[]) hw (λ_ h=>by cases h) g o u (.inl hu)) hx0) lc om) (λu M1 hM=>?_)
 obtain ⟨u1,rfl,k1⟩:=hM.uni
 rw [← he1]
 rw [← hb1] at k1
 refine sp J<|sp J<|sp J<|sp J<|sp J<|sA<|sS (.agg cs.toArray) (Quiet.mid 0 g3 0 104 46 46 cs cs _ _ J kR J Ei J kR (by rw [List.drop_zero,List.take_of_length_le om]) om)<|Sy.callN kR 14 #[.agg cs.toArray] kF (BytE (D8 t) (D3 t)) (λw' hw=>Mh w' t cs (Gt (λg o u hu=>Ad (w0:=Base.of w) (R:=[]) hw (λ_ h=>by cases h) g o u (.inl hu)) hx0) om) (λu M2 hM=>?_)
 obtain ⟨u2,rfl,k2⟩:=hM.uni
 rw [← he1]
 rw [← hb1] at k2
 refine sp J<|sp J<|sp J<|sp J<|sp J<|sA<|sp J<|Sy.callN kR 15 #[v] kF (RdE 104 ((Z32++([Value.int .u64 0]++([Value.int .u64 0]++(Z32++(Z32++([Value.slice none 0 0]++([Value.bool false]++([Value.int .i64 0]++[Value.slice none 0 0]))))))))++([Value.slice none 0 0]++([Value.slice none 0 0]))) C3 o1) (λw' hw=>by rw [ho1]; exact R2 (rep:=C3) (p:=Jr) Gt (@ND) TJ w' v raw (hv.le (λg o u hu=>Ad (w0:=Base.of w) (R:=[]) hw (λ_ h=>by cases h) g o u (.inl hu))) om) (λu M3 hM=>?_)
 obtain ⟨cs3,rfl,l3,r3⟩:=hM.uni Nu (KL _) rfl
 rw [← he3]
 rw [← hY] at r3
 have l3a:cs3.length=104:=l3
 refine sp J<|sp J<|sp J<|sM 46 ((Z32++([Value.int .u64 0]++([Value.int .u64 0]++(Z32++(Z32++([Value.slice none 0 0]++([Value.bool false]++([Value.int .i64 0]++[Value.slice none 0 0]))))))))++([Value.slice none 0 0]++([Value.slice none 0 0]))).toArray (λg11=>?_)
 refine Sy.permS List.perm_append_comm<|sw 0 J cs3.toArray (Writes.row 46 cs3 104 _ _ J kR kR kR l3 kZ (ND r3))<|sp J<|sA<|sp J<|Sy.callN kR 16 #[v] kF (RdE 104 ((Z32++([Value.int .u64 0]++([Value.int .u64 0]++(Z32++(Z32++([Value.slice none 0 0]++([Value.bool false]++([Value.int .i64 0]++[Value.slice none 0 0]))))))))++([Value.slice none 0 0]++([Value.slice none 0 0]))) C3 o1) (λw' hw=>by rw [ho1]; exact OS (rep:=C3) (p:=Jr) Rd w' v raw (hv.le (λg o u hu=>Ad (w0:=Base.of w) (R:=[]) hw (λ_ h=>by cases h) g o u (.inl hu))) om) (λu M4 hM=>?_)
 obtain ⟨cs4,rfl,l4,r4⟩:=hM.uni Nu (KL _) rfl
 rw [← he3]
 rw [← hY] at r4
 have l4a:cs4.length=104:=l4
 refine sp J<|sp J<|sp J<|sM 46 ((Z32++([Value.int .u64 0]++([Value.int .u64 0]++(Z32++(Z32++([Value.slice none 0 0]++([Value.bool false]++([Value.int .i64 0]++[Value.slice none 0 0]))))))))++([Value.slice none 0 0]++([Value.slice none 0 0]))).toArray (λg13=>?_)
 refine Sy.permS List.perm_append_comm<|sw 0 J cs4.toArray (Writes.row 46 cs4 104 _ _ J kR kR kR l4 kZ (ND r4))<|sp J<|sA<|sS (.agg cs3.toArray) (Quiet.mid 1 g11 0 104 46 46 cs3 cs3 _ _ J kR J Ei J kR (by rw [List.drop_zero,List.take_of_length_le om]) om)<|Sy.callN kR 14 #[.agg cs3.toArray] kF (BytE (D8 y) (D3 y)) (λw' hw=>Mh w' y cs3 (Gt (CA hw (λb hb=>by simp [hb])) r3) om) (λu M5 hM=>?_)
 obtain ⟨u5,rfl,k5⟩:=hM.uni
 rw [← he5]
 rw [← hb5] at k5
 refine sp J<|sp J<|sp J<|sp J<|sp J<|sA<|sS (.agg cs4.toArray) (Quiet.mid 0 g13 0 104 46 46 cs4 cs4 _ _ J kR J Ei J kR (by rw [List.drop_zero,List.take_of_length_le om]) om)<|Sy.callN kR 14 #[.agg cs4.toArray] kF (BytE (D8 y) (D3 y)) (λw' hw=>Mh w' y cs4 (Gt (CA hw (λb hb=>by simp [hb])) r4) om) (λu M6 hM=>?_)
 obtain ⟨u6,rfl,k6⟩:=hM.uni
 rw [← he5]
 rw [← hb5] at k6
 refine sp J<|sp J<|sp J<|sp J<|sp J<|sA<|sS (.bool true) (qg (λw' hw=>TO w'))<|sp J<|sp J<|sp J<|sS (.bool true) (qg (λw' hw=>by have q:=KW w' u1 u2 b1 b1 (k1.le (CA hw (λb hb=>by simp [hb]))) (k2.le (CA hw (λb hb=>by simp [hb]))); rw [decide_eq_true J] at q; exact q))<|sP (.bool true)<|sp J<|sp J<|sp J<|sS (.bool true) (Quiet.pure (AE .eql _ _ _ .i64 _ _ _ J J J (Aa _ _ _ _ _ (decide_eq_true J))))<|sP (.bool true)<|sp J<|sp J<|sp J<|sS (.bool true) (Quiet.pure (AE .eql _ _ _ .i64 _ _ _ J J J (Aa _ _ _ _ _ (decide_eq_true J))))<|sP (.bool true)<|sp J<|sp J<|sp J<|sS (.bool true) (qg (λw' hw=>by have q:=KW w' u5 u6 b5 b5 (k5.le (CA hw (λb hb=>by simp [hb]))) (k6.le (CA hw (λb hb=>by simp [hb]))); rw [decide_eq_true J] at q; exact q))<|sP (.bool true)<|sp J<|sG<|Sy.ret ?_
 exact rV (.bool true) rfl
end Wr
end
end Go.Proofs.YtdbcombmmnihbaaGreat
