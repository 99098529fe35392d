/-
  Texts of ours, put together: ScriptSharesL.
-/
import Derived.Test.YtgggdbjakcpanabGreatDoorSX6
set_option linter.unusedVariables false
set_option linter.unusedSimpArgs false
namespace Go.Proofs.YtgggdbjakcpanabGreatDoor
section
namespace Pg
open Go.RowKit Sy
set_option maxRecDepth 100000
set_option maxHeartbeats 4000000
open Wr
theorem law_scriptshares (w:World) (T:Int) (sv bw:Value) (secs:List Nat) (bs:List Bool) (hs:LstR (rdW w) 4 repS sv secs) (hb:LstR (rdW w) 1 repBl bw bs) (hn:secs.length≤1048576) (ht:TbS w):Calls Tryz.prog 3 #[.int .i64 T,sv,bw] w (Gets w (.bool true)):=by
 have hs0:LstR (rdC (Base.of w) []) 4 repS sv secs:=LstR.le (rep:=repS) (λ_ h=>h) rdW_base hs
 have hb0:LstR (rdC (Base.of w) []) 1 repBl bw bs:=LstR.le (rep:=repBl) (λ_ h=>h) rdW_base hb
 obtain ⟨aS,nS,cS,rfl,s2,s3,s4,s5⟩:=hs0
 obtain ⟨aB,nB,cB,rfl,b2,b3,b4,b5⟩:=hb0
 have hsm:cS<9223372036854775808:=by simp only [maxLen] at s4; omega
 have hbm:cB<9223372036854775808:=by simp only [maxLen] at b4; omega
 refine Sy.enter (args:=[.int .i64 T,.slice aS nS cS,.slice aB nB cB]) Tryz.func3 rfl kL ?_
 refine sC ?_
 refine sP (.bool false) ?_
 refine sA ?_
 refine sP (.slice none 0 0) ?_
 refine sA ?_
 refine sP (.slice none 0 0) ?_
 refine sA ?_
 refine sP (.agg (((7:UInt8)::List.replicate 31 0).map bv).toArray) ?_
 obtain ⟨msg,hmg⟩:∃ msg:Byt,msg=((7:UInt8)::List.replicate 31 0):=⟨_,rfl⟩
 have hmsg:msg.length=32:=by rw [hmg]; rfl
 have hml:(msg.map bv).length=32:=by rw [List.length_map,hmsg]
 rw [← hmg]
 refine sM 27 ((List.replicate 32 (0:UInt8)).map bv).toArray (λg9=>?_)
 refine sw 0 rfl (msg.map bv).toArray (Writes.row 27 (msg.map bv) 32 _ _ rfl kR kR kR hml (by simp) (λu hu=>by obtain ⟨b,_,rfl⟩:=List.mem_map.1 hu; rfl)) ?_
 refine Sy.permS (M:=[(g9,27,(msg.map bv).toArray)]) (List.Perm.of_eq rfl) ?_
 refine sA ?_
 refine sP (.int .i64 0) ?_
 refine sG<|Sy.seq<|sC ?_
 refine sp rfl<|sP (.int .i64 (nS:Int))<|sP (.int .i64 0) ?_
 refine sG<|Sy.block ?_
 refine Sy.loopT (Y:=YS) nS (λi y=>[(0,.int .i64 T),(1,.slice aS nS cS),(2,.slice aB nB cB),(7,y.y7.v),(8,y.y8.v),(9,ptr g9),(10,.int .i64 ((y.m:Nat):Int)),(24,.slice aS nS cS),(25,.int .i64 (nS:Int)),(26,.int .i64 (i:Int))]) (λi y=>[(g9,27,(msg.map bv).toArray)]++(y.y7.bl++(y.y8.bl++eB y.es))) (HS msg) ⟨nilS,nilS,[],[],0⟩ ⟨Slc.Is.nil _ _,Slc.Is.nil _ _,rfl,rfl,(λ_ h=>by cases h),(λ_ h=>by cases h),rfl,(λ_ _ _ h=>by cases h)⟩ (all_cons kR (all_cons kR (all_cons kR (all_cons kR (all_cons kR (all_cons kR (all_cons kR (all_cons kR (all_cons kR (all_cons kR all_nil)))))))))) (λ_ h=>h) (λi y hi hy=>?_)
 refine sC ?_
 obtain ⟨c2,hc2⟩:∃ t_:Bool,t_=decide (i<nS):=⟨_,rfl⟩
 refine sS (.bool c2) (Quiet.pure (exec_int .lss _ _ _ .i64 _ _ _ rfl rfl rfl (int_lss _ _ _ _ _ (by rw [hc2]; exact decide_eq_decide.2 (by omega))))) ?_
 refine sG<|Sy.seq ?_
 cases c2
 case' false =>
  have l2:¬ i<nS:=of_decide_eq_false hc2.symm
  obtain rfl:i=nS:=by omega
  refine sU<|Sy.exit<|Sy.then_exit<|Sy.then_exit<|Sy.in_exit<|Sy.then_ ?_
  obtain ⟨X,hX⟩:∃ X,X=[(g9,27,(msg.map bv).toArray)]++(y.y7.bl++(y.y8.bl++eB y.es)):=⟨_,rfl⟩
  have r9:(g9,27,(msg.map bv).toArray)∈X:=by rw [hX]; exact List.mem_append_left _ (List.mem_singleton.2 rfl)
  have r7:∀ b∈y.y7.bl,b∈X:=λb hb=>by rw [hX]; exact List.mem_append_right _ (List.mem_append_left _ hb)
  have r8:∀ b∈y.y8.bl,b∈X:=λb hb=>by rw [hX]; exact List.mem_append_right _ (List.mem_append_right _ (List.mem_append_left _ hb))
  have rE:∀ b∈eB y.es,b∈X:=λb hb=>by rw [hX]; exact List.mem_append_right _ (List.mem_append_right _ (List.mem_append_right _ hb))
  obtain ⟨A7,c7,v7,q7,m7,_⟩:=hy.r7.out
  obtain ⟨A8,c8,v8,q8,m8,_⟩:=hy.r8.out
  rw [List.length_map,hy.n7] at v7 q7
  rw [List.length_map,hy.n8] at v8 q8
  have hm7:c7<9223372036854775808:=by simp only [maxLen] at m7; omega
  have hm8:c8<9223372036854775808:=by simp only [maxLen] at m8; omega
  have k7:LstR (rdC (Base.of w) X) 32 (repN 32) (.slice A7 i c7) y.ks:=by rw [← v7]; exact keys_lst hy.r7 hy.kl r7
  have a8:Arg (rdC (Base.of w) X) (rdC (Base.of w) X) (.slice A8 i c8) (y.es.map λe=>(e.1.v,e.2)):=by rw [← v8]; exact es_arg hy.r8 hy.ok r8 rE
  have hkn:y.ks.length≤1048576:=by rw [hy.n7]; omega
  refine sC ?_
  refine Sy.tidyS (G:=[(0,.int .i64 T),(7,.slice A7 i c7),(8,.slice A8 i c8),(9,ptr g9),(10,.int .i64 ((y.m:Nat):Int))]) (M:=X) (by rw [← v7, ← v8]; exact all_cons kR (all_cons kR (all_cons kR (all_cons kR (all_cons kR all_nil))))) (λ_ h=>by rw [hX]; exact h) ?_
  refine sp rfl<|sp rfl<|sP (.agg #[.int .i64 T,.slice A7 i c7]) ?_
  refine Sy.callT (λw hw=>share_any (Base.of _) X X (λ_ h=>h) T _ y.ks k7 hkn w hw) (λu Mx hM=>?_)
  obtain ⟨yp,rfl,rfl,hyp⟩:=hM
  refine sp rfl<|sp rfl<|sp rfl<|sp rfl<|sp rfl ?_
  obtain ⟨Y1,hY1⟩:∃ Y1,Y1=X++yp.bl:=⟨_,rfl⟩
  rw [← hY1]
  have x1:∀ b∈X,b∈Y1:=λb hb=>by rw [hY1]; exact List.mem_append_left _ hb
  have p1:∀ b∈yp.bl,b∈Y1:=λb hb=>by rw [hY1]; exact List.mem_append_right _ hb
  refine sA ?_
  refine sp rfl<|sp rfl<|sP (.agg #[.int .i64 T,.slice A7 i c7]) ?_
  refine Sy.callT (λw hw=>share13_any (Base.of _) Y1 X x1 T _ y.ks k7 hkn w hw) (λu Mx hM=>?_)
  obtain ⟨y2,rfl,rfl,hy2⟩:=hM
  refine sp rfl<|sp rfl<|sp rfl<|sp rfl<|sp rfl ?_
  obtain ⟨W,hW⟩:∃ W,W=Y1++y2.bl:=⟨_,rfl⟩
  rw [← hW]
  have wX:∀ b∈X,b∈W:=λb hb=>by rw [hW]; exact List.mem_append_left _ (x1 b hb)
  have wp:∀ b∈yp.bl,b∈W:=λb hb=>by rw [hW]; exact List.mem_append_left _ (p1 b hb)
  have w2:∀ b∈y2.bl,b∈W:=λb hb=>by rw [hW]; exact List.mem_append_right _ hb
  have sm:∀ w1,St (Base.of w) w1 W→Calls Tryz.prog 10 #[yp.v,y2.v] w1 (Gets w1 (.bool true)):=λw1 hw1=>same13_true w1 _ _ (shB T y.ks) (own_byt hyp wp hw1) (own_byt hy2 w2 hw1)
  obtain ⟨so,hso⟩:∃ so,so=okSh T y.ks.length:=⟨_,rfl⟩
  obtain ⟨E,hE⟩:∃ E,E=shE T y.ks:=⟨_,rfl⟩
  rw [← hE]
  refine sG<|Sy.seq<|sC ?_
  cases so
  case' false =>
   have e1:E=1:=by rw [hE]; unfold shE; rw [← hso]; rfl
   subst e1
   refine sS (.bool true) (qg (λw _=>alive13 w))<|sP (.bool false)<|sp rfl<|sp rfl<|sp rfl<|sP (.bool false)<|sP (.bool false)<|sp rfl<|sp rfl<|sp rfl<|sS (.bool true) (qg sm)<|sP (.bool false)<|sP (.bool false)<|sp rfl<|sp rfl<|sP (.bool true)<|sP (.bool true) ?_
   refine sG<|sT<|sC ?_
   refine sS (.bool true) (qg (λw _=>alive13 w))<|sp rfl<|sp rfl<|sp rfl<|sP (.bool true)<|sP (.bool true)<|sp rfl<|sp rfl<|sp rfl<|sS (.bool true) (qg sm)<|sP (.bool true)<|sp rfl ?_
   refine sG<|Sy.ret<|Sy.then_ret ?_
   exact rV (.bool true) rfl
  have hso:=hso.symm
  have e0:E=0:=by rw [hE]; unfold shE; rw [hso]; rfl
  subst e0
  have hsh:shB T y.ks=shareB T y.ks:=by unfold shB; rw [if_pos hso]
  rw [hsh] at hyp
  refine sS (.bool true) (qg (λw _=>alive13 w))<|sP (.bool false)<|sp rfl<|sp rfl<|sp rfl<|sP (.bool false)<|sP (.bool false)<|sp rfl<|sp rfl<|sp rfl<|sS (.bool true) (qg sm)<|sP (.bool false)<|sP (.bool false)<|sp rfl<|sp rfl<|sP (.bool false)<|sP (.bool false) ?_
  refine sG<|sU<|Sy.skip<|Sy.then_<|sC ?_
  refine sP (.int .i64 133) ?_
  refine sG ?_
  obtain ⟨b9,hb9⟩:∃ b9,b9=decide (T≤((y.m:Nat):Int)):=⟨_,rfl⟩
  obtain ⟨wt,hwt⟩:∃ wt:Nat,wt=if b9 then 0 else 133:=⟨_,rfl⟩
  have hrun:run (envOf msg 0) (shareB T y.ks) (y.es.map (·.2))=wt:=by rw [run_es hy hso,hwt,hb9]
  refine Sy.seq ?_
  refine joinX (T:=Unit) (λ_=>[(7,.slice A7 i c7),(8,.slice A8 i c8),(9,ptr g9),(17,yp.v),(21,.int .i64 ((wt:Nat):Int))]) (λ_=>W) (λ_=>True) (λ_ _=>?_) (λkont=>?_)
  case refine_2 =>
   refine sC ?_
   refine sp rfl<|sp rfl<|sS (.bool b9) (Quiet.pure (exec_int .geq _ _ _ .i64 _ _ _ rfl rfl rfl (int_geq _ _ _ _ _ (by rw [hb9])))) ?_
   refine sG ?_
   cases b9
   ·obtain rfl:wt=133:=hwt
    refine sU<|Sy.skip ?_
    exact leafX kont () trivial (all_cons kR (all_cons kR (all_cons kR (all_cons kR (all_cons kR all_nil))))) (λ_ h=>h)
   ·obtain rfl:wt=0:=hwt
    refine sT<|Sy.region ?_
    refine sP (.int .i64 0) ?_
    refine Sy.nil ?_
    exact leafX kont () trivial (all_cons kR (all_cons kR (all_cons kR (all_cons kR (all_cons kR all_nil))))) (λ_ h=>h)
  refine Sy.then_<|Sy.seq<|sC ?_
  have cm:XAt (rdC (Base.of w) X) g9 0 (msg.map bv):=blk_row (t:=27) r9
  refine sp rfl<|sp rfl<|sS (.agg (msg.map bv).toArray) (rowC (R:=X) (cs:=msg.map bv) cm wX hml rfl Tryz.underlying27)<|sS (.int .i64 ((wt:Nat):Int)) (qg (λw1 hw1=>run_val 0 (by decide) msg hmsg w1 yp.v _ (shareB T y.ks) (y.es.map λe=>(e.1.v,e.2)) (own_byt hyp wp hw1) (a8.le (rdC_world hw1 wX) (rdC_world hw1 wX)) (tb_st ht hw1) wt (by rw [List.map_map]; exact hrun)))<|sp rfl<|sS (.bool false) (Quiet.pure (exec_int .neq _ _ _ .i64 _ _ _ rfl rfl rfl (int_neq _ _ _ _ _ (by simp)))) ?_
  refine sG<|sU<|Sy.skip<|Sy.then_ ?_
  have hkn7:y.ks.length=i:=hy.n7
  refine Sy.seq<|sC ?_
  refine sp rfl<|sP (.int .i64 (i:Int))<|sP (.int .i64 0) ?_
  refine sG<|Sy.block ?_
  refine Sy.loopT (Y:=Unit) i (λk _=>[(7,.slice A7 i c7),(8,.slice A8 i c8),(9,ptr g9),(17,yp.v),(126,.int .i64 (i:Int)),(127,.int .i64 (k:Int))]) (λ_ _=>W) (λ_ _=>True) () trivial (all_cons kR (all_cons kR (all_cons kR (all_cons kR (all_cons kR (all_cons kR all_nil)))))) (λ_ h=>h) (λk _ hk _=>?_)
  refine sC ?_
  obtain ⟨c3,hc3⟩:∃ t_:Bool,t_=decide (k<i):=⟨_,rfl⟩
  refine sS (.bool c3) (Quiet.pure (exec_int .lss _ _ _ .i64 _ _ _ rfl rfl rfl (int_lss _ _ _ _ _ (by rw [hc3]; exact decide_eq_decide.2 (by omega))))) ?_
  refine sG<|Sy.seq ?_
  cases c3
  case' false =>
   refine sU<|Sy.exit<|Sy.then_exit<|Sy.then_exit<|Sy.in_exit<|Sy.then_<|sC ?_
   refine sP (.bool true) ?_
   refine sG<|Sy.ret ?_
   exact rV (.bool true) rfl
  have l3:k<i:=of_decide_eq_true hc3.symm
  obtain ⟨A',n',cp',ev,z2,z3,z4,z6⟩:=a8
  injection ev with e1 e2 e3
  subst e1 e2 e3
  obtain ⟨⟨ez,S⟩,hek⟩:∃ e,y.es[k]? = some e:=⟨_,List.getElem?_eq_getElem (by rw [hy.n8]; exact l3)⟩
  obtain ⟨K,hKk⟩:∃ K,y.ks[k]? = some K:=⟨_,List.getElem?_eq_getElem (by rw [hy.n7]; exact l3)⟩
  obtain ⟨g8,o8,rfl,zq⟩:=z6 (by intro e; rw [List.map_eq_nil_iff] at e; rw [e] at hek; cases hek)
  have ca:rdC (Base.of w) X g8 (o8+k*1) ez.v:=by rw [Nat.mul_one]; exact (zq k (ez.v,S) (by rw [List.getElem?_map,hek]; rfl)).1
  have hok:=hy.ok _ (List.mem_of_getElem? hek)
  refine sT<|Sy.skip<|Sy.then_<|Sy.seq<|Sy.block<|sC ?_
  refine sp rfl<|sp rfl ?_
  refine sA ?_
  rcases hok with hnil | ⟨hbs,hel⟩
  case' inl =>
   cases hnil
   refine sp rfl<|sp rfl<|sS (.pointer (some ⟨g8,o8+k*1,none⟩)) (Quiet.pure (exec_at 25 39 _ _ g8 o8 i c8 k 1 .i64 rfl rfl rfl Tryz.underlying25 kF l3))<|sS (.slice none 0 0) (cellC (R:=X) ca wX rfl Tryz.underlying39)<|sP (.int .i64 0)<|sP (.bool false) ?_
   refine sG<|sU<|Sy.skip<|Sy.in_<|Sy.then_<|Sy.region ?_
   refine sS (.int .i64 ((k+1:Nat):Int)) (Quiet.pure (exec_int .add _ _ _ .i64 _ _ _ rfl rfl rfl (int_add _ _ _ _ _ ((wrap_i64 (by omega) (by omega)).trans (by omega)))))<|sp rfl ?_
   refine Sy.nil ?_
   exact Sy.againT () l3 trivial (all_cons kR (all_cons kR (all_cons kR (all_cons kR (all_cons kR (all_cons kR all_nil)))))) (λ_ h=>h)
  have hel:S.length=64:=hel
  have hbs:BS ez S:=hbs
  obtain ⟨ge,cap,rr,rfl,hr1,hr2⟩:=byt_full hbs hel (by decide)
  have cw:∀ j u,S[j]? = some u→rdC (Base.of w) X ge j (bv u):=λj u hj=>.inr ⟨5,_,rE _ (eB_mem (List.mem_of_getElem? hek) _ (List.mem_singleton.2 rfl)),by rw [List.getElem?_toArray,List.getElem?_append_left (by rw [List.length_map]; exact (List.getElem?_eq_some_iff.1 hj).1),List.getElem?_map,hj]; rfl⟩
  obtain ⟨u,hu⟩:∃ u,S[63]? = some u:=⟨_,List.getElem?_eq_getElem (by omega)⟩
  refine sp rfl<|sp rfl<|sS (.pointer (some ⟨g8,o8+k*1,none⟩)) (Quiet.pure (exec_at 25 39 _ _ g8 o8 i c8 k 1 .i64 rfl rfl rfl Tryz.underlying25 kF l3))<|sS (.slice (some ⟨ge,0,none⟩) 64 cap) (cellC (R:=X) ca wX rfl Tryz.underlying39)<|sP (.int .i64 64)<|sP (.bool true) ?_
  refine sG<|sT<|sC ?_
  refine sp rfl<|sp rfl<|sS (.pointer (some ⟨g8,o8+k*1,none⟩)) (Quiet.pure (exec_at 25 39 _ _ g8 o8 i c8 k 1 .i64 rfl rfl rfl Tryz.underlying25 kF l3))<|sS (.slice (some ⟨ge,0,none⟩) 64 cap) (cellC (R:=X) ca wX rfl Tryz.underlying39)<|sS (.pointer (some ⟨ge,63,none⟩)) (Quiet.pure (exec_at 39 5 _ _ ge 0 64 cap 63 1 .i64 rfl rfl rfl Tryz.underlying39 kF (by decide)))<|sS (bv u) (cellC (R:=X) (cw 63 u hu) wX rfl Tryz.underlying5)<|sS (bv (u ^^^ 1)) (Quiet.pure (exec_int .xor _ _ _ .u8 _ _ _ rfl rfl rfl (int_xor _ _ _ _ _ (xor_one u))))<|sS (.pointer (some ⟨ge,63,none⟩)) (Quiet.pure (exec_at 39 5 _ _ ge 0 64 cap 63 1 .i64 rfl rfl rfl Tryz.underlying39 kF (by decide))) ?_
  obtain ⟨ea,eb,hes,hla⟩:=mid_of hek
  refine Sy.permS (M:=[(ge,5,(S.map bv++rr).toArray)]++([(g9,27,(msg.map bv).toArray)]++(y.y7.bl++(y.y8.bl++(eB ea++(eB eb++(yp.bl++y2.bl))))))) (by rw [hW,hY1,hX,hes,eB_mid]; exact (Sy.flat_perm (ls:=[[(g9,27,(msg.map bv).toArray)],y.y7.bl,y.y8.bl,eB ea,[(ge,5,(S.map bv++rr).toArray)],eB eb,yp.bl,y2.bl]) (ms:=[[(ge,5,(S.map bv++rr).toArray)],[(g9,27,(msg.map bv).toArray)],y.y7.bl,y.y8.bl,eB ea,eB eb,yp.bl,y2.bl]) [4,0,1,2,3,5,6,7] kR rfl (by simp) (by simp))) ?_
  obtain ⟨S',hS'⟩:∃ S',S'=S.set 63 (u ^^^ 1):=⟨_,rfl⟩
  have hSl:S'.length=64:=by rw [hS',List.length_set,hel]
  have hSm:(S'.map bv).length=64:=by rw [List.length_map,hSl]
  refine sw 0 rfl (S'.map bv++rr).toArray (Writes.one 63 5 (bv (u ^^^ 1)) _ _ rfl kR kR kR rfl rfl (by rw [List.size_toArray,List.length_append,List.length_map,hel]; omega) (by rw [hS']; exact set_row (by omega) _)) ?_
  obtain ⟨V,hV⟩:∃ V,V=[(ge,5,(S'.map bv++rr).toArray)]++([(g9,27,(msg.map bv).toArray)]++(y.y7.bl++(y.y8.bl++(eB ea++(eB eb++(yp.bl++y2.bl)))))):=⟨_,rfl⟩
  refine Sy.permS (M:=V) (List.Perm.of_eq (by rw [hV]; rfl)) ?_
  have ug:(ge,5,(S'.map bv++rr).toArray)∈V:=by rw [hV]; exact List.mem_append_left _ (List.mem_singleton.2 rfl)
  have u9:(g9,27,(msg.map bv).toArray)∈V:=by rw [hV]; simp
  have u7:∀ b∈y.y7.bl,b∈V:=λb hb=>by rw [hV]; simp [hb]
  have u8:∀ b∈y.y8.bl,b∈V:=λb hb=>by rw [hV]; simp [hb]
  have ua:∀ b∈eB ea,b∈V:=λb hb=>by rw [hV]; simp [hb]
  have ub:∀ b∈eB eb,b∈V:=λb hb=>by rw [hV]; simp [hb]
  have up:∀ b∈yp.bl,b∈V:=λb hb=>by rw [hV]; simp [hb]
  obtain ⟨z',hz'⟩:∃ z':Slc,z'=⟨.slice (some ⟨ge,0,none⟩) 64 cap,[(ge,5,(S'.map bv++rr).toArray)]⟩:=⟨_,rfl⟩
  have zv':z'.v=.slice (some ⟨ge,0,none⟩) 64 cap:=by rw [hz']
  have hbs':BS z' S':=by rw [hz']; exact byt_mk hSl hr1 hr2
  obtain ⟨es',hes'⟩:∃ es',es'=ea++(z',S')::eb:=⟨_,rfl⟩
  have hek':es'[k]? = some (z',S'):=by rw [hes',List.getElem?_append_right (by omega),hla,Nat.sub_self]; rfl
  have hE':∀ b∈eB es',b∈V:=λb hb=>by
   rw [hes',eB_mid] at hb
   rcases List.mem_append.1 hb with hb | hb
   ·exact ua b hb
   ·rcases List.mem_append.1 hb with hb | hb
    ·rw [hz'] at hb; rw [List.mem_singleton.1 hb]; exact ug
    ·exact ub b hb
  have ok':∀ e∈es',EOk e:=λe he=>by
   rw [hes'] at he
   rcases List.mem_append.1 he with he | he
   ·exact hy.ok e (by rw [hes]; exact List.mem_append_left _ he)
   ·rcases List.mem_cons.1 he with rfl | he
    ·exact .inr ⟨hbs',hSl⟩
    ·exact hy.ok e (by rw [hes]; exact List.mem_append_right _ (List.mem_cons_of_mem _ he))
  have r8':y.y8.Is 39 1 (es'.map λe=>[e.1.v]):=by
   have q:=hy.r8
   rw [hes,List.map_append,List.map_cons] at q
   rw [hes',List.map_append,List.map_cons,zv']
   exact q
  have a8':Arg (rdC (Base.of w) V) (rdC (Base.of w) V) (.slice (some ⟨g8,o8,none⟩) i c8) (es'.map λe=>(e.1.v,e.2)):=by rw [← v8]; exact es_arg r8' ok' u8 hE'
  have hw':(es'.map (·.2)).length=y.ks.length:=by
   have q:=hy.n8
   rw [hes,List.length_append,List.length_cons] at q
   rw [List.length_map,hes',List.length_append,List.length_cons,hy.n7,q]
  have hs':∀ b∈es'.map (·.2),b.length≤256:=λb hb=>by
   obtain ⟨e,he,rfl⟩:=List.mem_map.1 hb
   rcases ok' e he with rfl | ⟨_,h2⟩
   ·exact Nat.zero_le _
   ·omega
  have hrt:=run_turned hy hso hw' hs' (show (es'.map (·.2))[k]? = some S' by rw [List.getElem?_map,hek']; rfl) hKk hSl
  obtain ⟨r,hr⟩:∃ r,r=run (envOf msg 0) (shareB T y.ks) (es'.map (·.2)):=⟨_,rfl⟩
  rw [← hr] at hrt
  obtain ⟨rb,hrb⟩:∃ rb:Bool,rb=decide (r=133):=⟨_,rfl⟩
  have cm':XAt (rdC (Base.of w) V) g9 0 (msg.map bv):=blk_row (t:=27) u9
  refine Sy.nil<|Sy.then_<|Sy.seq ?_
  refine Sy.regionD (λ_=>false) kR ?_
  refine sa 0 rfl rfl<|sa 1 rfl rfl<|sD 2 rfl (.agg (msg.map bv).toArray) (rowC (R:=V) (cs:=msg.map bv) cm' (λ_ h=>h) hml rfl Tryz.underlying27)<|sD 3 rfl (.int .i64 ((r:Nat):Int)) (qg (λw1 hw1=>run_val 0 (by decide) msg hmsg w1 yp.v _ (shareB T y.ks) (es'.map λe=>(e.1.v,e.2)) (own_byt hyp up hw1) (a8'.le (rdC_world hw1 (λ_ h=>h)) (rdC_world hw1 (λ_ h=>h))) (tb_st ht hw1) r (by rw [List.map_map]; exact hr.symm)))<|sv 4 rfl (.bool rb) (exec_int .eql _ _ _ .i64 _ _ _ rfl rfl rfl (int_eql _ _ _ _ _ (by rw [hrb]; exact decide_eq_decide.2 (by omega))))<|sa 5 rfl rfl ?_
  cases rb
  case' true =>
   refine sQ 6 rfl<|sQ 7 rfl<|sQ 8 rfl<|sQ 9 rfl<|sQ 10 rfl<|sQ 11 rfl<|sQ 12 rfl<|sQ 13 rfl<|sQ 14 rfl<|sQ 15 rfl<|sQ 16 rfl<|sQ 17 rfl<|sQ 18 rfl<|sb 19 rfl (.bool true)<|sa 20 rfl rfl ?_
   refine sE ?_
   refine Sy.then_<|Sy.ret<|Sy.in_ret<|Sy.then_ret<|Sy.then_ret<|Sy.in_ret<|Sy.then_ret ?_
   exact rV (.bool true) rfl
  have hne:r≠133:=of_decide_eq_false hrb.symm
  have hvr:Cu.verB K msg S'=true:=hrt.resolve_left hne
  have hKl:K.length=32:=hy.kl K (List.mem_of_getElem? hKk)
  have hKm:(K.map bv).length=32:=by rw [List.length_map,hKl]
  have k7V:LstR (rdC (Base.of w) V) 32 (repN 32) (.slice A7 i c7) y.ks:=by rw [← v7]; exact keys_lst hy.r7 hy.kl u7
  obtain ⟨A',n',cp',ev,_,_,_,w6⟩:=k7V
  injection ev with e1 e2 e3
  subst e1 e2 e3
  obtain ⟨g7,o7,rfl,kq⟩:=w6 (by intro e; rw [e] at hKk; cases hKk)
  obtain ⟨_,_,_,⟨rfl,_⟩,kx⟩:=kq k K hKk
  have ca':rdC (Base.of w) V g8 (o8+k*1) (.slice (some ⟨ge,0,none⟩) 64 cap):=by
   obtain ⟨A',n',cp',ev,_,_,_,z6'⟩:=a8'
   injection ev with e1 e2 e3
   obtain ⟨g',o',e4,zq'⟩:=z6' (by intro e; rw [List.map_eq_nil_iff] at e; rw [e] at hek'; cases hek')
   rw [← e1] at e4
   cases e4
   rw [Nat.mul_one, ← zv']
   exact (zq' k (z'.v,S') (by rw [List.getElem?_map,hek']; rfl)).1
  have cS':XAt (rdC (Base.of w) V) ge 0 (S'.map bv):=λj u hj=>.inr ⟨_,_,ug,by rw [Nat.zero_add,List.getElem?_toArray,List.getElem?_append_left (List.getElem?_eq_some_iff.1 hj).1]; exact hj⟩
  refine sa 6 rfl rfl<|sa 7 rfl rfl<|sv 8 rfl (.pointer (some ⟨g7,o7+k*32,none⟩)) (exec_at 24 31 _ _ g7 o7 i c7 k 32 .i64 rfl rfl rfl Tryz.underlying24 kF l3)<|sD 9 rfl (.agg (K.map bv).toArray) (rowC (R:=V) (cs:=K.map bv) kx (λ_ h=>h) hKm rfl Tryz.underlying31)<|sD 10 rfl (.agg (msg.map bv).toArray) (rowC (R:=V) (cs:=msg.map bv) cm' (λ_ h=>h) hml rfl Tryz.underlying27)<|sa 12 rfl rfl<|sa 13 rfl rfl<|sv 14 rfl (.pointer (some ⟨g8,o8+k*1,none⟩)) (exec_at 25 39 _ _ g8 o8 i c8 k 1 .i64 rfl rfl rfl Tryz.underlying25 kF l3)<|sD 15 rfl (.slice (some ⟨ge,0,none⟩) 64 cap) (cellC (R:=V) ca' (λ_ h=>h) rfl Tryz.underlying39)<|sv 16 rfl (.pointer (some ⟨ge,0,none⟩)) (exec_array 36 5 _ (some ⟨ge,0,none⟩) 64 64 cap rfl rfl Tryz.underlying36 (Nat.le_refl _))<|sD 17 rfl (.agg (S'.map bv).toArray) (rowC (R:=V) (cs:=S'.map bv) cS' (λ_ h=>h) hSm rfl Tryz.underlying36) ?_
  refine Sy.callND 11 rfl kR kR 7 #[.agg (msg.map bv).toArray] (by intro _; kernel_rfl) (PyR msg) (λw _=>text13_get w msg hmsg) (λu Mx hM=>?_)
  obtain ⟨z4,rfl,rfl,hz4⟩:=hM
  refine sD 18 rfl (.bool true) (qg (args:=#[.agg (K.map bv).toArray,z4.v,.agg (S'.map bv).toArray]) (λw1 hw1=>by
   obtain ⟨A,cp,zv,zl,_⟩:=Slc_from (w0:=Base.of w) (L:=z4.bl) hz4 (λ_ h=>h)
   have hb:=own_byt hz4 (λb hb=>List.mem_append_right _ hb) hw1
   rw [byL_len,hmsg] at zv
   rw [byL_len,hmsg] at zl
   rw [zv] at hb ⊢
   have hcp:cp≤9223372036854775807:=by
    obtain ⟨A',n',c',e1,_,_,h4,_⟩:=hb
    injection e1 with _ _ e1
    rw [e1]; simpa only [maxLen] using h4
   have q:=Cu.verify_any w1 K S' hKl hSl A msg 32 cp hmsg (by decide) zl hcp (src_byt hb) (tb_st ht hw1)
   rw [hvr] at q
   exact q))<|sb 19 rfl (.bool true)<|sa 20 rfl rfl ?_
  refine sE ?_
  refine Sy.then_<|Sy.ret<|Sy.in_ret<|Sy.then_ret<|Sy.then_ret<|Sy.in_ret<|Sy.then_ret ?_
  exact rV (.bool true) rfl
 have l2:i<nS:=of_decide_eq_true hc2.symm
 obtain ⟨ga,oa,rfl,sq⟩:=s5 (by intro e; rw [e] at s2; simp at s2; omega)
 obtain ⟨n,hni⟩:∃ n,secs[i]? = some n:=⟨_,List.getElem?_eq_getElem (by omega)⟩
 obtain ⟨_,_,_,⟨rfl,hnK⟩,cs3⟩:=sq i n hni
 refine sT<|Sy.skip<|Sy.then_<|Sy.seq<|Sy.block<|sC ?_
 refine sp rfl<|sS (.pointer (some ⟨ga,oa+i*4,none⟩)) (Quiet.pure (exec_at 22 30 _ _ ga oa nS cS i 4 .i64 rfl rfl rfl Tryz.underlying22 kF l2))<|sS (fv n) (rowC (R:=[]) (cs:=(fcs n).toList) cs3 (λ_ h=>by cases h) rfl rfl Tryz.underlying30) ?_
 refine sM 30 (fcs 0) (λg12=>?_)
 refine Sy.permS (M:=[(g12,30,fcs 0)]++([(g9,27,(msg.map bv).toArray)]++(y.y7.bl++(y.y8.bl++eB y.es)))) List.perm_append_comm ?_
 refine sp rfl ?_
 refine sw 0 rfl (fcs n) (Writes.row 30 (fcs n).toList 4 _ _ rfl kR kR kR rfl rfl (λu hu=>by simp [fcs] at hu; rcases hu with rfl | rfl | rfl | rfl <;> rfl)) ?_
 obtain ⟨X,hX⟩:∃ X,X=[(g12,30,fcs n)]++([(g9,27,(msg.map bv).toArray)]++(y.y7.bl++(y.y8.bl++eB y.es))):=⟨_,rfl⟩
 refine Sy.permS (M:=X) (List.Perm.of_eq (by rw [hX]; rfl)) ?_
 have h12:(g12,30,fcs n)∈X:=by rw [hX]; exact List.mem_append_left _ (List.mem_singleton.2 rfl)
 have h9:(g9,27,(msg.map bv).toArray)∈X:=by rw [hX]; exact List.mem_append_right _ (List.mem_append_left _ (List.mem_singleton.2 rfl))
 have c12:XAt (rdC (Base.of w) X) g12 0 (fcs n).toList:=λj u hu=>.inr ⟨_,_,h12,by rw [Nat.zero_add, ← Array.getElem?_toList]; exact hu⟩
 obtain ⟨K,hK⟩:∃ K,K=Cu.evX (Cu.evP n):=⟨_,rfl⟩
 obtain ⟨is,his⟩:∃ is,is=(Cu.evP n).isSome:=⟨_,rfl⟩
 have hKl:K.length=32:=by rw [hK]; exact Cu.evX_length _
 have hKm:(K.map bv).length=32:=by rw [List.length_map,hKl]
 refine sA ?_
 refine sS (fv n) (rowC (R:=X) (cs:=(fcs n).toList) c12 (λ_ h=>h) rfl rfl Tryz.underlying30)<|sS (.tuple #[.agg (K.map bv).toArray,.bool is]) (qg (λw _=>by have q:=Cu.public_any w n hnK; rw [← hK, ← his] at q; exact q))<|sp rfl<|sp rfl<|sp rfl ?_
 refine sM 31 ((List.replicate 32 (0:UInt8)).map bv).toArray (λg13=>?_)
 refine Sy.permS (M:=[(g13,31,((List.replicate 32 (0:UInt8)).map bv).toArray)]++X) List.perm_append_comm ?_
 refine sw 0 rfl (K.map bv).toArray (Writes.row 31 (K.map bv) 32 _ _ rfl kR kR kR hKm (by simp) (λu hu=>by obtain ⟨b,_,rfl⟩:=List.mem_map.1 hu; rfl)) ?_
 obtain ⟨X7,hX7⟩:∃ X7,X7=[(g13,31,(K.map bv).toArray)]++X:=⟨_,rfl⟩
 refine Sy.permS (M:=X7) (List.Perm.of_eq (by rw [hX7]; rfl)) ?_
 have h7:(g13,31,(K.map bv).toArray)∈X7:=by rw [hX7]; exact List.mem_append_left _ (List.mem_singleton.2 rfl)
 have m7:∀ b∈X,b∈X7:=λb hb=>by rw [hX7]; exact List.mem_append_right _ hb
 refine sp rfl ?_
 refine sG<|Sy.seq<|sC ?_
 refine sp rfl<|sP (.bool (!is)) ?_
 refine sG ?_
 cases is
 case' false =>
  refine sT<|sC ?_
  refine sS (.bool true) (qg (λw _=>alive13 w))<|sp rfl ?_
  refine sG<|Sy.ret<|Sy.then_ret<|Sy.in_ret<|Sy.then_ret<|Sy.then_ret<|Sy.in_ret<|Sy.then_ret ?_
  exact rV (.bool true) rfl
 refine sU<|Sy.skip<|Sy.then_<|sC ?_
 refine sp rfl<|sS (.agg (K.map bv).toArray) (rowC (R:=X7) (cs:=K.map bv) (blk_row (t:=31) h7) (λ_ h=>h) hKm rfl Tryz.underlying31) ?_
 refine Sy.make kR 31 (K.map bv).toArray (λg=>.slice (some ⟨g,0,none⟩) 1 1) (Makes.one 24 31 _ _ 32 _ (K.map bv) rfl kR Tryz.underlying24 info_ky rfl rfl hKm (by decide) (by decide)) (λgk=>?_)
 refine Sy.permS (M:=[(gk,31,(K.map bv).toArray)]++(y.y7.bl++([(g13,31,(K.map bv).toArray)]++([(g12,30,fcs n)]++([(g9,27,(msg.map bv).toArray)]++(y.y8.bl++eB y.es)))))) (by rw [hX7,hX]; exact (Sy.flat_perm (ls:=[[(g13,31,(K.map bv).toArray)],[(g12,30,fcs n)],[(g9,27,(msg.map bv).toArray)],y.y7.bl,y.y8.bl,eB y.es,[(gk,31,(K.map bv).toArray)]]) (ms:=[[(gk,31,(K.map bv).toArray)],y.y7.bl,[(g13,31,(K.map bv).toArray)],[(g12,30,fcs n)],[(g9,27,(msg.map bv).toArray)],y.y8.bl,eB y.es]) [6,3,0,1,2,4,5] kR rfl (by simp) (by simp))) ?_
 refine Sy.appendR kR 24 31 _ _ 32 32 Tryz.underlying24 info_ky rfl rfl rfl rfl (by decide) _ _ rfl hy.r7 kR (K.map bv) hKm (λu hu=>by obtain ⟨b,_,rfl⟩:=List.mem_map.1 hu; rfl) 0 gk 31 kR kR (by rw [List.length_map,hy.n7]; omega) (by rw [List.length_map,hy.n7]; simp only [maxLen]; omega) (λy7 hy7=>?_)
 refine sp rfl ?_
 obtain ⟨Y,hY⟩:∃ Y,Y=[(gk,31,(K.map bv).toArray)]++(y7.bl++([(g13,31,(K.map bv).toArray)]++([(g12,30,fcs n)]++([(g9,27,(msg.map bv).toArray)]++(y.y8.bl++eB y.es))))):=⟨_,rfl⟩
 refine Sy.permS (M:=Y) (List.Perm.of_eq hY.symm) ?_
 have hg9:(g9,27,(msg.map bv).toArray)∈Y:=by rw [hY]; simp
 have hg12:(g12,30,fcs n)∈Y:=by rw [hY]; simp
 have cm:XAt (rdC (Base.of w) Y) g9 0 (msg.map bv):=blk_row (t:=27) hg9
 have cs4:XAt (rdC (Base.of w) Y) g12 0 (fcs n).toList:=λj u hu=>.inr ⟨_,_,hg12,by rw [Nat.zero_add, ← Array.getElem?_toList]; exact hu⟩
 obtain ⟨S,hS⟩:∃ S,S=Cu.signL n msg:=⟨_,rfl⟩
 obtain ⟨ok,hB⟩:∃ ok,ok=Cu.signB n msg:=⟨_,rfl⟩
 have hSl:S.length=64:=by rw [hS]; exact sig_len _ _
 have hSm:(S.map bv).length=64:=by rw [List.length_map,hSl]
 have sg:∀ (z:Slc),BS z msg→∀ (w1:World) (L1:Blocks),(∀ b∈z.bl,b∈L1)→St (Base.of w) w1 L1→Calls Tryz.prog 6 #[fv n,z.v] w1 (Gets w1 (.tuple #[.agg (S.map bv).toArray,.bool ok])):=λz hz w1 L1 hL1 hw1=>by
  obtain ⟨A,cp,zv,zl,_⟩:=Slc_from (w0:=Base.of w) (L:=z.bl) hz (λ_ h=>h)
  have hb:=own_byt hz hL1 hw1
  rw [byL_len,hmsg] at zv
  rw [byL_len,hmsg] at zl
  rw [zv] at hb ⊢
  have hcp:cp≤9223372036854775807:=by
   obtain ⟨A',n',c',e1,_,_,h4,_⟩:=hb
   injection e1 with _ _ e1
   rw [e1]; simpa only [maxLen] using h4
  have q:=Cu.Sign_any w1 n hnK A msg 32 cp hmsg (by decide) zl hcp (src_byt hb) (tb_st ht hw1)
  rw [← hS, ← hB] at q
  exact q
 refine Sy.nil<|Sy.then_<|Sy.seq ?_
 refine Sy.regionD (λj=>j == 8) kR ?_
 refine sD 0 rfl (fv n) (rowC (R:=Y) (cs:=(fcs n).toList) cs4 (λ_ h=>h) rfl rfl Tryz.underlying30)<|sD 1 rfl (.agg (msg.map bv).toArray) (rowC (R:=Y) (cs:=msg.map bv) cm (λ_ h=>h) hml rfl Tryz.underlying27) ?_
 refine Sy.joinG (T:=Slc×Nat) (λz=>[(0,.int .i64 T),(1,.slice (some ⟨ga,oa,none⟩) nS cS),(2,.slice aB nB cB),(7,y7.v),(8,y.y8.v),(9,ptr g9),(10,.int .i64 ((y.m:Nat):Int)),(11,.int .i64 (i:Int)),(12,ptr g12),(13,ptr g13),(24,.slice (some ⟨ga,oa,none⟩) nS cS),(25,.int .i64 (nS:Int)),(26,.int .i64 (i:Int)),(15,ptr z.2),(48,.agg (S.map bv).toArray),(49,.bool ok)]) (λz=>[(z.2,36,((List.replicate 64 (0:UInt8)).map bv).toArray)]++(Y++z.1.bl)) (λz=>BS z.1 msg) 2 #[true,true,true,true,true,true,true,true,false,false] (λz hz=>?_) (λkont=>?_)
 case refine_2 =>
  refine Sy.anyOf [2,7] (by kernel_rfl) (by decide) (Sy.each2 ?_ ?_)
  ·refine Sy.oneCallN rfl (by kernel_rfl) 7 #[.agg (msg.map bv).toArray] (by intro _; kernel_rfl) (PyR msg) (λw _=>text13_get w msg hmsg) (λu Mx hM=>?_)
   obtain ⟨z,rfl,rfl,hz⟩:=hM
   refine sD 3 rfl (.tuple #[.agg (S.map bv).toArray,.bool ok]) (qg (λw1 hw1=>sg z hz w1 _ (λb hb=>List.mem_append_right _ hb) hw1))<|sa 4 rfl rfl<|sa 5 rfl rfl<|sa 6 rfl rfl ?_
   refine Sy.makeD 7 rfl kR kR 36 ((List.replicate 64 (0:UInt8)).map bv).toArray ptr kF (λg15=>?_)
   exact leafE kont (z,g15) hz rfl (all_cons kR (all_cons kR (all_cons kR (all_cons kR (all_cons kR (all_cons kR (all_cons kR (all_cons kR (all_cons kR (all_cons kR (all_cons kR (all_cons kR (all_cons kR (all_cons kR (all_cons kR (all_cons kR all_nil)))))))))))))))) (Sy.flat_perm (ls:=[Y,z.bl,[(g15,36,((List.replicate 64 (0:UInt8)).map bv).toArray)]]) (ms:=[[(g15,36,((List.replicate 64 (0:UInt8)).map bv).toArray)],Y,z.bl]) [2,0,1] kR rfl (by simp) (by simp))
  ·refine Sy.oneMake rfl (by kernel_rfl) 36 ((List.replicate 64 (0:UInt8)).map bv).toArray ptr kF (λg15=>?_)
   refine Sy.callND 2 rfl kR kR 7 #[.agg (msg.map bv).toArray] (by intro _; kernel_rfl) (PyR msg) (λw _=>text13_get w msg hmsg) (λu Mx hM=>?_)
   obtain ⟨z,rfl,rfl,hz⟩:=hM
   refine sD 3 rfl (.tuple #[.agg (S.map bv).toArray,.bool ok]) (qg (λw1 hw1=>sg z hz w1 _ (λb hb=>List.mem_append_right _ hb) hw1))<|sa 4 rfl rfl<|sa 5 rfl rfl<|sa 6 rfl rfl ?_
   exact leafE kont (z,g15) hz rfl (all_cons kR (all_cons kR (all_cons kR (all_cons kR (all_cons kR (all_cons kR (all_cons kR (all_cons kR (all_cons kR (all_cons kR (all_cons kR (all_cons kR (all_cons kR (all_cons kR (all_cons kR (all_cons kR all_nil)))))))))))))))) (Sy.flat_perm (ls:=[Y,[(g15,36,((List.replicate 64 (0:UInt8)).map bv).toArray)],z.bl]) (ms:=[[(g15,36,((List.replicate 64 (0:UInt8)).map bv).toArray)],Y,z.bl]) [1,0,2] kR rfl (by simp) (by simp))
 obtain ⟨z,g15⟩:=z
 dsimp only at hz ⊢
 refine sx 8 rfl 0 rfl (S.map bv).toArray (Writes.row 36 (S.map bv) 64 _ _ rfl kR kR kR hSm (by simp) (λu hu=>by obtain ⟨b,_,rfl⟩:=List.mem_map.1 hu; rfl)) ?_
 obtain ⟨U,hU⟩:∃ U,U=[(g15,36,(S.map bv).toArray)]++(Y++z.bl):=⟨_,rfl⟩
 refine Sy.permD (M:=U) (List.Perm.of_eq (by rw [hU]; rfl)) ?_
 have h15:(g15,36,(S.map bv).toArray)∈U:=by rw [hU]; exact List.mem_append_left _ (List.mem_singleton.2 rfl)
 refine sa 9 rfl rfl ?_
 refine sE ?_
 refine Sy.then_<|Sy.seq ?_
 refine joinX (T:=Bool) (λt=>[(0,.int .i64 T),(1,.slice (some ⟨ga,oa,none⟩) nS cS),(2,.slice aB nB cB),(7,y7.v),(8,y.y8.v),(9,ptr g9),(10,.int .i64 ((y.m:Nat):Int)),(11,.int .i64 (i:Int)),(12,ptr g12),(13,ptr g13),(24,.slice (some ⟨ga,oa,none⟩) nS cS),(25,.int .i64 (nS:Int)),(26,.int .i64 (i:Int)),(15,ptr g15),(62,.bool t)]) (λ_=>U) (λt=>t=true→ok=true) (λt ht3=>?_) (λkont=>?_)
 case refine_2 =>
  refine Sy.region ?_
  cases ok
  case' false =>
   refine sp rfl<|sp rfl<|sN<|sN<|sN<|sN<|sP (.bool false)<|sp rfl<|sN<|sN<|sN<|sN<|sP (.bool false) ?_
   refine Sy.nil ?_
   exact leafX kont false (λh=>by cases h) (all_cons kR (all_cons kR (all_cons kR (all_cons kR (all_cons kR (all_cons kR (all_cons kR (all_cons kR (all_cons kR (all_cons kR (all_cons kR (all_cons kR (all_cons kR (all_cons kR (all_cons kR all_nil))))))))))))))) (λ_ h=>h)
  obtain ⟨c5,hc5⟩:∃ t_:Bool,t_=decide (i<nB):=⟨_,rfl⟩
  refine sp rfl<|sp rfl<|sp rfl<|sp rfl<|sP (.int .i64 (nB:Int))<|sS (.bool c5) (Quiet.pure (exec_int .lss _ _ _ .i64 _ _ _ rfl rfl rfl (int_lss _ _ _ _ _ (by rw [hc5]; exact decide_eq_decide.2 (by omega)))))<|sP (.bool c5)<|sp rfl ?_
  cases c5
  case' false =>
   refine sN<|sN<|sN<|sN<|sP (.bool false) ?_
   refine Sy.nil ?_
   exact leafX kont false (λh=>by cases h) (all_cons kR (all_cons kR (all_cons kR (all_cons kR (all_cons kR (all_cons kR (all_cons kR (all_cons kR (all_cons kR (all_cons kR (all_cons kR (all_cons kR (all_cons kR (all_cons kR (all_cons kR all_nil))))))))))))))) (λ_ h=>h)
  have l5:i<nB:=of_decide_eq_true hc5.symm
  obtain ⟨gb,ob,rfl,bq⟩:=b5 (by intro e; rw [e] at b2; simp at b2; omega)
  obtain ⟨t,hti⟩:∃ t,bs[i]? = some t:=⟨_,List.getElem?_eq_getElem (by omega)⟩
  obtain ⟨_,_,_,rfl,cb⟩:=bq i t hti
  refine sp rfl<|sp rfl<|sS (.pointer (some ⟨gb,ob+i*1,none⟩)) (Quiet.pure (exec_at 23 4 _ _ gb ob nB cB i 1 .i64 rfl rfl rfl Tryz.underlying23 kF l5))<|sS (.bool t) (cellC (R:=[]) cb.one (λ_ h=>by cases h) rfl Tryz.underlying4)<|sP (.bool t) ?_
  refine Sy.nil ?_
  exact leafX kont t (λ_=>rfl) (all_cons kR (all_cons kR (all_cons kR (all_cons kR (all_cons kR (all_cons kR (all_cons kR (all_cons kR (all_cons kR (all_cons kR (all_cons kR (all_cons kR (all_cons kR (all_cons kR (all_cons kR all_nil))))))))))))))) (λ_ h=>h)
 refine Sy.then_ ?_
 cases t
 case' false =>
  refine sU<|Sy.region ?_
  refine sp rfl ?_
  refine Sy.make kR 39 #[.slice none 0 0] (λg=>.slice (some ⟨g,0,none⟩) 1 1) (makes_one1 25 39 _ _ _ (.slice none 0 0) rfl kR rfl Tryz.underlying25 info_sl rfl rfl) (λgw=>?_)
  refine Sy.permS (M:=[(gw,39,#[.slice none 0 0])]++(y.y8.bl++([(g15,36,(S.map bv).toArray)]++([(gk,31,(K.map bv).toArray)]++(y7.bl++([(g13,31,(K.map bv).toArray)]++([(g12,30,fcs n)]++([(g9,27,(msg.map bv).toArray)]++(eB y.es++z.bl))))))))) (by rw [hU,hY]; exact (Sy.flat_perm (ls:=[[(g15,36,(S.map bv).toArray)],[(gk,31,(K.map bv).toArray)],y7.bl,[(g13,31,(K.map bv).toArray)],[(g12,30,fcs n)],[(g9,27,(msg.map bv).toArray)],y.y8.bl,eB y.es,z.bl,[(gw,39,#[.slice none 0 0])]]) (ms:=[[(gw,39,#[.slice none 0 0])],y.y8.bl,[(g15,36,(S.map bv).toArray)],[(gk,31,(K.map bv).toArray)],y7.bl,[(g13,31,(K.map bv).toArray)],[(g12,30,fcs n)],[(g9,27,(msg.map bv).toArray)],eB y.es,z.bl]) [9,6,0,1,2,3,4,5,7,8] kR rfl (by simp) (by simp))) ?_
  refine Sy.appendR kR 25 39 _ _ 1 24 Tryz.underlying25 info_sl rfl rfl rfl rfl (by decide) _ _ rfl hy.r8 kR [.slice none 0 0] rfl (λu hu=>by rw [List.mem_singleton.1 hu]; rfl) 0 gw 39 kR kR (by rw [List.length_map,hy.n8]; omega) (by rw [List.length_map,hy.n8]; simp only [maxLen]; omega) (λy8 hy8=>?_)
  refine sp rfl ?_
  refine Sy.nil<|Sy.in_<|Sy.then_<|Sy.region ?_
  refine sS (.int .i64 ((i+1:Nat):Int)) (Quiet.pure (exec_int .add _ _ _ .i64 _ _ _ rfl rfl rfl (int_add _ _ _ _ _ ((wrap_i64 (by omega) (by omega)).trans (by omega)))))<|sp rfl ?_
  refine Sy.nil ?_
  exact Sy.againT ⟨y7,y8,y.ks++[K],y.es++[(nilS,[])],y.m⟩ l2 (hy.snoc hy7 hy8 hKl (.inl rfl) (.inl rfl) rfl) (all_cons kR (all_cons kR (all_cons kR (all_cons kR (all_cons kR (all_cons kR (all_cons kR (all_cons kR (all_cons kR (all_cons kR all_nil)))))))))) (λw h=>by
   show St _ w ([(g9,27,(msg.map bv).toArray)]++(y7.bl++(y8.bl++eB (y.es++[(nilS,[])]))))
   rw [eB_snoc]
   exact (Sy.St.parts (ls:=[[(gw,39,#[.slice none 0 0])],y8.bl,[(g15,36,(S.map bv).toArray)],[(gk,31,(K.map bv).toArray)],y7.bl,[(g13,31,(K.map bv).toArray)],[(g12,30,fcs n)],[(g9,27,(msg.map bv).toArray)],eB y.es,z.bl]) (ms:=[[(g9,27,(msg.map bv).toArray)],y7.bl,y8.bl,eB y.es]) [[(gw,39,#[.slice none 0 0])],[(g15,36,(S.map bv).toArray)],[(gk,31,(K.map bv).toArray)],[(g13,31,(K.map bv).toArray)],[(g12,30,fcs n)],z.bl] [7,4,1,8,0,2,3,5,6,9] kR rfl (by simp) (by simp [nilS]) h))
 have hok:=ht3 rfl
 refine sT<|sC ?_
 refine sp rfl<|sP (.slice (some ⟨g15,0,none⟩) 64 64) ?_
 refine appB kR _ _ rfl (y:=nilS) (b:=[]) byt_nilS kR (A:=some ⟨g15,0,none⟩) (m:=64) (cp:=64) kR (R:=U) (blk_key (t:=36) h15 hSl (by decide)) U (List.Perm.of_eq (List.append_nil U).symm) (λ_ h=>h) (by rw [hSl]; decide) (λe1 he1=>?_)
 have he1:BS e1 S:=he1
 refine Sy.make kR 39 #[e1.v] (λg=>.slice (some ⟨g,0,none⟩) 1 1) (makes_one1 25 39 _ _ _ e1.v rfl kR he1.cells.1 Tryz.underlying25 info_sl rfl rfl) (λgw=>?_)
 refine Sy.permS (M:=[(gw,39,#[e1.v])]++(y.y8.bl++([(g15,36,(S.map bv).toArray)]++([(gk,31,(K.map bv).toArray)]++(y7.bl++([(g13,31,(K.map bv).toArray)]++([(g12,30,fcs n)]++([(g9,27,(msg.map bv).toArray)]++(eB y.es++(z.bl++e1.bl)))))))))) (by rw [hU,hY]; exact (Sy.flat_perm (ls:=[[(g15,36,(S.map bv).toArray)],[(gk,31,(K.map bv).toArray)],y7.bl,[(g13,31,(K.map bv).toArray)],[(g12,30,fcs n)],[(g9,27,(msg.map bv).toArray)],y.y8.bl,eB y.es,z.bl,e1.bl,[(gw,39,#[e1.v])]]) (ms:=[[(gw,39,#[e1.v])],y.y8.bl,[(g15,36,(S.map bv).toArray)],[(gk,31,(K.map bv).toArray)],y7.bl,[(g13,31,(K.map bv).toArray)],[(g12,30,fcs n)],[(g9,27,(msg.map bv).toArray)],eB y.es,z.bl,e1.bl]) [10,6,0,1,2,3,4,5,7,8,9] kR rfl (by simp) (by simp))) ?_
 refine Sy.appendR kR 25 39 _ _ 1 24 Tryz.underlying25 info_sl rfl rfl rfl rfl (by decide) _ _ rfl hy.r8 kR [e1.v] rfl (λu hu=>by rw [List.mem_singleton.1 hu]; exact he1.cells.2) 0 gw 39 kR kR (by rw [List.length_map,hy.n8]; omega) (by rw [List.length_map,hy.n8]; simp only [maxLen]; omega) (λy8 hy8=>?_)
 refine sp rfl ?_
 refine sG<|Sy.region ?_
 have hml2:y.m≤1048576:=by
  rw [hy.mc]
  refine Nat.le_trans (List.length_filter_le _ _) ?_
  rw [List.length_map,hy.n8]; omega
 refine sp rfl<|sS (.int .i64 ((y.m+1:Nat):Int)) (Quiet.pure (exec_int .add _ _ _ .i64 _ _ _ rfl rfl rfl (int_add _ _ _ _ _ ((wrap_i64 (by omega) (by omega)).trans (by omega)))))<|sp rfl ?_
 refine Sy.nil<|Sy.in_<|Sy.then_<|Sy.region ?_
 refine sS (.int .i64 ((i+1:Nat):Int)) (Quiet.pure (exec_int .add _ _ _ .i64 _ _ _ rfl rfl rfl (int_add _ _ _ _ _ ((wrap_i64 (by omega) (by omega)).trans (by omega)))))<|sp rfl ?_
 refine Sy.nil ?_
 have hS0:S≠[]:=by intro e; rw [e] at hSl; cases hSl
 exact Sy.againT ⟨y7,y8,y.ks++[K],y.es++[(e1,S)],y.m+1⟩ l2 (hy.snoc hy7 hy8 hKl (.inr ⟨he1,hSl⟩) (.inr (by show Cu.verB K msg S=true; rw [hK,hS]; exact Cu.verB_sig n msg (by rw [← hB,hok]))) (by rw [if_neg hS0])) (all_cons kR (all_cons kR (all_cons kR (all_cons kR (all_cons kR (all_cons kR (all_cons kR (all_cons kR (all_cons kR (all_cons kR all_nil)))))))))) (λw h=>by
  show St _ w ([(g9,27,(msg.map bv).toArray)]++(y7.bl++(y8.bl++eB (y.es++[(e1,S)]))))
  rw [eB_snoc]
  exact (Sy.St.parts (ls:=[[(gw,39,#[e1.v])],y8.bl,[(g15,36,(S.map bv).toArray)],[(gk,31,(K.map bv).toArray)],y7.bl,[(g13,31,(K.map bv).toArray)],[(g12,30,fcs n)],[(g9,27,(msg.map bv).toArray)],eB y.es,z.bl,e1.bl]) (ms:=[[(g9,27,(msg.map bv).toArray)],y7.bl,y8.bl,eB y.es,e1.bl]) [[(gw,39,#[e1.v])],[(g15,36,(S.map bv).toArray)],[(gk,31,(K.map bv).toArray)],[(g13,31,(K.map bv).toArray)],[(g12,30,fcs n)],z.bl] [7,4,1,8,10,0,2,3,5,6,9] kR rfl (by simp) (by simp) h))
end Pg
end
end Go.Proofs.YtgggdbjakcpanabGreatDoor
