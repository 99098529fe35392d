/-
  Texts of ours, put together: WirGE, WirGF, WirGI, WirGG, WirGH, WirXF, WirAA, WirAB, WireParamsL, WireHeadersL, WireConfigsL, WirXE, WirGR, WirGM, WirGN, WirGO, WirGS, WirXG, WirHA, EcJ, CrvJ, CrvK, CrvL, CrvM, CrvP, CrvQ, EcW, CrvR, CrvS, CrvT, CrvU, SigA, SigB, WirHB, WirHC, ScRefN, ScFold, ScRefAdd, ScRefMul, ScNum, CrvO, CrvV, RefNumT, WirGQ, WirGT, WirGU, WirHD, WirHE, WirHF, WirHG.
-/
import Derived.Test.YtgggdbjakcpanaaGreatDoorNX5
set_option linter.unusedVariables false
set_option linter.unusedSimpArgs false
namespace Go.Proofs.YtgggdbjakcpanaaGreatDoor
section
namespace Wr
open Go.RowKit Sy
set_option maxRecDepth 100000
set_option maxHeartbeats 4000000
theorem eql_fe_in (W:World) (n m:Nat) (hn:n<Cu.K4) (hm:m<Cu.K4):(Op.equalIn 9998 71 (.agg (fcs n)) (.agg (fcs m))).run Tryz.prog W=.ok (decide (n=m)) W:=by
 have h:=run_equalIn_words W 9996 71 22 4 Tryz.underlying71 Tryz.underlying22 (λW=>by kernel_rfl) (wl n) (wl m) rfl rfl
 rw [wl_beq hn hm] at h
 exact h
theorem eql_bool_in (W:World) (a b:Bool):(Op.equalIn 9998 4 (.bool a) (.bool b)).run Tryz.prog W=.ok (a == b) W:=by
 cases a <;> cases b <;> kernel_rfl
theorem eql_pt_at (W:World) (x y:Nat) (i:Bool) (u v:Nat) (j:Bool) (hx:x<Cu.K4) (hy:y<Cu.K4) (hu:u<Cu.K4) (hv:v<Cu.K4) :
  (Op.equalIn 9999 73 (.agg (Cu.pcs x y i)) (.agg (Cu.pcs u v j))).run Tryz.prog W=.ok (Cu.sameB x y i u v j) W:=by
 have hS:Tryz.prog.underlying 73=some (.struct (Tryz.prog.fieldsOf 73)):=by kernel_rfl
 have hpp:Tryz.prog.stoodInHeld 73=false:=by kernel_rfl
 rw [show (9999:Nat)=9998+1 from rfl,run_equalIn_struct W 9998 73 _ _ hS hpp]
 simp only [Program.fieldsOf,Tryz.underlying73]
 have a1:∀ W,(part 71 (Cu.pcs x y i) 0).run Tryz.prog W=.ok (.agg (fcs x)) W:=λW=>by rw [Cu.part_fe,Cu.pcs_x]
 have a2:∀ W,(part 71 (Cu.pcs u v j) 0).run Tryz.prog W=.ok (.agg (fcs u)) W:=λW=>by rw [Cu.part_fe,Cu.pcs_x]
 have a3:∀ W,(part 71 (Cu.pcs x y i) 4).run Tryz.prog W=.ok (.agg (fcs y)) W:=λW=>by rw [Cu.part_fe,Cu.pcs_y]
 have a4:∀ W,(part 71 (Cu.pcs u v j) 4).run Tryz.prog W=.ok (.agg (fcs v)) W:=λW=>by rw [Cu.part_fe,Cu.pcs_y]
 have a5:∀ W,(part 4 (Cu.pcs x y i) 8).run Tryz.prog W=.ok (.bool i) W:=λW=>Cu.part_bool _ 8 i (Cu.pcs_i x y i) W
 have a6:∀ W,(part 4 (Cu.pcs u v j) 8).run Tryz.prog W=.ok (.bool j) W:=λW=>Cu.part_bool _ 8 j (Cu.pcs_i u v j) W
 have e1:∀ W,_:=λW=>eql_fe_in W x u hx hu
 have e2:∀ W,_:=λW=>eql_fe_in W y v hy hv
 have e3:∀ W,_:=λW=>eql_bool_in W i j
 unfold Cu.sameB
 generalize decide (x=u)=b1 at *
 generalize decide (y=v)=b2 at *
 generalize (i == j)=b3 at *
 cases b1 <;> cases b2 <;> cases b3 <;> simp [Op.eqFields,a1,a2,a3,a4,a5,a6,e1,e2,e3,Sem.run_bind,Sem.run_ite]
theorem part_u64 (cs:Array Value) (o:Nat) (n:Nat) (hb:cs[o]? = some (.int .u64 (n:Int))) (W:World):(part 22 cs o).run Tryz.prog W=.ok (.int .u64 (n:Int)) W:=by
 have h1:=Tryz.isAgg22
 simp [part,h1,hb,go_sem]
theorem part_pt (cs:Array Value) (o:Nat) (W:World):(part 73 cs o).run Tryz.prog W=.ok (.agg (cs.extract o (o+9))) W:=by
 have h1:=Tryz.isAgg73
 have h2:=Tryz.sizeOf73
 simp [part,h1,h2,go_sem]
theorem eql_u64_at (W:World) (a b:Int):(Op.equalIn 9999 22 (.int .u64 a) (.int .u64 b)).run Tryz.prog W=.ok (decide (a=b)) W:=by
 kernel_rfl
theorem run_eql_am (W:World) (a:MAmt) (hx:a.pt.x<Cu.K4) (hy:a.pt.y<Cu.K4):(binOp .eql 75 (.agg (cAM a).toArray) (.agg (cAM zAM).toArray)).run Tryz.prog W=.ok (.bool (nulAM a)) W:=by
 obtain ⟨bl,v,x,y,i⟩:=a
 dsimp only at hx hy
 have hS:Tryz.prog.underlying 75=some (.struct (Tryz.prog.fieldsOf 75)):=by kernel_rfl
 have hpp:Tryz.prog.stoodInHeld 75=false:=by kernel_rfl
 rw [run_eql_struct,show (10000:Nat)=9999+1 from rfl,run_equalIn_struct W 9999 75 _ _ hS hpp]
 simp only [Program.fieldsOf,Tryz.underlying75]
 have c1:((cAM ⟨bl,v,x,y,i⟩).toArray).extract 2 (2+9)=Cu.pcs x y i:=rfl
 have c2:((cAM zAM).toArray).extract 2 (2+9)=Cu.pcs 0 0 false:=rfl
 have a1:∀ W,(part 4 (cAM ⟨bl,v,x,y,i⟩).toArray 0).run Tryz.prog W=.ok (.bool bl) W:=λW=>Cu.part_bool _ 0 bl rfl W
 have a2:∀ W,(part 4 (cAM zAM).toArray 0).run Tryz.prog W=.ok (.bool false) W:=λW=>Cu.part_bool _ 0 false rfl W
 have a3:∀ W,(part 22 (cAM ⟨bl,v,x,y,i⟩).toArray 1).run Tryz.prog W=.ok (.int .u64 (v:Int)) W:=λW=>part_u64 _ 1 v rfl W
 have a4:∀ W,(part 22 (cAM zAM).toArray 1).run Tryz.prog W=.ok (.int .u64 0) W:=λW=>part_u64 _ 1 0 rfl W
 have a5:∀ W,(part 73 (cAM ⟨bl,v,x,y,i⟩).toArray 2).run Tryz.prog W=.ok (.agg (Cu.pcs x y i)) W:=λW=>by rw [part_pt,c1]
 have a6:∀ W,(part 73 (cAM zAM).toArray 2).run Tryz.prog W=.ok (.agg (Cu.pcs 0 0 false)) W:=λW=>by rw [part_pt,c2]
 have e1:∀ W,_:=λW=>Cu.eql_bool_at W bl false
 have e2:∀ W,_:=λW=>eql_u64_at W (v:Int) 0
 have e3:∀ W,_:=λW=>eql_pt_at W x y i 0 0 false hx hy (by decide) (by decide)
 have en:nulAM ⟨bl,v,x,y,i⟩=((bl == false) && (decide ((v:Int)=0) && Cu.sameB x y i 0 0 false)):=by
  unfold nulAM nulPT
  dsimp only
  rw [show decide (v=0)=decide ((v:Int)=0) from decide_eq_decide.2 (by omega)]
  cases bl <;> simp
 rw [en]
 generalize decide ((v:Int)=0)=b2 at *
 generalize Cu.sameB x y i 0 0 false=b3 at *
 generalize (bl == false)=b1 at *
 cases b1 <;> cases b2 <;> cases b3 <;> simp [Op.eqFields,a1,a2,a3,a4,a5,a6,e1,e2,e3,Sem.run_bind,Sem.run_ite]
theorem eql_am (w:World) (F:Slots) (o:Oper) (x y:Operand) (a:MAmt) {yt:TypeId} (ho:o.op=.binOp .eql 75 x y yt) (hx:evF F x=.agg (cAM a).toArray) (hy:evF F y=.agg (cAM zAM).toArray) (h1:a.pt.x<Cu.K4) (h2:a.pt.y<Cu.K4):(execOp (evF F) o).run Tryz.prog w=.ok (.value (.bool (nulAM a))) w:=by
 have g1:(eqGuard .eql 75 x y (.agg (cAM a).toArray) (.agg (cAM zAM).toArray)).run Tryz.prog w=.ok () w:=by go_simp
 have g2:=run_eql_am w a h1 h2
 unfold execOp
 simp only [ho,hx,hy,Sem.run_bind,g1,g2,Result.andThen_ok,Sem.run_pure]
theorem eqlSC (w:World) (F:Slots) (o:Oper) (x y:Operand) (n m:Nat) {yt:TypeId} (ho:o.op=.binOp .eql 76 x y yt) (hx:evF F x=fv n) (hy:evF F y=fv m) (hn:n<Cu.K4) (hm:m<Cu.K4):(execOp (evF F) o).run Tryz.prog w=.ok (.value (.bool (decide (n=m)))) w:=by
 have h1:=Sc.run_eqGuard_fv .eql x y n m w
 have h2:=Sc.run_eql_fv w n m hn hm
 unfold execOp
 simp only [ho,hx,hy,Sem.run_bind,h1,h2,Result.andThen_ok,Sem.run_pure]
theorem noIssue_any (w:World) (i:MIs) (A:Option Addr) (n cp:Nat) (hn:i.range.length=n) (d1:i.amount.value<18446744073709551616∧i.amount.pt.x<Cu.K4∧i.amount.pt.y<Cu.K4) (h3:i.tokens<18446744073709551616) (h4:i.entropy.length=32) (h5:i.blind<Cu.K4) :
  Calls Tryz.prog 178 #[.agg (cIS i (.slice A n cp)).toArray] w (Gets w (.bool (nulIS i))):=by
 obtain ⟨kd,am,rg,tk,en,sc⟩:=i
 dsimp only at hn d1 h3 h4 h5
 have m4:(en.map bv).length=32:=by rw [List.length_map,h4]
 have hlen:(cIS ⟨kd,am,rg,tk,en,sc⟩ (.slice A n cp)).length=50:=by simp only [cIS,cAM,List.length_append,m4,fws_len,lPT_len]; rfl
 have hnul:nulIS ⟨kd,am,rg,tk,en,sc⟩=(nulAM am && (decide (n=0) && (decide (tk=0) && (decide (en=z32) && decide (sc=0))))):=by unfold nulIS; dsimp only; rw [hn]
 refine Sy.enter (args:=[.agg (cIS ⟨kd,am,rg,tk,en,sc⟩ (.slice A n cp)).toArray]) Tryz.func178 rfl kL ?_
 refine sC ?_
 refine sM 78 (cIS ⟨kd,am,rg,tk,en,sc⟩ (.slice A n cp)).toArray (λg1=>?_) kR (λw=>run_boxR rfl rfl (by kernel_rfl) hlen w)
 refine sP (.bool false) ?_
 have X0:XAt (rdC (Base.of w) [(g1,78,(cIS ⟨kd,am,rg,tk,en,sc⟩ (.slice A n cp)).toArray)]) g1 0 (cIS ⟨kd,am,rg,tk,en,sc⟩ (.slice A n cp)):=λi u hu=>.inr ⟨_,_,List.mem_singleton.2 rfl,by rw [Nat.zero_add,List.getElem?_toArray]; exact hu⟩
 have X1:XAt (rdC (Base.of w) [(g1,78,(cIS ⟨kd,am,rg,tk,en,sc⟩ (.slice A n cp)).toArray)]) g1 1 (cAM am++([.slice A n cp]++([.int .u64 (tk:Int)]++(en.map bv++Cu.fws sc)))):=X0.right (n:=1) rfl
 have X2:XAt (rdC (Base.of w) [(g1,78,(cIS ⟨kd,am,rg,tk,en,sc⟩ (.slice A n cp)).toArray)]) g1 12 ([.slice A n cp]++([.int .u64 (tk:Int)]++(en.map bv++Cu.fws sc))):=X1.right (n:=11) rfl
 have X3:XAt (rdC (Base.of w) [(g1,78,(cIS ⟨kd,am,rg,tk,en,sc⟩ (.slice A n cp)).toArray)]) g1 13 ([.int .u64 (tk:Int)]++(en.map bv++Cu.fws sc)):=X2.right (n:=1) rfl
 have X4:XAt (rdC (Base.of w) [(g1,78,(cIS ⟨kd,am,rg,tk,en,sc⟩ (.slice A n cp)).toArray)]) g1 14 (en.map bv++Cu.fws sc):=X3.right (n:=1) rfl
 have X5:XAt (rdC (Base.of w) [(g1,78,(cIS ⟨kd,am,rg,tk,en,sc⟩ (.slice A n cp)).toArray)]) g1 46 (Cu.fws sc):=X4.right m4
 refine sA ?_
 obtain ⟨b1,hb1⟩:∃ z:Bool,z=nulAM am:=⟨_,rfl⟩
 refine sP (.pointer (some ⟨g1,1,none⟩))<|sS (.agg (cAM am).toArray) (rowC (R:=[(g1,78,(cIS ⟨kd,am,rg,tk,en,sc⟩ (.slice A n cp)).toArray)]) (g:=g1) (f:=1) (k:=11) (cs:=cAM am) X1.left (λy hy=>hy) rfl rfl Tryz.underlying75)<|sP (.agg (cAM zAM).toArray)<|sS (.bool b1) (Quiet.pure (λw=>by rw [hb1]; exact eql_am w _ _ _ _ am rfl rfl rfl d1.2.1 d1.2.2))<|sp rfl ?_
 cases b1
 case' false =>
  refine sN<|sN<|sN<|sN<|sP (.bool false)<|sp rfl<|sN<|sN<|sN<|sP (.bool false)<|sp rfl<|sN<|sN<|sN<|sN<|sP (.bool false)<|sp rfl<|sN<|sN<|sN<|sN<|sP (.bool false) ?_
  refine sp rfl ?_
  refine sG<|Sy.ret ?_
  rw [hnul, ← hb1]
  exact rV (.bool false) rfl
 obtain ⟨b2,hb2⟩:∃ z:Bool,z=decide (n=0):=⟨_,rfl⟩
 refine sP (.pointer (some ⟨g1,12,none⟩))<|sS (.slice A n cp) (cellC (R:=[(g1,78,(cIS ⟨kd,am,rg,tk,en,sc⟩ (.slice A n cp)).toArray)]) (g:=g1) (f:=12) X2.one (λy hy=>hy) rfl Tryz.underlying29)<|sP (.int .i64 (n:Int))<|sS (.bool b2) (Quiet.pure (exec_int .eql _ _ _ .i64 _ _ _ rfl rfl rfl (int_eql _ _ _ _ _ (by rw [hb2]; exact decide_eq_decide.2 (by omega)))))<|sP (.bool b2)<|sp rfl ?_
 cases b2
 case' false =>
  refine sN<|sN<|sN<|sP (.bool false)<|sp rfl<|sN<|sN<|sN<|sN<|sP (.bool false)<|sp rfl<|sN<|sN<|sN<|sN<|sP (.bool false) ?_
  refine sp rfl ?_
  refine sG<|Sy.ret ?_
  rw [hnul, ← hb1, ← hb2]
  exact rV (.bool false) rfl
 obtain ⟨b3,hb3⟩:∃ z:Bool,z=decide (tk=0):=⟨_,rfl⟩
 refine sP (.pointer (some ⟨g1,13,none⟩))<|sS (.int .u64 (tk:Int)) (cellC (R:=[(g1,78,(cIS ⟨kd,am,rg,tk,en,sc⟩ (.slice A n cp)).toArray)]) (g:=g1) (f:=13) X3.one (λy hy=>hy) rfl Tryz.underlying22)<|sS (.bool b3) (Quiet.pure (exec_int .eql _ _ _ .u64 _ _ _ rfl rfl rfl (int_eql _ _ _ _ _ (by rw [hb3]; exact decide_eq_decide.2 (by omega)))))<|sP (.bool b3)<|sp rfl ?_
 cases b3
 case' false =>
  refine sN<|sN<|sN<|sN<|sP (.bool false)<|sp rfl<|sN<|sN<|sN<|sN<|sP (.bool false) ?_
  refine sp rfl ?_
  refine sG<|Sy.ret ?_
  rw [hnul, ← hb1, ← hb2, ← hb3]
  exact rV (.bool false) rfl
 obtain ⟨b4,hb4⟩:∃ z:Bool,z=decide (en=z32):=⟨_,rfl⟩
 refine sP (.pointer (some ⟨g1,14,none⟩))<|sS (.agg (en.map bv).toArray) (rowC (R:=[(g1,78,(cIS ⟨kd,am,rg,tk,en,sc⟩ (.slice A n cp)).toArray)]) (g:=g1) (f:=14) (k:=32) (cs:=en.map bv) X4.left (λy hy=>hy) m4 rfl Tryz.underlying28)<|sP (.agg (z32.map bv).toArray)<|sS (.bool b4) (Quiet.pure (λw=>by rw [hb4]; exact eql_dgs w _ _ _ _ en z32 h4 rfl rfl rfl rfl))<|sP (.bool b4)<|sp rfl ?_
 cases b4
 case' false =>
  refine sN<|sN<|sN<|sN<|sP (.bool false) ?_
  refine sp rfl ?_
  refine sG<|Sy.ret ?_
  rw [hnul, ← hb1, ← hb2, ← hb3, ← hb4]
  exact rV (.bool false) rfl
 obtain ⟨b5,hb5⟩:∃ z:Bool,z=decide (sc=0):=⟨_,rfl⟩
 refine sP (.pointer (some ⟨g1,46,none⟩))<|sS (fv sc) (rowC (R:=[(g1,78,(cIS ⟨kd,am,rg,tk,en,sc⟩ (.slice A n cp)).toArray)]) (g:=g1) (f:=46) (k:=4) (cs:=Cu.fws sc) X5 (λy hy=>hy) rfl rfl Tryz.underlying76)<|sP (fv 0)<|sS (.bool b5) (Quiet.pure (λw=>by rw [hb5]; exact eqlSC w _ _ _ _ sc 0 rfl rfl rfl h5 (by decide)))<|sP (.bool b5) ?_
 refine sp rfl ?_
 refine sG<|Sy.ret ?_
 rw [hnul, ← hb1, ← hb2, ← hb3, ← hb4, ← hb5]
 exact rV (.bool b5) rfl
theorem noPeg_any (w:World) (p:MPg) (A1 A2 A3:Option Addr) (n1 c1 n2 c2 n3 c3:Nat) (k1:p.tx.length=n1) (k2:p.path.length=n2) (k3:p.script.length=n3) (h0:p.header.length=32) :
  Calls Tryz.prog 116 #[.agg (cPG p (.slice A1 n1 c1) (.slice A2 n2 c2) (.slice A3 n3 c3)).toArray] w (Gets w (.bool (nulPG p))):=by
 obtain ⟨hd,tx,pl,mn,pa,sq⟩:=p
 dsimp only at k1 k2 k3 h0
 have m0:(hd.map bv).length=32:=by rw [List.length_map,h0]
 have hlen:(cPG ⟨hd,tx,pl,mn,pa,sq⟩ (.slice A1 n1 c1) (.slice A2 n2 c2) (.slice A3 n3 c3)).length=37:=by simp only [cPG,List.length_append,m0]; rfl
 have hnul:nulPG ⟨hd,tx,pl,mn,pa,sq⟩=(decide (hd=z32) && (decide (n1=0) && (decide (pl=0) && (decide (mn=0) && (decide (n2=0) && decide (n3=0)))))):=by unfold nulPG; dsimp only; rw [k1,k2,k3]
 refine Sy.enter (args:=[.agg (cPG ⟨hd,tx,pl,mn,pa,sq⟩ (.slice A1 n1 c1) (.slice A2 n2 c2) (.slice A3 n3 c3)).toArray]) Tryz.func116 rfl kL ?_
 refine sC ?_
 refine sM 81 (cPG ⟨hd,tx,pl,mn,pa,sq⟩ (.slice A1 n1 c1) (.slice A2 n2 c2) (.slice A3 n3 c3)).toArray (λg1=>?_) kR (λw=>run_boxR rfl rfl (by kernel_rfl) hlen w)
 refine sP (.bool false) ?_
 have X0:XAt (rdC (Base.of w) [(g1,81,(cPG ⟨hd,tx,pl,mn,pa,sq⟩ (.slice A1 n1 c1) (.slice A2 n2 c2) (.slice A3 n3 c3)).toArray)]) g1 0 (cPG ⟨hd,tx,pl,mn,pa,sq⟩ (.slice A1 n1 c1) (.slice A2 n2 c2) (.slice A3 n3 c3)):=λi u hu=>.inr ⟨_,_,List.mem_singleton.2 rfl,by rw [Nat.zero_add,List.getElem?_toArray]; exact hu⟩
 have X1:XAt (rdC (Base.of w) [(g1,81,(cPG ⟨hd,tx,pl,mn,pa,sq⟩ (.slice A1 n1 c1) (.slice A2 n2 c2) (.slice A3 n3 c3)).toArray)]) g1 32 ([.slice A1 n1 c1]++([.int .u32 (pl:Int)]++([.int .u32 (mn:Int)]++([.slice A2 n2 c2]++([.slice A3 n3 c3]))))):=X0.right m0
 have X2:XAt (rdC (Base.of w) [(g1,81,(cPG ⟨hd,tx,pl,mn,pa,sq⟩ (.slice A1 n1 c1) (.slice A2 n2 c2) (.slice A3 n3 c3)).toArray)]) g1 33 ([.int .u32 (pl:Int)]++([.int .u32 (mn:Int)]++([.slice A2 n2 c2]++([.slice A3 n3 c3])))):=X1.right (n:=1) rfl
 have X3:XAt (rdC (Base.of w) [(g1,81,(cPG ⟨hd,tx,pl,mn,pa,sq⟩ (.slice A1 n1 c1) (.slice A2 n2 c2) (.slice A3 n3 c3)).toArray)]) g1 34 ([.int .u32 (mn:Int)]++([.slice A2 n2 c2]++([.slice A3 n3 c3]))):=X2.right (n:=1) rfl
 have X4:XAt (rdC (Base.of w) [(g1,81,(cPG ⟨hd,tx,pl,mn,pa,sq⟩ (.slice A1 n1 c1) (.slice A2 n2 c2) (.slice A3 n3 c3)).toArray)]) g1 35 ([.slice A2 n2 c2]++([.slice A3 n3 c3])):=X3.right (n:=1) rfl
 have X5:XAt (rdC (Base.of w) [(g1,81,(cPG ⟨hd,tx,pl,mn,pa,sq⟩ (.slice A1 n1 c1) (.slice A2 n2 c2) (.slice A3 n3 c3)).toArray)]) g1 36 ([.slice A3 n3 c3]):=X4.right (n:=1) rfl
 refine sA ?_
 obtain ⟨b1,hb1⟩:∃ z:Bool,z=decide (hd=z32):=⟨_,rfl⟩
 refine sP (.pointer (some ⟨g1,0,none⟩))<|sS (.agg (hd.map bv).toArray) (rowC (R:=[(g1,81,(cPG ⟨hd,tx,pl,mn,pa,sq⟩ (.slice A1 n1 c1) (.slice A2 n2 c2) (.slice A3 n3 c3)).toArray)]) (g:=g1) (f:=0) (k:=32) (cs:=hd.map bv) X0.left (λy hy=>hy) m0 rfl Tryz.underlying28)<|sP (.agg (z32.map bv).toArray)<|sS (.bool b1) (Quiet.pure (λw=>by rw [hb1]; exact eql_dgs w _ _ _ _ hd z32 h0 rfl rfl rfl rfl))<|sp rfl ?_
 cases b1
 case' false =>
  refine sN<|sN<|sN<|sN<|sP (.bool false)<|sp rfl<|sN<|sN<|sN<|sP (.bool false)<|sp rfl<|sN<|sN<|sN<|sP (.bool false)<|sp rfl<|sN<|sN<|sN<|sN<|sP (.bool false)<|sp rfl<|sN<|sN<|sN<|sN<|sP (.bool false) ?_
  refine sp rfl ?_
  refine sG<|Sy.ret ?_
  rw [hnul, ← hb1]
  exact rV (.bool false) rfl
 obtain ⟨b2,hb2⟩:∃ z:Bool,z=decide (n1=0):=⟨_,rfl⟩
 refine sP (.pointer (some ⟨g1,32,none⟩))<|sS (.slice A1 n1 c1) (cellC (R:=[(g1,81,(cPG ⟨hd,tx,pl,mn,pa,sq⟩ (.slice A1 n1 c1) (.slice A2 n2 c2) (.slice A3 n3 c3)).toArray)]) (g:=g1) (f:=32) X1.one (λy hy=>hy) rfl Tryz.underlying29)<|sP (.int .i64 (n1:Int))<|sS (.bool b2) (Quiet.pure (exec_int .eql _ _ _ .i64 _ _ _ rfl rfl rfl (int_eql _ _ _ _ _ (by rw [hb2]; exact decide_eq_decide.2 (by omega)))))<|sP (.bool b2)<|sp rfl ?_
 cases b2
 case' false =>
  refine sN<|sN<|sN<|sP (.bool false)<|sp rfl<|sN<|sN<|sN<|sP (.bool false)<|sp rfl<|sN<|sN<|sN<|sN<|sP (.bool false)<|sp rfl<|sN<|sN<|sN<|sN<|sP (.bool false) ?_
  refine sp rfl ?_
  refine sG<|Sy.ret ?_
  rw [hnul, ← hb1, ← hb2]
  exact rV (.bool false) rfl
 obtain ⟨b3,hb3⟩:∃ z:Bool,z=decide (pl=0):=⟨_,rfl⟩
 refine sP (.pointer (some ⟨g1,33,none⟩))<|sS (.int .u32 (pl:Int)) (cellC (R:=[(g1,81,(cPG ⟨hd,tx,pl,mn,pa,sq⟩ (.slice A1 n1 c1) (.slice A2 n2 c2) (.slice A3 n3 c3)).toArray)]) (g:=g1) (f:=33) X2.one (λy hy=>hy) rfl Tryz.underlying67)<|sS (.bool b3) (Quiet.pure (exec_int .eql _ _ _ .u32 _ _ _ rfl rfl rfl (int_eql _ _ _ _ _ (by rw [hb3]; exact decide_eq_decide.2 (by omega)))))<|sP (.bool b3)<|sp rfl ?_
 cases b3
 case' false =>
  refine sN<|sN<|sN<|sP (.bool false)<|sp rfl<|sN<|sN<|sN<|sN<|sP (.bool false)<|sp rfl<|sN<|sN<|sN<|sN<|sP (.bool false) ?_
  refine sp rfl ?_
  refine sG<|Sy.ret ?_
  rw [hnul, ← hb1, ← hb2, ← hb3]
  exact rV (.bool false) rfl
 obtain ⟨b4,hb4⟩:∃ z:Bool,z=decide (mn=0):=⟨_,rfl⟩
 refine sP (.pointer (some ⟨g1,34,none⟩))<|sS (.int .u32 (mn:Int)) (cellC (R:=[(g1,81,(cPG ⟨hd,tx,pl,mn,pa,sq⟩ (.slice A1 n1 c1) (.slice A2 n2 c2) (.slice A3 n3 c3)).toArray)]) (g:=g1) (f:=34) X3.one (λy hy=>hy) rfl Tryz.underlying67)<|sS (.bool b4) (Quiet.pure (exec_int .eql _ _ _ .u32 _ _ _ rfl rfl rfl (int_eql _ _ _ _ _ (by rw [hb4]; exact decide_eq_decide.2 (by omega)))))<|sP (.bool b4)<|sp rfl ?_
 cases b4
 case' false =>
  refine sN<|sN<|sN<|sN<|sP (.bool false)<|sp rfl<|sN<|sN<|sN<|sN<|sP (.bool false) ?_
  refine sp rfl ?_
  refine sG<|Sy.ret ?_
  rw [hnul, ← hb1, ← hb2, ← hb3, ← hb4]
  exact rV (.bool false) rfl
 obtain ⟨b5,hb5⟩:∃ z:Bool,z=decide (n2=0):=⟨_,rfl⟩
 refine sP (.pointer (some ⟨g1,35,none⟩))<|sS (.slice A2 n2 c2) (cellC (R:=[(g1,81,(cPG ⟨hd,tx,pl,mn,pa,sq⟩ (.slice A1 n1 c1) (.slice A2 n2 c2) (.slice A3 n3 c3)).toArray)]) (g:=g1) (f:=35) X4.one (λy hy=>hy) rfl Tryz.underlying79)<|sP (.int .i64 (n2:Int))<|sS (.bool b5) (Quiet.pure (exec_int .eql _ _ _ .i64 _ _ _ rfl rfl rfl (int_eql _ _ _ _ _ (by rw [hb5]; exact decide_eq_decide.2 (by omega)))))<|sP (.bool b5)<|sp rfl ?_
 cases b5
 case' false =>
  refine sN<|sN<|sN<|sN<|sP (.bool false) ?_
  refine sp rfl ?_
  refine sG<|Sy.ret ?_
  rw [hnul, ← hb1, ← hb2, ← hb3, ← hb4, ← hb5]
  exact rV (.bool false) rfl
 obtain ⟨b6,hb6⟩:∃ z:Bool,z=decide (n3=0):=⟨_,rfl⟩
 refine sP (.pointer (some ⟨g1,36,none⟩))<|sS (.slice A3 n3 c3) (cellC (R:=[(g1,81,(cPG ⟨hd,tx,pl,mn,pa,sq⟩ (.slice A1 n1 c1) (.slice A2 n2 c2) (.slice A3 n3 c3)).toArray)]) (g:=g1) (f:=36) X5.one (λy hy=>hy) rfl Tryz.underlying29)<|sP (.int .i64 (n3:Int))<|sS (.bool b6) (Quiet.pure (exec_int .eql _ _ _ .i64 _ _ _ rfl rfl rfl (int_eql _ _ _ _ _ (by rw [hb6]; exact decide_eq_decide.2 (by omega)))))<|sP (.bool b6) ?_
 refine sp rfl ?_
 refine sG<|Sy.ret ?_
 rw [hnul, ← hb1, ← hb2, ← hb3, ← hb4, ← hb5, ← hb6]
 exact rV (.bool b6) rfl
theorem scalar_w:PutC 179 4 repSC okSC encSC (λ_=>32):=λw0 gc gw gx f bad s R b cs n hx _ hc hb hl w hw=>by
 obtain ⟨rfl,h1⟩:=hx
 obtain ⟨ok,hok⟩:∃ ok,ok=okSC n:=⟨_,rfl⟩
 obtain ⟨E,hE⟩:∃ E,E=encSC n:=⟨_,rfl⟩
 have hEl:E.length=32:=by rw [hE]; exact bytesS_length _
 have hEm:(E.map bv).length=32:=by rw [List.length_map,hEl]
 have hp:n%Sc.pM<Cu.K4:=Nat.lt_trans (Nat.mod_lt _ (by decide)) (by decide)
 rw [← hok, ← hE]
 refine Sy.enterT (args:=[ptr gc,.pointer (some ⟨gx,f,none⟩)]) hw Tryz.func179 rfl kL ?_
 have ld:∀ {F:Slots} {L:Blocks} {o:Oper} {x:Operand},(∀ y∈R,y∈L)→o.op=.load 76 x→evF F x=.pointer (some ⟨gx,f,none⟩)→Quiet Tryz.prog w0.inn F L o (fv n):=λhR ho hx=>rowC (R:=R) (cs:=Cu.fws n) hc hR rfl ho Tryz.underlying76 hx
 refine Sy.seq ?_
 refine Sy.regionD (λ_=>false) kR ?_
 refine sa 0 rfl rfl<|sa 1 rfl rfl<|sD 2 rfl (fv n) (ld inCW rfl rfl)<|sD 3 rfl (fv (n%Sc.pM)) (qF 213 #[fv n] (λw=>Sc.norm_any w n h1))<|sa 4 rfl rfl<|sa 5 rfl rfl<|sD 6 rfl (fv n) (ld inCW rfl rfl)<|sv 7 rfl (.bool ok) (λw=>by rw [hok]; exact eqlSC w _ _ _ _ (n%Sc.pM) n rfl rfl rfl hp h1)<|sz 8 rfl rfl ?_
 refine sE ?_
 refine sB ?_
 refine sp rfl<|sp rfl<|sS (fv n) (ld inCW rfl rfl)<|sS (.agg (E.map bv).toArray) (qF 214 #[fv n] (λw=>by rw [hE]; exact Sc.bytes_any w n h1)) ?_
 refine sM 27 ((List.replicate 32 (0:UInt8)).map bv).toArray (λg4=>?_)
 refine Sy.permS List.perm_append_comm ?_
 refine sw 0 rfl (E.map bv).toArray (Writes.row 27 (E.map bv) 32 _ _ rfl kR kR kR hEm (by kernel_rfl) (ones_bW E)) ?_
 refine Sy.permS (M:=CWS gc gw bad s (R++[(g4,27,(E.map bv).toArray)])) (permB.trans (List.Perm.of_eq eqCW)) ?_
 refine sA ?_
 refine sp rfl<|sP (.slice (some ⟨g4,0,none⟩) 32 32) ?_
 refine Sy.callT (λw hw=>raw_w w0.inn gc gw bad s (R++[(g4,27,(E.map bv).toArray)]) b E _ ((memX lastR).byt hEl (by decide)) hb (by rw [hEl]; omega) w hw) (λu M hM=>?_)
 obtain ⟨s1,bad1,b1,q1,q2,rfl⟩:=hM
 rw [hEl] at q1
 refine sG<|Sy.seq<|sC ?_
 refine sp rfl<|sS (.bool false) (qg (λw hw=>reads_w w0.inn gc _ _ (List.mem_cons_self ..) w hw)) ?_
 refine sG<|sU<|Sy.skip<|Sy.then_<|Sy.region ?_
 refine sp rfl<|sp rfl ?_
 refine Sy.callT (λw hw=>must_w w0.inn gc gw bad1 ok s1 (R++[(g4,27,(E.map bv).toArray)]) w hw) (λu M hM=>?_)
 subst hM
 refine Sy.nil ?_
 have q:=q1.then_ (Wrote.must ok bad1 b1)
 rw [Bool.true_and,List.append_nil] at q
 exact Sy.retT0 rfl (CWS gc gw (bad1 || !ok) s1 R) (λ_ h=>dropR h) (λ_=>⟨s1,bad1 || !ok,b1,q,q2,rfl⟩)
end Wr
end
section
namespace Wr
open Go.RowKit Sy
set_option maxRecDepth 100000
set_option maxHeartbeats 4000000
theorem issue_w:PutO 115 50 repIS okIS encIS wtIS:=λw0 gc gw gx f bad s R b cs x hx _ hc hb hl w hw=>by
 obtain ⟨z,am,rg,tk,en,sc⟩:=x
 obtain ⟨vr,rfl,d1,h2,h3,h4,h5⟩:=hx
 dsimp only at d1 h2 h3 h4 h5
 unfold wtIS at hl
 dsimp only at hl
 have m4:(en.map bv).length=32:=by rw [List.length_map,h4]
 have hlen:(cIS ⟨z,am,rg,tk,en,sc⟩ vr).length=50:=by simp only [cIS,cAM,List.length_append,m4,fws_len,lPT_len]; rfl
 have c0:OwnAt R gx f ([.int .i64 z]++(cAM am++([vr]++([.int .u64 (tk:Int)]++(en.map bv++Cu.fws sc))))):=hc
 have c1:OwnAt R gx (f+1) (cAM am++([vr]++([.int .u64 (tk:Int)]++(en.map bv++Cu.fws sc)))):=c0.right (n:=1) rfl
 have c2:OwnAt R gx (f+12) ([vr]++([.int .u64 (tk:Int)]++(en.map bv++Cu.fws sc))):=by have q:=c1.right (n:=11) rfl; rwa [Nat.add_assoc] at q
 have c3:OwnAt R gx (f+13) ([.int .u64 (tk:Int)]++(en.map bv++Cu.fws sc)):=c2.right (n:=1) rfl
 have c4:OwnAt R gx (f+14) (en.map bv++Cu.fws sc):=c3.right (n:=1) rfl
 have c5:OwnAt R gx (f+46) (Cu.fws sc):=by have q:=c4.right m4; rwa [Nat.add_assoc] at q
 have X0:rdC w0.inn R gx f (.int .i64 z):=(c0.at w0.inn).one
 refine Sy.enterT (args:=[ptr gc,.pointer (some ⟨gx,f,none⟩)]) hw Tryz.func115 rfl kL ?_
 refine sC ?_
 refine sp rfl<|sp rfl<|sp rfl<|sP (.pointer (some ⟨gx,f,none⟩)) ?_
 refine Sy.callT (λw hw=>octet_w w0.inn gc gw gx f bad s R b z X0 hb (by omega) w hw) (λu M hM=>?_)
 obtain ⟨s1,bad1,b1,q1,p1,rfl⟩:=hM
 have l1:b1.length≤b.length+1:=q1.len
 refine sA ?_
 refine sp rfl<|sp rfl<|sP (.pointer (some ⟨gx,f,none⟩))<|sS (.int .i64 z) (cellC (R:=R) X0 inCW rfl Tryz.underlying3) ?_
 refine sG<|Sy.block<|Sy.seq<|Sy.block ?_
 by_cases h0:z=0
 ·subst h0
  obtain ⟨A,n,cp,rfl,k2,k3,k4,k5⟩:=h2
  obtain ⟨ok,hok⟩:∃ ok,ok=nulIS ⟨0,am,rg,tk,en,sc⟩:=⟨_,rfl⟩
  refine Sy.seq<|Sy.block<|Sy.block<|Sy.seq<|Sy.block<|Sy.seq<|Sy.seq<|sC ?_
  refine sP (.bool true)<|sp rfl ?_
  refine sG<|sT<|Sy.exit<|Sy.then_exit<|Sy.then_exit<|Sy.in_exit<|sB ?_
  refine sp rfl<|sp rfl<|sp rfl<|sS (.agg (cIS ⟨0,am,rg,tk,en,sc⟩ (.slice A n cp)).toArray) (rowC (R:=R) (cs:=cIS ⟨0,am,rg,tk,en,sc⟩ (.slice A n cp)) (c0.at w0.inn) inCW hlen rfl Tryz.underlying78)<|sS (.bool ok) (qg (λw _=>by rw [hok]; exact noIssue_any w ⟨0,am,rg,tk,en,sc⟩ A n cp k2 d1 h3 h4 h5)) ?_
  refine Sy.callT (λw hw=>must_w w0.inn gc gw bad1 ok s1 R w hw) (λu M hM=>?_)
  subst hM
  refine sG<|Sy.exit ?_
  refine Sy.in_pass (by decide) ?_
  refine Sy.in_pass (by decide) ?_
  refine Sy.then_exit ?_
  refine Sy.in_pass (by decide) ?_
  refine Sy.then_exit<|Sy.in_exit ?_
  have q:=(q1.then_ (Wrote.must ok bad1 b1)).le (k':=wtIS ⟨0,am,rg,tk,en,sc⟩) (by unfold wtIS; dsimp only; omega)
  have e:okIS ⟨0,am,rg,tk,en,sc⟩=(okO 0 && ok):=by rw [hok]; rfl
  exact Sy.retT0 rfl (CWS gc gw (bad1 || !ok) s1 R) (λ_ h=>h) (λ_=>⟨s1,bad1 || !ok,b1,by rw [e]; exact q,p1,rfl⟩)
 by_cases hk:z=1∨z=2
 ·refine Sy.seq ?_
  refine cutC [(0,ptr gc),(1,.pointer (some ⟨gx,f,none⟩))] (CWS gc gw bad1 s1 R) ?_ ?_
  ·clear hl X0 c0 q1 hc hlen h0
   rcases hk with rfl | rfl
   ·refine Sy.block<|Sy.block<|Sy.seq<|Sy.block<|Sy.seq<|Sy.seq<|sC ?_
    refine sP (.bool false)<|sp rfl ?_
    refine sG<|sU<|Sy.skip<|Sy.then_<|Sy.seq<|sC ?_
    refine sP (.bool true)<|sp rfl ?_
    refine sG<|sT<|Sy.exit<|Sy.then_exit<|Sy.then_exit ?_
    refine Sy.in_pass (by decide) ?_
    refine Sy.then_exit<|Sy.in_exit<|Sy.in_ ?_
    exact meet (all_cons kR (all_cons kR all_nil)) (λ_ h=>h)
   ·refine Sy.block<|Sy.block<|Sy.seq<|Sy.block<|Sy.seq<|Sy.seq<|sC ?_
    refine sP (.bool false)<|sp rfl ?_
    refine sG<|sU<|Sy.skip<|Sy.then_<|Sy.seq<|sC ?_
    refine sP (.bool false)<|sp rfl ?_
    refine sG<|sU<|Sy.skip<|Sy.then_<|sC ?_
    refine sP (.bool true)<|sp rfl ?_
    refine sG<|sT<|Sy.exit<|Sy.then_exit ?_
    refine Sy.in_pass (by decide) ?_
    refine Sy.then_exit ?_
    refine Sy.in_pass (by decide) ?_
    refine Sy.in_exit ?_
    exact meet (all_cons kR (all_cons kR all_nil)) (λ_ h=>h)
  refine Sy.then_<|Sy.seq<|sC ?_
  refine sp rfl<|sp rfl<|sp rfl<|sP (.pointer (some ⟨gx,f+1,none⟩)) ?_
  refine Sy.callT (λw hw=>amount_w w0.inn gc gw gx (f+1) bad1 s1 R b1 (cAM am) am ⟨rfl,d1⟩ rfl c1.left p1 (by show _+34≤_; omega) w hw) (λu M hM=>?_)
  obtain ⟨s2,bad2,b2,q2,p2,rfl⟩:=hM
  have l2:b2.length≤b1.length+34:=q2.len
  refine sA ?_
  refine sp rfl<|sp rfl<|sp rfl<|sP (.pointer (some ⟨gx,f+12,none⟩)) ?_
  refine Sy.callT (λw hw=>text_w w0.inn gc gw gx (f+12) bad2 s2 R b2 rg vr 6000 (by decide) h2 (c2.at w0.inn).one p2 (by omega) w hw) (λu M hM=>?_)
  obtain ⟨s3,bad3,b3,q3,p3,rfl⟩:=hM
  have l3:b3.length≤b2.length+(9+rg.length):=q3.len
  refine sA ?_
  refine sp rfl<|sp rfl<|sp rfl<|sP (.pointer (some ⟨gx,f+13,none⟩)) ?_
  refine Sy.callT (λw hw=>long_w w0.inn gc gw gx (f+13) bad3 s3 R b3 tk h3 (c3.at w0.inn).one p3 (by omega) w hw) (λu M hM=>?_)
  obtain ⟨s4,bad4,b4,q4,p4,rfl⟩:=hM
  have l4:b4.length≤b3.length+8:=q4.len
  refine sA ?_
  refine sp rfl<|sp rfl<|sp rfl<|sP (.pointer (some ⟨gx,f+14,none⟩)) ?_
  refine Sy.callT (λw hw=>digest_w w0.inn gc gw gx (f+14) bad4 s4 R b4 en h4 (c4.at w0.inn).left p4 (by omega) w hw) (λu M hM=>?_)
  obtain ⟨s5,bad5,b5,q5,p5,rfl⟩:=hM
  have l5:b5.length≤b4.length+32:=q5.len
  refine Sy.nil<|Sy.then_<|Sy.region ?_
  refine sp rfl<|sp rfl<|sp rfl<|sP (.pointer (some ⟨gx,f+46,none⟩)) ?_
  refine Sy.callT (λw hw=>scalar_w w0.inn gc gw gx (f+46) bad5 s5 R b5 (Cu.fws sc) sc ⟨rfl,h5⟩ rfl (c5.at w0.inn) p5 (by show _+32≤_; omega) w hw) (λu M hM=>?_)
  obtain ⟨s6,bad6,b6,q6,p6,rfl⟩:=hM
  have l6:b6.length≤b5.length+32:=q6.len
  refine Sy.nil<|Sy.then_<|Sy.exit ?_
  refine Sy.in_pass (by decide) ?_
  refine Sy.then_exit<|Sy.in_exit ?_
  have q:=q1.then_ (q2.then_ (q3.then_ (q4.then_ (q5.then_ q6))))
  have e1:okO z=true:=by rcases hk with rfl | rfl <;> rfl
  have e2:okIS ⟨z,am,rg,tk,en,sc⟩=fulIS ⟨z,am,rg,tk,en,sc⟩:=by unfold okIS; rw [if_neg h0,if_pos hk]
  have e3:encIS ⟨z,am,rg,tk,en,sc⟩=[octB z]++bodyIS ⟨z,am,rg,tk,en,sc⟩:=by unfold encIS; rw [if_neg h0]
  rw [e1,Bool.true_and,Bool.true_and,Bool.true_and] at q
  exact Sy.retT0 rfl (CWS gc gw bad6 s6 R) (λ_ h=>h) (λ_=>⟨s6,bad6,b6,by rw [e2,e3]; exact q,p6,rfl⟩)
 refine Sy.seq<|Sy.block<|Sy.block<|Sy.seq<|Sy.block<|Sy.seq<|Sy.seq<|sC ?_
 refine sS (.bool false) (Quiet.pure (exec_int .eql _ _ _ .i64 _ _ _ rfl rfl rfl (int_eql _ _ _ _ _ (decide_eq_false (λe=>h0 e)))))<|sp rfl ?_
 refine sG<|sU<|Sy.skip<|Sy.then_<|Sy.seq<|sC ?_
 refine sS (.bool false) (Quiet.pure (exec_int .eql _ _ _ .i64 _ _ _ rfl rfl rfl (int_eql _ _ _ _ _ (decide_eq_false (λe=>hk (.inl e))))))<|sp rfl ?_
 refine sG<|sU<|Sy.skip<|Sy.then_<|sC ?_
 refine sS (.bool false) (Quiet.pure (exec_int .eql _ _ _ .i64 _ _ _ rfl rfl rfl (int_eql _ _ _ _ _ (decide_eq_false (λe=>hk (.inr e))))))<|sp rfl ?_
 refine sG<|sU<|Sy.skip<|Sy.then_<|Sy.exit ?_
 refine Sy.in_pass (by decide) ?_
 refine Sy.then_exit ?_
 refine Sy.in_pass (by decide) ?_
 refine Sy.in_pass (by decide) ?_
 refine Sy.then_exit<|Sy.in_exit<|sB ?_
 refine sp rfl ?_
 refine Sy.callT (λw hw=>must_w w0.inn gc gw bad1 false s1 R w hw) (λu M hM=>?_)
 subst hM
 refine sG<|Sy.exit<|Sy.in_exit ?_
 have hno:okIS ⟨z,am,rg,tk,en,sc⟩=false:=by unfold okIS; rw [if_neg h0,if_neg hk]
 exact Sy.retT0 rfl (CWS gc gw (bad1 || !false) s1 R) (λ_ h=>h) (λ_=>⟨s1,bad1 || !false,b1,⟨by rw [hno]; cases bad1 <;> cases bad <;> rfl,λh=>(by cases bad1 <;> cases h),by unfold wtIS; dsimp only; omega⟩,p1,rfl⟩)
end Wr
end
section
namespace Wr
open Go.RowKit Sy
set_option maxRecDepth 100000
set_option maxHeartbeats 4000000
theorem okO_of2 {z:Int} (h:okK2 z=true):okO z=true:=by
 unfold okK2 at h; unfold okO
 rw [Bool.and_eq_true,decide_eq_true_eq,decide_eq_true_eq] at h ⊢
 omega
theorem in_w:PutO 63 122 repIN okIN encIN wtIN:=λw0 gc gw gx f bad s R b cs x hx _ hc hb hl w hw=>by
 obtain ⟨z,pt,ix,iss,pg,wi⟩:=x
 obtain ⟨ci,cg,vw,rfl,h1,h2,h3,h4,h5⟩:=hx
 dsimp only at h1 h2 h3 h4 h5
 unfold wtIN at hl
 dsimp only at hl
 have m1:(pt.map bv++[Value.int .u32 (ix:Int)]).length=33:=by rw [List.length_append,List.length_map,h1]; rfl
 have m3:=lenIS h3
 have m4:=lenPG h4
 have c0:OwnAt R gx f ([.int .i64 z]++((pt.map bv++[.int .u32 (ix:Int)])++(ci++(cg++[vw])))):=hc
 have c1:OwnAt R gx (f+1) ((pt.map bv++[.int .u32 (ix:Int)])++(ci++(cg++[vw]))):=c0.right (n:=1) rfl
 have c2:OwnAt R gx (f+34) (ci++(cg++[vw])):=by have q:=c1.right m1; rwa [Nat.add_assoc] at q
 have c4:OwnAt R gx (f+84) (cg++[vw]):=by have q:=c2.right m3; rwa [Nat.add_assoc] at q
 have c5:OwnAt R gx (f+121) [vw]:=by have q:=c4.right m4; rwa [Nat.add_assoc] at q
 have X0:rdC w0.inn R gx f (.int .i64 z):=(c0.at w0.inn).one
 refine Sy.enterT (args:=[ptr gc,.pointer (some ⟨gx,f,none⟩)]) hw Tryz.func63 rfl kL ?_
 refine sC ?_
 refine sp rfl<|sp rfl<|sp rfl<|sP (.pointer (some ⟨gx,f,none⟩)) ?_
 refine Sy.callT (λw hw=>octet_w w0.inn gc gw gx f bad s R b z X0 hb (by omega) w hw) (λu M hM=>?_)
 obtain ⟨s1,bad1,b1,q1,p1,rfl⟩:=hM
 have l1:b1.length≤b.length+1:=q1.len
 refine sA ?_
 refine sp rfl<|sp rfl<|sp rfl<|sP (.pointer (some ⟨gx,f+1,none⟩)) ?_
 refine Sy.callT (λw hw=>outpoint_w w0.inn gc gw gx (f+1) bad1 s1 R b1 _ (pt,ix) ⟨rfl,h1,h2⟩ m1 (c1.left.at w0.inn) p1 (by show _+36≤_; omega) w hw) (λu M hM=>?_)
 obtain ⟨s2,bad2,b2,q2,p2,rfl⟩:=hM
 have l2:b2.length≤b1.length+36:=q2.len
 refine sA ?_
 refine sp rfl<|sp rfl<|sp rfl<|sP (.pointer (some ⟨gx,f+34,none⟩)) ?_
 refine Sy.callT (λw hw=>issue_w w0.inn gc gw gx (f+34) bad2 s2 R b2 ci iss h3 m3 c2.left p2 (by omega) w hw) (λu M hM=>?_)
 obtain ⟨s3,bad3,b3,q3,p3,rfl⟩:=hM
 have l3:b3.length≤b2.length+wtIS iss:=q3.len
 refine sG<|Sy.seq<|sC ?_
 refine sp rfl<|sp rfl<|sP (.pointer (some ⟨gx,f,none⟩))<|sS (.int .i64 z) (cellC (R:=R) X0 inCW rfl Tryz.underlying3) ?_
 refine sG<|Sy.block<|sC ?_
 have fine:∀ (okP:Bool) (eP:Byt) (bad4 bad5:Bool) (b4 b5:Byt),okK2 z=true→okIN ⟨z,pt,ix,iss,pg,wi⟩=(okIS iss && (okP && okW wi))→encIN ⟨z,pt,ix,iss,pg,wi⟩=[octB z]++(pt++(nb 4 ix++(encIS iss++(eP++encL encT wi))))→Wrote okP eP (wtPG pg) bad3 b3 bad4 b4→Wrote (okW wi) (encL encT wi) (9+(wi.map wtT).sum) bad4 b4 bad5 b5→Wrote (okIN ⟨z,pt,ix,iss,pg,wi⟩) (encIN ⟨z,pt,ix,iss,pg,wi⟩) (wtIN ⟨z,pt,ix,iss,pg,wi⟩) bad b bad5 b5:=λokP eP bad4 bad5 b4 b5 hk e1 e2 g4 g5=>by
  have q:=q1.then_ (q2.then_ (q3.then_ (g4.then_ g5)))
  rw [okO_of2 hk,Bool.true_and,Bool.true_and] at q
  rw [e1,e2]
  unfold encOP at q
  simp only [List.append_assoc] at q ⊢
  exact q
 by_cases hk1:z=1
 ·subst hk1
  obtain ⟨vt,vp,vs,rfl,d1,⟨A1,n1,k1,rfl,e1,_⟩,d3,d4,⟨A2,n2,k2,rfl,e2,_⟩,⟨A3,n3,k3,rfl,e3,_⟩⟩:=h4
  obtain ⟨ok,hok⟩:∃ ok,ok=nulPG pg:=⟨_,rfl⟩
  refine sP (.bool true)<|sp rfl ?_
  refine sG<|sT<|Sy.region ?_
  refine sp rfl<|sp rfl<|sp rfl<|sP (.pointer (some ⟨gx,f+84,none⟩))<|sS (.agg (cPG pg (.slice A1 n1 k1) (.slice A2 n2 k2) (.slice A3 n3 k3)).toArray) (rowC (R:=R) (cs:=cPG pg (.slice A1 n1 k1) (.slice A2 n2 k2) (.slice A3 n3 k3)) (c4.left.at w0.inn) inCW m4 rfl Tryz.underlying81)<|sS (.bool ok) (qg (λw _=>by rw [hok]; exact noPeg_any w pg A1 A2 A3 n1 k1 n2 k2 n3 k3 e1 e2 e3 d1)) ?_
  refine Sy.callT (λw hw=>must_w w0.inn gc gw bad3 ok s3 R w hw) (λu M hM=>?_)
  subst hM
  refine Sy.nil<|Sy.in_<|Sy.then_<|Sy.region ?_
  refine sp rfl<|sp rfl<|sp rfl<|sP (.pointer (some ⟨gx,f+121,none⟩)) ?_
  refine Sy.callT (λw hw=>list_w_wit (rep:=repY) one_y monoTT witness_w w0.inn gc gw gx (f+121) 16 (by decide) (bad3 || !ok) s3 R b3 vw wi h5 (c5.at w0.inn).one p3 (by omega) w hw) (λu M hM=>?_)
  obtain ⟨s5,bad5,b5,q5,p5,rfl⟩:=hM
  refine Sy.nil ?_
  exact Sy.retT0 rfl (CWS gc gw bad5 s5 R) (λ_ h=>h) (λ_=>⟨s5,bad5,b5,fine ok [] (bad3 || !ok) bad5 b3 b5 rfl (by rw [hok]; rfl) (by unfold encIN; rfl) ((Wrote.must ok bad3 b3).le (Nat.zero_le _)) q5,p5,rfl⟩)
 refine sS (.bool false) (Quiet.pure (exec_int .eql _ _ _ .i64 _ _ _ rfl rfl rfl (int_eql _ _ _ _ _ (decide_eq_false hk1))))<|sp rfl ?_
 refine sG<|sU<|sC ?_
 by_cases hk2:z=2
 ·subst hk2
  refine sP (.bool true)<|sp rfl ?_
  refine sG<|sT<|Sy.region ?_
  refine sp rfl<|sp rfl<|sp rfl<|sP (.pointer (some ⟨gx,f+84,none⟩)) ?_
  refine Sy.callT (λw hw=>peg_w w0.inn gc gw gx (f+84) bad3 s3 R b3 cg pg h4 m4 (c4.left.at w0.inn) p3 (by omega) w hw) (λu M hM=>?_)
  obtain ⟨s4,bad4,b4,q4,p4,rfl⟩:=hM
  have l4:b4.length≤b3.length+wtPG pg:=q4.len
  refine Sy.nil<|Sy.in_<|Sy.then_<|Sy.region ?_
  refine sp rfl<|sp rfl<|sp rfl<|sP (.pointer (some ⟨gx,f+121,none⟩)) ?_
  refine Sy.callT (λw hw=>list_w_wit (rep:=repY) one_y monoTT witness_w w0.inn gc gw gx (f+121) 16 (by decide) bad4 s4 R b4 vw wi h5 (c5.at w0.inn).one p4 (by omega) w hw) (λu M hM=>?_)
  obtain ⟨s5,bad5,b5,q5,p5,rfl⟩:=hM
  refine Sy.nil ?_
  exact Sy.retT0 rfl (CWS gc gw bad5 s5 R) (λ_ h=>h) (λ_=>⟨s5,bad5,b5,fine (okPG pg) (encPG pg) bad4 bad5 b4 b5 rfl rfl (by unfold encIN; rfl) q4 q5,p5,rfl⟩)
 have hno:okIN ⟨z,pt,ix,iss,pg,wi⟩=false:=by
  unfold okIN
  dsimp only
  rw [okK2_of (λh=>h.elim hk1 hk2)]; rfl
 refine sS (.bool false) (Quiet.pure (exec_int .eql _ _ _ .i64 _ _ _ rfl rfl rfl (int_eql _ _ _ _ _ (decide_eq_false hk2))))<|sp rfl ?_
 refine sG<|sU<|Sy.region ?_
 refine sp rfl ?_
 refine Sy.callT (λw hw=>must_w w0.inn gc gw bad3 false s3 R w hw) (λu M hM=>?_)
 subst hM
 refine Sy.nil<|Sy.in_<|Sy.then_<|Sy.region ?_
 refine sp rfl<|sp rfl<|sp rfl<|sP (.pointer (some ⟨gx,f+121,none⟩)) ?_
 refine Sy.callT (λw hw=>list_w_wit (rep:=repY) one_y monoTT witness_w w0.inn gc gw gx (f+121) 16 (by decide) (bad3 || !false) s3 R b3 vw wi h5 (c5.at w0.inn).one p3 (by omega) w hw) (λu M hM=>?_)
 obtain ⟨s5,bad5,b5,q5,p5,rfl⟩:=hM
 refine Sy.nil ?_
 have qb:=q5.bad
 have ql:=q5.len
 have hbt:bad5=true:=by rw [qb]; cases bad3 <;> rfl
 exact Sy.retT0 rfl (CWS gc gw bad5 s5 R) (λ_ h=>h) (λ_=>⟨s5,bad5,b5,⟨by rw [hno,hbt]; cases bad <;> rfl,λh=>(by rw [hbt] at h; cases h),by unfold wtIN; dsimp only; omega⟩,p5,rfl⟩)
noncomputable def inf_ins:TypeInfo:=(Tryz.prog.info? 83).getD default
theorem info_ins:Tryz.prog.info? 83=some inf_ins:=by kernel_rfl
noncomputable def K_ins:LK:=⟨83,23,132,201,133,202,205,286,285,335,62,108,109,111,112,171,208,63,122,376,([Value.int .i64 0]++((Z32++([Value.int .u32 0]))++(([Value.int .i64 0]++(([Value.bool false]++([Value.int .u64 0]++lPT ⟨0,0,false⟩))++([Value.slice none 0 0]++([Value.int .u64 0]++(Z32++(Cu.fws 0))))))++((Z32++([Value.slice none 0 0]++([Value.int .u32 0]++([Value.int .u32 0]++([Value.slice none 0 0]++([Value.slice none 0 0]))))))++([Value.slice none 0 0]))))),inf_ins⟩
theorem ok_ins:K_ins.Ok:={
 c_f0:=⟨_,_,Tryz.func62⟩,
 c_fL:=⟨_,_,Tryz.func108⟩,
 c_f1:=⟨_,_,Tryz.func109⟩,
 c_fP:=⟨_,_,Tryz.func111⟩,
 c_f2:=⟨_,_,Tryz.func112⟩,
 c_fI:=⟨_,_,Tryz.func171⟩,
 c_fJ:=⟨_,_,Tryz.func208⟩,
 ute:=⟨_,Tryz.underlying83,rfl⟩,
 uts:=Tryz.underlying23,
 ufw:=⟨_,Tryz.underlying133,rfl⟩,
 ufr:=⟨_,Tryz.underlying202,rfl⟩,
 inf:=info_ins,
 zero:=⟨_,rfl,by kernel_rfl⟩,
 size:=rfl,
 byt:=rfl,
 zl:=by kernel_rfl,
 pos:=(by decide:0<122),
 top:=(by decide:122≤16777216),
 btop:=(by decide:376≤100000000),
 its:=by kernel_rfl,
 ifw:=by kernel_rfl,
 ifr:=by kernel_rfl,
 zts:=⟨(Tryz.prog.info? 23).getD default,by kernel_rfl,by kernel_rfl⟩,
 e_fe:=enters_of Tryz.func63 kR rfl,
 e_f2:=enters_of Tryz.func112 kR rfl,
 e_fP:=enters_of Tryz.func111 kR rfl,
 e_f1:=enters_of Tryz.func109 kR rfl,
 e_fL:=enters_of Tryz.func108 kR rfl,
 e_fI:=enters_of Tryz.func171 kR rfl,
 e_fJ:=enters_of Tryz.func208 kR rfl }
theorem list_w_ins {α:Type} {rep:Rdr→List Value→α→Prop} {ok:α→Bool} {enc:α→Byt} {wt:α→Nat} (hm:Mono rep) (hp:PutO 63 122 rep ok enc wt) (w0:Base) (gc gw gx f most:Nat) (hmo:most<1000000) (bad:Bool) (s:Slc) (R:Blocks) (b:Byt) (v:Value) (l:List α) (hv:LstR (rdC w0 R) 122 rep v l) (hc:rdC w0 R gx f v) (hb:BS s b) (hlen:b.length+(9+(l.map wt).sum)≤70368744170000) (w:World) (hw:St w0 w (CWS gc gw bad s R)) :
  Calls Tryz.prog 62 #[ptr gc,.pointer (some ⟨gx,f,none⟩),.int .i64 (most:Int),.func (.func 63) #[] #[]] w (Turns w0 (WrC gc gw R (decide (l.length≤most) && l.all ok) (varB l.length++l.flatMap enc) (9+(l.map wt).sum) bad b)):=list_wG (rep:=rep) (ok:=ok) (enc:=enc) (wt:=wt) ok_ins hm hp w0 gc gw gx f most hmo bad s R b v l hv hc hb hlen w hw
end Wr
end
section
namespace Wr
open Go.RowKit Sy
set_option maxRecDepth 100000
set_option maxHeartbeats 4000000
theorem tx_w:PutC 30 3 repTR okTR encTR wtTR:=λw0 gc gw gx f bad s R b cs x hx _ hc hb hl w hw=>by
 obtain ⟨af,is,os⟩:=x
 obtain ⟨vi,vo,rfl,h1,h2,h3⟩:=hx
 dsimp only at h1 h2 h3
 unfold wtTR at hl
 dsimp only at hl
 have c0:XAt (rdC w0 R) gx f ([.int .u64 (af:Int)]++([vi]++[vo])):=hc
 have c1:XAt (rdC w0 R) gx (f+1) ([vi]++[vo]):=c0.right (n:=1) rfl
 have c2:XAt (rdC w0 R) gx (f+2) [vo]:=c1.right (n:=1) rfl
 refine Sy.enterT (args:=[ptr gc,.pointer (some ⟨gx,f,none⟩)]) hw Tryz.func30 rfl kL ?_
 refine sC ?_
 refine sp rfl<|sp rfl<|sp rfl<|sP (.pointer (some ⟨gx,f,none⟩)) ?_
 refine Sy.callT (λw hw=>long_w w0.inn gc gw gx f bad s R b af h1 c0.one hb (by omega) w hw) (λu M hM=>?_)
 obtain ⟨s1,bad1,b1,q1,p1,rfl⟩:=hM
 have l1:b1.length≤b.length+8:=q1.len
 refine sA ?_
 refine sp rfl<|sp rfl<|sp rfl<|sP (.pointer (some ⟨gx,f+1,none⟩)) ?_
 refine Sy.callT (λw hw=>list_w_ins (rep:=repIN) monoIN in_w w0.inn gc gw gx (f+1) 16 (by decide) bad1 s1 R b1 vi is h2 c1.one p1 (by omega) w hw) (λu M hM=>?_)
 obtain ⟨s2,bad2,b2,q2,p2,rfl⟩:=hM
 have l2:b2.length≤b1.length+(9+(is.map wtIN).sum):=q2.len
 refine Sy.nil<|Sy.then_<|Sy.region ?_
 refine sp rfl<|sp rfl<|sp rfl<|sP (.pointer (some ⟨gx,f+2,none⟩)) ?_
 refine Sy.callT (λw hw=>list_w_ous (rep:=repOU) monoOU out_w w0.inn gc gw gx (f+2) 16 (by decide) bad2 s2 R b2 vo os h3 c2.one p2 (by omega) w hw) (λu M hM=>?_)
 obtain ⟨s3,bad3,b3,q3,p3,rfl⟩:=hM
 have l3:b3.length≤b2.length+(9+(os.map wtOU).sum):=q3.len
 refine Sy.nil ?_
 have q:=q1.then_ (q2.then_ q3)
 simp only [Bool.true_and] at q
 exact Sy.retT0 rfl (CWS gc gw bad3 s3 R) (λ_ h=>h) (λ_=>⟨s3,bad3,b3,q,p3,rfl⟩)
theorem write_txx {α:Type} {rep:Rdr→List Value→α→Prop} {ok:α→Bool} {enc:α→Byt} {wt:α→Nat} (hm:Mono rep) (hp:PutC 30 3 rep ok enc wt) (w:World) (cs:List Value) (x:α) (hx:rep (rdW w) cs x) (hl:cs.length=3) (hwt:wt x≤70368744170000) :
  Calls Tryz.prog 29 #[.agg cs.toArray,.func (.func 30) #[] #[]] w (GetsN w (BytE (ok x) (enc x))):=by
 refine Sy.enter (args:=[.agg cs.toArray,.func (.func 30) #[] #[]]) Tryz.func29 rfl kL ?_
 refine sC ?_
 refine sM 26 cs.toArray (λgx=>?_) kR (λw=>run_boxR rfl rfl (by kernel_rfl) hl w)
 refine sP (.slice none 0 0)<|sP (.int .i64 0) ?_
 refine sA ?_
 refine Sy.callN kR 59 #[] kF _ (λw _=>new_any w) (λv M hM=>?_)
 obtain ⟨gw,rfl,rfl⟩:=hM
 refine sP (.agg #[ptr gw,.pointer none,.bool false])<|sM 126 #[ptr gw,.pointer none,.bool false] (λgc=>?_)
 refine sp rfl ?_
 refine sA ?_
 refine Sy.permS (M:=CWS gc gw false nilS [(gx,26,cs.toArray)]) (Sy.perm_at [2,1,0] (by kernel_rfl) (by rfl)) ?_
 refine sp rfl<|sp rfl ?_
 refine Sy.callT (λw' hw=>hp (Base.of w) gc gw gx 0 false nilS [(gx,26,cs.toArray)] [] cs x (hm rdW_base hx) hl (memX (List.mem_singleton.2 rfl)) BS.nil (by show 0+_≤_; omega) w' hw) (λv M hM=>?_)
 obtain ⟨s,bad,b,q1,q2,rfl⟩:=hM
 have hbl:b.length≤wt x:=by have:=q1.len; simpa using this
 refine sG<|Sy.seq<|sC ?_
 refine sp rfl<|sp rfl<|sP (.pointer (some ⟨gc,2,none⟩))<|sS (.bool bad) (qc 0 2 rfl rfl Tryz.underlying4) ?_
 refine sG ?_
 cases bad
 ·have hok:ok x=true:=by
   have e:=q1.bad
   cases h:ok x with
   | true=>rfl
   | false=>rw [h] at e; cases e
  obtain rfl:b=enc x:=by have:=q1.bytes rfl; simpa using this
  refine sU<|Sy.skip<|sB ?_
  refine sp rfl<|sp rfl<|sP (.pointer (some ⟨gc,0,none⟩))<|sS (ptr gw) (qc 0 0 rfl rfl Tryz.underlying122) ?_
  refine Sy.callT (λw' hw=>bytes_any (Base.of w) gw s ((gc,126,#[ptr gw,.pointer none,.bool false])::[(gx,26,cs.toArray)]) (enc x) q2 (by omega) w' (hw.perm permCW)) (λv M hM=>?_)
  obtain ⟨N,hN,rfl⟩:=hM
  refine sp rfl<|sP (.int .i64 0) ?_
  refine sG<|Sy.ret ?_
  exact Sy.retGM2 N rfl (.inl (show _=_ by kernel_rfl)) (.inl (show _=_ by kernel_rfl)) (λ_ h=>h.less (List.sublist_append_right _ _)) (.inl ⟨hok,v,rfl,hN⟩)
 ·have hok:ok x=false:=by
   have e:=q1.bad
   cases h:ok x with
   | false=>rfl
   | true=>rw [h] at e; cases e
  refine sT<|sC ?_
  refine sP (.slice none 0 0)<|sP (.int .i64 120) ?_
  refine sG<|Sy.ret<|Sy.then_ret ?_
  exact Sy.retGM2 [] rfl (.inl (show _=_ by kernel_rfl)) (.inl (show _=_ by kernel_rfl)) (λ_ h=>h.none) (.inr ⟨hok,rfl,rfl⟩)
theorem ex_txx {α:Type} {rep:Rdr→List Value→α→Prop} {ok:α→Bool} {enc:α→Byt} {wt:α→Nat} (hm:Mono rep) (hp:PutC 30 3 rep ok enc wt) (w:World) (cs:List Value) (x:α) (hx:rep (rdW w) cs x) (hl:cs.length=3) (hwt:wt x≤70368744170000) :
  Calls Tryz.prog 7 #[.agg cs.toArray] w (GetsN w (BytE (ok x) (enc x))):=by
 refine Sy.enter (args:=[.agg cs.toArray]) Tryz.func7 rfl kL ?_
 refine sC ?_
 refine sM 26 cs.toArray (λgx=>?_) kR (λw=>run_boxR rfl rfl (by kernel_rfl) hl w)
 refine sP (.slice none 0 0)<|sP (.int .i64 0) ?_
 refine sA ?_
 refine sS (.agg cs.toArray) (rowC (R:=[(gx,26,cs.toArray)]) (memX (List.mem_singleton.2 rfl)) (λ_ h=>h) hl rfl Tryz.underlying26) ?_
 refine Sy.callN kR 29 #[.agg cs.toArray,.func (.func 30) #[] #[]] kF (BytE (ok x) (enc x)) (λw' hw=>write_txx (rep:=rep) hm hp w' cs x (hm (λg o u h=>rdC_world (R:=[]) hw (λ_ h=>by cases h) g o u (.inl h)) hx) hl hwt) (λv M hM=>?_)
 have hv:∃ a e:Value,v=.tuple #[a,e]:=by
  rcases hM with ⟨_,u,rfl,_⟩ | ⟨_,rfl,_⟩ <;> exact ⟨_,_,rfl⟩
 obtain ⟨a,e,rfl⟩:=hv
 refine sp rfl<|sp rfl<|sp rfl<|sp rfl ?_
 refine sG<|Sy.ret ?_
 exact Sy.retGM2 M rfl (.inl (show _=_ by kernel_rfl)) (.inl (show _=_ by kernel_rfl)) (λ_ h=>h.less (List.sublist_append_right _ _)) hM
end Wr
end
section
namespace Wr
open Go.RowKit Sy
set_option maxRecDepth 100000
set_option maxHeartbeats 4000000
end Wr
end
section
namespace Wr
open Go.RowKit Sy
set_option maxRecDepth 100000
set_option maxHeartbeats 4000000
def szPU (o:MOu):Nat:=o.range.length+o.surject.length+o.note.length+o.script.length
def szIS (i:MIs):Nat:=i.range.length
def szPG (p:MPg):Nat:=p.tx.length+(p.path.length+p.script.length)
def szIN (i:MIn):Nat:=szIS i.issue+(szPG i.peg+(i.wit.length+(i.wit.map λx=>x.length).sum))
def szTR (t:MTr):Nat:=(t.ins.length+(t.ins.map szIN).sum)+(t.outs.length+(t.outs.map szPU).sum)
def szBL (b:MBl):Nat:=(b.header.reward.length+b.header.next.keys.length)+(b.sigs.length+(b.txs.length+(b.txs.map szTR).sum))
theorem sum_0 {α:Type} (l:List α):(l.map λ_=>0).sum=0:=by induction l with | nil=>rfl | cons a l ih=>rw [List.map_cons,List.sum_cons,ih]
theorem opn_sc:Opn 76 4 repSC (λ_=>0):=⟨λ{H enc W fuel cs x} hl hf=>by
 match cs,hl with
 | [c0,c1,c2,c3],_ =>
  obtain ⟨n,h1,h2⟩:=Cu.words_trod Tryz.underlying76 Tryz.underlying22 (by kernel_rfl) hf
  refine ⟨n,⟨h2,h1⟩,λu hu=>?_,bulk_pos _⟩
  rw [h2] at hu
  simp only [Cu.fws,List.mem_cons,List.not_mem_nil,or_false] at hu
  rcases hu with rfl | rfl | rfl | rfl <;> rfl⟩
theorem opn_u32:Opn 67 1 repW (λ_=>0):=opn_w Tryz.underlying67
theorem opn_ots:Opn 88 58 repOU szPU:=opn_out.as λC cs o h=>⟨o,h,Nat.le_refl _⟩
theorem opn_opt:Opn 69 33 repOP (λ_=>0):=(opn_s2 Tryz.underlying69 (by kernel_rfl) (by kernel_rfl) (by kernel_rfl) (by kernel_rfl) opn_dg opn_u32).as λC cs (a,b) ⟨a0,a1,e,⟨e0,h1⟩,⟨e1,h2⟩⟩=>by
 dsimp only at e0 e1 h1 h2
 subst e0 e1 e
 exact ⟨(a,b),⟨rfl,h1,h2⟩,Nat.zero_le _⟩
theorem opn_iss:Opn 78 50 repIS szIS:=(opn_s6 Tryz.underlying78 (by kernel_rfl) (by kernel_rfl) (by kernel_rfl) (by kernel_rfl) (by kernel_rfl) (by kernel_rfl) (by kernel_rfl) (by kernel_rfl) (by kernel_rfl) (by kernel_rfl) (by kernel_rfl) (by kernel_rfl) (opn_i Tryz.underlying3) opn_amt opn_raw opn_u64 opn_dg opn_sc).as λC cs (k,a,r,t,n,s) ⟨a0,a1,a2,a3,a4,a5,ec,e0,⟨e1,h1⟩,⟨v2,e2,h2⟩,⟨e3,h3⟩,⟨e4,h4⟩,⟨e5,h5⟩⟩=>by
 obtain rfl:a0=[.int .i64 k]:=e0
 dsimp only at e1 e2 e3 e4 e5 h1 h2 h3 h4 h5
 subst e1 e2 e3 e4 e5 ec
 exact ⟨⟨k,a,r,t,n,s⟩,⟨v2,rfl,h1,h2,h3,h4,h5⟩,by show r.length≤0+0+r.length+0+0+0; omega⟩
theorem opn_peg:Opn 81 37 repPG szPG:=(opn_s6 Tryz.underlying81 (by kernel_rfl) (by kernel_rfl) (by kernel_rfl) (by kernel_rfl) (by kernel_rfl) (by kernel_rfl) (by kernel_rfl) (by kernel_rfl) (by kernel_rfl) (by kernel_rfl) (by kernel_rfl) (by kernel_rfl) opn_dg opn_raw opn_u32 opn_u32 (opn_l Tryz.underlying79 (by kernel_rfl) (by decide) opn_dg) opn_raw).as λC cs (h,t,p,m,l,s) ⟨a0,a1,a2,a3,a4,a5,ec,⟨e0,h0⟩,⟨v1,e1,h1⟩,⟨e2,h2⟩,⟨e3,h3⟩,⟨v4,e4,h4⟩,⟨v5,e5,h5⟩⟩=>by
 dsimp only at e0 e1 e2 e3 e4 e5 h0 h1 h2 h3 h4 h5
 subst e0 e1 e2 e3 e4 e5 ec
 exact ⟨⟨h,t,p,m,l,s⟩,⟨v1,v4,v5,rfl,h0,h1,h2,h3,h4,h5⟩,by show t.length+(l.length+s.length)≤0+t.length+0+0+(l.length+(l.map λ_=>0).sum)+s.length; rw [sum_0]; omega⟩
theorem opn_inp:Opn 83 122 repIN szIN:=(opn_s5 Tryz.underlying83 (by kernel_rfl) (by kernel_rfl) (by kernel_rfl) (by kernel_rfl) (by kernel_rfl) (by kernel_rfl) (by kernel_rfl) (by kernel_rfl) (by kernel_rfl) (by kernel_rfl) (opn_i Tryz.underlying3) opn_opt opn_iss opn_peg (opn_l Tryz.underlying66 (by kernel_rfl) (by decide) opn_raw)).as λC cs (k,o,i,g,w) ⟨a0,a1,a2,a3,a4,ec,e0,⟨e1,h1,h1'⟩,h2,h3,⟨v4,e4,h4⟩⟩=>by
 obtain rfl:a0=[.int .i64 k]:=e0
 dsimp only at e1 e4 h1 h1' h2 h3 h4
 subst e1 e4 ec
 exact ⟨⟨k,o.1,o.2,i,g,w⟩,⟨a2,a3,v4,rfl,h1,h1',h2,h3,h4⟩,by show szIS i+(szPG g+(w.length+(w.map λx=>x.length).sum))≤0+0+szIS i+szPG g+(w.length+(w.map λx=>x.length).sum); omega⟩
theorem opn_txx:Opn 26 3 repTR szTR:=(opn_s3 Tryz.underlying26 (by kernel_rfl) (by kernel_rfl) (by kernel_rfl) (by kernel_rfl) (by kernel_rfl) (by kernel_rfl) opn_u64 (opn_l Tryz.underlying23 (by kernel_rfl) (by decide) opn_inp) (opn_l Tryz.underlying24 (by kernel_rfl) (by decide) opn_ots)).as λC cs (a,i,o) ⟨a0,a1,a2,ec,⟨e0,h0⟩,⟨v1,e1,h1⟩,⟨v2,e2,h2⟩⟩=>by
 dsimp only at e0 e1 e2 h0 h1 h2
 subst e0 e1 e2 ec
 exact ⟨⟨a,i,o⟩,⟨v1,v2,rfl,h0,h1,h2⟩,by show (i.length+(i.map szIN).sum)+(o.length+(o.map szPU).sum)≤0+(i.length+(i.map szIN).sum)+(o.length+(o.map szPU).sum); omega⟩
theorem opn_s64:Opn 150 64 (repN 64) (λ_=>0):=opn_n Tryz.underlying150 Tryz.underlying5 (by kernel_rfl) (by kernel_rfl)
theorem opn_sgd:Opn 152 65 repSG (λ_=>0):=(opn_s2 Tryz.underlying152 (by kernel_rfl) (by kernel_rfl) (by kernel_rfl) (by kernel_rfl) (opn_i Tryz.underlying3) opn_s64).as λC cs (k,s) ⟨a0,a1,e,e0,⟨e1,h1⟩⟩=>by
 obtain rfl:a0=[.int .i64 k]:=e0
 dsimp only at e1 h1
 subst e1 e
 exact ⟨⟨k,s⟩,⟨rfl,h1⟩,Nat.zero_le _⟩
theorem opn_blk:Opn 38 104 repBL szBL:=(opn_s3 Tryz.underlying38 (by kernel_rfl) (by kernel_rfl) (by kernel_rfl) (by kernel_rfl) (by kernel_rfl) (by kernel_rfl) opn_hdr (opn_l Tryz.underlying35 (by kernel_rfl) (by decide) opn_sgd) (opn_l Tryz.underlying36 (by kernel_rfl) (by decide) opn_txx)).as λC cs (h,s,t) ⟨a0,a1,a2,ec,h0,⟨v1,e1,h1⟩,⟨v2,e2,h2⟩⟩=>by
 dsimp only at e1 e2 h0 h1 h2
 subst e1 e2 ec
 exact ⟨⟨h,s,t⟩,⟨a0,v1,v2,rfl,h0,h1,h2⟩,by show (h.reward.length+h.next.keys.length)+(s.length+(t.length+(t.map szTR).sum))≤(h.reward.length+h.next.keys.length)+(s.length+(s.map λ_=>0).sum)+(t.length+(t.map szTR).sum); rw [sum_0]; omega⟩
end Wr
end
section
namespace Wr
open Go.RowKit Sy
set_option maxRecDepth 100000
set_option maxHeartbeats 4000000
def m0:MTx:=⟨1,[⟨2,List.replicate 32 0⟩]⟩
def b49:Byt:=encMT m0
theorem m0_ok:okMT m0=true:=by kernel_rfl
theorem b49_len:b49.length=49:=by kernel_rfl
theorem m0_rd:allP rdMT b49=some m0:=by kernel_rfl
theorem m0_at {w0:Base} {w:World} {L:Blocks} {g:Nat} {t:TypeId} (hw:St w0 w L) (hL:(g,t,(Value.int .u64 2::Z32).toArray)∈L):repMT (rdW w) [.int .u64 1,.slice (some ⟨g,0,none⟩) 1 1] m0:=by
 refine ⟨_,rfl,(show 1<18446744073709551616 by decide),_,_,_,rfl,rfl,Nat.le_refl _,(by decide),λ_=>⟨g,0,rfl,λj x hx=>?_⟩⟩
 cases j with
 | succ j=>cases hx
 | zero =>
  cases hx
  refine ⟨Value.int .u64 2::Z32,rfl,λu hu=>?_,⟨rfl,by decide,rfl⟩,λi u hu=>?_⟩
  ·rcases List.mem_cons.1 hu with rfl | hu
   ·rfl
   ·obtain ⟨y,_,rfl⟩:=List.mem_map.1 hu; rfl
  ·exact rdB_world hw (R:=[(g,t,(Value.int .u64 2::Z32).toArray)]) (λb hb=>by rw [List.mem_singleton.1 hb]; exact hL) _ _ _ ⟨t,_,List.mem_singleton.2 rfl,by rw [Nat.zero_mul,Nat.add_zero,Nat.zero_add,List.getElem?_toArray]; exact hu⟩
theorem alive12 (w:World):Calls Tryz.prog 12 #[] w (Gets w (.bool true)):=by
 refine Sy.enter (args:=[]) Tryz.func12 rfl kL ?_
 refine sC ?_
 refine sP (.bool false) ?_
 refine sA ?_
 refine sP (.agg (Value.int .u64 2::Z32).toArray) ?_
 refine Sy.make kR 58 (Value.int .u64 2::Z32).toArray (λg=>.slice (some ⟨g,0,none⟩) 1 1) (Makes.one 59 58 _ _ 33 _ (Value.int .u64 2::Z32) rfl kR Tryz.underlying59 info_mo rfl rfl rfl (by decide) (by decide)) (λg=>?_)
 refine sP (.agg #[.int .u64 1,.slice (some ⟨g,0,none⟩) 1 1]) ?_
 refine Sy.callN kR 36 #[.agg #[.int .u64 1,.slice (some ⟨g,0,none⟩) 1 1]] kF (BytE (okMT m0) b49) (λw' hw=>ex_mtx (rep:=repMT) (ok:=okMT) (enc:=encMT) (wt:=wtMT) monoMT mainTx_w w' [.int .u64 1,.slice (some ⟨g,0,none⟩) 1 1] m0 (m0_at hw (List.mem_append_right _ (List.mem_singleton.2 rfl))) rfl (by decide)) (λv M1 hM=>?_)
 rcases hM with ⟨_,u,rfl,hN⟩ | ⟨h,_⟩
 case inr=>rw [m0_ok] at h; cases h
 have hN0:=hN.byt
 obtain ⟨A,n,cp,rfl,h2,h3,h4,h5⟩:=hN.byt
 obtain rfl:49=n:=by rw [← h2]; exact b49_len.symm
 obtain ⟨gb,ob,rfl,hq⟩:=h5 (by intro e; have q:=b49_len; rw [e] at q; cases q)
 refine sp rfl<|sp rfl<|sp rfl<|sp rfl<|sp rfl ?_
 refine sA ?_
 refine sp rfl ?_
 refine Sy.callN kR 37 #[.slice (some ⟨gb,ob,none⟩) 49 cp] kF (RdE 2 ([Value.int .u64 0]++[Value.slice none 0 0]) repMT (allP rdMT b49)) (λw' hw=>rdx_mtx (rep:=repMT) (p:=rdMT) monoMT (@oneMT) mainTx_r w' _ b49 (hN0.le (rdB_world hw (λb hb=>List.mem_append_right _ hb))) (by rw [b49_len]; decide)) (λv M2 hM=>?_)
 rcases hM with ⟨x,cs,hx,rfl,hcs,hrep⟩ | ⟨h,_⟩
 case inr=>rw [m0_rd] at h; cases h
 rw [m0_rd] at hx
 obtain rfl:m0=x:=by injection hx
 obtain ⟨v2,rfl,_,A2,n2,c2,rfl,k2,k3,k4,k5⟩:=hrep
 obtain rfl:1=n2:=k2
 obtain ⟨g2,o2,rfl,hq2⟩:=k5 (by intro e; cases e)
 obtain ⟨cs0,d1,d2,⟨rfl,_,_⟩,d3⟩:=hq2 0 _ rfl
 refine sp rfl<|sp rfl<|sp rfl ?_
 refine sM 61 #[.int .u64 0,.slice none 0 0] (λg3=>?_)
 refine Sy.permS List.perm_append_comm ?_
 refine sw 0 rfl #[.int .u64 1,.slice (some ⟨g2,o2,none⟩) 1 c2] (wA rfl)<|sp rfl ?_
 refine sA ?_
 refine sP (.agg zOut.toArray) ?_
 refine Sy.callN kR 38 #[.agg zOut.toArray] kF (BytE false []) (λw' hw=>ex_outz (rep:=repOZ) (ok:=λ_=>false) (enc:=λ_=>[]) (wt:=λ_=>1) monoOZ outz_w w' zOut () rfl rfl (by decide)) (λv M3 hM=>?_)
 rcases hM with ⟨h,_⟩ | ⟨_,rfl,rfl⟩
 case inl=>cases h
 rw [List.append_nil]
 refine sp rfl<|sp rfl<|sp rfl<|sp rfl<|sp rfl ?_
 obtain ⟨X,hX⟩:∃ X,X=[(g,58,(Value.int .u64 2::Z32).toArray)]++M1++M2:=⟨_,rfl⟩
 have i1:∀ b∈M1,b∈(g3,61,#[.int .u64 1,.slice (some ⟨g2,o2,none⟩) 1 c2])::([]++[(g,58,(Value.int .u64 2::Z32).toArray)]++M1++M2):=λb hb=>by simp [hb]
 have i2:∀ b∈M2,b∈(g3,61,#[.int .u64 1,.slice (some ⟨g2,o2,none⟩) 1 c2])::([]++[(g,58,(Value.int .u64 2::Z32).toArray)]++M1++M2):=λb hb=>by simp [hb]
 refine sA ?_
 refine sp rfl<|sP (.bool true)<|sp rfl<|sp rfl<|sP (.int .i64 49)<|sP (.bool true)<|sP (.bool true) ?_
 refine sp rfl<|sp rfl<|sS (.pointer (some ⟨gb,ob+7*1,none⟩)) (Quiet.pure (exec_atO 29 _ _ _ (some ⟨gb,ob,none⟩) gb ob 49 cp 7 1 .i64 rfl rfl rfl rfl Tryz.underlying29 kF (by decide)))<|sS (bv 1) (cellC (w0:=Base.of w) (R:=M1) (g:=gb) (f:=ob+7*1) (v:=bv 1) (.inr (hq 7 1 (by kernel_rfl))) i1 rfl Tryz.underlying5)<|sP (.bool true)<|sP (.bool true) ?_
 refine sp rfl<|sp rfl<|sS (.pointer (some ⟨gb,ob+8*1,none⟩)) (Quiet.pure (exec_atO 29 _ _ _ (some ⟨gb,ob,none⟩) gb ob 49 cp 8 1 .i64 rfl rfl rfl rfl Tryz.underlying29 kF (by decide)))<|sS (bv 1) (cellC (w0:=Base.of w) (R:=M1) (g:=gb) (f:=ob+8*1) (v:=bv 1) (.inr (hq 8 1 (by kernel_rfl))) i1 rfl Tryz.underlying5)<|sP (.bool true)<|sP (.bool true) ?_
 refine sp rfl<|sp rfl<|sP (.bool true)<|sP (.bool true) ?_
 refine sp rfl<|sP (.pointer (some ⟨g3,0,none⟩))<|sS (.int .u64 1) (qc 0 0 rfl rfl Tryz.underlying22)<|sP (.bool true)<|sP (.bool true) ?_
 refine sp rfl<|sP (.pointer (some ⟨g3,1,none⟩))<|sS (.slice (some ⟨g2,o2,none⟩) 1 c2) (qc 0 1 rfl rfl Tryz.underlying59)<|sP (.int .i64 1)<|sP (.bool true)<|sP (.bool true) ?_
 refine sp rfl<|sP (.pointer (some ⟨g3,1,none⟩))<|sS (.slice (some ⟨g2,o2,none⟩) 1 c2) (qc 0 1 rfl rfl Tryz.underlying59)<|sS (.pointer (some ⟨g2,o2+0*33,none⟩)) (Quiet.pure (exec_atO 59 _ _ _ (some ⟨g2,o2,none⟩) g2 o2 1 c2 0 33 .i64 rfl rfl rfl rfl Tryz.underlying59 kF (by decide)))<|sP (.pointer (some ⟨g2,o2+0*33,none⟩))<|sS (.int .u64 2) (cellC (w0:=Base.of w) (R:=M2) (g:=g2) (f:=o2+0*33) (v:=.int .u64 2) (.inr d3.one) i2 rfl Tryz.underlying22)<|sP (.bool true)<|sP (.bool true) ?_
 refine sp rfl<|sp rfl<|sP (.bool true)<|sP (.bool true)<|sp rfl ?_
 refine sG<|Sy.ret ?_
 exact rV (.bool true) rfl
end Wr
end
section
namespace Wr
open Go.RowKit Sy
set_option maxRecDepth 100000
set_option maxHeartbeats 4000000
end Wr
end
section
namespace Wr
open Go.RowKit Sy
set_option maxRecDepth 100000
set_option maxHeartbeats 4000000
end Wr
end
section
namespace Wr
open Go.RowKit Sy
set_option maxRecDepth 100000
set_option maxHeartbeats 4000000
end Wr
end
section
namespace Wr
open Go.RowKit Sy
set_option maxRecDepth 100000
set_option maxHeartbeats 4000000
def szOU (o:MOu):Nat:=o.range.length+o.surject.length+o.note.length+o.script.length
end Wr
end
section
namespace Wr
open Go.RowKit Sy
set_option maxRecDepth 100000
set_option maxHeartbeats 4000000
theorem opn_cfg:Opn 56 102 repCF (λt=>t.fed.keys.length+(t.coins.length+(t.coins.map szOU).sum)):=(opn_s5 Tryz.underlying56 (by kernel_rfl) (by kernel_rfl) (by kernel_rfl) (by kernel_rfl) (by kernel_rfl) (by kernel_rfl) (by kernel_rfl) (by kernel_rfl) (by kernel_rfl) (by kernel_rfl) opn_dg opn_u64 opn_par opn_mhd (opn_l Tryz.underlying24 (by kernel_rfl) (by decide) opn_out)).as λC cs (p,d,f,m,c) ⟨a0,a1,a2,a3,a4,ec,⟨e0,h0⟩,⟨e1,h1⟩,h2,h3,⟨v,e4,h4⟩⟩=>by
 dsimp only at e0 e1 e4 h0 h1 h2 h3 h4
 subst e0 e1 e4 ec
 exact ⟨⟨p,d,f,m,c⟩,⟨_,_,v,rfl,h0,h1,h2,h3,h4⟩,by show f.keys.length+(c.length+(c.map szOU).sum)≤0+0+f.keys.length+0+(c.length+(c.map szOU).sum); omega⟩
end Wr
end
section
namespace Wr
open Go.RowKit Sy
set_option maxRecDepth 100000
set_option maxHeartbeats 4000000
theorem sum_32' (l:List Byt):(l.map λ_=>32).sum=32*l.length:=by
 induction l with
 | nil=>rfl
 | cons o l ih=>rw [List.map_cons,List.sum_cons,ih,List.length_cons]; omega
end Wr
end
section
namespace Wr
open Go.RowKit Sy
set_option maxRecDepth 100000
set_option maxHeartbeats 4000000
end Wr
end
section
namespace Wr
open Go.RowKit Sy
set_option maxRecDepth 100000
set_option maxHeartbeats 4000000
def domTG (t:MTag):Prop:=t.id.length=32∧t.pt.x<Cu.K4∧t.pt.y<Cu.K4
def domAM (t:MAmt):Prop:=t.value<18446744073709551616∧t.pt.x<Cu.K4∧t.pt.y<Cu.K4
def domTx (x:Byt):Prop:=x.length<18446744073709551616
def domOU (x:MOu):Prop:=True∧domTG x.asset∧domAM x.amount∧domTx x.range∧domTx x.surject∧domTx x.note∧domTx x.script
def domPA (x:MPa):Prop:=True∧(x.keys.length<18446744073709551616∧∀ k∈x.keys,k.length=32)
def domMH (x:MHd):Prop:=x.prev.length=32∧x.root.length=32∧x.height<18446744073709551616∧x.nonce<18446744073709551616
def domHE (h:MHe):Prop:=h.prev.length=32∧h.height<18446744073709551616∧h.time<18446744073709551616∧h.root.length=32∧h.main.length=32∧domTx h.reward∧domPA h.next
def domCF (x:MCf):Prop:=x.peg.length=32∧x.depth<18446744073709551616∧domPA x.fed∧domMH x.main∧(x.coins.length<18446744073709551616∧∀ o∈x.coins,domOU o)
end Wr
end
section
namespace Wr
open Go.RowKit Sy
set_option maxRecDepth 100000
set_option maxHeartbeats 4000000
def domIS (i:MIs):Prop:=domAM i.amount∧domTx i.range∧i.tokens<18446744073709551616∧i.entropy.length=32∧i.blind<Cu.K4
def domPG (x:MPg):Prop:=x.header.length=32∧domTx x.tx∧x.place<4294967296∧x.many<4294967296∧(x.path.length<18446744073709551616∧∀ k∈x.path,k.length=32)∧domTx x.script
def domIN (i:MIn):Prop:=i.prev.length=32∧i.index<4294967296∧domIS i.issue∧domPG i.peg∧i.wit.length<18446744073709551616∧∀ x∈i.wit,domTx x
def domTR (x:MTr):Prop:=x.after<18446744073709551616∧(x.ins.length<18446744073709551616∧∀ o∈x.ins,domIN o)∧(x.outs.length<18446744073709551616∧∀ o∈x.outs,domOU o)
end Wr
end
section
namespace Wr
open Go.RowKit Sy
set_option maxRecDepth 100000
set_option maxHeartbeats 4000000
theorem lst_dom {α:Type} {C:Rdr} {k:Nat} {rep:Rdr→List Value→α→Prop} {v:Value} {l:List α} {dom:α→Prop} (h:LstR C k rep v l) (hd:∀ cs x,rep C cs x→dom x):l.length<18446744073709551616∧∀ x∈l,dom x:=by
 obtain ⟨A,n,cp,rfl,h2,h3,h4,h5⟩:=h
 refine ⟨by simp only [maxLen] at h4; omega,λx hx=>?_⟩
 obtain ⟨g,o,_,hq⟩:=h5 (by intro e; rw [e] at hx; cases hx)
 obtain ⟨j,hj⟩:=List.getElem?_of_mem hx
 obtain ⟨cs,_,_,h6,_⟩:=hq j x hj
 exact hd cs x h6
theorem byt_dom {C:Rdr} {v:Value} {b:Byt} (h:BytR C v b):domTx b:=by
 obtain ⟨A,n,cp,rfl,h2,h3,h4,_⟩:=h
 unfold domTx
 simp only [maxLen] at h4; omega
theorem domOU_of {C:Rdr} {cs:List Value} {o:MOu} (h:repOU C cs o):domOU o:=by
 obtain ⟨vr,vs,vn,vc,_,h1,h2,h3,h4,h5,h6⟩:=h
 exact ⟨trivial,h1,h2,byt_dom h3,byt_dom h4,byt_dom h5,byt_dom h6⟩
theorem domPG_of {C:Rdr} {cs:List Value} {p:MPg} (h:repPG C cs p):domPG p:=by
 obtain ⟨vt,vp,vs,_,h1,h2,h3,h4,h5,h6⟩:=h
 exact ⟨h1,byt_dom h2,h3,h4,lst_dom h5 (λ_ _ h=>h.2),byt_dom h6⟩
theorem domIS_of {C:Rdr} {cs:List Value} {i:MIs} (h:repIS C cs i):domIS i:=by
 obtain ⟨vr,_,h1,h2,h3,h4,h5⟩:=h
 exact ⟨h1,byt_dom h2,h3,h4,h5⟩
theorem domIN_of {C:Rdr} {cs:List Value} {i:MIn} (h:repIN C cs i):domIN i:=by
 obtain ⟨ci,cg,vw,_,h1,h2,h3,h4,h5⟩:=h
 exact ⟨h1,h2,domIS_of h3,domPG_of h4,lst_dom h5 (λ_ _ ⟨_,_,h⟩=>byt_dom h)⟩
theorem domTR_of {C:Rdr} {cs:List Value} {t:MTr} (h:repTR C cs t):domTR t:=by
 obtain ⟨vi,vo,_,h1,h2,h3⟩:=h
 exact ⟨h1,lst_dom h2 (λ_ _ h=>domIN_of h),lst_dom h3 (λ_ _ h=>domOU_of h)⟩
theorem domHE_of {C:Rdr} {cs:List Value} {h:MHe} (hx:repHE C cs h):domHE h:=by
 obtain ⟨vr,vk,_,h1,h2,h3,h4,h5,h6,h7⟩:=hx
 exact ⟨h1,h4,h5,h2,h3,byt_dom h6,trivial,lst_dom h7 (λ_ _ h=>h.2)⟩
theorem sum_lin {α:Type} {wt sz:α→Nat} {a c:Nat} (h:∀ x,wt x≤a*sz x+c) (l:List α):(l.map wt).sum≤a*(l.map sz).sum+c*l.length:=by
 induction l with
 | nil=>exact Nat.zero_le _
 | cons x l ih =>
  have q:=h x
  rw [List.map_cons,List.sum_cons,List.map_cons,List.sum_cons,List.length_cons,Nat.mul_add,Nat.mul_succ]
  omega
theorem linOU (o:MOu):wtOU o≤1*szPU o+105:=by unfold wtOU szPU; omega
theorem linIN (i:MIn):wtIN i≤32*szIN i+300:=by
 have a:=sum_lin (wt:=wtT) (sz:=λx=>x.length) (a:=1) (c:=9) (λx=>by unfold wtT; omega) i.wit
 unfold wtIN wtIS wtPG szIN szIS szPG
 rw [sum_32']
 omega
theorem linTR (t:MTr):wtTR t≤332*szTR t+100:=by
 have a:=sum_lin linIN t.ins
 have b:=sum_lin linOU t.outs
 unfold wtTR szTR
 omega
theorem sum_65 (l:List MSg):(l.map λ_=>65).sum=65*l.length:=by
 induction l with
 | nil=>rfl
 | cons o l ih=>rw [List.map_cons,List.sum_cons,ih,List.length_cons]; omega
theorem linBL (b:MBl):wtBL b≤432*szBL b+300:=by
 have a:=sum_lin linTR b.txs
 unfold wtBL szBL wtHE wtPA
 rw [sum_65,sum_32']
 omega
end Wr
end
section
namespace Wr
open Go.RowKit Sy
theorem linCF (t:MCf):wtCF t≤140*(t.fed.keys.length+(t.coins.length+(t.coins.map szOU).sum))+300:=by
 have h:∀ o,wtOU o≤1*szOU o+105:=λo=>by unfold wtOU szOU; omega
 have b:=sum_lin h t.coins
 unfold wtCF wtPA
 rw [sum_32']
 omega
end Wr
end
section
namespace Wr
open Go.RowKit Sy
set_option maxRecDepth 100000
set_option maxHeartbeats 4000000
def bareI (x:MIn):MIn:={ x with wit:=[] }
def bareT (t:MTr):MTr:={ t with ins:=t.ins.map bareI }
theorem lst_no {α:Type} (C:Rdr) (k:Nat) (rep:Rdr→List Value→α→Prop):LstR C k rep (.slice none 0 0) []:=⟨none,0,0,rfl,rfl,Nat.le_refl _,Nat.zero_le _,λh=>(h rfl).elim⟩
theorem set_last {α:Type} (A:List α) (v u:α) (n:Nat) (hA:A.length=n):(A++[v]).set n u=A++[u]:=by
 rw [List.set_append_right _ _ (by omega),hA,Nat.sub_self]; rfl
theorem wit_rep {C:Rdr} {cs:List Value} {x:MIn} (h:repIN C cs x) (v:Value) (w:List Byt) (hw:LstR C 1 repY v w):repIN C (cs.set 121 v) { x with wit:=w }:=by
 obtain ⟨ci,cg,vw,rfl,h1,h2,h3,h4,h5⟩:=h
 have e:∀ u:Value,[Value.int .i64 x.kind]++((x.prev.map bv++[Value.int .u32 (x.index:Int)])++(ci++(cg++[u])))=([Value.int .i64 x.kind]++((x.prev.map bv++[Value.int .u32 (x.index:Int)])++(ci++cg)))++[u]:=λu=>by simp only [List.append_assoc]
 have hl:([Value.int .i64 x.kind]++((x.prev.map bv++[Value.int .u32 (x.index:Int)])++(ci++cg))).length=121:=by
  simp only [List.length_append,List.length_map,h1,lenIS h3,lenPG h4]; rfl
 exact ⟨ci,cg,v,by rw [e,set_last _ _ _ _ hl]; exact (e v).symm,h1,h2,h3,h4,hw⟩
theorem strip_rep {C:Rdr} {cs:List Value} {x:MIn} (h:repIN C cs x):repIN C (cs.set 121 (.slice none 0 0)) (bareI x):=wit_rep h _ [] (lst_no C 1 repY)
theorem wt_bareI (x:MIn):wtIN (bareI x)≤wtIN x:=by
 unfold wtIN bareI
 simp only [List.map_nil,List.sum_nil]
 omega
theorem sum_le_map {α:Type} {f g:α→Nat} (h:∀ x,f x≤g x) (l:List α):(l.map f).sum≤(l.map g).sum:=by
 induction l with
 | nil=>exact Nat.le_refl 0
 | cons x l ih=>have q:=h x; rw [List.map_cons,List.map_cons,List.sum_cons,List.sum_cons]; omega
theorem wt_bareT (t:MTr):wtTR (bareT t)≤wtTR t:=by
 have q:=sum_le_map wt_bareI t.ins
 have e:((t.ins.map bareI).map wtIN).sum=(t.ins.map λx=>wtIN (bareI x)).sum:=by rw [List.map_map]; rfl
 unfold wtTR bareT
 dsimp only
 rw [e]
 omega
def RowsX {α:Type} (C:Rdr) (e:TypeId) (k:Nat) (rep:Rdr→List Value→α→Prop) (r:Slc) (l:List α):Prop :=
 ∃ xs:List (List Value),r.Is e k xs∧xs.length=l.length∧∀ (j:Nat) (x:α),l[j]? = some x→∃ cs,xs[j]? = some cs∧rep C cs x
theorem RowsX.nil {α:Type} {C:Rdr} {e:TypeId} {k:Nat} {rep:Rdr→List Value→α→Prop}:RowsX C e k rep nilS ([]:List α):=⟨[],Slc.Is.nil _ _,rfl,λj x h=>by cases h⟩
theorem RowsX.lst {α:Type} {C D:Rdr} {e:TypeId} {k:Nat} {rep:Rdr→List Value→α→Prop} (hm:Mono rep) {r:Slc} {l:List α} (hC:Le C D) (hB:Le (rdB r.bl) D) (h:RowsX C e k rep r l):LstR D k rep r.v l:=by
 obtain ⟨xs,h1,h2,h3⟩:=h
 rcases h1.row with ⟨rfl,rfl⟩ | ⟨g,cap,tl,rfl,q1,q2,q3⟩
 ·have:l=[]:=by cases l with | nil=>rfl | cons=>cases h2
  subst this
  exact lst_no _ _ _
 ·rw [h2] at q2
  refine ⟨_,_,_,by rw [h2],rfl,q2,q3,λ_=>⟨g,0,rfl,λj x hx=>?_⟩⟩
  obtain ⟨cs,c1,c2⟩:=h3 j x hx
  have hl:=h1.len _ (List.mem_of_getElem? c1)
  refine ⟨cs,hl,h1.one _ (List.mem_of_getElem? c1),hm hC c2,λi u hu=>hB _ _ _ ⟨e,_,List.mem_singleton.2 rfl,?_⟩⟩
  have q:=flat_at' tl h1.len j cs c1
  have hi:i<k:=by rw [← hl]; exact (List.getElem?_eq_some_iff.1 hu).1
  rw [← q,List.getElem?_take_of_lt hi,List.getElem?_drop] at hu
  rw [Nat.zero_add,List.getElem?_toArray]
  exact hu
theorem flat_set {s i:Nat} {v:Value} (hi:i<s):∀ {xs:List (List Value)},(∀ x∈xs,x.length=s)→∀ {k:Nat} {cs:List Value},xs[k]? = some cs→xs.flatten.set (k*s+i) v=(xs.set k (cs.set i v)).flatten
 | [],_,_,_,h=>by cases h
 | a::xs,hl,0,cs,h=>by
  cases h
  have ha:=hl a (List.mem_cons_self ..)
  rw [List.flatten_cons,Nat.zero_mul,Nat.zero_add,List.set_append_left _ _ (by omega)]; rfl
 | a::xs,hl,k+1,cs,h=>by
  have ha:=hl a (List.mem_cons_self ..)
  have e:(k+1)*s+i - a.length=k*s+i:=by rw [ha,Nat.add_mul]; omega
  rw [List.flatten_cons,List.set_append_right _ _ (by rw [ha,Nat.add_mul]; omega),e,flat_set hi (λx hx=>hl x (List.mem_cons_of_mem _ hx)) (k:=k) (cs:=cs) h]
  rfl
theorem RowsX.set {α:Type} {C:Rdr} {e:TypeId} {s g nn cap:Nat} {cells:Array Value} {rep:Rdr→List Value→α→Prop} {l:List α} (h:RowsX C e s rep ⟨.slice (some ⟨g,0,none⟩) nn cap,[(g,e,cells)]⟩ l) (k i:Nat) (v:Value) (x y:α) (hx:l[k]? = some x) (hi:i<s) (hv:v.oneCell'=true) (hr:∀ cs,rep C cs x→rep C (cs.set i v) y):RowsX C e s rep ⟨.slice (some ⟨g,0,none⟩) nn cap,[(g,e,cells.setIfInBounds (k*s+i) v)]⟩ (l.set k y)∧k*s+i<cells.size:=by
 obtain ⟨xs,h1,h2,h3⟩:=h
 rcases h1.row with ⟨_,e1⟩ | ⟨g',cap',tl,e1,q1,q2,q3⟩
 ·injection e1 with e1 _; cases e1
 ·injection e1 with e1 e2
  injection e1 with e3 e4 e5
  injection e3 with e3
  injection e3 with e3
  subst e3 e5
  have e2:cells=(xs.flatten++tl).toArray:=by injection e2 with e2; injection e2 with _ e2; injection e2
  subst e2
  obtain ⟨cs,c1,c2⟩:=h3 k x hx
  have hk:=(List.getElem?_eq_some_iff.1 c1).1
  have hcl:=h1.len cs (List.mem_of_getElem? c1)
  have hfl:=flat_len' h1.len
  have hlt:k*s+i<xs.flatten.length:=by
   rw [hfl]
   have:(k+1)*s≤xs.length*s:=Nat.mul_le_mul_right s hk
   rw [Nat.add_mul] at this
   omega
  have hl2:∀ z∈xs.set k (cs.set i v),z.length=s:=λz hz=>by
   rcases List.mem_or_eq_of_mem_set hz with hz | rfl
   ·exact h1.len z hz
   ·rw [List.length_set]; exact hcl
  refine ⟨⟨xs.set k (cs.set i v),⟨hl2,λz hz u hu=>?_,.inr ⟨g,cap,tl,?_,by rw [List.length_set]; exact q1,by rw [List.length_set]; exact q2,q3⟩⟩,by rw [List.length_set,List.length_set,h2],λj z hz=>?_⟩,by rw [List.size_toArray,List.length_append]; omega⟩
  ·rcases List.mem_or_eq_of_mem_set hz with hz | rfl
   ·exact h1.one z hz u hu
   ·rcases List.mem_or_eq_of_mem_set hu with hu | rfl
    ·exact h1.one cs (List.mem_of_getElem? c1) u hu
    ·exact hv
  ·rw [e4,List.length_set,List.setIfInBounds_toArray,List.set_append_left _ _ hlt,flat_set hi h1.len c1]
  ·rw [List.getElem?_set] at hz ⊢
   by_cases ej:k=j
   ·subst ej
    rw [if_pos rfl] at hz
    rw [if_pos rfl,if_pos hk]
    rw [if_pos (by omega)] at hz
    injection hz with hz
    subst hz
    exact ⟨_,rfl,hr cs c2⟩
   ·rw [if_neg ej] at hz
    rw [if_neg ej]
    exact h3 j z hz
theorem rows_of {α:Type} {C:Rdr} {k:Nat} {rep:Rdr→List Value→α→Prop} {A:Option Addr} {n cp:Nat} {l:List α} (h:LstR C k rep (.slice A n cp) l):∃ xs:List (List Value),xs.length=l.length∧(∀ (j:Nat) (cs:List Value),xs[j]? = some cs→cs.length=k∧(∀ u∈cs,u.oneCell'=true)∧∃ x,l[j]? = some x∧rep C cs x)∧(xs=[]∨∃ g o,A=some ⟨g,o,none⟩∧XAt C g o xs.flatten):=by
 obtain ⟨A',n',cp',e0,h2,h3,h4,h5⟩:=h
 injection e0 with e1 e2 e3
 subst e1 e2 e3
 by_cases hl:l=[]
 ·subst hl
  exact ⟨[],rfl,λ_ _ h=>(by cases h),.inl rfl⟩
 obtain ⟨g,o,rfl,hq⟩:=h5 hl
 have key:∀ m,m≤l.length→∃ xs:List (List Value),xs.length=m∧(∀ (j:Nat) (cs:List Value),xs[j]? = some cs→cs.length=k∧(∀ u∈cs,u.oneCell'=true)∧∃ x,l[j]? = some x∧rep C cs x)∧XAt C g o xs.flatten:=by
  intro m
  induction m with
  | zero=>intro _; exact ⟨[],rfl,λ_ _ h=>(by cases h),λ_ _ h=>(by cases h)⟩
  | succ m ih =>
   intro hm
   obtain ⟨xs,z1,z2,z3⟩:=ih (by omega)
   obtain ⟨x,hx⟩:∃ x,l[m]? = some x:=⟨_,List.getElem?_eq_getElem (by omega)⟩
   obtain ⟨cs,c1,c2,c3,c4⟩:=hq m x hx
   refine ⟨xs++[cs],by rw [List.length_append,z1]; rfl,λj cz hj=>?_,λi u hu=>?_⟩
   ·rcases Nat.lt_or_ge j xs.length with hlt | hge
    ·rw [List.getElem?_append_left hlt] at hj
     exact z2 j cz hj
    ·rw [List.getElem?_append_right hge] at hj
     cases hjz:j - xs.length with
     | zero =>
      rw [hjz] at hj
      cases hj
      obtain rfl:j=m:=by omega
      exact ⟨c1,c2,x,hx,c3⟩
     | succ i=>rw [hjz] at hj; cases hj
   ·have hall:∀ y∈xs,y.length=k:=λy hy=>by
     obtain ⟨j,hj⟩:=List.getElem?_of_mem hy
     exact (z2 j y hj).1
    have hfl:xs.flatten.length=m*k:=(flat_len' hall).trans (by rw [z1])
    rw [List.flatten_append,List.flatten_cons,List.flatten_nil,List.append_nil] at hu
    rcases Nat.lt_or_ge i xs.flatten.length with hlt | hge
    ·rw [List.getElem?_append_left hlt] at hu
     exact z3 i u hu
    ·rw [List.getElem?_append_right hge] at hu
     have:=c4 _ u hu
     rwa [hfl,Nat.add_assoc,Nat.add_sub_cancel' (by omega)] at this
 obtain ⟨xs,z1,z2,z3⟩:=key l.length (Nat.le_refl _)
 exact ⟨xs,z1,z2,.inr ⟨g,o,rfl,z3⟩⟩
theorem RowsX.of {α:Type} {C:Rdr} {e:TypeId} {k:Nat} {rep:Rdr→List Value→α→Prop} {r:Slc} {l:List α} {xs:List (List Value)} (hr:r.Is e k xs) (h1:xs.length=l.length) (h2:∀ (j:Nat) (cs:List Value),xs[j]? = some cs→cs.length=k∧(∀ u∈cs,u.oneCell'=true)∧∃ x,l[j]? = some x∧rep C cs x):RowsX C e k rep r l:=⟨xs,hr,h1,λj x hx=>by
 have hj:j<xs.length:=by rw [h1]; exact (List.getElem?_eq_some_iff.1 hx).1
 obtain ⟨_,_,y,hy,hr⟩:=h2 j xs[j] (List.getElem?_eq_getElem hj)
 rw [hx] at hy
 cases hy
 exact ⟨_,List.getElem?_eq_getElem hj,hr⟩⟩
theorem From.of {w0:Base} {L:Blocks} {R:Blocks} {g o:Nat} {cs:List Value} (h:XAt (rdC w0 R) g o cs) (hR:∀ b∈R,b∈L):From w0 L (some ⟨g,o,none⟩) cs:=λw hw=>.inr ⟨_,rfl,λj u hj=>by
 rw [addr_off]
 exact (rdC_world hw hR _ _ _ (h j u hj)).2⟩
def ClX {α:Type} (C:Rdr) (e:TypeId) (k:Nat) (rep:Rdr→List Value→α→Prop) (l:List α) (u:Value) (M:Blocks):Prop:=∃ y:Slc,u=y.v∧M=y.bl∧RowsX C e k rep y l
theorem cloneI_any {α:Type} {rep:Rdr→List Value→α→Prop} (w:World) (v:Value) (l:List α) (hv:LstR (rdW w) 122 rep v l) (hn:l.length≤100000000000):Calls Tryz.prog 32 #[v] w (GetsN w (ClX (rdW w) 83 122 rep l)):=by
 have hv0:=hv
 obtain ⟨A,n,cp,rfl,h2,h3,h4,h5⟩:=hv
 obtain ⟨xs,x1,x2,x3⟩:=rows_of hv0
 refine Sy.enter (args:=[.slice A n cp]) Tryz.func32 rfl kL ?_
 refine sC ?_
 refine sP (.slice none 0 0) ?_
 refine sG<|Sy.seq<|sC ?_
 rcases A with _ | a
 ·refine sp rfl<|sP (.bool true) ?_
  refine sG<|sT<|sC ?_
  refine sP (.slice none 0 0) ?_
  refine sG<|Sy.ret<|Sy.then_ret ?_
  have hz:l=[]:=by
   rcases l with _ | ⟨z,l⟩
   ·rfl
   ·obtain ⟨g,o,e,_⟩:=h5 (by simp); cases e
  subst hz
  exact Sy.retGM [] rfl (.inl (show _=some (.slice none 0 0) by kernel_rfl)) (λ_ h=>h) ⟨nilS,rfl,rfl,RowsX.nil⟩
 refine sp rfl<|sP (.bool false) ?_
 refine sG<|sU<|Sy.skip<|Sy.then_<|sC ?_
 refine Sy.make kR 83 #[] (λg=>.slice (some ⟨g,0,none⟩) 0 0) kF (λg1=>?_)
 refine sp rfl ?_
 have hr1:Slc.Is ⟨.slice (some ⟨g1,0,none⟩) 0 0,[(g1,83,#[])]⟩ 83 122 []:=Slc.Is.mk' (cs:=[]) (λ_ h=>by cases h) (λ_ h=>by cases h) rfl rfl rfl (Nat.le_refl _) (by decide)
 have hf:∀ L',From (Base.of w) L' (some a) xs.flatten:=λL'=>by
  rcases x3 with rfl | ⟨g,o,e,hx⟩
  ·exact λ_ _=>.inl rfl
  ·injection e with e
   subst e
   exact From.of (R:=[]) (λi u hu=>rdW_base _ _ _ (hx i u hu)) (λ_ h=>by cases h)
 refine Sy.appendM (pre:=[]) (T:=[]) (r:=⟨.slice (some ⟨g1,0,none⟩) 0 0,[(g1,83,#[])]⟩) kR 23 83 _ _ 122 376 Tryz.underlying23 info_ins rfl rfl rfl rfl (by decide) _ _ rfl hr1 kR (λy hy=>by obtain ⟨j,hj⟩:=List.getElem?_of_mem hy; exact (x2 j y hj).1) (λy hy=>by obtain ⟨j,hj⟩:=List.getElem?_of_mem hy; exact (x2 j y hj).2.1) (some a) n cp (by omega) h3 kR (λr=>hf _) (by simp only [List.length_nil]; omega) (by simp only [List.length_nil,maxLen]; omega) (λs2 hs2=>?_)
 refine sp rfl ?_
 refine sG<|Sy.ret ?_
 exact Sy.retGM s2.bl rfl (.inl (show _=some s2.v by kernel_rfl)) (λ_ h=>by simpa using h) ⟨s2,rfl,rfl,RowsX.of hs2 (by rw [List.nil_append,x1]) (λj cs hj=>x2 j cs (by simpa using hj))⟩
theorem lst_const {α:Type} {C D:Rdr} {k:Nat} {rep:Rdr→List Value→α→Prop} {v:Value} {l:List α} (hl:Le C D) (h:LstR C k rep v l):LstR D k (λ_=>rep C) v l:=by
 obtain ⟨A,n,cp,h1,h2,h3,h4,h5⟩:=h
 refine ⟨A,n,cp,h1,h2,h3,h4,λhne=>?_⟩
 obtain ⟨g,o,e,hq⟩:=h5 hne
 refine ⟨g,o,e,λj x hx=>?_⟩
 obtain ⟨cs,q1,q2,q3,q4⟩:=hq j x hx
 exact ⟨cs,q1,q2,q3,q4.le hl⟩
theorem cloneI_at {w0:Base} {w:World} {L:Blocks} (hw:St w0 w L) (v:Value) (l:List MIn) (hv:LstR (rdW w0.world) 122 repIN v l) (hn:l.length≤100000000000):Calls Tryz.prog 32 #[v] w (GetsN w (ClX (rdW w0.world) 83 122 repIN l)) :=
 cloneI_any w v l (lst_const (λg o u h=>rdC_world (R:=[]) hw (λ_ h=>by cases h) g o u (.inl h)) hv) hn
end Wr
end
section
namespace Ec
variable {n:Nat} [NeZero n] {inv:Fin n→Fin n}
end Ec
end
section
namespace Cu
open Go.RowKit Sy
end Cu
end
section
namespace Cu
open Go.RowKit Sy
set_option maxRecDepth 100000
set_option maxHeartbeats 4000000
end Cu
end
section
namespace Cu
open Go.RowKit Sy
end Cu
end
section
namespace Cu
open Go.RowKit Sy
set_option maxRecDepth 100000
set_option maxHeartbeats 4000000
end Cu
end
section
namespace Cu
open Go.RowKit Sy
set_option maxRecDepth 100000
set_option maxHeartbeats 4000000
end Cu
end
section
namespace Cu
open Go.RowKit Sy
set_option maxRecDepth 100000
set_option maxHeartbeats 4000000
end Cu
end
section
namespace Ec
variable {n:Nat} [NeZero n] {inv:Fin n→Fin n} {α:Type}
end Ec
end
section
namespace Cu
open Go.RowKit Sy
end Cu
end
section
namespace Cu
open Go.RowKit Sy
set_option maxRecDepth 100000
set_option maxHeartbeats 4000000
end Cu
end
section
namespace Cu
open Go.RowKit Sy
end Cu
end
section
namespace Cu
open Go.RowKit Sy
end Cu
end
section
namespace Cu
open Go.RowKit Sy
set_option maxRecDepth 100000
set_option maxHeartbeats 4000000
end Cu
end
section
namespace Cu
open Go.RowKit Sy
theorem texts_blk {w:World} {g:Nat} {t:TypeId} {ts:List Sh.Tx} (hb:Blk w g t (ts.map Sh.Tx.val).toArray) (hok:∀ x∈ts,x.ok w):Sh.Texts w (some ⟨g,0,none⟩) ts:=λ_ =>
 ⟨g,0,rfl,hb.lt,λj y hy=>by
  rw [Nat.zero_add]
  refine ⟨(hb.cell j).trans ?_,hok y (List.mem_of_getElem? hy)⟩
  rw [List.getElem?_toArray,List.getElem?_map,hy]
  rfl⟩
theorem tag_c (w:World) (nm:ByteArray) (hnm:nm.size≤1000000000) (g:Nat) (t:TypeId) (ts:List Sh.Tx) (n ct:Nat) (X:List UInt8) (hX:Sh.cat ts=X) (hn:ts.length=n) (hb:Blk w g t (ts.map Sh.Tx.val).toArray) (hok:∀ x∈ts,x.ok w) (hl:X.length≤1000000000) (hn2:n≤1000000000) (ht:Sh.TabAt w 1) :
  Calls Tryz.prog 33 #[.string nm,.slice (some ⟨g,0,none⟩) n ct] w (Gets w (.agg ((Sh.taggedS nm.data.toList X).map bv).toArray)):=by
 subst hX hn
 exact Sh.tagged_any w nm _ ts ct (texts_blk hb hok) ht hnm hl hn2
end Cu
end
section
namespace Wr
open Go.RowKit Sy
set_option maxRecDepth 100000
set_option maxHeartbeats 4000000
theorem lnL {α:Type} {f:α→Byt} {wt:α→Nat} {l:List α} (h:∀ x∈l,(f x).length≤wt x):(encL f l).length≤9+(l.map wt).sum:=by
 have q:=varB_len l.length
 have key:∀ l:List α,(∀ x∈l,(f x).length≤wt x)→(l.flatMap f).length≤(l.map wt).sum:=λl=>by
  induction l with
  | nil=>exact λ_=>Nat.le_refl 0
  | cons x l ih =>
   intro h
   have a:=h x (List.mem_cons_self ..)
   have b:=ih λy hy=>h y (List.mem_cons_of_mem _ hy)
   rw [List.flatMap_cons,List.length_append,List.map_cons,List.sum_cons]
   omega
 have k:=key l h
 unfold encL
 rw [List.length_append]
 omega
theorem lnT (b:Byt):(encT b).length≤9+b.length:=by
 have q:=varB_len b.length
 unfold encT
 rw [List.length_append]; omega
theorem lnPT (p:MPt):(encPT p).length=33:=Cu.encS_length _
theorem lnTG {t:MTag} (h:domTG t):(encTG t).length≤34:=by
 have q:=lnPT t.pt
 have q2:=h.1
 unfold encTG
 rw [List.length_append]
 split <;> simp only [List.length_cons,List.length_nil] <;> omega
theorem lnAM (t:MAmt):(encAM t).length≤34:=by
 have q:=lnPT t.pt
 have q2:=nb_len 8 t.value
 unfold encAM
 rw [List.length_append]
 split <;> simp only [List.length_cons,List.length_nil] <;> omega
theorem lnOU {o:MOu} (h:domOU o):(encOU o).length≤wtOU o:=by
 have q1:=lnTG h.2.1
 have q2:=lnAM o.amount
 have q3:=lnT o.range
 have q4:=lnT o.surject
 have q5:=lnT o.note
 have q6:=lnT o.script
 unfold encOU wtOU
 simp only [List.length_append,List.length_cons,List.length_nil]
 omega
theorem lnIS {i:MIs} (h:domIS i):(encIS i).length≤wtIS i:=by
 have q1:=lnAM i.amount
 have q2:=lnT i.range
 have q3:=nb_len 8 i.tokens
 have q4:=h.2.2.2.1
 have q5:(encSC i.blind).length=32:=by unfold encSC; exact bytesS_length _
 unfold encIS wtIS bodyIS
 split <;> simp only [List.length_append,List.length_cons,List.length_nil] <;> omega
theorem lnPG {p:MPg} (h:domPG p):(encPG p).length≤wtPG p:=by
 have q1:=h.1
 have q2:=lnT p.tx
 have q3:=nb_len 4 p.place
 have q4:=nb_len 4 p.many
 have q5:=lnL (f:=λd:Byt=>d) (wt:=λ_=>32) (l:=p.path) (λx hx=>Nat.le_of_eq (h.2.2.2.2.1.2 x hx))
 have q6:=lnT p.script
 unfold encPG wtPG
 simp only [List.length_append]
 omega
theorem lnIN {i:MIn} (h:domIN i):(encIN i).length≤wtIN i:=by
 have q1:=h.1
 have q2:=nb_len 4 i.index
 have q3:=lnIS h.2.2.1
 have q4:=lnPG h.2.2.2.1
 have q5:=lnL (f:=encT) (wt:=wtT) (l:=i.wit) (λx _=>lnT x)
 unfold encIN wtIN
 split <;> simp only [List.length_append,List.length_cons,List.length_nil] <;> omega
theorem lnTR {t:MTr} (h:domTR t):(encTR t).length≤wtTR t:=by
 have q1:=nb_len 8 t.after
 have q2:=lnL (f:=encIN) (wt:=wtIN) (l:=t.ins) (λx hx=>lnIN (h.2.1.2 x hx))
 have q3:=lnL (f:=encOU) (wt:=wtOU) (l:=t.outs) (λx hx=>lnOU (h.2.2.2 x hx))
 unfold encTR wtTR
 simp only [List.length_append]
 omega
theorem lnE {ok:Bool} {e:Byt} {n:Nat} (h:e.length≤n):(byE ok e).length≤n:=by
 cases ok
 ·exact Nat.zero_le _
 ·exact h
theorem dom_bareT {t:MTr} (h:domTR t):domTR (bareT t):=by
 refine ⟨h.1,⟨by show (t.ins.map bareI).length<_; rw [List.length_map]; exact h.2.1.1,λo ho=>?_⟩,h.2.2⟩
 obtain ⟨x,hx,rfl⟩:=List.mem_map.1 ho
 have q:=h.2.1.2 x hx
 exact ⟨q.1,q.2.1,q.2.2.1,q.2.2.2.1,by show (0:Nat)<_; decide,λy hy=>by cases hy⟩
abbrev TbS (w:World):Prop:=Sh.TabAt w 1
theorem tbS_st {w0:Base} {w:World} {L:Blocks} (ht:TbS w0.world) (hw:St w0 w L):TbS w:=ht.below hw.below ht.lt
theorem srcW {w:World} {A:Option Addr} {n cp:Nat} {b:Byt} (h:BytR (rdW w) (.slice A n cp) b):Sh.Src w A b:=λhne=>by
 obtain ⟨A',n',cp',e,h2,h3,h4,h5⟩:=h
 injection e with e1 e2 e3
 subst e1
 obtain ⟨g,o,rfl,hq⟩:=h5 hne
 have hlt:0<b.length:=List.length_pos_iff.2 hne
 exact ⟨g,o,rfl,(hq 0 _ (List.getElem?_eq_getElem hlt)).1,λj u hu=>(hq j u hu).2⟩
theorem txOf {w:World} {v:Value} {b:Byt} (h:BytR (rdW w) v b):∃ x:Sh.Tx,x.val=v∧x.l=b∧x.ok w:=by
 have h0:=h
 obtain ⟨A,n,cp,rfl,h2,h3,h4,h5⟩:=h
 exact ⟨⟨A,b,cp⟩,by show Value.slice A b.length cp=_; rw [h2],rfl,srcW h0,by show b.length≤cp; omega,by simpa only [maxLen] using h4⟩
theorem tag_one (w:World) (nm:ByteArray) (hnm:nm.size≤1000000000) (g:Nat) (v:Value) (b:Byt) (h:BytR (rdW w) v b) (hb:Blk w g 29 #[v]) (hl:b.length≤1000000000) (ht:TbS w) :
  Calls Tryz.prog 33 #[.string nm,.slice (some ⟨g,0,none⟩) 1 1] w (Gets w (.agg ((Sh.taggedS nm.data.toList b).map bv).toArray)):=by
 obtain ⟨x,rfl,rfl,hx⟩:=txOf h
 exact Cu.tag_c w nm hnm g 29 [x] 1 1 x.l (by simp [Sh.cat]) rfl hb (λy hy=>by rw [List.mem_singleton.1 hy]; exact hx) hl (by decide) ht
def txNm:ByteArray:=⟨#[116,111,108,108,104,111,117,115,101,47,116,120]⟩
def idTR (t:MTr):Byt:=Sh.taggedS txNm.data.toList (byE (okTR (bareT t)) (encTR (bareT t)))
theorem tagged_len (n m:Byt):(Sh.taggedS n m).length=32:=Sh.sum_length _
def strip (k:Nat) (l:List MIn):List MIn:=(l.take k).map bareI++l.drop k
theorem strip_len (k:Nat) (l:List MIn):(strip k l).length=l.length:=by
 unfold strip; rw [List.length_append,List.length_map,List.length_take,List.length_drop]; omega
theorem strip_at {k:Nat} {l:List MIn} {x:MIn} (h:l[k]? = some x):(strip k l)[k]? = some x:=by
 have hk:=(List.getElem?_eq_some_iff.1 h).1
 unfold strip
 rw [List.getElem?_append_right (by rw [List.length_map,List.length_take]; omega),List.length_map,List.length_take,Nat.min_eq_left (Nat.le_of_lt hk),Nat.sub_self,List.getElem?_drop,Nat.add_zero]
 exact h
theorem strip_set {k:Nat} {l:List MIn} {x:MIn} (h:l[k]? = some x):(strip k l).set k (bareI x)=strip (k+1) l:=by
 have hk:=(List.getElem?_eq_some_iff.1 h).1
 have hx:=(List.getElem?_eq_some_iff.1 h).2
 unfold strip
 have hl:((l.take k).map bareI).length=k:=by rw [List.length_map,List.length_take]; omega
 rw [List.set_append_right _ _ (Nat.le_of_eq hl),hl,Nat.sub_self,List.drop_eq_getElem_cons hk,List.set_cons_zero,List.take_add_one,h,List.map_append,List.append_assoc]
 rfl
theorem strip_all (l:List MIn):strip l.length l=l.map bareI:=by
 unfold strip; rw [List.take_length,List.drop_length,List.append_nil]
theorem RowsX.open {α:Type} {C:Rdr} {e:TypeId} {k:Nat} {rep:Rdr→List Value→α→Prop} {r:Slc} {l:List α} (h:RowsX C e k rep r l) (hne:l≠[]):∃ g cap cells,r=⟨.slice (some ⟨g,0,none⟩) l.length cap,[(g,e,cells)]⟩:=by
 obtain ⟨xs,h1,h2,h3⟩:=h
 rcases h1.row with ⟨rfl,_⟩ | ⟨g,cap,tl,rfl,_⟩
 ·cases l with
  | nil=>exact (hne rfl).elim
  | cons=>cases h2
 ·exact ⟨g,cap,_,by rw [h2]⟩
theorem RowsX.val {α:Type} {C:Rdr} {e:TypeId} {k:Nat} {rep:Rdr→List Value→α→Prop} {r:Slc} {l:List α} (h:RowsX C e k rep r l):∃ A cap,r.v=.slice A l.length cap∧l.length≤cap∧cap≤maxLen:=by
 obtain ⟨xs,h1,h2,h3⟩:=h
 rcases h1.row with ⟨rfl,rfl⟩ | ⟨g,cap,tl,rfl,q1,q2,q3⟩
 ·exact ⟨none,0,by rw [← h2]; rfl,by rw [← h2]; exact Nat.le_refl 0,Nat.zero_le _⟩
 ·exact ⟨_,cap,by rw [h2],by omega,q3⟩
end Wr
end
section
namespace Wr
open Go.RowKit Sy
set_option maxRecDepth 100000
set_option maxHeartbeats 4000000
theorem sum_ge1 {α:Type} {wt:α→Nat} (h:∀ x,1≤wt x) (l:List α):l.length≤(l.map wt).sum:=by
 induction l with
 | nil=>exact Nat.le_refl 0
 | cons x l ih=>have q:=h x; rw [List.length_cons,List.map_cons,List.sum_cons]; omega
theorem txId_any (w:World) (cs:List Value) (x:MTr) (hx:repTR (rdW w) cs x) (hwt:wtTR x≤1000000000) (ht:TbS w):Calls Tryz.prog 10 #[.agg cs.toArray] w (Gets w (.agg ((idTR x).map bv).toArray)):=by
 have hdom:=dom_bareT (domTR_of hx)
 obtain ⟨af,is,os⟩:=x
 obtain ⟨vi,vo,rfl,h1,hI,hO⟩:=hx
 dsimp only at h1 hI hO
 obtain ⟨A,n,cp,rfl,hn1,hn2,hn3,hn4⟩:=id hI
 obtain ⟨A2,n2,cp2,rfl,ho1,ho2,ho3,ho4⟩:=id hO
 have hin:is.length≤100000000000:=by
  have q:=sum_ge1 (wt:=wtIN) (λx=>by unfold wtIN; omega) is
  unfold wtTR at hwt
  dsimp only at hwt
  omega
 show Calls Tryz.prog 10 #[.agg #[.int .u64 (af:Int),.slice A n cp,.slice A2 n2 cp2]] w _
 refine Sy.enter (args:=[.agg #[.int .u64 (af:Int),.slice A n cp,.slice A2 n2 cp2]]) Tryz.func10 rfl kL ?_
 refine sC ?_
 refine sM 26 #[.int .u64 (af:Int),.slice A n cp,.slice A2 n2 cp2] (λg1=>?_)
 refine sM 28 ((List.replicate 32 (0:UInt8)).map bv).toArray (λg2=>?_)
 refine sA ?_
 refine sP (.pointer (some ⟨g1,1,none⟩))<|sS (.slice A n cp) (qc 0 1 rfl rfl Tryz.underlying23) ?_
 refine Sy.callN kR 32 #[.slice A n cp] kF (ClX (rdW w) 83 122 repIN is) (λw' hw=>cloneI_at hw _ is hI hin) (λu M hM=>?_)
 obtain ⟨y,rfl,rfl,hy⟩:=hM
 obtain ⟨Ay,cpy,hyv,hc1,hc2⟩:=hy.val
 rw [hn1] at hyv hc1
 rw [hyv]
 refine sP (.pointer (some ⟨g1,1,none⟩))<|sw 0 rfl #[.int .u64 (af:Int),.slice Ay n cpy,.slice A2 n2 cp2] (Writes.one 1 23 (.slice Ay n cpy) _ _ rfl kR kR kR rfl rfl kL rfl) ?_
 refine sG<|Sy.seq<|sC ?_
 refine sP (.pointer (some ⟨g1,1,none⟩))<|sS (.slice Ay n cpy) (qc 0 1 rfl rfl Tryz.underlying23)<|sP (.int .i64 (n:Int))<|sP (.int .i64 0) ?_
 refine sG<|Sy.block ?_
 have hmx:n<9223372036854775808:=by simp only [maxLen] at hc2; omega
 refine Sy.loopT (Y:=Slc) n (λk z=>[(1,ptr g1),(2,ptr g2),(12,.int .i64 (n:Int)),(13,.int .i64 (k:Int))]) (λk z=>[(g1,26,#[.int .u64 (af:Int),.slice Ay n cpy,.slice A2 n2 cp2]),(g2,28,((List.replicate 32 (0:UInt8)).map bv).toArray)]++(z.bl++[])) (λk z=>RowsX (rdW w) 83 122 repIN z (strip k is)∧z.v=.slice Ay n cpy) y ⟨by have e:strip 0 is=is:=rfl; rw [e]; exact hy,hyv⟩ (all_cons kR (all_cons kR (all_cons kR (all_cons kR all_nil)))) (λ_ h=>by rw [List.append_nil]; exact h) (λk z hk hz=>?_)
 obtain ⟨hz,hzv⟩:=hz
 refine sC ?_
 obtain ⟨b2,hb2⟩:∃ t_:Bool,t_=decide (k<n):=⟨_,rfl⟩
 refine sS (.bool b2) (Quiet.pure (exec_int .lss _ _ _ .i64 _ _ _ rfl rfl rfl (int_lss _ _ _ _ _ (by rw [hb2]; exact decide_eq_decide.2 (by omega))))) ?_
 refine sG<|Sy.seq ?_
 cases b2
 case' true =>
  have l2:k<n:=of_decide_eq_true hb2.symm
  obtain ⟨x,hx⟩:∃ x,is[k]? = some x:=⟨_,List.getElem?_eq_getElem (by omega)⟩
  have hsn:(strip k is).length=n:=by rw [strip_len,hn1]
  obtain ⟨g,cap,cells,rfl⟩:=hz.open (by intro e; rw [e] at hsn; simp at hsn; omega)
  rw [hsn] at hz hzv
  injection hzv with e1 e2 e3
  subst e1 e3
  obtain ⟨hz2,hlt⟩:=hz.set k 121 (.slice none 0 0) x (bareI x) (strip_at hx) (by decide) rfl (λcs h=>strip_rep h)
  rw [strip_set hx] at hz2
  rw [hsn]
  refine sT<|Sy.skip<|Sy.then_<|Sy.seq<|Sy.block<|sC ?_
  refine sp rfl<|sp rfl ?_
  refine sG<|Sy.region ?_
  refine sP (.pointer (some ⟨g1,1,none⟩))<|sS (.slice (some ⟨g,0,none⟩) n cap) (qc 0 1 rfl rfl Tryz.underlying23)<|sp rfl<|sS (.pointer (some ⟨g,0+k*122,none⟩)) (Quiet.pure (exec_at 23 83 _ _ g 0 n cap k 122 .i64 rfl rfl rfl Tryz.underlying23 kF l2))<|sP (.pointer (some ⟨g,0+k*122+121,none⟩))<|sw 2 rfl (cells.setIfInBounds (k*122+121) (.slice none 0 0)) (Writes.one (0+k*122+121) 66 (.slice none 0 0) _ _ rfl kR kR kR rfl rfl (by omega) (by rw [show 0+k*122+121=k*122+121 by omega])) ?_
  refine Sy.nil<|Sy.in_<|Sy.then_<|Sy.region ?_
  refine sS (.int .i64 ((k+1:Nat):Int)) (Quiet.pure (exec_int .add _ _ _ .i64 _ _ _ rfl rfl rfl (int_add _ _ _ _ _ ((wrap_i64 (by omega) (by omega)).trans (by omega)))))<|sp rfl ?_
  refine Sy.nil ?_
  exact Sy.againT ⟨.slice (some ⟨g,0,none⟩) n cap,[(g,83,cells.setIfInBounds (k*122+121) (.slice none 0 0))]⟩ l2 ⟨hz2,rfl⟩ (all_cons kR (all_cons kR (all_cons kR (all_cons kR all_nil)))) (λ_ h=>h)
 have l2:¬ k<n:=of_decide_eq_false hb2.symm
 obtain rfl:k=n:=by omega
 refine sU<|Sy.exit<|Sy.then_exit<|Sy.then_exit<|Sy.in_exit<|Sy.then_ ?_
 have hzb:RowsX (rdW w) 83 122 repIN z (bareT ⟨af,is,os⟩).ins:=by
  show RowsX _ _ _ _ z (is.map bareI)
  rw [← strip_all,hn1]; exact hz
 refine sC ?_
 obtain ⟨d,hd⟩:∃ d,d=idTR ⟨af,is,os⟩:=⟨_,rfl⟩
 have hdl:(d.map bv).length=32:=by rw [List.length_map,hd]; exact tagged_len _ _
 rw [← hd]
 refine sS (.agg #[.int .u64 (af:Int),.slice Ay k cpy,.slice A2 n2 cp2]) (qk 0 0 3 rfl rfl Tryz.underlying26) ?_
 refine Sy.callN kR 7 #[.agg #[.int .u64 (af:Int),.slice Ay k cpy,.slice A2 n2 cp2]] kF (BytE (okTR (bareT ⟨af,is,os⟩)) (encTR (bareT ⟨af,is,os⟩))) (λw' hw=>ex_txx (rep:=repTR) monoTR tx_w w' [.int .u64 (af:Int),.slice Ay k cpy,.slice A2 n2 cp2] (bareT ⟨af,is,os⟩) ⟨_,_,rfl,h1,by
   rw [← hzv]
   exact RowsX.lst (rep:=repIN) (C:=rdW w) (D:=rdW w') monoIN (λg o u h=>rdC_world (R:=[]) hw (λ_ h=>by cases h) g o u (.inl h)) (λg o u h=>rdC_world (R:=z.bl) hw (λb hb=>by simp [hb]) g o u (.inr h)) hzb,LstR.le (rep:=repOU) monoOU (λg o u h=>rdC_world (R:=[]) hw (λ_ h=>by cases h) g o u (.inl h)) hO⟩ rfl (by have:=wt_bareT ⟨af,is,os⟩; omega)) (λu M hM=>?_)
 obtain ⟨u,rfl,hb⟩:=hM.uni
 have hb0:=hb
 obtain ⟨Au,nu,cu,rfl,u2,u3,u4,u5⟩:=hb
 refine sp rfl<|sp rfl<|sp rfl<|sp rfl<|sp rfl ?_
 refine sA ?_
 refine sp rfl ?_
 refine Sy.make kR 29 #[.slice Au nu cu] (λg=>.slice (some ⟨g,0,none⟩) 1 1) kF (λg3=>?_)
 have hlen:=lnTR hdom
 have hlw:=wt_bareT ⟨af,is,os⟩
 refine sS (.agg (d.map bv).toArray) (qg (λw' hw=>by
  rw [hd]
  exact tag_one w' txNm (by decide) g3 (.slice Au nu cu) _ (hb0.le (λg o u h=>rdC_world (R:=M) hw (λb hb=>by simp [hb]) g o u (.inr h))) (hw.blk g3 _ _ (by simp)).2 (lnE (by omega)) (tbS_st ht hw))) ?_
 refine sw 1 rfl (d.map bv).toArray (Writes.row 28 (d.map bv) 32 _ _ rfl kR kR kR hdl (by simp) (λu hu=>by obtain ⟨b,_,rfl⟩:=List.mem_map.1 hu; rfl)) ?_
 refine sG<|Sy.ret ?_
 exact Sy.ret1 rfl (.inl (Sy.Res.cell (ty':=28) g2 1 (d.map bv).toArray _ rfl rfl Tryz.underlying28 rfl (by rw [List.size_toArray,hdl]; kernel_rfl) rfl))
end Wr
end
section
namespace Sc
open Go.RowKit Go.Lib
def modV:Value:=.agg #[.int .u64 13822214165235122497,.int .u64 13451932020343611451,.int .u64 18446744073709551614,.int .u64 18446744073709551615,.int .u64 4624529908474429119,.int .u64 4994812053365940164,.int .u64 1]
theorem fv_P:fv 115792089237316195423570985008687907852837564279074904382605163141518161494337=.agg #[.int .u64 13822214165235122497,.int .u64 13451932020343611451,.int .u64 18446744073709551614,.int .u64 18446744073709551615]:=rfl
theorem refN_any (w:World):Calls Tryz.prog 274 #[] w λe w'=>e=.returned modV∧Below w.heap.size w w':=by
 go_enter Tryz.func274,Tryz.ntmps274
 go_wp2
 exact bodyPost_ret (results_cell_row rfl _ _ w.heap.size _ _ (0,0) _ rfl (heap_alloc_new w _) Tryz.underlying397 rfl (by kernel_rfl)) rfl ⟨rfl,(Below.refl _ _).alloc (Nat.le_refl _) _⟩
theorem refOf_any (w:World) (n:Nat) (hn:n<(2^256)):Calls Tryz.prog 275 #[fv n] w λe w'=>e=.returned (fv n)∧Below w.heap.size w w':=by
 obtain ⟨a,b,c,d,fn⟩:=words_fv n hn
 rw [fn]
 clear fn
 go_enter Tryz.func275,Tryz.ntmps275
 go_wp2
 exact bodyPost_ret (results_cell_row rfl _ _ (w.heap.size+1) _ _ (0,0) _ rfl (heap_alloc2_new w _ _) Tryz.underlying373 rfl (by kernel_rfl)) rfl ⟨rfl,below_alloc2 w _ _⟩
theorem refSc_any (w:World) (n:Nat) (hn:n<(2^256)):Calls Tryz.prog 272 #[fv n] w λe w'=>e=.returned (fv n)∧Below w.heap.size w w':=by
 obtain ⟨a,b,c,d,fn⟩:=words_fv n hn
 rw [fn]
 clear fn
 go_enter Tryz.func272,Tryz.ntmps272
 go_wp2
 exact bodyPost_ret (results_cell_row rfl _ _ (w.heap.size+1) _ _ (0,0) _ rfl (heap_alloc2_new w _ _) Tryz.underlying76 rfl (by kernel_rfl)) rfl ⟨rfl,below_alloc2 w _ _⟩
set_option maxHeartbeats 2000000 in
set_option maxRecDepth 100000 in
theorem normR_any (w:World) (x:Nat) (hx:x<(2^256)):Calls Tryz.prog 273 #[modV,fv x] w λe w'=>e=.returned (fv (x%pM))∧Below w.heap.size w w':=by
 obtain ⟨z,hz⟩:∃ z,z=x%pM:=⟨_,rfl⟩
 obtain ⟨p,hp⟩:∃ p,p=115792089237316195423570985008687907852837564279074904382605163141518161494337:=⟨_,rfl⟩
 have hpl:p<(2^256):=by omega
 obtain ⟨b,hb⟩:∃ b,b=decide (x<p):=⟨_,rfl⟩
 have cb:∀ w,Calls Tryz.prog 303 #[fv x,fv p] w λe w'=>e=.returned (.bool b)∧Below w.heap.size w w':=by
  intro w; rw [hb]; exact below_at w x p rfl rfl hx hpl
 have t1:b=true→z=x:=λh=>by
  rw [hb] at h
  rw [hz]
  exact Nat.mod_eq_of_lt (by rw [pM_eq, ← hp]; simpa using h)
 have cm:b=false→∀ w,Calls Tryz.prog 304 #[fv x,fv p] w λe w'=>e=.returned (fv z)∧Below w.heap.size w w':=λh w=>by
  rw [hb] at h
  have hle:¬ x<p:=by simpa using h
  have hzx:z+p=x:=by rw [hz,red_once x hx,if_neg (by omega)]; omega
  exact minusR_at w x p z 0 rfl rfl hx hpl (by omega) (by omega)
 have hpc:fv p=.agg #[.int .u64 13822214165235122497,.int .u64 13451932020343611451,.int .u64 18446744073709551614,.int .u64 18446744073709551615]:=by rw [hp]; exact fv_P
 obtain ⟨x0,x1,x2,x3,fx⟩:=words_fv x hx
 have FX:=Lib.hid fx
 have FP:=Lib.hid hpc
 rw [fx, ← hz]
 unfold modV
 clear fx hpc hx hz hp hpl hb
 go_enter Tryz.func273,Tryz.ntmps273
 go_wp2_with (first | ((with_reducible refine here_load (d:=some 6) ?_); refine wpList_load_fv rfl _ _ rfl (w.heap.size+1) rfl (x) _ _ _ ((blk_new2 w _ _ _).alloc _) (FX.out) Tryz.underlying373 rfl (by kernel_rfl) ?_) | ((with_reducible refine here_load (d:=some 8) ?_); refine wpList_load_part rfl _ _ rfl w.heap.size rfl p [.int .u64 13822214165235122497,.int .u64 13451932020343611451,.int .u64 18446744073709551614,.int .u64 18446744073709551615] _ (mod_range (((Blk.new w _ _).alloc _).alloc _)) FP.out Tryz.underlying373 rfl (by kernel_rfl) ?_))
 refine (cb _).mono ?_
 rintro e w1 ⟨rfl,k1⟩
 have BM:Blk w1 w.heap.size 397 _:=Gr.blk k1 (((Blk.new w _ _).alloc _).alloc _)
 have BX:Blk w1 (w.heap.size+1) 373 _:=Gr.blk k1 ((blk_new2 w _ _ _).alloc _)
 have BR:Blk w1 (w.heap.size+2) 373 _:=Gr.blk k1 (blk_new3 w _ _ _ _)
 have hB:=Below.gr (below_alloc3 w _ _ _) k1
 clear k1 cb
 cases b
 ·have cmm:=cm rfl
  clear cm t1
  go_wp2_with (first | ((with_reducible refine here_load (d:=some 12) ?_); refine wpList_load_fv rfl _ _ rfl (w.heap.size+1) rfl (x) _ _ _ (BX) (FX.out) Tryz.underlying373 rfl (by kernel_rfl) ?_) | ((with_reducible refine here_load (d:=some 14) ?_); refine wpList_load_part rfl _ _ rfl w.heap.size rfl p [.int .u64 13822214165235122497,.int .u64 13451932020343611451,.int .u64 18446744073709551614,.int .u64 18446744073709551615] _ (mod_range (BM)) FP.out Tryz.underlying373 rfl (by kernel_rfl) ?_))
  refine (cmm _).mono ?_
  rintro e w2 ⟨rfl,k2⟩
  have BR2:=Gr.blk k2 BR
  have hB2:=Below.gr hB k2
  clear k2 cmm
  go_wp2_with (first | ((with_reducible refine here_store ?_); refine wpList_store_blk rfl _ _ _ rfl (w.heap.size+2) (fcs (z)) rfl rfl _ _ (BR2) (by kernel_rfl) (by rfl) (fcs_one _) ?_; intro w9 hL9 hB9 hK9))
  exact bodyPost_ret (results_cell_row rfl _ _ (w.heap.size+2) _ _ (0,0) _ rfl hL9 Tryz.underlying373 rfl (by kernel_rfl)) rfl ⟨rfl,hB2.trans (hB9 _ (by omega))⟩
 ·have HZX:=Lib.hid (t1 rfl)
  clear t1 cm
  go_wp2_with (first | ((with_reducible refine here_load (d:=some 11) ?_); refine wpList_load_fv rfl _ _ rfl (w.heap.size+1) rfl (x) _ _ _ (BX) (FX.out) Tryz.underlying373 rfl (by kernel_rfl) ?_) | ((with_reducible refine here_store ?_); refine wpList_store_blk rfl _ _ _ rfl (w.heap.size+2) (fcs (x)) rfl rfl _ _ (BR) (by kernel_rfl) (by rfl) (fcs_one _) ?_; intro w9 hL9 hB9 hK9))
  exact bodyPost_ret (results_cell_row rfl _ _ (w.heap.size+2) _ _ (0,0) _ rfl hL9 Tryz.underlying373 rfl (by kernel_rfl)) rfl ⟨by rw [HZX.out]; rfl,hB.trans (hB9 _ (by omega))⟩
end Sc
end
section
namespace Sc
open Go.RowKit Go.Lib
end Sc
end
section
namespace Sc
open Go.RowKit Go.Lib
section
variable {P:Program} {ops:Array Oper}
end
end Sc
end
section
namespace Sc
open Go.RowKit Go.Lib
end Sc
end
section
namespace Nt
end Nt
end
section
namespace Cu
open Go.RowKit Sy
set_option maxRecDepth 100000
set_option maxHeartbeats 4000000
end Cu
end
section
namespace Cu
open Go.RowKit Sy
set_option maxRecDepth 100000
set_option maxHeartbeats 4000000
def modN:Array Value:=#[.int .u64 13822214165235122497,.int .u64 13451932020343611451,.int .u64 18446744073709551614,.int .u64 18446744073709551615,.int .u64 4624529908474429119,.int .u64 4994812053365940164,.int .u64 1]
end Cu
end
section
section
open Go.RowKit Go.Lib
end
end
section
namespace Cu
open Go.RowKit Sy
set_option maxRecDepth 100000
set_option maxHeartbeats 4000000
theorem bytesN2 (w:World) (x:Nat) (hx:x<K4):Calls Tryz.prog 239 #[fv x] w (GetsN w (λvq Mq=>∃ (g:Nat) (sp:List Value) (cap:Nat),vq=.slice (some ⟨g,0,none⟩) 32 cap∧(32≤cap∧cap≤9223372036854775807)∧Mq=[(g,5,((bytesS x).map bv++sp).toArray)])):=by
 refine (bytesR_any w x hx).mono ?_
 rintro e w' ⟨g,cap,rfl,ho,hl,hb⟩
 rcases ho.2 with ⟨h0,_⟩ | ⟨g',cap',cur,hv,hg,hk,q3,q4,q5,q6⟩
 ·cases h0
 ·cases hv
  have h32:=bytesS_length x
  rw [bytesS_length] at q6
  have hc:cur=((bytesS x).map bv++cur.toList.drop 32).toArray:=by
   rw [Nat.mul_one] at q6
   rw [← q6,List.take_append_drop]
  refine ⟨_,[(g,5,cur)],rfl,⟨g,cur.toList.drop 32,cap,rfl,⟨by omega,by simp only [maxLen] at q4; omega⟩,by rw [← hc]⟩,hb,λg1 t1 cs1 hm=>?_,by simp⟩
  simp only [List.mem_singleton,Prod.mk.injEq] at hm
  obtain ⟨rfl,rfl,rfl⟩:=hm
  exact ⟨by omega,hk⟩
theorem nsc_any (w:World) (a:Nat) (ha:a<K4):Calls Tryz.prog 238 #[fv a] w (Gets w (fv (a%Sc.pM))):=by
 refine Sy.enter (args:=[fv a]) Tryz.func238 rfl kL ?_
 refine sC ?_
 refine sM 76 (fcs a) (λg0=>?_)
 refine sM 76 (fcs 0) (λg1=>?_)
 refine sH (λj=>j == 5) ?_
 refine sD 0 rfl (.agg modN) (qF 274 #[] (Sc.refN_any))<|sD 1 rfl (fv a) (qL 0 g0 0 4 76 76 (fcs a) rfl Tryz.underlying76)<|sD 2 rfl (fv a) (qF 275 #[fv a] (λw=>Sc.refOf_any w a (by first | assumption | exact Sc.mod_lt _ | exact lt4 _ | exact valB_lt32 _ (by first | assumption | exact bytesS_length _) | decide +kernel)))<|sD 3 rfl (fv (a%Sc.pM)) (qF 273 #[.agg modN,fv a] (λw=>Sc.normR_any w a (by first | assumption | exact Sc.mod_lt _ | exact lt4 _ | exact valB_lt32 _ (by first | assumption | exact bytesS_length _) | decide +kernel)))<|sD 4 rfl (fv (a%Sc.pM)) (qF 272 #[fv (a%Sc.pM)] (λw=>Sc.refSc_any w (a%Sc.pM) (by first | assumption | exact Sc.mod_lt _ | exact lt4 _ | exact valB_lt32 _ (by first | assumption | exact bytesS_length _) | decide +kernel)))<|sX 5 rfl 1 g1 76 (fcs 0) (fcs (a%Sc.pM)) (wS 0 76 (fcs (a%Sc.pM)) rfl) ?_
 refine sI ?_
 refine Sy.ret ?_
 exact rC (v:=fv (a%Sc.pM)) 76 g1 1 (fcs (a%Sc.pM)) rfl Tryz.underlying76
theorem bscN (w:World) (a:Nat) (ha:a<K4):Calls Tryz.prog 204 #[fv a] w (GetsN w (λvq Mq=>∃ (g:Nat) (sp:List Value) (cap:Nat),vq=.slice (some ⟨g,0,none⟩) 32 cap∧(32≤cap∧cap≤9223372036854775807)∧Mq=[(g,5,((bytesS (a%Sc.pM)).map bv++sp).toArray)])):=by
 refine Sy.enter (args:=[fv a]) Tryz.func204 rfl kL ?_
 refine sC ?_
 refine sM 76 (fcs a) (λg0=>?_)
 refine sP (.slice none 0 0) ?_
 refine sA ?_
 refine sS (fv a) (qL 0 g0 0 4 76 76 (fcs a) rfl Tryz.underlying76)<|sS (fv (a%Sc.pM)) (qF 238 #[fv a] (λw=>nsc_any w a (by first | assumption | exact Sc.mod_lt _ | exact lt4 _ | exact valB_lt32 _ (by first | assumption | exact bytesS_length _) | decide +kernel)))<|sS (fv (a%Sc.pM)) (qF 240 #[fv (a%Sc.pM)] (λw=>refOf_any w (a%Sc.pM) (by first | assumption | exact Sc.mod_lt _ | exact lt4 _ | exact valB_lt32 _ (by first | assumption | exact bytesS_length _) | decide +kernel))) ?_
 refine Sy.callN kR 239 #[fv (a%Sc.pM)] kF (λvq Mq=>∃ (g:Nat) (sp:List Value) (cap:Nat),vq=.slice (some ⟨g,0,none⟩) 32 cap∧(32≤cap∧cap≤9223372036854775807)∧Mq=[(g,5,((bytesS (a%Sc.pM)).map bv++sp).toArray)]) (λw _=>bytesN2 w (a%Sc.pM) (by first | assumption | exact Sc.mod_lt _ | exact lt4 _ | exact valB_lt32 _ (by first | assumption | exact bytesS_length _) | decide +kernel)) (λvq Mq hR0=>?_)
 obtain ⟨go1,spo1,cpo1,rfl,hcpo1,rfl⟩:=hR0
 refine sP (.slice (some ⟨go1,0,none⟩) 32 cpo1) ?_
 refine sG<|Sy.ret ?_
 exact retG 1 (go1,5,((bytesS (a%Sc.pM)).map bv++spo1).toArray) rfl (v:=.slice (some ⟨go1,0,none⟩) 32 cpo1) (.inl (show _=_ by kernel_rfl)) kR ⟨go1,spo1,cpo1,rfl,hcpo1,rfl⟩
end Cu
end
section
namespace Wr
open Go.RowKit Sy
set_option maxRecDepth 100000
set_option maxHeartbeats 4000000
theorem digWd (w0:Base) (gw:Nat) (bad:Bool) (s:Slc) (R:Blocks) (b:Byt) (x:Byt) (hx:x.length=32) (hb:BS s b) (hl:b.length+32≤70368744177000) (w:World) (hw:St w0 w (WB gw bad s R)) :
  Calls Tryz.prog 147 #[ptr gw,.agg (x.map bv).toArray] w (Turns w0 (Wd gw R true x 32 bad b)) :=
 (digW_any w0 gw bad s R b x hx hb (by omega) w hw).mono λe w' ⟨v,M,h1,⟨r,h2,h3⟩,h4⟩=>⟨v,M,h1,⟨r,bad,_,Wrote.raw x bad b (by omega),h2,h3⟩,h4⟩
theorem numWd (k:Nat) (hk:k≤8) (w0:Base) (gw:Nat) (bad:Bool) (s:Slc) (R:Blocks) (b:Byt) (n:Nat) (hn:n<18446744073709551616) (hb:BS s b) (hl:b.length+k≤70368744177000) (w:World) (hw:St w0 w (WB gw bad s R)) :
  Calls Tryz.prog 95 #[ptr gw,.int .u64 (n:Int),.int .i64 (k:Int)] w (Turns w0 (Wd gw R true (nb k n) k bad b)) :=
 (numW_any w0 gw bad s R b n k hn hk hb (by omega) w hw).mono λe w' ⟨v,M,h1,⟨r,h2,h3⟩,h4⟩=>⟨v,M,h1,⟨r,bad,_,Wrote.raw (nb k n) bad b (by rw [nb_len]; exact Nat.le_refl _),h2,h3⟩,h4⟩
theorem below_any (w:World) (n:Nat) (hn:n<Cu.K4):Calls Tryz.prog 203 #[fv n] w (Gets w (.bool (okSC n))):=by
 refine Sy.enter (args:=[fv n]) Tryz.func203 rfl kL ?_
 refine sC ?_
 refine sM 76 (fcs n) (λg1=>?_)
 refine sP (.bool false) ?_
 refine sH (λ_=>false) ?_
 refine sD 0 rfl (fv n) (qL 0 g1 0 4 76 76 (fcs n) rfl Tryz.underlying76)<|sD 1 rfl (fv (n%Sc.pM)) (qF 238 #[fv n] (λw=>Cu.nsc_any w n hn))<|sD 2 rfl (fv n) (qL 0 g1 0 4 76 76 (fcs n) rfl Tryz.underlying76)<|sv 3 rfl (.bool (okSC n)) (λw=>eqlSC w _ _ _ _ (n%Sc.pM) n rfl rfl rfl (Nat.lt_trans (Nat.mod_lt _ (by decide)) (by decide)) hn)<|sz 4 rfl rfl ?_
 refine sI ?_
 refine Sy.ret ?_
 exact rV (.bool (okSC n)) rfl
theorem none_any (w:World) (p:MPg) (A1 A2 A3:Option Addr) (n1 c1 n2 c2 n3 c3:Nat) (k1:p.tx.length=n1) (k2:p.path.length=n2) (k3:p.script.length=n3) (h0:p.header.length=32) :
  Calls Tryz.prog 158 #[.agg (cPG p (.slice A1 n1 c1) (.slice A2 n2 c2) (.slice A3 n3 c3)).toArray] w (Gets w (.bool (nulPG p))):=by
 obtain ⟨hd,tx,pl,mn,pa,sq⟩:=p
 dsimp only at k1 k2 k3 h0
 have m0:(hd.map bv).length=32:=by rw [List.length_map,h0]
 have hlen:(cPG ⟨hd,tx,pl,mn,pa,sq⟩ (.slice A1 n1 c1) (.slice A2 n2 c2) (.slice A3 n3 c3)).length=37:=by simp only [cPG,List.length_append,m0]; rfl
 have hnul:nulPG ⟨hd,tx,pl,mn,pa,sq⟩=(decide (hd=z32) && (decide (n1=0) && (decide (pl=0) && (decide (mn=0) && (decide (n2=0) && decide (n3=0)))))):=by unfold nulPG; dsimp only; rw [k1,k2,k3]
 refine Sy.enter (args:=[.agg (cPG ⟨hd,tx,pl,mn,pa,sq⟩ (.slice A1 n1 c1) (.slice A2 n2 c2) (.slice A3 n3 c3)).toArray]) Tryz.func158 rfl kL ?_
 refine sC ?_
 refine sM 81 (cPG ⟨hd,tx,pl,mn,pa,sq⟩ (.slice A1 n1 c1) (.slice A2 n2 c2) (.slice A3 n3 c3)).toArray (λg1=>?_) kR (λw=>run_boxR rfl rfl (by kernel_rfl) hlen w)
 refine sP (.bool false) ?_
 have X0:XAt (rdC (Base.of w) [(g1,81,(cPG ⟨hd,tx,pl,mn,pa,sq⟩ (.slice A1 n1 c1) (.slice A2 n2 c2) (.slice A3 n3 c3)).toArray)]) g1 0 (cPG ⟨hd,tx,pl,mn,pa,sq⟩ (.slice A1 n1 c1) (.slice A2 n2 c2) (.slice A3 n3 c3)):=λi u hu=>.inr ⟨_,_,List.mem_singleton.2 rfl,by rw [Nat.zero_add,List.getElem?_toArray]; exact hu⟩
 have X1:XAt (rdC (Base.of w) [(g1,81,(cPG ⟨hd,tx,pl,mn,pa,sq⟩ (.slice A1 n1 c1) (.slice A2 n2 c2) (.slice A3 n3 c3)).toArray)]) g1 32 ([.slice A1 n1 c1]++([.int .u32 (pl:Int)]++([.int .u32 (mn:Int)]++([.slice A2 n2 c2]++([.slice A3 n3 c3]))))):=X0.right m0
 have X2:XAt (rdC (Base.of w) [(g1,81,(cPG ⟨hd,tx,pl,mn,pa,sq⟩ (.slice A1 n1 c1) (.slice A2 n2 c2) (.slice A3 n3 c3)).toArray)]) g1 33 ([.int .u32 (pl:Int)]++([.int .u32 (mn:Int)]++([.slice A2 n2 c2]++([.slice A3 n3 c3])))):=X1.right (n:=1) rfl
 have X3:XAt (rdC (Base.of w) [(g1,81,(cPG ⟨hd,tx,pl,mn,pa,sq⟩ (.slice A1 n1 c1) (.slice A2 n2 c2) (.slice A3 n3 c3)).toArray)]) g1 34 ([.int .u32 (mn:Int)]++([.slice A2 n2 c2]++([.slice A3 n3 c3]))):=X2.right (n:=1) rfl
 have X4:XAt (rdC (Base.of w) [(g1,81,(cPG ⟨hd,tx,pl,mn,pa,sq⟩ (.slice A1 n1 c1) (.slice A2 n2 c2) (.slice A3 n3 c3)).toArray)]) g1 35 ([.slice A2 n2 c2]++([.slice A3 n3 c3])):=X3.right (n:=1) rfl
 have X5:XAt (rdC (Base.of w) [(g1,81,(cPG ⟨hd,tx,pl,mn,pa,sq⟩ (.slice A1 n1 c1) (.slice A2 n2 c2) (.slice A3 n3 c3)).toArray)]) g1 36 ([.slice A3 n3 c3]):=X4.right (n:=1) rfl
 refine sA ?_
 obtain ⟨b1,hb1⟩:∃ z:Bool,z=decide (hd=z32):=⟨_,rfl⟩
 refine sP (.pointer (some ⟨g1,0,none⟩))<|sS (.agg (hd.map bv).toArray) (rowC (R:=[(g1,81,(cPG ⟨hd,tx,pl,mn,pa,sq⟩ (.slice A1 n1 c1) (.slice A2 n2 c2) (.slice A3 n3 c3)).toArray)]) (g:=g1) (f:=0) (k:=32) (cs:=hd.map bv) X0.left (λy hy=>hy) m0 rfl Tryz.underlying28)<|sP (.agg (z32.map bv).toArray)<|sS (.bool b1) (Quiet.pure (λw=>by rw [hb1]; exact eql_dgs w _ _ _ _ hd z32 h0 rfl rfl rfl rfl))<|sp rfl ?_
 cases b1
 case' false =>
  refine sN<|sN<|sN<|sN<|sP (.bool false)<|sp rfl<|sN<|sN<|sN<|sP (.bool false)<|sp rfl<|sN<|sN<|sN<|sP (.bool false)<|sp rfl<|sN<|sN<|sN<|sN<|sP (.bool false)<|sp rfl<|sN<|sN<|sN<|sN<|sP (.bool false) ?_
  refine sp rfl ?_
  refine sG<|Sy.ret ?_
  rw [hnul, ← hb1]
  exact rV (.bool false) rfl
 obtain ⟨b2,hb2⟩:∃ z:Bool,z=decide (n1=0):=⟨_,rfl⟩
 refine sP (.pointer (some ⟨g1,32,none⟩))<|sS (.slice A1 n1 c1) (cellC (R:=[(g1,81,(cPG ⟨hd,tx,pl,mn,pa,sq⟩ (.slice A1 n1 c1) (.slice A2 n2 c2) (.slice A3 n3 c3)).toArray)]) (g:=g1) (f:=32) X1.one (λy hy=>hy) rfl Tryz.underlying29)<|sP (.int .i64 (n1:Int))<|sS (.bool b2) (Quiet.pure (exec_int .eql _ _ _ .i64 _ _ _ rfl rfl rfl (int_eql _ _ _ _ _ (by rw [hb2]; exact decide_eq_decide.2 (by omega)))))<|sP (.bool b2)<|sp rfl ?_
 cases b2
 case' false =>
  refine sN<|sN<|sN<|sP (.bool false)<|sp rfl<|sN<|sN<|sN<|sP (.bool false)<|sp rfl<|sN<|sN<|sN<|sN<|sP (.bool false)<|sp rfl<|sN<|sN<|sN<|sN<|sP (.bool false) ?_
  refine sp rfl ?_
  refine sG<|Sy.ret ?_
  rw [hnul, ← hb1, ← hb2]
  exact rV (.bool false) rfl
 obtain ⟨b3,hb3⟩:∃ z:Bool,z=decide (pl=0):=⟨_,rfl⟩
 refine sP (.pointer (some ⟨g1,33,none⟩))<|sS (.int .u32 (pl:Int)) (cellC (R:=[(g1,81,(cPG ⟨hd,tx,pl,mn,pa,sq⟩ (.slice A1 n1 c1) (.slice A2 n2 c2) (.slice A3 n3 c3)).toArray)]) (g:=g1) (f:=33) X2.one (λy hy=>hy) rfl Tryz.underlying67)<|sS (.bool b3) (Quiet.pure (exec_int .eql _ _ _ .u32 _ _ _ rfl rfl rfl (int_eql _ _ _ _ _ (by rw [hb3]; exact decide_eq_decide.2 (by omega)))))<|sP (.bool b3)<|sp rfl ?_
 cases b3
 case' false =>
  refine sN<|sN<|sN<|sP (.bool false)<|sp rfl<|sN<|sN<|sN<|sN<|sP (.bool false)<|sp rfl<|sN<|sN<|sN<|sN<|sP (.bool false) ?_
  refine sp rfl ?_
  refine sG<|Sy.ret ?_
  rw [hnul, ← hb1, ← hb2, ← hb3]
  exact rV (.bool false) rfl
 obtain ⟨b4,hb4⟩:∃ z:Bool,z=decide (mn=0):=⟨_,rfl⟩
 refine sP (.pointer (some ⟨g1,34,none⟩))<|sS (.int .u32 (mn:Int)) (cellC (R:=[(g1,81,(cPG ⟨hd,tx,pl,mn,pa,sq⟩ (.slice A1 n1 c1) (.slice A2 n2 c2) (.slice A3 n3 c3)).toArray)]) (g:=g1) (f:=34) X3.one (λy hy=>hy) rfl Tryz.underlying67)<|sS (.bool b4) (Quiet.pure (exec_int .eql _ _ _ .u32 _ _ _ rfl rfl rfl (int_eql _ _ _ _ _ (by rw [hb4]; exact decide_eq_decide.2 (by omega)))))<|sP (.bool b4)<|sp rfl ?_
 cases b4
 case' false =>
  refine sN<|sN<|sN<|sN<|sP (.bool false)<|sp rfl<|sN<|sN<|sN<|sN<|sP (.bool false) ?_
  refine sp rfl ?_
  refine sG<|Sy.ret ?_
  rw [hnul, ← hb1, ← hb2, ← hb3, ← hb4]
  exact rV (.bool false) rfl
 obtain ⟨b5,hb5⟩:∃ z:Bool,z=decide (n2=0):=⟨_,rfl⟩
 refine sP (.pointer (some ⟨g1,35,none⟩))<|sS (.slice A2 n2 c2) (cellC (R:=[(g1,81,(cPG ⟨hd,tx,pl,mn,pa,sq⟩ (.slice A1 n1 c1) (.slice A2 n2 c2) (.slice A3 n3 c3)).toArray)]) (g:=g1) (f:=35) X4.one (λy hy=>hy) rfl Tryz.underlying79)<|sP (.int .i64 (n2:Int))<|sS (.bool b5) (Quiet.pure (exec_int .eql _ _ _ .i64 _ _ _ rfl rfl rfl (int_eql _ _ _ _ _ (by rw [hb5]; exact decide_eq_decide.2 (by omega)))))<|sP (.bool b5)<|sp rfl ?_
 cases b5
 case' false =>
  refine sN<|sN<|sN<|sN<|sP (.bool false) ?_
  refine sp rfl ?_
  refine sG<|Sy.ret ?_
  rw [hnul, ← hb1, ← hb2, ← hb3, ← hb4, ← hb5]
  exact rV (.bool false) rfl
 obtain ⟨b6,hb6⟩:∃ z:Bool,z=decide (n3=0):=⟨_,rfl⟩
 refine sP (.pointer (some ⟨g1,36,none⟩))<|sS (.slice A3 n3 c3) (cellC (R:=[(g1,81,(cPG ⟨hd,tx,pl,mn,pa,sq⟩ (.slice A1 n1 c1) (.slice A2 n2 c2) (.slice A3 n3 c3)).toArray)]) (g:=g1) (f:=36) X5.one (λy hy=>hy) rfl Tryz.underlying29)<|sP (.int .i64 (n3:Int))<|sS (.bool b6) (Quiet.pure (exec_int .eql _ _ _ .i64 _ _ _ rfl rfl rfl (int_eql _ _ _ _ _ (by rw [hb6]; exact decide_eq_decide.2 (by omega)))))<|sP (.bool b6) ?_
 refine sp rfl ?_
 refine sG<|Sy.ret ?_
 rw [hnul, ← hb1, ← hb2, ← hb3, ← hb4, ← hb5, ← hb6]
 exact rV (.bool b6) rfl
theorem optW_any (w0:Base) (gw:Nat) (bad:Bool) (s:Slc) (R:Blocks) (b:Byt) (x:Byt×Nat) (cs:List Value) (hx:repOP (rdW w0.world) cs x) (hb:BS s b) (hl:b.length+36≤70368744160000) (w:World) (hw:St w0 w (WB gw bad s R)) :
  Calls Tryz.prog 155 #[ptr gw,.agg cs.toArray] w (Turns w0 (Wd gw R true (encOP x) 36 bad b)):=by
 obtain ⟨id,ix⟩:=x
 obtain ⟨rfl,h1,h2⟩:=hx
 dsimp only at h1 h2
 have e0:(id.map bv).length=32:=by rw [List.length_map,h1]
 have hlen:(id.map bv++[Value.int .u32 (ix:Int)]).length=33:=by rw [List.length_append,e0]; rfl
 refine Sy.enterT (args:=[ptr gw,.agg (id.map bv++[Value.int .u32 (ix:Int)]).toArray]) hw Tryz.func155 rfl kL ?_
 refine sC ?_
 refine sM 69 (id.map bv++[Value.int .u32 (ix:Int)]).toArray (λg3=>?_) kR (λw=>run_boxR rfl rfl (by kernel_rfl) hlen w)
 refine Sy.permS (M:=WB gw bad s (R++[(g3,69,(id.map bv++[Value.int .u32 (ix:Int)]).toArray)])) (List.Perm.of_eq (by simp only [List.append_assoc])) ?_
 have X0:XAt (rdC w0.inn [(g3,69,(id.map bv++[Value.int .u32 (ix:Int)]).toArray)]) g3 0 ((id.map bv++[Value.int .u32 (ix:Int)])):=λi u hu=>.inr ⟨_,_,List.mem_singleton.2 rfl,by rw [Nat.zero_add,List.getElem?_toArray]; exact hu⟩
 have X1:XAt (rdC w0.inn [(g3,69,(id.map bv++[Value.int .u32 (ix:Int)]).toArray)]) g3 32 [.int .u32 (ix:Int)]:=X0.right e0
 refine sA ?_
 refine sp rfl<|sP (.pointer (some ⟨g3,0,none⟩))<|sS (.agg (id.map bv).toArray) (rowC (R:=[(g3,69,(id.map bv++[Value.int .u32 (ix:Int)]).toArray)]) (g:=g3) (f:=0) (k:=32) (cs:=id.map bv) X0.left (λy hy=>inWB (List.mem_append_right R hy)) e0 rfl Tryz.underlying28) ?_
 refine Sy.callT (λw hw=>digWd w0.inn gw bad s (R++[(g3,69,(id.map bv++[Value.int .u32 (ix:Int)]).toArray)]) b id h1 hb (by omega) w hw) (λu M hM=>?_)
 obtain ⟨s1,bad1,b1,q1,p1,rfl⟩:=hM
 have l1:b1.length≤b.length+32:=q1.len
 refine Sy.nil<|Sy.then_<|Sy.region ?_
 refine sp rfl<|sP (.pointer (some ⟨g3,32,none⟩))<|sS (.int .u32 (ix:Int)) (cellC (R:=[(g3,69,(id.map bv++[Value.int .u32 (ix:Int)]).toArray)]) (g:=g3) (f:=32) X1.one (λy hy=>inWB (List.mem_append_right R hy)) rfl Tryz.underlying67)<|sS (.int .u64 (ix:Int)) (Quiet.pure (λw=>conv_48 w _ _ _ ix h2 rfl rfl)) ?_
 refine Sy.callT (λw hw=>numWd 4 (by decide) w0.inn gw bad1 s1 (R++[(g3,69,(id.map bv++[Value.int .u32 (ix:Int)]).toArray)]) b1 ix (by omega) p1 (by omega) w hw) (λu M hM=>?_)
 obtain ⟨s2,bad2,b2,q2,p2,rfl⟩:=hM
 have l2:b2.length≤b1.length+4:=q2.len
 refine Sy.nil ?_
 have q:=q1.then_ q2
 exact Sy.retT0 rfl (WB gw bad2 s2 R) (λ_ h=>dropW h) (λ_=>⟨s2,bad2,b2,q,p2,rfl⟩)
theorem issW_any (w0:Base) (gw:Nat) (bad:Bool) (s:Slc) (R:Blocks) (b:Byt) (x:MIs) (cs:List Value) (hx:repIS (rdW w0.world) cs x) (hb:BS s b) (hl:b.length+wtIS x≤70368744160000) (w:World) (hw:St w0 w (WB gw bad s R)) :
  Calls Tryz.prog 156 #[ptr gw,.agg cs.toArray] w (Turns w0 (Wd gw R (okIS x) (encIS x) (wtIS x) bad b)):=by
 obtain ⟨z,am,rg,tk,en,sc⟩:=x
 obtain ⟨vr,rfl,d1,h2,h3,h4,h5⟩:=hx
 dsimp only at d1 h2 h3 h4 h5
 unfold wtIS at hl
 dsimp only at hl
 have m4:(en.map bv).length=32:=by rw [List.length_map,h4]
 have hlen:(cIS ⟨z,am,rg,tk,en,sc⟩ vr).length=50:=by simp only [cIS,cAM,List.length_append,m4,fws_len,lPT_len]; rfl
 refine Sy.enterT (args:=[ptr gw,.agg (cIS ⟨z,am,rg,tk,en,sc⟩ vr).toArray]) hw Tryz.func156 rfl kL ?_
 refine sC ?_
 refine sM 78 (cIS ⟨z,am,rg,tk,en,sc⟩ vr).toArray (λg3=>?_) kR (λw=>run_boxR rfl rfl (by kernel_rfl) hlen w)
 refine Sy.permS (M:=WB gw bad s (R++[(g3,78,(cIS ⟨z,am,rg,tk,en,sc⟩ vr).toArray)])) (List.Perm.of_eq (by simp only [List.append_assoc])) ?_
 have X0:XAt (rdC w0.inn [(g3,78,(cIS ⟨z,am,rg,tk,en,sc⟩ vr).toArray)]) g3 0 ((cIS ⟨z,am,rg,tk,en,sc⟩ vr)):=λi u hu=>.inr ⟨_,_,List.mem_singleton.2 rfl,by rw [Nat.zero_add,List.getElem?_toArray]; exact hu⟩
 have X1:XAt (rdC w0.inn [(g3,78,(cIS ⟨z,am,rg,tk,en,sc⟩ vr).toArray)]) g3 1 (cAM am++([vr]++([.int .u64 (tk:Int)]++(en.map bv++(Cu.fws sc))))):=X0.right (n:=1) rfl
 have X2:XAt (rdC w0.inn [(g3,78,(cIS ⟨z,am,rg,tk,en,sc⟩ vr).toArray)]) g3 12 ([vr]++([.int .u64 (tk:Int)]++(en.map bv++(Cu.fws sc)))):=X1.right (n:=11) rfl
 have X3:XAt (rdC w0.inn [(g3,78,(cIS ⟨z,am,rg,tk,en,sc⟩ vr).toArray)]) g3 13 ([.int .u64 (tk:Int)]++(en.map bv++(Cu.fws sc))):=X2.right (n:=1) rfl
 have X4:XAt (rdC w0.inn [(g3,78,(cIS ⟨z,am,rg,tk,en,sc⟩ vr).toArray)]) g3 14 (en.map bv++(Cu.fws sc)):=X3.right (n:=1) rfl
 have X5:XAt (rdC w0.inn [(g3,78,(cIS ⟨z,am,rg,tk,en,sc⟩ vr).toArray)]) g3 46 (Cu.fws sc):=X4.right m4
 refine sA ?_
 refine sp rfl<|sP (.pointer (some ⟨g3,0,none⟩))<|sS (.int .i64 z) (cellC (R:=[(g3,78,(cIS ⟨z,am,rg,tk,en,sc⟩ vr).toArray)]) (g:=g3) (f:=0) X0.one (λy hy=>inWB (List.mem_append_right R hy)) rfl Tryz.underlying3) ?_
 refine Sy.callT (λw hw=>smallW_any w0.inn gw bad s (R++[(g3,78,(cIS ⟨z,am,rg,tk,en,sc⟩ vr).toArray)]) b 0 2 z hb (by omega) w hw) (λu M hM=>?_)
 obtain ⟨s1,bad1,b1,q1,p1,rfl⟩:=hM
 have l1:b1.length≤b.length+1:=q1.len
 refine sG<|Sy.seq<|sC ?_
 by_cases h0:z=0
 ·subst h0
  obtain ⟨A,n,cp,rfl,k2,k3,k4,k5⟩:=h2
  have hnul:nulIS ⟨0,am,rg,tk,en,sc⟩=(nulAM am && (decide (n=0) && (decide (tk=0) && (decide (en=z32) && decide (sc=0))))):=by unfold nulIS; dsimp only; rw [k2]
  refine sP (.pointer (some ⟨g3,0,none⟩))<|sS (.int .i64 0) (cellC (R:=[(g3,78,(cIS ⟨0,am,rg,tk,en,sc⟩ (.slice A n cp)).toArray)]) (g:=g3) (f:=0) X0.one (λy hy=>inWB (List.mem_append_right R hy)) rfl Tryz.underlying3)<|sP (.bool true) ?_
  refine sG<|sT<|sC ?_
  refine sp rfl ?_
  obtain ⟨b1,hb1⟩:∃ z:Bool,z=nulAM am:=⟨_,rfl⟩
  refine sP (.pointer (some ⟨g3,1,none⟩))<|sS (.agg (cAM am).toArray) (rowC (R:=[(g3,78,(cIS ⟨0,am,rg,tk,en,sc⟩ (.slice A n cp)).toArray)]) (g:=g3) (f:=1) (k:=11) (cs:=cAM am) X1.left (λy hy=>inWB (List.mem_append_right R hy)) rfl rfl Tryz.underlying75)<|sP (.agg (cAM zAM).toArray)<|sS (.bool b1) (Quiet.pure (λw=>by rw [hb1]; exact eql_am w _ _ _ _ am rfl rfl rfl d1.2.1 d1.2.2))<|sp rfl ?_
  cases b1
  case' false =>
   refine sN<|sN<|sN<|sN<|sP (.bool false)<|sp rfl<|sN<|sN<|sN<|sP (.bool false)<|sp rfl<|sN<|sN<|sN<|sN<|sP (.bool false)<|sp rfl<|sN<|sN<|sN<|sN<|sP (.bool false) ?_
   have hv:nulIS ⟨0,am,rg,tk,en,sc⟩=false:=by rw [hnul, ← hb1]; first | rfl | (simp only [Bool.true_and,Bool.false_and])
   refine Sy.callT (λw hw=>mustW_any w0.inn gw bad1 false s1 (R++[(g3,78,(cIS ⟨0,am,rg,tk,en,sc⟩ (.slice A n cp)).toArray)]) w hw) (λu M hM=>?_)
   subst hM
   refine sG<|Sy.ret<|Sy.then_ret ?_
   have q:=(q1.then_ (Wrote.must false bad1 b1)).le (k':=wtIS ⟨0,am,rg,tk,en,sc⟩) (by unfold wtIS; dsimp only; omega)
   have e:okIS ⟨0,am,rg,tk,en,sc⟩=(okS 0 2 0 && false):=by rw [← hv]; rfl
   exact Sy.retT0 rfl (WB gw (bad1 || !false) s1 R) (λ_ h=>dropW h) (λ_=>⟨s1,bad1 || !false,b1,by rw [e]; exact q,p1,rfl⟩)
  obtain ⟨b2,hb2⟩:∃ z:Bool,z=decide (n=0):=⟨_,rfl⟩
  refine sP (.pointer (some ⟨g3,12,none⟩))<|sS (.slice A n cp) (cellC (R:=[(g3,78,(cIS ⟨0,am,rg,tk,en,sc⟩ (.slice A n cp)).toArray)]) (g:=g3) (f:=12) X2.one (λy hy=>inWB (List.mem_append_right R hy)) rfl Tryz.underlying29)<|sP (.int .i64 (n:Int))<|sS (.bool b2) (Quiet.pure (exec_int .eql _ _ _ .i64 _ _ _ rfl rfl rfl (int_eql _ _ _ _ _ (by rw [hb2]; exact decide_eq_decide.2 (by omega)))))<|sP (.bool b2)<|sp rfl ?_
  cases b2
  case' false =>
   refine sN<|sN<|sN<|sP (.bool false)<|sp rfl<|sN<|sN<|sN<|sN<|sP (.bool false)<|sp rfl<|sN<|sN<|sN<|sN<|sP (.bool false) ?_
   have hv:nulIS ⟨0,am,rg,tk,en,sc⟩=false:=by rw [hnul, ← hb1, ← hb2]; first | rfl | (simp only [Bool.true_and,Bool.false_and])
   refine Sy.callT (λw hw=>mustW_any w0.inn gw bad1 false s1 (R++[(g3,78,(cIS ⟨0,am,rg,tk,en,sc⟩ (.slice A n cp)).toArray)]) w hw) (λu M hM=>?_)
   subst hM
   refine sG<|Sy.ret<|Sy.then_ret ?_
   have q:=(q1.then_ (Wrote.must false bad1 b1)).le (k':=wtIS ⟨0,am,rg,tk,en,sc⟩) (by unfold wtIS; dsimp only; omega)
   have e:okIS ⟨0,am,rg,tk,en,sc⟩=(okS 0 2 0 && false):=by rw [← hv]; rfl
   exact Sy.retT0 rfl (WB gw (bad1 || !false) s1 R) (λ_ h=>dropW h) (λ_=>⟨s1,bad1 || !false,b1,by rw [e]; exact q,p1,rfl⟩)
  obtain ⟨b3,hb3⟩:∃ z:Bool,z=decide (tk=0):=⟨_,rfl⟩
  refine sP (.pointer (some ⟨g3,13,none⟩))<|sS (.int .u64 (tk:Int)) (cellC (R:=[(g3,78,(cIS ⟨0,am,rg,tk,en,sc⟩ (.slice A n cp)).toArray)]) (g:=g3) (f:=13) X3.one (λy hy=>inWB (List.mem_append_right R hy)) rfl Tryz.underlying22)<|sS (.bool b3) (Quiet.pure (exec_int .eql _ _ _ .u64 _ _ _ rfl rfl rfl (int_eql _ _ _ _ _ (by rw [hb3]; exact decide_eq_decide.2 (by omega)))))<|sP (.bool b3)<|sp rfl ?_
  cases b3
  case' false =>
   refine sN<|sN<|sN<|sN<|sP (.bool false)<|sp rfl<|sN<|sN<|sN<|sN<|sP (.bool false) ?_
   have hv:nulIS ⟨0,am,rg,tk,en,sc⟩=false:=by rw [hnul, ← hb1, ← hb2, ← hb3]; first | rfl | (simp only [Bool.true_and,Bool.false_and])
   refine Sy.callT (λw hw=>mustW_any w0.inn gw bad1 false s1 (R++[(g3,78,(cIS ⟨0,am,rg,tk,en,sc⟩ (.slice A n cp)).toArray)]) w hw) (λu M hM=>?_)
   subst hM
   refine sG<|Sy.ret<|Sy.then_ret ?_
   have q:=(q1.then_ (Wrote.must false bad1 b1)).le (k':=wtIS ⟨0,am,rg,tk,en,sc⟩) (by unfold wtIS; dsimp only; omega)
   have e:okIS ⟨0,am,rg,tk,en,sc⟩=(okS 0 2 0 && false):=by rw [← hv]; rfl
   exact Sy.retT0 rfl (WB gw (bad1 || !false) s1 R) (λ_ h=>dropW h) (λ_=>⟨s1,bad1 || !false,b1,by rw [e]; exact q,p1,rfl⟩)
  obtain ⟨b4,hb4⟩:∃ z:Bool,z=decide (en=z32):=⟨_,rfl⟩
  refine sP (.pointer (some ⟨g3,14,none⟩))<|sS (.agg (en.map bv).toArray) (rowC (R:=[(g3,78,(cIS ⟨0,am,rg,tk,en,sc⟩ (.slice A n cp)).toArray)]) (g:=g3) (f:=14) (k:=32) (cs:=en.map bv) X4.left (λy hy=>inWB (List.mem_append_right R hy)) m4 rfl Tryz.underlying28)<|sP (.agg (z32.map bv).toArray)<|sS (.bool b4) (Quiet.pure (λw=>by rw [hb4]; exact eql_dgs w _ _ _ _ en z32 h4 rfl rfl rfl rfl))<|sP (.bool b4)<|sp rfl ?_
  cases b4
  case' false =>
   refine sN<|sN<|sN<|sN<|sP (.bool false) ?_
   have hv:nulIS ⟨0,am,rg,tk,en,sc⟩=false:=by rw [hnul, ← hb1, ← hb2, ← hb3, ← hb4]; first | rfl | (simp only [Bool.true_and,Bool.false_and])
   refine Sy.callT (λw hw=>mustW_any w0.inn gw bad1 false s1 (R++[(g3,78,(cIS ⟨0,am,rg,tk,en,sc⟩ (.slice A n cp)).toArray)]) w hw) (λu M hM=>?_)
   subst hM
   refine sG<|Sy.ret<|Sy.then_ret ?_
   have q:=(q1.then_ (Wrote.must false bad1 b1)).le (k':=wtIS ⟨0,am,rg,tk,en,sc⟩) (by unfold wtIS; dsimp only; omega)
   have e:okIS ⟨0,am,rg,tk,en,sc⟩=(okS 0 2 0 && false):=by rw [← hv]; rfl
   exact Sy.retT0 rfl (WB gw (bad1 || !false) s1 R) (λ_ h=>dropW h) (λ_=>⟨s1,bad1 || !false,b1,by rw [e]; exact q,p1,rfl⟩)
  obtain ⟨b5,hb5⟩:∃ z:Bool,z=decide (sc=0):=⟨_,rfl⟩
  refine sP (.pointer (some ⟨g3,46,none⟩))<|sS (fv sc) (rowC (R:=[(g3,78,(cIS ⟨0,am,rg,tk,en,sc⟩ (.slice A n cp)).toArray)]) (g:=g3) (f:=46) (k:=4) (cs:=Cu.fws sc) X5 (λy hy=>inWB (List.mem_append_right R hy)) rfl rfl Tryz.underlying76)<|sP (fv 0)<|sS (.bool b5) (Quiet.pure (λw=>by rw [hb5]; exact eqlSC w _ _ _ _ sc 0 rfl rfl rfl h5 (by decide)))<|sP (.bool b5) ?_
  have hv:nulIS ⟨0,am,rg,tk,en,sc⟩=b5:=by rw [hnul, ← hb1, ← hb2, ← hb3, ← hb4, ← hb5]; first | rfl | (simp only [Bool.true_and,Bool.false_and])
  refine Sy.callT (λw hw=>mustW_any w0.inn gw bad1 b5 s1 (R++[(g3,78,(cIS ⟨0,am,rg,tk,en,sc⟩ (.slice A n cp)).toArray)]) w hw) (λu M hM=>?_)
  subst hM
  refine sG<|Sy.ret<|Sy.then_ret ?_
  have q:=(q1.then_ (Wrote.must b5 bad1 b1)).le (k':=wtIS ⟨0,am,rg,tk,en,sc⟩) (by unfold wtIS; dsimp only; omega)
  have e:okIS ⟨0,am,rg,tk,en,sc⟩=(okS 0 2 0 && b5):=by rw [← hv]; rfl
  exact Sy.retT0 rfl (WB gw (bad1 || !b5) s1 R) (λ_ h=>dropW h) (λ_=>⟨s1,bad1 || !b5,b1,by rw [e]; exact q,p1,rfl⟩)
 refine sP (.pointer (some ⟨g3,0,none⟩))<|sS (.int .i64 z) (cellC (R:=[(g3,78,(cIS ⟨z,am,rg,tk,en,sc⟩ vr).toArray)]) (g:=g3) (f:=0) X0.one (λy hy=>inWB (List.mem_append_right R hy)) rfl Tryz.underlying3)<|sS (.bool false) (Quiet.pure (exec_int .eql _ _ _ .i64 _ _ _ rfl rfl rfl (int_eql _ _ _ _ _ (decide_eq_false h0)))) ?_
 refine sG<|sU<|Sy.skip<|Sy.then_<|sC ?_
 refine sp rfl<|sP (.pointer (some ⟨g3,1,none⟩))<|sS (.agg (cAM am).toArray) (rowC (R:=[(g3,78,(cIS ⟨z,am,rg,tk,en,sc⟩ vr).toArray)]) (g:=g3) (f:=1) (k:=11) (cs:=cAM am) X1.left (λy hy=>inWB (List.mem_append_right R hy)) rfl rfl Tryz.underlying75) ?_
 refine Sy.callT (λw hw=>amountW_any w0.inn gw bad1 s1 (R++[(g3,78,(cIS ⟨z,am,rg,tk,en,sc⟩ vr).toArray)]) b1 am d1.1 d1.2.1 d1.2.2 p1 (by omega) w hw) (λu M hM=>?_)
 obtain ⟨s2,bad2,b2,q2,p2,rfl⟩:=hM
 have l2:b2.length≤b1.length+34:=q2.len
 refine sA ?_
 refine sp rfl<|sP (.pointer (some ⟨g3,12,none⟩))<|sS vr (cellC (R:=[(g3,78,(cIS ⟨z,am,rg,tk,en,sc⟩ vr).toArray)]) (g:=g3) (f:=12) X2.one (λy hy=>inWB (List.mem_append_right R hy)) rfl Tryz.underlying29) ?_
 refine Sy.callT (λw hw=>textW_any w0.inn gw bad2 s2 (R++[(g3,78,(cIS ⟨z,am,rg,tk,en,sc⟩ vr).toArray)]) b2 vr rg 6000 (by decide) p2 h2 (by omega) w hw) (λu M hM=>?_)
 obtain ⟨s3,bad3,b3,q3,p3,rfl⟩:=hM
 have l3:b3.length≤b2.length+(9+rg.length):=q3.len
 refine sA ?_
 refine sp rfl<|sP (.pointer (some ⟨g3,13,none⟩))<|sS (.int .u64 (tk:Int)) (cellC (R:=[(g3,78,(cIS ⟨z,am,rg,tk,en,sc⟩ vr).toArray)]) (g:=g3) (f:=13) X3.one (λy hy=>inWB (List.mem_append_right R hy)) rfl Tryz.underlying22) ?_
 refine Sy.callT (λw hw=>numWd 8 (by decide) w0.inn gw bad3 s3 (R++[(g3,78,(cIS ⟨z,am,rg,tk,en,sc⟩ vr).toArray)]) b3 tk h3 p3 (by omega) w hw) (λu M hM=>?_)
 obtain ⟨s4,bad4,b4,q4,p4,rfl⟩:=hM
 have l4:b4.length≤b3.length+8:=q4.len
 refine sA ?_
 refine sp rfl<|sP (.pointer (some ⟨g3,14,none⟩))<|sS (.agg (en.map bv).toArray) (rowC (R:=[(g3,78,(cIS ⟨z,am,rg,tk,en,sc⟩ vr).toArray)]) (g:=g3) (f:=14) (k:=32) (cs:=en.map bv) X4.left (λy hy=>inWB (List.mem_append_right R hy)) m4 rfl Tryz.underlying28) ?_
 refine Sy.callT (λw hw=>digWd w0.inn gw bad4 s4 (R++[(g3,78,(cIS ⟨z,am,rg,tk,en,sc⟩ vr).toArray)]) b4 en h4 p4 (by omega) w hw) (λu M hM=>?_)
 obtain ⟨s5,bad5,b5,q5,p5,rfl⟩:=hM
 have l5:b5.length≤b4.length+32:=q5.len
 refine sA ?_
 obtain ⟨ok,hok⟩:∃ z,z=okSC sc:=⟨_,rfl⟩
 refine sp rfl<|sP (.pointer (some ⟨g3,46,none⟩))<|sS (fv sc) (rowC (R:=[(g3,78,(cIS ⟨z,am,rg,tk,en,sc⟩ vr).toArray)]) (g:=g3) (f:=46) (k:=4) (cs:=Cu.fws sc) X5 (λy hy=>inWB (List.mem_append_right R hy)) rfl rfl Tryz.underlying76)<|sS (.bool ok) (qg (λw _=>by rw [hok]; exact below_any w sc h5)) ?_
 refine Sy.callT (λw hw=>mustW_any w0.inn gw bad5 ok s5 (R++[(g3,78,(cIS ⟨z,am,rg,tk,en,sc⟩ vr).toArray)]) w hw) (λu M hM=>?_)
 subst hM
 refine Sy.nil<|Sy.then_<|Sy.region ?_
 refine sp rfl<|sP (.pointer (some ⟨g3,46,none⟩))<|sS (fv sc) (rowC (R:=[(g3,78,(cIS ⟨z,am,rg,tk,en,sc⟩ vr).toArray)]) (g:=g3) (f:=46) (k:=4) (cs:=Cu.fws sc) X5 (λy hy=>inWB (List.mem_append_right R hy)) rfl rfl Tryz.underlying76) ?_
 refine Sy.callN kR 204 #[fv sc] kF _ (λw' _=>Cu.bscN w' sc h5) (λu M hM=>?_)
 obtain ⟨g,sq,cap,rfl,⟨hc1,hc2⟩,rfl⟩:=hM
 have hB:BytR (rdC w0.inn ((R++[(g3,78,(cIS ⟨z,am,rg,tk,en,sc⟩ vr).toArray)])++[(g,5,((encSC sc).map bv++sq).toArray)])) (.slice (some ⟨g,0,none⟩) 32 cap) (encSC sc):=⟨_,_,_,rfl,bytesS_length _,hc1,by simp only [maxLen]; omega,λ_=>⟨g,0,rfl,λj y hj=>.inr ⟨5,_,List.mem_append_right _ (List.mem_singleton.2 rfl),by rw [Nat.zero_add,List.getElem?_toArray,List.getElem?_append_left (by rw [List.length_map]; exact (List.getElem?_eq_some_iff.1 hj).1),List.getElem?_map,hj]; rfl⟩⟩⟩
 refine Sy.permS (M:=WB gw (bad5 || !ok) s5 ((R++[(g3,78,(cIS ⟨z,am,rg,tk,en,sc⟩ vr).toArray)])++[(g,5,((encSC sc).map bv++sq).toArray)])) (List.Perm.of_eq (by simp only [List.append_assoc]; rfl)) ?_
 refine Sy.callT (λw hw=>wrawW_any w0.inn gw (bad5 || !ok) s5 ((R++[(g3,78,(cIS ⟨z,am,rg,tk,en,sc⟩ vr).toArray)])++[(g,5,((encSC sc).map bv++sq).toArray)]) b5 _ (encSC sc) p5 hB (by rw [show (encSC sc).length=32 from bytesS_length _]; omega) w hw) (λv M hM=>?_)
 obtain ⟨s6,p6,rfl⟩:=hM
 refine Sy.nil ?_
 have q6:=(Wrote.must ok bad5 b5).then_ (Wrote.raw (encSC sc) (bad5 || !ok) b5 (k:=32) (Nat.le_of_eq (bytesS_length _)))
 have q:=q1.then_ (q2.then_ (q3.then_ (q4.then_ (q5.then_ q6))))
 have fine:Wrote (okIS ⟨z,am,rg,tk,en,sc⟩) (encIS ⟨z,am,rg,tk,en,sc⟩) (wtIS ⟨z,am,rg,tk,en,sc⟩) bad b (bad5 || !ok) (b5++encSC sc):=by
  have e3:encIS ⟨z,am,rg,tk,en,sc⟩=[octB z]++bodyIS ⟨z,am,rg,tk,en,sc⟩:=by unfold encIS; rw [if_neg h0]
  rw [Bool.true_and,Bool.true_and,Bool.and_true,hok,List.nil_append,Nat.zero_add] at q
  by_cases hk:z=1∨z=2
  ·have e1:okS 0 2 z=true:=by rcases hk with rfl | rfl <;> rfl
   have e2:okIS ⟨z,am,rg,tk,en,sc⟩=fulIS ⟨z,am,rg,tk,en,sc⟩:=by unfold okIS; rw [if_neg h0,if_pos hk]
   rw [e1,Bool.true_and] at q
   rw [e2,e3,hok]
   exact q
  ·have e1:okS 0 2 z=false:=by
    cases hb:okS 0 2 z with
    | false=>rfl
    | true =>
     unfold okS at hb
     rw [Bool.and_eq_true,decide_eq_true_eq,decide_eq_true_eq] at hb
     exact (hk (by omega)).elim
   have e2:okIS ⟨z,am,rg,tk,en,sc⟩=false:=by unfold okIS; rw [if_neg h0,if_neg hk]
   rw [e1,Bool.false_and] at q
   rw [e2,e3,hok]
   exact q
 exact Sy.retT0 rfl (WB gw (bad5 || !ok) s6 R) (λ_ h=>dropW (by simpa only [List.append_assoc] using h)) (λ_=>⟨s6,bad5 || !ok,_,fine,p6,rfl⟩)
theorem pegW_any (w0:Base) (gw:Nat) (bad:Bool) (s:Slc) (R:Blocks) (b:Byt) (x:MPg) (cs:List Value) (hx:repPG (rdW w0.world) cs x) (hlo:x.path.length≤1000000000000) (hb:BS s b) (hl:b.length+wtPG x≤70368744160000) (w:World) (hw:St w0 w (WB gw bad s R)) :
  Calls Tryz.prog 157 #[ptr gw,.agg cs.toArray] w (Turns w0 (Wd gw R (okPG x) (encPG x) (wtPG x) bad b)):=by
 obtain ⟨hd,tx,pl,mn,pa,sq⟩:=x
 obtain ⟨vt,vp,vs,rfl,h1,h2,h3,h4,⟨A,n,cp,rfl,n1,n2,n3,n4⟩,h6⟩:=hx
 dsimp only at h1 h2 h3 h4 h6 n1 n4 hlo
 unfold wtPG at hl
 dsimp only at hl
 have m0:(hd.map bv).length=32:=by rw [List.length_map,h1]
 have hlen:(cPG ⟨hd,tx,pl,mn,pa,sq⟩ vt (.slice A n cp) vs).length=37:=by simp only [cPG,List.length_append,m0]; rfl
 refine Sy.enterT (args:=[ptr gw,.agg (cPG ⟨hd,tx,pl,mn,pa,sq⟩ vt (.slice A n cp) vs).toArray]) hw Tryz.func157 rfl kL ?_
 refine sC ?_
 refine sM 81 (cPG ⟨hd,tx,pl,mn,pa,sq⟩ vt (.slice A n cp) vs).toArray (λg3=>?_) kR (λw=>run_boxR rfl rfl (by kernel_rfl) hlen w)
 refine Sy.permS (M:=WB gw bad s (R++[(g3,81,(cPG ⟨hd,tx,pl,mn,pa,sq⟩ vt (.slice A n cp) vs).toArray)])) (List.Perm.of_eq (by simp only [List.append_assoc])) ?_
 have X0:XAt (rdC w0.inn [(g3,81,(cPG ⟨hd,tx,pl,mn,pa,sq⟩ vt (.slice A n cp) vs).toArray)]) g3 0 ((cPG ⟨hd,tx,pl,mn,pa,sq⟩ vt (.slice A n cp) vs)):=λi u hu=>.inr ⟨_,_,List.mem_singleton.2 rfl,by rw [Nat.zero_add,List.getElem?_toArray]; exact hu⟩
 have X1:XAt (rdC w0.inn [(g3,81,(cPG ⟨hd,tx,pl,mn,pa,sq⟩ vt (.slice A n cp) vs).toArray)]) g3 32 ([vt]++([.int .u32 (pl:Int)]++([.int .u32 (mn:Int)]++([.slice A n cp]++([vs]))))):=X0.right m0
 have X2:XAt (rdC w0.inn [(g3,81,(cPG ⟨hd,tx,pl,mn,pa,sq⟩ vt (.slice A n cp) vs).toArray)]) g3 33 ([.int .u32 (pl:Int)]++([.int .u32 (mn:Int)]++([.slice A n cp]++([vs])))):=X1.right (n:=1) rfl
 have X3:XAt (rdC w0.inn [(g3,81,(cPG ⟨hd,tx,pl,mn,pa,sq⟩ vt (.slice A n cp) vs).toArray)]) g3 34 ([.int .u32 (mn:Int)]++([.slice A n cp]++([vs]))):=X2.right (n:=1) rfl
 have X4:XAt (rdC w0.inn [(g3,81,(cPG ⟨hd,tx,pl,mn,pa,sq⟩ vt (.slice A n cp) vs).toArray)]) g3 35 ([.slice A n cp]++([vs])):=X3.right (n:=1) rfl
 have X5:XAt (rdC w0.inn [(g3,81,(cPG ⟨hd,tx,pl,mn,pa,sq⟩ vt (.slice A n cp) vs).toArray)]) g3 36 ([vs]):=X4.right (n:=1) rfl
 refine sA ?_
 refine sp rfl<|sP (.pointer (some ⟨g3,0,none⟩))<|sS (.agg (hd.map bv).toArray) (rowC (R:=[(g3,81,(cPG ⟨hd,tx,pl,mn,pa,sq⟩ vt (.slice A n cp) vs).toArray)]) (g:=g3) (f:=0) (k:=32) (cs:=hd.map bv) X0.left (λy hy=>inWB (List.mem_append_right R hy)) m0 rfl Tryz.underlying28) ?_
 refine Sy.callT (λw hw=>digWd w0.inn gw bad s (R++[(g3,81,(cPG ⟨hd,tx,pl,mn,pa,sq⟩ vt (.slice A n cp) vs).toArray)]) b hd h1 hb (by omega) w hw) (λu M hM=>?_)
 obtain ⟨s1,bad1,b1,q1,p1,rfl⟩:=hM
 have l1:b1.length≤b.length+32:=q1.len
 refine sA ?_
 refine sp rfl<|sP (.pointer (some ⟨g3,32,none⟩))<|sS vt (cellC (R:=[(g3,81,(cPG ⟨hd,tx,pl,mn,pa,sq⟩ vt (.slice A n cp) vs).toArray)]) (g:=g3) (f:=32) X1.one (λy hy=>inWB (List.mem_append_right R hy)) rfl Tryz.underlying29) ?_
 refine Sy.callT (λw hw=>textW_any w0.inn gw bad1 s1 (R++[(g3,81,(cPG ⟨hd,tx,pl,mn,pa,sq⟩ vt (.slice A n cp) vs).toArray)]) b1 vt tx 1024 (by decide) p1 h2 (by omega) w hw) (λu M hM=>?_)
 obtain ⟨s2,bad2,b2,q2,p2,rfl⟩:=hM
 have l2:b2.length≤b1.length+(9+tx.length):=q2.len
 refine sA ?_
 refine sp rfl<|sP (.pointer (some ⟨g3,33,none⟩))<|sS (.int .u32 (pl:Int)) (cellC (R:=[(g3,81,(cPG ⟨hd,tx,pl,mn,pa,sq⟩ vt (.slice A n cp) vs).toArray)]) (g:=g3) (f:=33) X2.one (λy hy=>inWB (List.mem_append_right R hy)) rfl Tryz.underlying67)<|sS (.int .u64 (pl:Int)) (Quiet.pure (λw=>conv_48 w _ _ _ pl h3 rfl rfl)) ?_
 refine Sy.callT (λw hw=>numWd 4 (by decide) w0.inn gw bad2 s2 (R++[(g3,81,(cPG ⟨hd,tx,pl,mn,pa,sq⟩ vt (.slice A n cp) vs).toArray)]) b2 pl (by omega) p2 (by omega) w hw) (λu M hM=>?_)
 obtain ⟨s3,bad3,b3,q3,p3,rfl⟩:=hM
 have l3:b3.length≤b2.length+4:=q3.len
 refine sA ?_
 refine sp rfl<|sP (.pointer (some ⟨g3,34,none⟩))<|sS (.int .u32 (mn:Int)) (cellC (R:=[(g3,81,(cPG ⟨hd,tx,pl,mn,pa,sq⟩ vt (.slice A n cp) vs).toArray)]) (g:=g3) (f:=34) X3.one (λy hy=>inWB (List.mem_append_right R hy)) rfl Tryz.underlying67)<|sS (.int .u64 (mn:Int)) (Quiet.pure (λw=>conv_48 w _ _ _ mn h4 rfl rfl)) ?_
 refine Sy.callT (λw hw=>numWd 4 (by decide) w0.inn gw bad3 s3 (R++[(g3,81,(cPG ⟨hd,tx,pl,mn,pa,sq⟩ vt (.slice A n cp) vs).toArray)]) b3 mn (by omega) p3 (by omega) w hw) (λu M hM=>?_)
 obtain ⟨s4,bad4,b4,q4,p4,rfl⟩:=hM
 have l4:b4.length≤b3.length+4:=q4.len
 refine sA ?_
 refine sp rfl<|sP (.pointer (some ⟨g3,35,none⟩))<|sS (.slice A n cp) (cellC (R:=[(g3,81,(cPG ⟨hd,tx,pl,mn,pa,sq⟩ vt (.slice A n cp) vs).toArray)]) (g:=g3) (f:=35) X4.one (λy hy=>inWB (List.mem_append_right R hy)) rfl Tryz.underlying79)<|sP (.int .i64 (n:Int)) ?_
 refine Sy.callT (λw hw=>manyW_any w0.inn gw bad4 s4 (R++[(g3,81,(cPG ⟨hd,tx,pl,mn,pa,sq⟩ vt (.slice A n cp) vs).toArray)]) b4 n 32 (by omega) (by decide) p4 (by omega) w hw) (λu M hM=>?_)
 obtain ⟨s5,bad5,b5,q5,p5,rfl⟩:=hM
 have l5:b5.length≤b4.length+9:=q5.len
 refine sG<|Sy.seq<|sC ?_
 refine sP (.int .i64 0) ?_
 refine sG<|Sy.block ?_
 have hsum6:∀ i,((pa.take i).map (λ_=>32)).sum≤(pa.map (λ_=>32)).sum:=λi=>by
  have e:=congrArg (λz=>(z.map (λ_=>32)).sum) (List.take_append_drop i pa)
  simp only [List.map_append,List.sum_append] at e
  omega
 refine Sy.loopT (Y:=Slc×Bool×Byt) n (λi _=>[(0,ptr gw),(3,ptr g3),(4,.int .i64 (i:Int))]) (λ_ y=>WB gw y.2.1 y.1 (R++[(g3,81,(cPG ⟨hd,tx,pl,mn,pa,sq⟩ vt (.slice A n cp) vs).toArray)])) (λi y=>Wrote ((pa.take i).all (λ_=>true)) ((pa.take i).flatMap (λd=>d)) (((pa.take i).map (λ_=>32)).sum) bad5 b5 y.2.1 y.2.2∧BS y.1 y.2.2) (s5,bad5,b5) ⟨by
  have e:=Wrote.raw [] bad5 b5 (k:=0) (Nat.le_refl 0)
  rw [List.append_nil] at e
  exact e,p5⟩ (all_cons kR (all_cons kR (all_cons kR all_nil))) (λ_ h=>h) (λi y hi hy=>?_)
 obtain ⟨s6,bad6,b6⟩:=y
 obtain ⟨q6,p6⟩:=hy
 dsimp only at q6 p6 ⊢
 refine Sy.seq<|sC ?_
 obtain ⟨t9,ht9⟩:∃ z:Bool,z=decide (i<n):=⟨_,rfl⟩
 refine sp rfl<|sP (.pointer (some ⟨g3,35,none⟩))<|sS (.slice A n cp) (cellC (R:=[(g3,81,(cPG ⟨hd,tx,pl,mn,pa,sq⟩ vt (.slice A n cp) vs).toArray)]) (g:=g3) (f:=35) X4.one (λy hy=>inWB (List.mem_append_right R hy)) rfl Tryz.underlying79)<|sP (.int .i64 (n:Int))<|sS (.bool t9) (Quiet.pure (exec_int .lss _ _ _ .i64 _ _ _ rfl rfl rfl (int_lss _ _ _ _ _ (by rw [ht9]; exact decide_eq_decide.2 (by omega))))) ?_
 refine sG ?_
 cases t9
 case' false =>
  have z3:¬ i<n:=of_decide_eq_false ht9.symm
  obtain rfl:n=i:=by omega
  rw [List.take_of_length_le (by omega)] at q6
  have l6:b6.length≤b5.length+(pa.map (λ_=>32)).sum:=q6.len
  refine sU<|Sy.exit<|Sy.then_exit<|Sy.then_exit<|Sy.in_exit<|Sy.then_<|Sy.region ?_
  refine sp rfl<|sP (.pointer (some ⟨g3,36,none⟩))<|sS vs (cellC (R:=[(g3,81,(cPG ⟨hd,tx,pl,mn,pa,sq⟩ vt (.slice A n cp) vs).toArray)]) (g:=g3) (f:=36) X5.one (λy hy=>inWB (List.mem_append_right R hy)) rfl Tryz.underlying29) ?_
  refine Sy.callT (λw hw=>textW_any w0.inn gw bad6 s6 (R++[(g3,81,(cPG ⟨hd,tx,pl,mn,pa,sq⟩ vt (.slice A n cp) vs).toArray)]) b6 vs sq 256 (by decide) p6 h6 (by omega) w hw) (λu M hM=>?_)
  obtain ⟨s7,bad7,b7,q7,p7,rfl⟩:=hM
  have l7:b7.length≤b6.length+(9+sq.length):=q7.len
  refine Sy.nil ?_
  have q:=q1.then_ (q2.then_ (q3.then_ (q4.then_ ((q5.then_ q6).then_ q7))))
  simp only [Bool.true_and,Bool.and_true,all_true] at q
  rw [← n1] at q
  exact Sy.retT0 rfl (WB gw bad7 s7 R) (λ_ h=>dropW h) (λ_=>⟨s7,bad7,b7,q,p7,rfl⟩)
 have z3:i<n:=of_decide_eq_true ht9.symm
 obtain ⟨x,hx⟩:∃ x,pa[i]? = some x:=⟨_,List.getElem?_eq_getElem (by omega)⟩
 obtain ⟨g,o,hA,hq⟩:=n4 (by intro e; rw [e] at hx; cases hx)
 obtain ⟨cx,y1,y2,y3,y4⟩:=hq i x hx
 obtain ⟨rfl,_⟩:=id y3
 have d1:XAt (rdC w0.inn []) g (o+i*32) _:=λj u hu=>.inl (y4 j u hu)
 have htk:pa.take (i+1)=pa.take i++[x]:=by rw [List.take_add_one,hx]; rfl
 have hsi:=hsum6 (i+1)
 rw [htk] at hsi
 simp only [List.map_append,List.sum_append,List.map_cons,List.map_nil,List.sum_cons,List.sum_nil] at hsi
 have hyl:=q6.len
 refine sT<|Sy.skip<|Sy.then_<|Sy.seq<|Sy.block<|Sy.region ?_
 refine sp rfl<|sP (.pointer (some ⟨g3,35,none⟩))<|sS (.slice A n cp) (cellC (R:=[(g3,81,(cPG ⟨hd,tx,pl,mn,pa,sq⟩ vt (.slice A n cp) vs).toArray)]) (g:=g3) (f:=35) X4.one (λy hy=>inWB (List.mem_append_right R hy)) rfl Tryz.underlying79)<|sp rfl<|sS (.pointer (some ⟨g,o+i*32,none⟩)) (Quiet.pure (exec_atO 79 _ _ _ A g o n cp i 32 .i64 hA rfl rfl rfl Tryz.underlying79 kF z3))<|sS (.agg (x.map bv).toArray) (rowC (R:=[]) d1 (λy hy=>by cases hy) y1 rfl Tryz.underlying28) ?_
 refine Sy.callT (λw hw=>digWd w0.inn gw bad6 s6 (R++[(g3,81,(cPG ⟨hd,tx,pl,mn,pa,sq⟩ vt (.slice A n cp) vs).toArray)]) b6 x y3.2 p6 (by omega) w hw) (λv M hM=>?_)
 obtain ⟨s9,bad9,b9,q9,p9,rfl⟩:=hM
 refine Sy.nil<|Sy.in_<|Sy.then_<|Sy.region ?_
 refine sp rfl<|sS (.int .i64 ((i+1:Nat):Int)) (Quiet.pure (exec_int .add _ _ _ .i64 _ _ _ rfl rfl rfl (int_add _ _ _ _ _ ((wrap_i64 (by omega) (by omega)).trans (by omega)))))<|sp rfl ?_
 refine Sy.nil ?_
 have hW:=q6.then_ q9
 have hW':Wrote ((pa.take (i+1)).all (λ_=>true)) ((pa.take (i+1)).flatMap (λd=>d)) (((pa.take (i+1)).map (λ_=>32)).sum) bad5 b5 bad9 b9:=by
  rw [htk]
  simp only [List.all_append,List.flatMap_append,List.map_append,List.sum_append,List.all_cons,List.all_nil,List.flatMap_cons,List.flatMap_nil,List.map_cons,List.map_nil,List.sum_cons,List.sum_nil,Bool.and_true,List.append_nil,Nat.add_zero]
  first | exact hW | simpa only [Bool.and_true] using hW
 exact Sy.againT (s9,bad9,b9) z3 ⟨hW',p9⟩ (all_cons kR (all_cons kR (all_cons kR all_nil))) (λw h=>h)
end Wr
end
section
namespace Wr
open Go.RowKit Sy
set_option maxRecDepth 100000
set_option maxHeartbeats 4000000
theorem joinX {P:Program} {w0:Base} {n:Nat} {Q:Exit→Act→World→Prop} {F:Slots} {L:Blocks} {c:Code} {T:Type} (FF:T→Slots) (LL:T→Blocks) (H:T→Prop) (h:∀ x,H x→X w0 n Q (FF x) (LL x) .normal) (k:(∀ x,H x→X w0 n Q (FF x) (LL x) .normal)→wpC P w0 n Q F L c):wpC P w0 n Q F L c:=k h
theorem leafX {w0:Base} {n:Nat} {Q:Exit→Act→World→Prop} {F:Slots} {L:Blocks} {T:Type} {FF:T→Slots} {LL:T→Blocks} {H:T→Prop} (h:∀ x,H x→X w0 n Q (FF x) (LL x) .normal) (x:T) (hx:H x) (hF:∀ p∈FF x,F.lookup p.1=some p.2) (hL:∀ w,St w0 w L→St w0 w (LL x)):X w0 n Q F L .normal:=λa w ha hw=>h x hx a w (ha.all hF) (hL w hw)
theorem sum_ge {α:Type} {wt:α→Nat} (h:∀ x,1≤wt x) (l:List α):l.length≤(l.map wt).sum:=by
 induction l with
 | nil=>exact Nat.le_refl 0
 | cons x l ih=>have q:=h x; rw [List.length_cons,List.map_cons,List.sum_cons]; omega
def cIN (z:Int) (pt:Byt) (ix:Nat) (ci cg:List Value) (vw:Value):List Value:=[.int .i64 z]++((pt.map bv++[.int .u32 (ix:Int)])++(ci++(cg++[vw])))
def cTX (af:Nat) (vi vo:Value):List Value:=[.int .u64 (af:Int)]++([vi]++[vo])
theorem path_le (p:MPg) {n:Nat} (h:wtPG p≤n):p.path.length≤n:=by
 have q:=sum_ge (wt:=λ_:Byt=>32) (λ_=>by decide) p.path
 unfold wtPG at h
 omega
theorem inW_any (w0:Base) (gw:Nat) (bad:Bool) (s:Slc) (R:Blocks) (b:Byt) (x:MIn) (cs:List Value) (hx:repIN (rdW w0.world) cs x) (hb:BS s b) (hl:b.length+wtIN x≤1000000000000) (w:World) (hw:St w0 w (WB gw bad s R)) :
  Calls Tryz.prog 97 #[ptr gw,.agg cs.toArray] w (Turns w0 (Wd gw R (okIN x) (encIN x) (wtIN x) bad b)):=by
 obtain ⟨z,pt,ix,iss,pg,wi⟩:=x
 obtain ⟨ci,cg,vw,hcs,h1,h2,h3,h4,⟨A,n,cp,rfl,n1,n2,n3,n4⟩⟩:=hx
 obtain rfl:cs=cIN z pt ix ci cg (.slice A n cp):=hcs
 dsimp only at h1 h2 h3 h4 n1 n4
 unfold wtIN at hl
 dsimp only at hl
 have m1:(pt.map bv++[Value.int .u32 (ix:Int)]).length=33:=by rw [List.length_append,List.length_map,h1]; rfl
 have m3:=lenIS h3
 have m4:=lenPG h4
 have hlo:=path_le pg (n:=1000000000000) (by omega)
 have hwi:=sum_ge (wt:=wtT) (λx=>by unfold wtT; omega) wi
 have hlen:(cIN z pt ix ci cg (.slice A n cp)).length=122:=by simp only [cIN,List.length_append,List.length_map,h1,m3,m4]; rfl
 refine Sy.enterT (args:=[ptr gw,.agg (cIN z pt ix ci cg (.slice A n cp)).toArray]) hw Tryz.func97 rfl kL ?_
 refine sC ?_
 refine sM 83 (cIN z pt ix ci cg (.slice A n cp)).toArray (λg3=>?_) kR (λw=>run_boxR rfl rfl (by kernel_rfl) hlen w)
 refine Sy.permS (M:=WB gw bad s (R++[(g3,83,(cIN z pt ix ci cg (.slice A n cp)).toArray)])) (List.Perm.of_eq (by simp only [List.append_assoc])) ?_
 have X0:XAt (rdC w0.inn [(g3,83,(cIN z pt ix ci cg (.slice A n cp)).toArray)]) g3 0 ((cIN z pt ix ci cg (.slice A n cp))):=λi u hu=>.inr ⟨_,_,List.mem_singleton.2 rfl,by rw [Nat.zero_add,List.getElem?_toArray]; exact hu⟩
 have X1:XAt (rdC w0.inn [(g3,83,(cIN z pt ix ci cg (.slice A n cp)).toArray)]) g3 1 ((pt.map bv++[.int .u32 (ix:Int)])++(ci++(cg++([.slice A n cp])))):=X0.right (n:=1) rfl
 have X2:XAt (rdC w0.inn [(g3,83,(cIN z pt ix ci cg (.slice A n cp)).toArray)]) g3 34 (ci++(cg++([.slice A n cp]))):=X1.right m1
 have X3:XAt (rdC w0.inn [(g3,83,(cIN z pt ix ci cg (.slice A n cp)).toArray)]) g3 84 (cg++([.slice A n cp])):=X2.right m3
 have X4:XAt (rdC w0.inn [(g3,83,(cIN z pt ix ci cg (.slice A n cp)).toArray)]) g3 121 ([.slice A n cp]):=X3.right m4
 refine sA ?_
 refine sp rfl<|sP (.pointer (some ⟨g3,0,none⟩))<|sS (.int .i64 z) (cellC (R:=[(g3,83,(cIN z pt ix ci cg (.slice A n cp)).toArray)]) (g:=g3) (f:=0) X0.one (λy hy=>inWB (List.mem_append_right R hy)) rfl Tryz.underlying3) ?_
 refine Sy.callT (λw hw=>smallW_any w0.inn gw bad s (R++[(g3,83,(cIN z pt ix ci cg (.slice A n cp)).toArray)]) b 1 2 z hb (by omega) w hw) (λu M hM=>?_)
 obtain ⟨s1,bad1,b1,q1,p1,rfl⟩:=hM
 have l1:b1.length≤b.length+1:=q1.len
 refine sA ?_
 refine sp rfl<|sP (.pointer (some ⟨g3,1,none⟩))<|sS (.agg (pt.map bv++[Value.int .u32 (ix:Int)]).toArray) (rowC (R:=[(g3,83,(cIN z pt ix ci cg (.slice A n cp)).toArray)]) (g:=g3) (f:=1) (k:=33) (cs:=pt.map bv++[Value.int .u32 (ix:Int)]) X1.left (λy hy=>inWB (List.mem_append_right R hy)) m1 rfl Tryz.underlying69) ?_
 refine Sy.callT (λw hw=>optW_any w0.inn gw bad1 s1 (R++[(g3,83,(cIN z pt ix ci cg (.slice A n cp)).toArray)]) b1 (pt,ix) _ ⟨rfl,h1,h2⟩ p1 (by omega) w hw) (λu M hM=>?_)
 obtain ⟨s2,bad2,b2,q2,p2,rfl⟩:=hM
 have l2:b2.length≤b1.length+36:=q2.len
 refine sA ?_
 refine sp rfl<|sP (.pointer (some ⟨g3,34,none⟩))<|sS (.agg ci.toArray) (rowC (R:=[(g3,83,(cIN z pt ix ci cg (.slice A n cp)).toArray)]) (g:=g3) (f:=34) (k:=50) (cs:=ci) X2.left (λy hy=>inWB (List.mem_append_right R hy)) m3 rfl Tryz.underlying78) ?_
 refine Sy.callT (λw hw=>issW_any w0.inn gw bad2 s2 (R++[(g3,83,(cIN z pt ix ci cg (.slice A n cp)).toArray)]) b2 iss ci h3 p2 (by omega) w hw) (λu M hM=>?_)
 obtain ⟨s3,bad3,b3,q3,p3,rfl⟩:=hM
 have l3:b3.length≤b2.length+wtIS iss:=q3.len
 refine sG<|Sy.seq ?_
 refine joinX (T:=Slc×Bool×Byt) (λ_=>[(0,ptr gw),(3,ptr g3)]) (λy=>WB gw y.2.1 y.1 (R++[(g3,83,(cIN z pt ix ci cg (.slice A n cp)).toArray)])) (λy=>Wrote (if z=2 then okPG pg else nulPG pg) (if z=2 then encPG pg else []) (wtPG pg) bad3 b3 y.2.1 y.2.2∧BS y.1 y.2.2) (λy hy=>?_) (λK=>?_)
 case refine_2 =>
  refine sC ?_
  by_cases hk:z=2
  ·subst hk
   refine sP (.pointer (some ⟨g3,0,none⟩))<|sS (.int .i64 2) (cellC (R:=[(g3,83,(cIN 2 pt ix ci cg (.slice A n cp)).toArray)]) (g:=g3) (f:=0) X0.one (λy hy=>inWB (List.mem_append_right R hy)) rfl Tryz.underlying3)<|sP (.bool true) ?_
   refine sG<|sT<|Sy.region ?_
   refine sp rfl<|sP (.pointer (some ⟨g3,84,none⟩))<|sS (.agg cg.toArray) (rowC (R:=[(g3,83,(cIN 2 pt ix ci cg (.slice A n cp)).toArray)]) (g:=g3) (f:=84) (k:=37) (cs:=cg) X3.left (λy hy=>inWB (List.mem_append_right R hy)) m4 rfl Tryz.underlying81) ?_
   refine Sy.callT (λw hw=>pegW_any w0.inn gw bad3 s3 (R++[(g3,83,(cIN 2 pt ix ci cg (.slice A n cp)).toArray)]) b3 pg cg h4 hlo p3 (by omega) w hw) (λu M hM=>?_)
   obtain ⟨s4,bad4,b4,q4,p4,rfl⟩:=hM
   have l4:b4.length≤b3.length+wtPG pg:=q4.len
   refine Sy.nil ?_
   exact leafX K (s4,bad4,b4) ⟨q4,p4⟩ (all_cons kR (all_cons kR all_nil)) (λ_ h=>h)
  obtain ⟨vt,vp,vs,rfl,e1,⟨A1,n1_,c1,rfl,g1_,_⟩,e3,e4,⟨A2,n2_,c2,rfl,g2_,_⟩,⟨A3,n3_,c3,rfl,g3_,_⟩⟩:=h4
  obtain ⟨ok,hok⟩:∃ ok,ok=nulPG pg:=⟨_,rfl⟩
  refine sP (.pointer (some ⟨g3,0,none⟩))<|sS (.int .i64 z) (cellC (R:=[(g3,83,(cIN z pt ix ci (cPG pg (.slice A1 n1_ c1) (.slice A2 n2_ c2) (.slice A3 n3_ c3)) (.slice A n cp)).toArray)]) (g:=g3) (f:=0) X0.one (λy hy=>inWB (List.mem_append_right R hy)) rfl Tryz.underlying3)<|sS (.bool false) (Quiet.pure (exec_int .eql _ _ _ .i64 _ _ _ rfl rfl rfl (int_eql _ _ _ _ _ (decide_eq_false hk)))) ?_
  refine sG<|sU<|Sy.region ?_
  refine sp rfl<|sP (.pointer (some ⟨g3,84,none⟩))<|sS (.agg (cPG pg (.slice A1 n1_ c1) (.slice A2 n2_ c2) (.slice A3 n3_ c3)).toArray) (rowC (R:=[(g3,83,(cIN z pt ix ci (cPG pg (.slice A1 n1_ c1) (.slice A2 n2_ c2) (.slice A3 n3_ c3)) (.slice A n cp)).toArray)]) (g:=g3) (f:=84) (k:=37) (cs:=cPG pg (.slice A1 n1_ c1) (.slice A2 n2_ c2) (.slice A3 n3_ c3)) X3.left (λy hy=>inWB (List.mem_append_right R hy)) m4 rfl Tryz.underlying81)<|sS (.bool ok) (qg (λw _=>by rw [hok]; exact none_any w pg A1 A2 A3 n1_ c1 n2_ c2 n3_ c3 g1_ g2_ g3_ e1)) ?_
  refine Sy.callT (λw hw=>mustW_any w0.inn gw bad3 ok s3 (R++[(g3,83,(cIN z pt ix ci (cPG pg (.slice A1 n1_ c1) (.slice A2 n2_ c2) (.slice A3 n3_ c3)) (.slice A n cp)).toArray)]) w hw) (λu M hM=>?_)
  subst hM
  refine Sy.nil ?_
  exact leafX K (s3,bad3 || !ok,b3) ⟨by rw [if_neg hk,if_neg hk,hok]; exact (Wrote.must _ bad3 b3).le (Nat.zero_le _),p3⟩ (all_cons kR (all_cons kR all_nil)) (λ_ h=>h)
 obtain ⟨s4,bad4,b4⟩:=y
 obtain ⟨q4,p4⟩:=hy
 dsimp only at q4 p4 ⊢
 have l4:b4.length≤b3.length+wtPG pg:=q4.len
 refine Sy.then_<|sC ?_
 refine sp rfl<|sP (.pointer (some ⟨g3,121,none⟩))<|sS (.slice A n cp) (cellC (R:=[(g3,83,(cIN z pt ix ci cg (.slice A n cp)).toArray)]) (g:=g3) (f:=121) X4.one (λy hy=>inWB (List.mem_append_right R hy)) rfl Tryz.underlying66)<|sP (.int .i64 (n:Int)) ?_
 refine Sy.callT (λw hw=>manyW_any w0.inn gw bad4 s4 (R++[(g3,83,(cIN z pt ix ci cg (.slice A n cp)).toArray)]) b4 n 16 (by omega) (by decide) p4 (by omega) w hw) (λu M hM=>?_)
 obtain ⟨s5,bad5,b5,q5,p5,rfl⟩:=hM
 have l5:b5.length≤b4.length+9:=q5.len
 refine sA ?_
 refine sP (.int .i64 0) ?_
 refine sG<|Sy.block ?_
 have hsum6:∀ i,((wi.take i).map wtT).sum≤(wi.map wtT).sum:=λi=>by
  have e:=congrArg (λz=>(z.map wtT).sum) (List.take_append_drop i wi)
  simp only [List.map_append,List.sum_append] at e
  omega
 refine Sy.loopT (Y:=Slc×Bool×Byt) n (λi _=>[(0,ptr gw),(3,ptr g3),(4,.int .i64 (i:Int))]) (λ_ y=>WB gw y.2.1 y.1 (R++[(g3,83,(cIN z pt ix ci cg (.slice A n cp)).toArray)])) (λi y=>Wrote ((wi.take i).all ok256) ((wi.take i).flatMap encT) (((wi.take i).map wtT).sum) bad5 b5 y.2.1 y.2.2∧BS y.1 y.2.2) (s5,bad5,b5) ⟨by
  have e:=Wrote.raw [] bad5 b5 (k:=0) (Nat.le_refl 0)
  rw [List.append_nil] at e
  exact e,p5⟩ (all_cons kR (all_cons kR (all_cons kR all_nil))) (λ_ h=>h) (λi y hi hy=>?_)
 obtain ⟨s6,bad6,b6⟩:=y
 obtain ⟨q6,p6⟩:=hy
 dsimp only at q6 p6 ⊢
 refine Sy.seq<|sC ?_
 obtain ⟨t9,ht9⟩:∃ z:Bool,z=decide (i<n):=⟨_,rfl⟩
 refine sp rfl<|sP (.pointer (some ⟨g3,121,none⟩))<|sS (.slice A n cp) (cellC (R:=[(g3,83,(cIN z pt ix ci cg (.slice A n cp)).toArray)]) (g:=g3) (f:=121) X4.one (λy hy=>inWB (List.mem_append_right R hy)) rfl Tryz.underlying66)<|sP (.int .i64 (n:Int))<|sS (.bool t9) (Quiet.pure (exec_int .lss _ _ _ .i64 _ _ _ rfl rfl rfl (int_lss _ _ _ _ _ (by rw [ht9]; exact decide_eq_decide.2 (by omega))))) ?_
 refine sG ?_
 cases t9
 case' false =>
  have z3:¬ i<n:=of_decide_eq_false ht9.symm
  obtain rfl:n=i:=by omega
  rw [List.take_of_length_le (by omega)] at q6
  have l6:b6.length≤b5.length+(wi.map wtT).sum:=q6.len
  refine sU<|Sy.exit<|Sy.then_exit<|Sy.then_exit<|Sy.in_exit ?_
  have q:=q1.then_ (q2.then_ (q3.then_ (q4.then_ (q5.then_ q6))))
  have e:okIN ⟨z,pt,ix,iss,pg,wi⟩=(okS 1 2 z && (okIS iss && ((if z=2 then okPG pg else nulPG pg) && (decide (n≤16) && wi.all ok256)))):=by rw [← n1]; rfl
  have e2:encIN ⟨z,pt,ix,iss,pg,wi⟩=[octB z]++(pt++(nb 4 ix++(encIS iss++((if z=2 then encPG pg else [])++(varB n++wi.flatMap encT))))):=by rw [← n1]; rfl
  rw [Bool.true_and] at q
  unfold encOP at q
  simp only [List.append_assoc] at q
  exact Sy.retT0 rfl (WB gw bad6 s6 R) (λ_ h=>dropW h) (λ_=>⟨s6,bad6,b6,by rw [e,e2]; exact q,p6,rfl⟩)
 have z3:i<n:=of_decide_eq_true ht9.symm
 obtain ⟨x,hx⟩:∃ x,wi[i]? = some x:=⟨_,List.getElem?_eq_getElem (by omega)⟩
 obtain ⟨g,o,hA,hq⟩:=n4 (by intro e; rw [e] at hx; cases hx)
 obtain ⟨cx,y1,y2,y3,y4⟩:=hq i x hx
 obtain ⟨vx,rfl,hvx⟩:=y3
 have d1:XAt (rdC w0.inn []) g (o+i*1) _:=λj u hu=>.inl (y4 j u hu)
 have htk:wi.take (i+1)=wi.take i++[x]:=by rw [List.take_add_one,hx]; rfl
 have hsi:=hsum6 (i+1)
 rw [htk] at hsi
 simp only [List.map_append,List.sum_append,List.map_cons,List.map_nil,List.sum_cons,List.sum_nil] at hsi
 have hyl:=q6.len
 refine sT<|Sy.skip<|Sy.then_<|Sy.seq<|Sy.block<|Sy.region ?_
 refine sp rfl<|sP (.pointer (some ⟨g3,121,none⟩))<|sS (.slice A n cp) (cellC (R:=[(g3,83,(cIN z pt ix ci cg (.slice A n cp)).toArray)]) (g:=g3) (f:=121) X4.one (λy hy=>inWB (List.mem_append_right R hy)) rfl Tryz.underlying66)<|sp rfl<|sS (.pointer (some ⟨g,o+i*1,none⟩)) (Quiet.pure (exec_atO 66 _ _ _ A g o n cp i 1 .i64 hA rfl rfl rfl Tryz.underlying66 kF z3))<|sS vx (cellC (R:=[]) d1.one (λy hy=>by cases hy) rfl Tryz.underlying29) ?_
 refine Sy.callT (λw hw=>textW_any w0.inn gw bad6 s6 (R++[(g3,83,(cIN z pt ix ci cg (.slice A n cp)).toArray)]) b6 vx x 256 (by decide) p6 hvx (by have e9:wtT x=9+x.length:=rfl; omega) w hw) (λv M hM=>?_)
 obtain ⟨s9,bad9,b9,q9,p9,rfl⟩:=hM
 refine Sy.nil<|Sy.in_<|Sy.then_<|Sy.region ?_
 refine sp rfl<|sS (.int .i64 ((i+1:Nat):Int)) (Quiet.pure (exec_int .add _ _ _ .i64 _ _ _ rfl rfl rfl (int_add _ _ _ _ _ ((wrap_i64 (by omega) (by omega)).trans (by omega)))))<|sp rfl ?_
 refine Sy.nil ?_
 have hW:=q6.then_ q9
 have hW':Wrote ((wi.take (i+1)).all ok256) ((wi.take (i+1)).flatMap encT) (((wi.take (i+1)).map wtT).sum) bad5 b5 bad9 b9:=by
  rw [htk]
  simp only [List.all_append,List.flatMap_append,List.map_append,List.sum_append,List.all_cons,List.all_nil,List.flatMap_cons,List.flatMap_nil,List.map_cons,List.map_nil,List.sum_cons,List.sum_nil,Bool.and_true,List.append_nil,Nat.add_zero]
  first | exact hW | simpa only [Bool.and_true] using hW
 exact Sy.againT (s9,bad9,b9) z3 ⟨hW',p9⟩ (all_cons kR (all_cons kR (all_cons kR all_nil))) (λw h=>h)
theorem txW_any (w0:Base) (gw:Nat) (bad:Bool) (s:Slc) (R:Blocks) (b:Byt) (x:MTr) (cs:List Value) (hx:repTR (rdW w0.world) cs x) (hb:BS s b) (hl:b.length+wtTR x≤1000000000000) (w:World) (hw:St w0 w (WB gw bad s R)) :
  Calls Tryz.prog 53 #[ptr gw,.agg cs.toArray] w (Turns w0 (Wd gw R (okTR x) (encTR x) (wtTR x) bad b)):=by
 obtain ⟨af,is,os⟩:=x
 obtain ⟨vi,vo,hcs,h1,⟨A,n,cp,rfl,n1,m2,m3,n4⟩,⟨A2,n2,cp2,rfl,k1,k2,k3,k4⟩⟩:=hx
 obtain rfl:cs=cTX af (.slice A n cp) (.slice A2 n2 cp2):=hcs
 dsimp only at h1 n1 n4 k1 k4
 unfold wtTR at hl
 dsimp only at hl
 have hi9:=sum_ge (wt:=wtIN) (λx=>by unfold wtIN; omega) is
 have ho9:=sum_ge (wt:=wtOU) (λx=>by unfold wtOU; omega) os
 have hlen:(cTX af (.slice A n cp) (.slice A2 n2 cp2)).length=3:=rfl
 refine Sy.enterT (args:=[ptr gw,.agg (cTX af (.slice A n cp) (.slice A2 n2 cp2)).toArray]) hw Tryz.func53 rfl kL ?_
 refine sC ?_
 refine sM 26 (cTX af (.slice A n cp) (.slice A2 n2 cp2)).toArray (λg3=>?_) kR (λw=>run_boxR rfl rfl (by kernel_rfl) hlen w)
 refine Sy.permS (M:=WB gw bad s (R++[(g3,26,(cTX af (.slice A n cp) (.slice A2 n2 cp2)).toArray)])) (List.Perm.of_eq (by simp only [List.append_assoc])) ?_
 have X0:XAt (rdC w0.inn [(g3,26,(cTX af (.slice A n cp) (.slice A2 n2 cp2)).toArray)]) g3 0 ((cTX af (.slice A n cp) (.slice A2 n2 cp2))):=λi u hu=>.inr ⟨_,_,List.mem_singleton.2 rfl,by rw [Nat.zero_add,List.getElem?_toArray]; exact hu⟩
 have X1:XAt (rdC w0.inn [(g3,26,(cTX af (.slice A n cp) (.slice A2 n2 cp2)).toArray)]) g3 1 ([.slice A n cp]++([.slice A2 n2 cp2])):=X0.right (n:=1) rfl
 have X2:XAt (rdC w0.inn [(g3,26,(cTX af (.slice A n cp) (.slice A2 n2 cp2)).toArray)]) g3 2 ([.slice A2 n2 cp2]):=X1.right (n:=1) rfl
 refine sA ?_
 refine sp rfl<|sP (.pointer (some ⟨g3,0,none⟩))<|sS (.int .u64 (af:Int)) (cellC (R:=[(g3,26,(cTX af (.slice A n cp) (.slice A2 n2 cp2)).toArray)]) (g:=g3) (f:=0) X0.one (λy hy=>inWB (List.mem_append_right R hy)) rfl Tryz.underlying22) ?_
 refine Sy.callT (λw hw=>numWd 8 (by decide) w0.inn gw bad s (R++[(g3,26,(cTX af (.slice A n cp) (.slice A2 n2 cp2)).toArray)]) b af h1 hb (by omega) w hw) (λu M hM=>?_)
 obtain ⟨s1,bad1,b1,q1,p1,rfl⟩:=hM
 have l1:b1.length≤b.length+8:=q1.len
 refine sA ?_
 refine sp rfl<|sP (.pointer (some ⟨g3,1,none⟩))<|sS (.slice A n cp) (cellC (R:=[(g3,26,(cTX af (.slice A n cp) (.slice A2 n2 cp2)).toArray)]) (g:=g3) (f:=1) X1.one (λy hy=>inWB (List.mem_append_right R hy)) rfl Tryz.underlying23)<|sP (.int .i64 (n:Int)) ?_
 refine Sy.callT (λw hw=>manyW_any w0.inn gw bad1 s1 (R++[(g3,26,(cTX af (.slice A n cp) (.slice A2 n2 cp2)).toArray)]) b1 n 16 (by omega) (by decide) p1 (by omega) w hw) (λu M hM=>?_)
 obtain ⟨s2,bad2,b2,q2,p2,rfl⟩:=hM
 have l2:b2.length≤b1.length+9:=q2.len
 refine sG<|Sy.seq<|sC ?_
 refine sP (.int .i64 0) ?_
 refine sG<|Sy.block ?_
 have hsum3:∀ i,((is.take i).map wtIN).sum≤(is.map wtIN).sum:=λi=>by
  have e:=congrArg (λz=>(z.map wtIN).sum) (List.take_append_drop i is)
  simp only [List.map_append,List.sum_append] at e
  omega
 refine Sy.loopT (Y:=Slc×Bool×Byt) n (λi _=>[(0,ptr gw),(3,ptr g3),(4,.int .i64 (i:Int))]) (λ_ y=>WB gw y.2.1 y.1 (R++[(g3,26,(cTX af (.slice A n cp) (.slice A2 n2 cp2)).toArray)])) (λi y=>Wrote ((is.take i).all okIN) ((is.take i).flatMap encIN) (((is.take i).map wtIN).sum) bad2 b2 y.2.1 y.2.2∧BS y.1 y.2.2) (s2,bad2,b2) ⟨by
  have e:=Wrote.raw [] bad2 b2 (k:=0) (Nat.le_refl 0)
  rw [List.append_nil] at e
  exact e,p2⟩ (all_cons kR (all_cons kR (all_cons kR all_nil))) (λ_ h=>h) (λi y hi hy=>?_)
 obtain ⟨s3,bad3,b3⟩:=y
 obtain ⟨q3,p3⟩:=hy
 dsimp only at q3 p3 ⊢
 refine Sy.seq<|sC ?_
 obtain ⟨t9,ht9⟩:∃ z:Bool,z=decide (i<n):=⟨_,rfl⟩
 refine sp rfl<|sP (.pointer (some ⟨g3,1,none⟩))<|sS (.slice A n cp) (cellC (R:=[(g3,26,(cTX af (.slice A n cp) (.slice A2 n2 cp2)).toArray)]) (g:=g3) (f:=1) X1.one (λy hy=>inWB (List.mem_append_right R hy)) rfl Tryz.underlying23)<|sP (.int .i64 (n:Int))<|sS (.bool t9) (Quiet.pure (exec_int .lss _ _ _ .i64 _ _ _ rfl rfl rfl (int_lss _ _ _ _ _ (by rw [ht9]; exact decide_eq_decide.2 (by omega))))) ?_
 refine sG ?_
 cases t9
 case' false =>
  have z3:¬ i<n:=of_decide_eq_false ht9.symm
  obtain rfl:n=i:=by omega
  rw [List.take_of_length_le (by omega)] at q3
  have l3:b3.length≤b2.length+(is.map wtIN).sum:=q3.len
  refine sU<|Sy.exit<|Sy.then_exit<|Sy.then_exit<|Sy.in_exit<|Sy.then_<|sC ?_
  refine sp rfl<|sP (.pointer (some ⟨g3,2,none⟩))<|sS (.slice A2 n2 cp2) (cellC (R:=[(g3,26,(cTX af (.slice A n cp) (.slice A2 n2 cp2)).toArray)]) (g:=g3) (f:=2) X2.one (λy hy=>inWB (List.mem_append_right R hy)) rfl Tryz.underlying24)<|sP (.int .i64 (n2:Int)) ?_
  refine Sy.callT (λw hw=>manyW_any w0.inn gw bad3 s3 (R++[(g3,26,(cTX af (.slice A n cp) (.slice A2 n2 cp2)).toArray)]) b3 n2 16 (by omega) (by decide) p3 (by omega) w hw) (λu M hM=>?_)
  obtain ⟨s4,bad4,b4,q4,p4,rfl⟩:=hM
  have l4:b4.length≤b3.length+9:=q4.len
  refine sA ?_
  refine sP (.int .i64 0) ?_
  refine sG<|Sy.block ?_
  have hsum5:∀ i,((os.take i).map wtOU).sum≤(os.map wtOU).sum:=λi=>by
   have e:=congrArg (λz=>(z.map wtOU).sum) (List.take_append_drop i os)
   simp only [List.map_append,List.sum_append] at e
   omega
  refine Sy.loopT (Y:=Slc×Bool×Byt) n2 (λi _=>[(0,ptr gw),(3,ptr g3),(5,.int .i64 (i:Int))]) (λ_ y=>WB gw y.2.1 y.1 (R++[(g3,26,(cTX af (.slice A n cp) (.slice A2 n2 cp2)).toArray)])) (λi y=>Wrote ((os.take i).all okOU) ((os.take i).flatMap encOU) (((os.take i).map wtOU).sum) bad4 b4 y.2.1 y.2.2∧BS y.1 y.2.2) (s4,bad4,b4) ⟨by
   have e:=Wrote.raw [] bad4 b4 (k:=0) (Nat.le_refl 0)
   rw [List.append_nil] at e
   exact e,p4⟩ (all_cons kR (all_cons kR (all_cons kR all_nil))) (λ_ h=>h) (λi y hi hy=>?_)
  obtain ⟨s5,bad5,b5⟩:=y
  obtain ⟨q5,p5⟩:=hy
  dsimp only at q5 p5 ⊢
  refine Sy.seq<|sC ?_
  obtain ⟨t9,ht9⟩:∃ z:Bool,z=decide (i<n2):=⟨_,rfl⟩
  refine sp rfl<|sP (.pointer (some ⟨g3,2,none⟩))<|sS (.slice A2 n2 cp2) (cellC (R:=[(g3,26,(cTX af (.slice A n cp) (.slice A2 n2 cp2)).toArray)]) (g:=g3) (f:=2) X2.one (λy hy=>inWB (List.mem_append_right R hy)) rfl Tryz.underlying24)<|sP (.int .i64 (n2:Int))<|sS (.bool t9) (Quiet.pure (exec_int .lss _ _ _ .i64 _ _ _ rfl rfl rfl (int_lss _ _ _ _ _ (by rw [ht9]; exact decide_eq_decide.2 (by omega))))) ?_
  refine sG ?_
  cases t9
  case' false =>
   have z3:¬ i<n2:=of_decide_eq_false ht9.symm
   obtain rfl:n2=i:=by omega
   rw [List.take_of_length_le (by omega)] at q5
   have l5:b5.length≤b4.length+(os.map wtOU).sum:=q5.len
   refine sU<|Sy.exit<|Sy.then_exit<|Sy.then_exit<|Sy.in_exit ?_
   have q:=q1.then_ ((q2.then_ q3).then_ (q4.then_ q5))
   rw [Bool.true_and, ← n1, ← k1] at q
   exact Sy.retT0 rfl (WB gw bad5 s5 R) (λ_ h=>dropW h) (λ_=>⟨s5,bad5,b5,q,p5,rfl⟩)
  have z3:i<n2:=of_decide_eq_true ht9.symm
  obtain ⟨x,hx⟩:∃ x,os[i]? = some x:=⟨_,List.getElem?_eq_getElem (by omega)⟩
  obtain ⟨g,o,hA,hq⟩:=k4 (by intro e; rw [e] at hx; cases hx)
  obtain ⟨cx,y1,y2,y3,y4⟩:=hq i x hx
  have d1:XAt (rdC w0.inn []) g (o+i*58) _:=λj u hu=>.inl (y4 j u hu)
  have htk:os.take (i+1)=os.take i++[x]:=by rw [List.take_add_one,hx]; rfl
  have hsi:=hsum5 (i+1)
  rw [htk] at hsi
  simp only [List.map_append,List.sum_append,List.map_cons,List.map_nil,List.sum_cons,List.sum_nil] at hsi
  have hyl:=q5.len
  refine sT<|Sy.skip<|Sy.then_<|Sy.seq<|Sy.block<|Sy.region ?_
  refine sp rfl<|sP (.pointer (some ⟨g3,2,none⟩))<|sS (.slice A2 n2 cp2) (cellC (R:=[(g3,26,(cTX af (.slice A n cp) (.slice A2 n2 cp2)).toArray)]) (g:=g3) (f:=2) X2.one (λy hy=>inWB (List.mem_append_right R hy)) rfl Tryz.underlying24)<|sp rfl<|sS (.pointer (some ⟨g,o+i*58,none⟩)) (Quiet.pure (exec_atO 24 _ _ _ A2 g o n2 cp2 i 58 .i64 hA rfl rfl rfl Tryz.underlying24 kF z3))<|sS (.agg cx.toArray) (rowC (R:=[]) d1 (λy hy=>by cases hy) y1 rfl Tryz.underlying88) ?_
  refine Sy.callT (λw hw=>outW_any w0.inn gw bad5 s5 (R++[(g3,26,(cTX af (.slice A n cp) (.slice A2 n2 cp2)).toArray)]) b5 x cx y3 p5 (by omega) w hw) (λv M hM=>?_)
  obtain ⟨s9,bad9,b9,q9,p9,rfl⟩:=hM
  refine Sy.nil<|Sy.in_<|Sy.then_<|Sy.region ?_
  refine sp rfl<|sS (.int .i64 ((i+1:Nat):Int)) (Quiet.pure (exec_int .add _ _ _ .i64 _ _ _ rfl rfl rfl (int_add _ _ _ _ _ ((wrap_i64 (by omega) (by omega)).trans (by omega)))))<|sp rfl ?_
  refine Sy.nil ?_
  have hW:=q5.then_ q9
  have hW':Wrote ((os.take (i+1)).all okOU) ((os.take (i+1)).flatMap encOU) (((os.take (i+1)).map wtOU).sum) bad4 b4 bad9 b9:=by
   rw [htk]
   simp only [List.all_append,List.flatMap_append,List.map_append,List.sum_append,List.all_cons,List.all_nil,List.flatMap_cons,List.flatMap_nil,List.map_cons,List.map_nil,List.sum_cons,List.sum_nil,Bool.and_true,List.append_nil,Nat.add_zero]
   first | exact hW | simpa only [Bool.and_true] using hW
  exact Sy.againT (s9,bad9,b9) z3 ⟨hW',p9⟩ (all_cons kR (all_cons kR (all_cons kR all_nil))) (λw h=>h)
 have z3:i<n:=of_decide_eq_true ht9.symm
 obtain ⟨x,hx⟩:∃ x,is[i]? = some x:=⟨_,List.getElem?_eq_getElem (by omega)⟩
 obtain ⟨g,o,hA,hq⟩:=n4 (by intro e; rw [e] at hx; cases hx)
 obtain ⟨cx,y1,y2,y3,y4⟩:=hq i x hx
 have d1:XAt (rdC w0.inn []) g (o+i*122) _:=λj u hu=>.inl (y4 j u hu)
 have htk:is.take (i+1)=is.take i++[x]:=by rw [List.take_add_one,hx]; rfl
 have hsi:=hsum3 (i+1)
 rw [htk] at hsi
 simp only [List.map_append,List.sum_append,List.map_cons,List.map_nil,List.sum_cons,List.sum_nil] at hsi
 have hyl:=q3.len
 refine sT<|Sy.skip<|Sy.then_<|Sy.seq<|Sy.block<|Sy.region ?_
 refine sp rfl<|sP (.pointer (some ⟨g3,1,none⟩))<|sS (.slice A n cp) (cellC (R:=[(g3,26,(cTX af (.slice A n cp) (.slice A2 n2 cp2)).toArray)]) (g:=g3) (f:=1) X1.one (λy hy=>inWB (List.mem_append_right R hy)) rfl Tryz.underlying23)<|sp rfl<|sS (.pointer (some ⟨g,o+i*122,none⟩)) (Quiet.pure (exec_atO 23 _ _ _ A g o n cp i 122 .i64 hA rfl rfl rfl Tryz.underlying23 kF z3))<|sS (.agg cx.toArray) (rowC (R:=[]) d1 (λy hy=>by cases hy) y1 rfl Tryz.underlying83) ?_
 refine Sy.callT (λw hw=>inW_any w0.inn gw bad3 s3 (R++[(g3,26,(cTX af (.slice A n cp) (.slice A2 n2 cp2)).toArray)]) b3 x cx y3 p3 (by omega) w hw) (λv M hM=>?_)
 obtain ⟨s9,bad9,b9,q9,p9,rfl⟩:=hM
 refine Sy.nil<|Sy.in_<|Sy.then_<|Sy.region ?_
 refine sp rfl<|sS (.int .i64 ((i+1:Nat):Int)) (Quiet.pure (exec_int .add _ _ _ .i64 _ _ _ rfl rfl rfl (int_add _ _ _ _ _ ((wrap_i64 (by omega) (by omega)).trans (by omega)))))<|sp rfl ?_
 refine Sy.nil ?_
 have hW:=q3.then_ q9
 have hW':Wrote ((is.take (i+1)).all okIN) ((is.take (i+1)).flatMap encIN) (((is.take (i+1)).map wtIN).sum) bad2 b2 bad9 b9:=by
  rw [htk]
  simp only [List.all_append,List.flatMap_append,List.map_append,List.sum_append,List.all_cons,List.all_nil,List.flatMap_cons,List.flatMap_nil,List.map_cons,List.map_nil,List.sum_cons,List.sum_nil,Bool.and_true,List.append_nil,Nat.add_zero]
  first | exact hW | simpa only [Bool.and_true] using hW
 exact Sy.againT (s9,bad9,b9) z3 ⟨hW',p9⟩ (all_cons kR (all_cons kR (all_cons kR all_nil))) (λw h=>h)
end Wr
end
section
namespace Wr
open Go.RowKit Sy
set_option maxRecDepth 100000
set_option maxHeartbeats 4000000
theorem txR_w (w:World) (x:MTr) (cs:List Value) (hx:repTR (rdW w) cs x) (hwt:wtTR x≤1000000000000) :
  Calls Tryz.prog 25 #[.agg cs.toArray] w (GetsN w (BytE (okTR x) (encTR x))):=by
 have hlen:cs.length=3:=by
  exact lenTR hx
 refine Sy.enter (args:=[.agg cs.toArray]) Tryz.func25 rfl kL ?_
 refine sC ?_
 refine sM 26 cs.toArray (λg1=>?_) kR (λw=>run_boxR rfl rfl (by kernel_rfl) hlen w)
 refine sP (.slice none 0 0)<|sP (.int .i64 0) ?_
 refine sA ?_
 refine sP (.agg #[.slice none 0 0,.bool false])<|sM 115 #[.slice none 0 0,.bool false] (λgw=>?_)
 refine sp rfl ?_
 refine sA ?_
 refine Sy.permS (M:=WB gw false nilS [(g1,26,cs.toArray)]) (Sy.perm_at [1,0] (by kernel_rfl) (by rfl)) ?_
 refine sp rfl<|sS (.agg cs.toArray) (Quiet.mid 1 g1 0 3 26 26 cs cs _ _ rfl kR rfl Tryz.underlying26 rfl kR (by rw [List.drop_zero,List.take_of_length_le (by omega)]) (by omega)) ?_
 refine Sy.callT (λw' hw=>txW_any (Base.of w) gw false nilS [(g1,26,cs.toArray)] [] x cs hx BS.nil (by show 0+_≤_; omega) w' hw) (λu M hM=>?_)
 obtain ⟨s',bad,b',q1,q2,rfl⟩:=hM
 have qb:=q1.bad
 refine sA ?_
 refine sp rfl ?_
 refine Sy.callT (λw' hw=>doneW_any (Base.of w) gw bad s' [(g1,26,cs.toArray)] w' hw) (λu M hM=>?_)
 obtain ⟨rfl,rfl⟩:=hM
 cases bad
 ·have hok:okTR x=true:=by
   cases h:okTR x with
   | true=>rfl
   | false=>rw [h] at qb; cases qb
  have hbb:b'=encTR x:=q1.bytes rfl
  rw [if_neg (by decide)]
  refine sp rfl<|sp rfl<|sp rfl<|sp rfl ?_
  refine sG<|Sy.ret ?_
  exact Sy.retGM2 s'.bl rfl (.inl (show _=_ by kernel_rfl)) (.inl (show _=_ by kernel_rfl)) (λ_ h=>h.less ((List.sublist_append_left _ _).trans (List.sublist_append_right _ _))) (.inl ⟨hok,_,rfl,by rw [← hbb]; exact q2.as⟩)
 ·have hok:okTR x=false:=by
   cases h:okTR x with
   | false=>rfl
   | true=>rw [h] at qb; cases qb
  rw [if_pos rfl]
  refine sp rfl<|sp rfl<|sp rfl<|sp rfl ?_
  refine sG<|Sy.ret ?_
  exact Sy.retGM2 [] rfl (.inl (show _=_ by kernel_rfl)) (.inl (show _=_ by kernel_rfl)) (λ_ h=>h.none) (.inr ⟨hok,rfl,rfl⟩)
end Wr
end
section
namespace Wr
open Go.RowKit Sy
set_option maxRecDepth 100000
set_option maxHeartbeats 4000000
abbrev zIN:List Value:=((([]:List Value))++([Value.int .i64 0]++(Z32++([Value.int .u32 0]++(([Value.int .i64 0]++(([Value.bool false]++([Value.int .u64 0]++lPT ⟨0,0,false⟩))++([Value.slice none 0 0]++([Value.int .u64 0]++(Z32++(Cu.fws 0))))))++((Z32++([Value.slice none 0 0]++([Value.int .u32 0]++([Value.int .u32 0]++([Value.slice none 0 0]++([Value.slice none 0 0]))))))++([Value.slice none 0 0]++(([]:List Value)))))))))
abbrev TbR (w:World):Prop:=Sh.TabAt w 0
theorem tbR_st {w0:Base} {w:World} {L:Blocks} (ht:TbR w0.world) (hw:St w0 w L):TbR w:=ht.below hw.below ht.lt
theorem tagR_one (w:World) (nm:ByteArray) (hnm:nm.size≤1000000000) (g:Nat) (v:Value) (b:Byt) (h:BytR (rdW w) v b) (hb:Blk w g 29 #[v]) (hl:b.length≤1000000000) (ht:TbR w) :
  Calls Tryz.prog 44 #[.string nm,.slice (some ⟨g,0,none⟩) 1 1] w (Gets w (.agg ((Sh.taggedS nm.data.toList b).map bv).toArray)):=by
 obtain ⟨x,rfl,rfl,hx⟩:=txOf h
 have e:Sh.cat [x]=x.l:=by simp [Sh.cat]
 have q:=Sh.taggedR_any w nm (some ⟨g,0,none⟩) [x] 1 (Cu.texts_blk hb (λy hy=>by rw [List.mem_singleton.1 hy]; exact hx)) ht hnm (by rw [e]; exact hl) (by show 1≤1000000000; omega)
 rw [e] at q
 exact q
def BrR (C:Rdr) (af:Nat) (vo:Value) (l:List MIn) (u:Value) (M:Blocks):Prop:=∃ y:Slc,u=.agg #[.int .u64 (af:Int),y.v,vo]∧M=y.bl∧RowsX C 83 122 repIN y l
theorem bareR_at (w:World) (D:Rdr) (hD:Le D (rdW w)) (cs:List Value) (x:MTr) (hx:repTR D cs x) (hwt:wtTR x≤1000000000):∃ vo,cs[2]? = some vo∧LstR D 58 repOU vo x.outs∧vo.oneCell'=true∧vo.cells=#[vo]∧Calls Tryz.prog 43 #[.agg cs.toArray] w (GetsN w (BrR D x.after vo (x.ins.map bareI))):=by
 obtain ⟨af,is,os⟩:=x
 obtain ⟨vi,vo,rfl,h1,hI,hO⟩:=hx
 dsimp only at h1 hI hO
 obtain ⟨A,n,cp,rfl,hn1,hn2,hn3,hn4⟩:=id hI
 obtain ⟨A2,n2,cp2,rfl,ho1,ho2,ho3,ho4⟩:=id hO
 have hin:is.length≤100000000000:=by
  have q:=sum_ge1 (wt:=wtIN) (λx=>by unfold wtIN; omega) is
  unfold wtTR at hwt
  dsimp only at hwt
  omega
 refine ⟨_,rfl,hO,rfl,rfl,?_⟩
 dsimp only
 show Calls Tryz.prog 43 #[.agg #[.int .u64 (af:Int),.slice A n cp,.slice A2 n2 cp2]] w _
 refine Sy.enter (args:=[.agg #[.int .u64 (af:Int),.slice A n cp,.slice A2 n2 cp2]]) Tryz.func43 rfl kL ?_
 have hmx:n<9223372036854775808:=by simp only [maxLen] at hn3; omega
 refine sC ?_
 refine sM 26 #[.int .u64 (af:Int),.slice A n cp,.slice A2 n2 cp2] (λg1=>?_)
 refine sM 26 #[.int .u64 0,.slice none 0 0,.slice none 0 0] (λg2=>?_)
 refine sA ?_
 refine sP (.slice none 0 0) ?_
 refine sG<|Sy.seq<|sC ?_
 refine sP (.int .i64 0) ?_
 refine sG<|Sy.block ?_
 refine Sy.loopT (Y:=Slc) n (λk z=>[(1,ptr g1),(2,ptr g2),(3,z.v),(4,.int .i64 (k:Int))]) (λk z=>[(g1,26,#[.int .u64 (af:Int),.slice A n cp,.slice A2 n2 cp2]),(g2,26,#[.int .u64 0,.slice none 0 0,.slice none 0 0])]++(z.bl++[])) (λk z=>RowsX D 83 122 repIN z ((is.take k).map bareI)) nilS RowsX.nil (all_cons kR (all_cons kR (all_cons kR (all_cons kR all_nil)))) (λ_ h=>h) (λk z hk hz=>?_)
 refine Sy.seq<|sC ?_
 obtain ⟨b2,hb2⟩:∃ t_:Bool,t_=decide (k<n):=⟨_,rfl⟩
 refine sp rfl<|sP (.pointer (some ⟨g1,1,none⟩))<|sS (.slice A n cp) (qc 0 1 rfl rfl Tryz.underlying23)<|sP (.int .i64 (n:Int))<|sS (.bool b2) (Quiet.pure (exec_int .lss _ _ _ .i64 _ _ _ rfl rfl rfl (int_lss _ _ _ _ _ (by rw [hb2]; exact decide_eq_decide.2 (by omega))))) ?_
 refine sG ?_
 cases b2
 case' true =>
  have l2:k<n:=of_decide_eq_true hb2.symm
  obtain ⟨x,hx⟩:∃ x,is[k]? = some x:=⟨_,List.getElem?_eq_getElem (by omega)⟩
  obtain ⟨g,o,rfl,hq⟩:=hn4 (by intro e; rw [e] at hx; cases hx)
  obtain ⟨c,c1,c2,c3,c4⟩:=hq k x hx
  refine sT<|Sy.skip<|Sy.then_<|Sy.seq<|Sy.block<|sC ?_
  refine sP (.pointer (some ⟨g1,1,none⟩))<|sS (.slice (some ⟨g,o,none⟩) n cp) (qc 0 1 rfl rfl Tryz.underlying23)<|sp rfl<|sS (.pointer (some ⟨g,o+k*122,none⟩)) (Quiet.pure (exec_at 23 83 _ _ g o n cp k 122 .i64 rfl rfl rfl Tryz.underlying23 kF l2))<|sS (.agg c.toArray) (rowC (R:=[]) (cs:=c) (λi u hu=>rdW_base _ _ _ (hD _ _ _ (c4 i u hu))) (λ_ h=>by cases h) c1 rfl Tryz.underlying83) ?_
  refine sM 83 zIN.toArray (λg5=>?_)
  refine Sy.permS (M:=[(g1,26,#[.int .u64 (af:Int),.slice (some ⟨g,o,none⟩) n cp,.slice A2 n2 cp2]),(g2,26,#[.int .u64 0,.slice none 0 0,.slice none 0 0])]++([(g5,83,zIN.toArray)]++z.bl)) (by
   rw [List.append_nil]
   exact (List.Perm.of_eq (List.append_assoc [(g1,26,#[.int .u64 (af:Int),.slice (some ⟨g,o,none⟩) n cp,.slice A2 n2 cp2]),(g2,26,#[.int .u64 0,.slice none 0 0,.slice none 0 0])] z.bl _)).trans (List.perm_append_comm.append_left _)) ?_
  refine sw 2 rfl c.toArray (Writes.row 83 c 122 _ _ rfl kR kR kR c1 (by kernel_rfl) c2) ?_
  refine sA ?_
  refine sP (.pointer (some ⟨g5,121,none⟩))<|sw 2 rfl (c.toArray.setIfInBounds 121 (.slice none 0 0)) (Writes.one 121 66 (.slice none 0 0) _ _ rfl kR kR kR rfl rfl (by rw [List.size_toArray,c1]; decide) rfl) ?_
  rw [List.setIfInBounds_toArray]
  obtain ⟨c',hc'⟩:∃ c',c'=c.set 121 (.slice none 0 0):=⟨_,rfl⟩
  have c1':c'.length=122:=by rw [hc',List.length_set,c1]
  have c2':∀ u∈c',u.oneCell'=true:=λu hu=>by
   rw [hc'] at hu
   rcases List.mem_or_eq_of_mem_set hu with hu | rfl
   ·exact c2 u hu
   ·rfl
  have c3':repIN D c' (bareI x):=by rw [hc']; exact strip_rep c3
  rw [← hc']
  refine sG<|Sy.region ?_
  refine sp rfl<|sS (.agg c'.toArray) (Quiet.mid 2 g5 0 122 83 83 c' c' _ _ rfl kR rfl Tryz.underlying83 rfl kR (by rw [List.drop_zero,List.take_of_length_le (by omega)]) (by omega)) ?_
  refine Sy.make kR 83 c'.toArray (λg=>.slice (some ⟨g,0,none⟩) 1 1) (Makes.one 23 83 _ _ 122 _ c' rfl kR Tryz.underlying23 info_ins rfl rfl c1' (by decide) (by decide)) (λg6=>?_)
  obtain ⟨xs,z1,z2,z3⟩:=hz
  have hxl:xs.length=k:=by rw [z2,List.length_map,List.length_take]; omega
  refine Sy.permS (M:=([(g1,26,#[.int .u64 (af:Int),.slice (some ⟨g,o,none⟩) n cp,.slice A2 n2 cp2]),(g2,26,#[.int .u64 0,.slice none 0 0,.slice none 0 0])]++[(g5,83,c'.toArray),(g6,83,c'.toArray)])++(z.bl++[])) (by
   rw [List.append_nil]
   exact (List.Perm.of_eq (by simp only [List.append_assoc,List.cons_append,List.nil_append,List.set])).trans (((List.perm_append_comm (l₁:=z.bl) (l₂:=[(g6,83,c'.toArray)])).cons _).cons _ |>.cons _)) ?_
  refine Sy.appendR kR 23 83 _ _ 122 376 Tryz.underlying23 info_ins rfl rfl rfl rfl (by decide) _ _ rfl z1 rfl c' c1' c2' 3 g6 83 rfl rfl (by omega) (by simp only [maxLen]; omega) (λr hr=>?_)
  refine sp rfl ?_
  refine Sy.nil<|Sy.in_<|Sy.then_<|Sy.region ?_
  refine sp rfl<|sS (.int .i64 ((k+1:Nat):Int)) (Quiet.pure (exec_int .add _ _ _ .i64 _ _ _ rfl rfl rfl (int_add _ _ _ _ _ ((wrap_i64 (by omega) (by omega)).trans (by omega)))))<|sp rfl ?_
  refine Sy.nil ?_
  refine Sy.againT r l2 ⟨xs++[c'],hr,by rw [List.length_append,hxl,List.length_map,List.length_take]; show k+1=_; omega,λj y hy=>?_⟩ (all_cons kR (all_cons kR (all_cons kR (all_cons kR all_nil)))) (λw h=>h.less (by simp))
  rw [List.take_add_one,hx,List.map_append] at hy
  have hml:((is.take k).map bareI).length=k:=by rw [List.length_map,List.length_take]; omega
  rcases Nat.lt_or_ge j k with hlt | hge
  ·rw [List.getElem?_append_left (by omega)] at hy
   obtain ⟨d,d1,d2⟩:=z3 j y hy
   exact ⟨d,by rw [List.getElem?_append_left (by omega)]; exact d1,d2⟩
  ·rw [List.getElem?_append_right (by omega),hml] at hy
   cases hj:j - k with
   | zero =>
    rw [hj] at hy
    cases hy
    exact ⟨c',by rw [List.getElem?_append_right (by omega),hxl,hj]; rfl,c3'⟩
   | succ i=>rw [hj] at hy; cases hy
 have l2:¬ k<n:=of_decide_eq_false hb2.symm
 obtain rfl:k=n:=by omega
 rw [List.take_of_length_le (Nat.le_of_eq hn1)] at hz
 have hzc:z.v.cells=#[z.v]∧z.v.oneCell'=true:=by
  obtain ⟨xs,z1,_⟩:=hz
  exact z1.cells
 refine sU<|Sy.exit<|Sy.then_exit<|Sy.then_exit<|Sy.in_exit<|Sy.then_<|sC ?_
 refine sp rfl<|sP (.pointer (some ⟨g1,1,none⟩))<|sw 0 rfl #[.int .u64 (af:Int),z.v,.slice A2 n2 cp2] (Writes.one 1 23 z.v _ _ rfl kR kR kR hzc.1 hzc.2 kL rfl) ?_
 refine sA ?_
 refine sS (.agg #[.int .u64 (af:Int),z.v,.slice A2 n2 cp2]) (qk 0 0 3 rfl rfl Tryz.underlying26) ?_
 refine sw 1 rfl #[.int .u64 (af:Int),z.v,.slice A2 n2 cp2] (Writes.row 26 [.int .u64 (af:Int),z.v,.slice A2 n2 cp2] 3 _ _ rfl kR kR kR rfl (by kernel_rfl) (λu hu=>by
  simp only [List.mem_cons,List.not_mem_nil,or_false] at hu
  rcases hu with rfl | rfl | rfl
  ·rfl
  ·exact hzc.2
  ·rfl)) ?_
 refine sG<|Sy.ret ?_
 exact Sy.retGM z.bl rfl (.inl (Sy.Res.cell (ty':=26) g2 1 #[.int .u64 (af:Int),z.v,.slice A2 n2 cp2] _ rfl rfl Tryz.underlying26 rfl kR rfl)) (λ_ h=>h.less (by simp)) ⟨z,rfl,rfl,hz⟩
end Wr
end
section
namespace Wr
open Go.RowKit Sy
set_option maxRecDepth 100000
set_option maxHeartbeats 4000000
end Wr
end
section
namespace Wr
open Go.RowKit Sy
set_option maxRecDepth 100000
set_option maxHeartbeats 4000000
theorem ByN.bytes {e:Byt} {u:Value} {M:Blocks} (h:ByN e u M):BytR (rdB M) u e:=by
 obtain ⟨A,n,cp,rfl,h⟩:=h
 exact Slc_byt h
end Wr
end
end Go.Proofs.YtgggdbjakcpanaaGreatDoor
