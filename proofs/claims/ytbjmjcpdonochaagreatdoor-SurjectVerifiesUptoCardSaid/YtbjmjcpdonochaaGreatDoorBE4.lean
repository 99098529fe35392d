/-
  Texts of ours, put together: CrvC, CrvO, ScSpec, ScLow, FeB32, FeRead, RefSqrt, RootNum, CrvD, CrvP, CrvQ, EcW, CrvR, SymF, SymG, CrvS, CrvT, CrvU.
-/
import Derived.Test.YtbjmjcpdonochaaGreatDoorBE3
set_option linter.unusedVariables false
set_option linter.unusedSimpArgs false
set_option maxRecDepth 100000
set_option maxHeartbeats 8000000
namespace Go.Proofs.YtbjmjcpdonochaaGreatDoor
section
namespace Cu
open Go.RowKit Sy
def Ba:Array Value:=#[.int .u64 18446744069414583343,.int .u64 18446744073709551615,.int .u64 18446744073709551615,.int .u64 18446744073709551615,.int .u64 4294968273,.int .u64 0,.int .u64 0]
def TV:Array Value:=#[.int .u64 0,.int .u64 0,.int .u64 0,.int .u64 0,.int .u64 0,.int .u64 0,.int .u64 0]
theorem OR (w:World) (a b:Fp):Calls Tryz.prog 117 #[.agg Ba,fv a.val,fv b.val] w (Gets w (fv (a*b).val)):=Oq w a.val b.val (lt4 a) (lt4 b)
theorem OS (w:World) (a b:Fp):Calls Tryz.prog 143 #[.agg Ba,fv a.val,fv b.val] w (Gets w (fv (a+b).val)):=Kr w a.val b.val (lt4 a) (lt4 b)
theorem OP (w:World) (a b:Fp):Calls Tryz.prog 128 #[.agg Ba,fv a.val,fv b.val] w (Gets w (fv (a - b).val)):=by rw [← Lw]; exact N7 w a.val b.val (lt4 a) (lt4 b)
theorem OQ (w:World) (a:Fp):Calls Tryz.prog 190 #[.agg Ba,fv a.val] w (Gets w (fv (-a).val)):=by rw [← Lx]; exact J6 w a.val (lt4 a)
theorem Se (a:Nat):Hw a=pw a (115792089237316195423570985008687907853269984665640564039457584007908834671663 - 2):=by
 have h:=KD a
 rw [KC] at h
 rw [h, ← RF]
 rfl
theorem Gq (w:World) (a:Fp):Calls Tryz.prog 53 #[.agg Ba,fv a.val] w (Gets w (fv (Ae a).val)):=by
 have e:(Ae a).val=Hw a.val:=rfl
 have h:=LV w a.val (lt4 a)
 rw [← Se, ← e] at h
 exact h
theorem DY (w:World) (F:AK) (o:Oper) (x y:Operand) (n m:Nat) {yt:TypeId} (ho:o.op=.binOp .eql 90 x y yt) (hx:evF F x=fv n) (hy:evF F y=fv m) (hn:n<K4) (hm:m<K4):(execOp (evF F) o).run Tryz.prog w=.ok (.value (.bool (decide (n=m)))) w:=by
 have h1:=Nm.run_eqGuard_fv .eql x y n m w
 have h2:=Nm.run_eql_fv w n m hn hm
 unfold execOp
 simp only [ho,hx,hy,Sem.run_bind,h1,h2,Result.andThen_ok,Sem.run_pure]
theorem Qj (w:World) (F:AK) (o:Oper) (x y:Operand) (n m:Nat) {yt:TypeId} (ho:o.op=.binOp .neq 90 x y yt) (hx:evF F x=fv n) (hy:evF F y=fv m) (hn:n<K4) (hm:m<K4):(execOp (evF F) o).run Tryz.prog w=.ok (.value (.bool (decide (n≠m)))) w:=by
 have h1:=Nm.run_eqGuard_fv .neq x y n m w
 have h2:=Nm.run_neq_fv w n m hn hm
 unfold execOp
 simp only [ho,hx,hy,Sem.run_bind,h1,h2,Result.andThen_ok,Sem.run_pure]
theorem L5 (w:World) (k:Nat) (hk:k<18446744073709551616):Calls Tryz.prog 115 #[.int .u64 (k:Int)] w (Gets w (fv k)):=by
 rw [G_ k hk]
 refine Sy.enter (args:=[.int .u64 (k:Int)]) Tryz.func115 U kL<|sC<|sM 90 (fcs 0) (λg0=>?_)
 refine sA<|sP (.int .u64 (k:Int))<|sP (.agg #[.int .u64 (k:Int),.int .u64 0,.int .u64 0,.int .u64 0])<|sW 0 g0 90 (fcs 0) #[.int .u64 (k:Int),.int .u64 0,.int .u64 0,.int .u64 0] (wS 0 90 #[.int .u64 (k:Int),.int .u64 0,.int .u64 0,.int .u64 0] rfl)<|sG<|Sy.ret ?_
 exact Sy.ret1 U (.inl (Res.cell (ty':=90) g0 0 #[.int .u64 (k:Int),.int .u64 0,.int .u64 0,.int .u64 0] _ kR kR AH U kR kR))
theorem A5 (w:World) (a b:Fp):Calls Tryz.prog 55 #[fv a.val,fv b.val] w (Gets w (fv (a*b).val)):=by
 refine Sy.enter (args:=[fv a.val,fv b.val]) Tryz.func55 U kL<|sC<|sM 90 (fcs a.val) (λg0=>?_)
 refine sM 90 (fcs b.val) (λg1=>?_)
 refine sM 90 (fcs 0) (λg2=>?_)
 refine sH (λj=>j == 4) ?_
 refine sD 0 U (.agg Ba) (qF 54 #[] (Cs))<|sD 1 U (fv a.val) (qL 0 g0 0 4 90 90 (fcs a.val) rfl AH)<|sD 2 U (fv b.val) (qL 1 g1 0 4 90 90 (fcs b.val) rfl AH) ?_
 obtain ⟨z1,hz1⟩:∃ z:Fp,z=a*b:=⟨_,rfl⟩
 refine sD 3 U (fv z1.val) (qF 117 #[.agg Ba,fv a.val,fv b.val] (λw=>by rw [hz1]; exact OR w a b))<|sX 4 U 2 g2 90 (fcs 0) (fcs z1.val) (wS 0 90 (fcs z1.val) rfl)<|sI<|Sy.ret ?_
 rw [show (fv (a*b).val:Value)=fv z1.val from by rw [hz1]]
 exact rC (v:=fv z1.val) 90 g2 2 (fcs z1.val) rfl AH
theorem CS (w:World) (a b:Fp):Calls Tryz.prog 113 #[fv a.val,fv b.val] w (Gets w (fv (a+b).val)):=by
 refine Sy.enter (args:=[fv a.val,fv b.val]) Tryz.func113 U kL<|sC<|sM 90 (fcs a.val) (λg0=>?_)
 refine sM 90 (fcs b.val) (λg1=>?_)
 refine sM 90 (fcs 0) (λg2=>?_)
 refine sH (λj=>j == 4) ?_
 refine sD 0 U (.agg Ba) (qF 54 #[] (Cs))<|sD 1 U (fv a.val) (qL 0 g0 0 4 90 90 (fcs a.val) rfl AH)<|sD 2 U (fv b.val) (qL 1 g1 0 4 90 90 (fcs b.val) rfl AH) ?_
 obtain ⟨z1,hz1⟩:∃ z:Fp,z=a+b:=⟨_,rfl⟩
 refine sD 3 U (fv z1.val) (qF 143 #[.agg Ba,fv a.val,fv b.val] (λw=>by rw [hz1]; exact OS w a b))<|sX 4 U 2 g2 90 (fcs 0) (fcs z1.val) (wS 0 90 (fcs z1.val) rfl)<|sI<|Sy.ret ?_
 rw [show (fv (a+b).val:Value)=fv z1.val from by rw [hz1]]
 exact rC (v:=fv z1.val) 90 g2 2 (fcs z1.val) rfl AH
theorem Bm (w:World) (a b:Fp):Calls Tryz.prog 114 #[fv a.val,fv b.val] w (Gets w (fv (a - b).val)):=by
 refine Sy.enter (args:=[fv a.val,fv b.val]) Tryz.func114 U kL<|sC<|sM 90 (fcs a.val) (λg0=>?_)
 refine sM 90 (fcs b.val) (λg1=>?_)
 refine sM 90 (fcs 0) (λg2=>?_)
 refine sH (λj=>j == 4) ?_
 refine sD 0 U (.agg Ba) (qF 54 #[] (Cs))<|sD 1 U (fv a.val) (qL 0 g0 0 4 90 90 (fcs a.val) rfl AH)<|sD 2 U (fv b.val) (qL 1 g1 0 4 90 90 (fcs b.val) rfl AH) ?_
 obtain ⟨z1,hz1⟩:∃ z:Fp,z=a - b:=⟨_,rfl⟩
 refine sD 3 U (fv z1.val) (qF 128 #[.agg Ba,fv a.val,fv b.val] (λw=>by rw [hz1]; exact OP w a b))<|sX 4 U 2 g2 90 (fcs 0) (fcs z1.val) (wS 0 90 (fcs z1.val) rfl)<|sI<|Sy.ret ?_
 rw [show (fv (a - b).val:Value)=fv z1.val from by rw [hz1]]
 exact rC (v:=fv z1.val) 90 g2 2 (fcs z1.val) rfl AH
theorem GD (w:World)  : Calls Tryz.prog 52 #[] w (Gets w (pv 0 0 true)):=by
 refine Sy.enter (args:=[]) Tryz.func52 U kL<|sC<|sM 48 (pcs 0 0 false) (λg0=>?_)
 refine sA<|sP (pv 0 0 true)<|sW 0 g0 48 (pcs 0 0 false) (pcs 0 0 true) (wS 0 48 (pcs 0 0 true) rfl)<|sG<|Sy.ret ?_
 exact rC (v:=pv 0 0 true) 48 g0 0 (pcs 0 0 true) rfl Ac
theorem Md (w:World)  : Calls Tryz.prog 16 #[] w (Gets w (ptv bP)):=by
 refine Sy.enter (args:=[]) Tryz.func16 U kL<|sC<|sM 48 (pcs 0 0 false) (λg0=>?_)
 refine sA<|sP (fv 55066263022277343669578718895168534326250603453777594175500187360389116729240)<|sP (fv 32670510020758816978083085130507043184471273380659243275938904335757337482424)<|sP (pv 55066263022277343669578718895168534326250603453777594175500187360389116729240 32670510020758816978083085130507043184471273380659243275938904335757337482424 false)<|sW 0 g0 48 (pcs 0 0 false) (pcs 55066263022277343669578718895168534326250603453777594175500187360389116729240 32670510020758816978083085130507043184471273380659243275938904335757337482424 false) (wS 0 48 (pcs 55066263022277343669578718895168534326250603453777594175500187360389116729240 32670510020758816978083085130507043184471273380659243275938904335757337482424 false) rfl)<|sG<|Sy.ret ?_
 rw [show (ptv bP:Value)=pv 55066263022277343669578718895168534326250603453777594175500187360389116729240 32670510020758816978083085130507043184471273380659243275938904335757337482424 false from by kernel_rfl]
 exact rC (v:=pv 55066263022277343669578718895168534326250603453777594175500187360389116729240 32670510020758816978083085130507043184471273380659243275938904335757337482424 false) 48 g0 0 (pcs 55066263022277343669578718895168534326250603453777594175500187360389116729240 32670510020758816978083085130507043184471273380659243275938904335757337482424 false) rfl Ac
theorem RH (w:World) (x:Fp):Calls Tryz.prog 173 #[fv x.val] w (Gets w (fv (x*x*x+7).val)):=by
 refine Sy.enter (args:=[fv x.val]) Tryz.func173 U kL<|sC<|sM 90 (fcs x.val) (λg0=>?_)
 refine sM 90 (fcs 0) (λg1=>?_)
 refine sH (λj=>j == 7) ?_
 refine sD 0 U (fv x.val) (qL 0 g0 0 4 90 90 (fcs x.val) rfl AH)<|sD 1 U (fv x.val) (qL 0 g0 0 4 90 90 (fcs x.val) rfl AH)<|sD 2 U (fv x.val) (qL 0 g0 0 4 90 90 (fcs x.val) rfl AH) ?_
 obtain ⟨z1,hz1⟩:∃ z:Fp,z=x*x:=⟨_,rfl⟩
 refine sD 3 U (fv z1.val) (qF 55 #[fv x.val,fv x.val] (λw=>by rw [hz1]; exact A5 w x x)) ?_
 obtain ⟨z2,hz2⟩:∃ z:Fp,z=x*z1:=⟨_,rfl⟩
 refine sD 4 U (fv z2.val) (qF 55 #[fv x.val,fv z1.val] (λw=>by rw [hz2]; exact A5 w x z1)) ?_
 obtain ⟨z3,hz3⟩:∃ z:Fp,z=(7:Fp):=⟨_,rfl⟩
 refine sD 5 U (fv z3.val) (qF 115 #[.int .u64 7] (λw=>by rw [hz3]; exact L5 w 7 dZ)) ?_
 obtain ⟨z4,hz4⟩:∃ z:Fp,z=z2+z3:=⟨_,rfl⟩
 refine sD 6 U (fv z4.val) (qF 113 #[fv z2.val,fv z3.val] (λw=>by rw [hz4]; exact CS w z2 z3))<|sX 7 U 1 g1 90 (fcs 0) (fcs z4.val) (wS 0 90 (fcs z4.val) rfl)<|sI<|Sy.ret ?_
 rw [show (fv (x*x*x+7).val:Value)=fv z4.val from by
  refine congrArg (λt:Fp=>fv t.val) ?_
  grobner]
 exact rC (v:=fv z4.val) 90 g1 1 (fcs z4.val) rfl AH
theorem E8 (w:World) (x y:Nat) (hx:x<K4) (hy:y<K4):Calls Tryz.prog 56 #[fv x,fv y] w (Gets w (pv x y false)):=by
 refine Sy.enter (args:=[fv x,fv y]) Tryz.func56 U kL<|sC<|sM 90 (fcs x) (λg0=>?_)
 refine sM 90 (fcs y) (λg1=>?_)
 refine sM 48 (pcs 0 0 false) (λg2=>?_)
 refine sH (λj=>j == 5) ?_
 refine sD 0 U (fv x) (qL 0 g0 0 4 90 90 (fcs x) rfl AH)<|sD 1 U (fv x) (qF 118 #[fv x] (λw=>IG w x lK))<|sD 2 U (fv y) (qL 1 g1 0 4 90 90 (fcs y) rfl AH)<|sD 3 U (fv y) (qF 118 #[fv y] (λw=>IG w y lK))<|sZ 4 U (pv x y false)<|sX 5 U 2 g2 48 (pcs 0 0 false) (pcs x y false) (wS 0 48 (pcs x y false) rfl)<|sI<|Sy.ret ?_
 exact rC (v:=pv x y false) 48 g2 2 (pcs x y false) rfl Ac
theorem Ju (w:World) (x y:Nat) (i:Bool) (hx:x<K4) (hy:y<K4):Calls Tryz.prog 110 #[pv x y i] w (Gets w (.bool (An x y i))):=by
 refine Sy.enter (args:=[pv x y i]) Tryz.func110 U kL<|sC<|sM 48 (pcs x y i) (λg0=>?_)
 refine sP (.bool false)<|sG<|Sy.seq<|sC<|sP (pT g0 8)<|sS (.bool i) (qC 0 g0 8 48 4 (pcs x y i) rfl uy4)<|sG ?_
 cases i
 ·refine sU<|Sy.skip<|sB ?_
  refine sP (pT g0 0)<|sS (fv x) (qL 0 g0 0 4 48 46 (pcs x y false) rfl AG)<|sS (fv x) (qF 49 #[fv x] (λw=>refOf_any w x lK))<|sM 90 (fcs 0) (λg1=>?_)
  refine sW 1 g1 90 (fcs 0) (fcs x) (wS 0 90 (fcs x) rfl)<|sA<|sP (pT g0 4)<|sS (fv y) (qL 0 g0 4 4 48 46 (pcs x y false) rfl AG)<|sS (fv y) (qF 49 #[fv y] (λw=>refOf_any w y lK))<|sM 90 (fcs 0) (λg2=>?_)
  refine sW 2 g2 90 (fcs 0) (fcs y) (wS 0 90 (fcs y) rfl)<|sA<|sS (.agg Ba) (qF 54 #[] (Cs))<|sM 94 TV (λg3=>?_)
  refine sW 3 g3 94 TV Ba (wS 0 94 Ba U)<|sA<|sS (.agg Ba) (qL 3 g3 0 7 94 94 Ba U Ey)<|sS (fv x) (qL 1 g1 0 4 90 90 (fcs x) rfl AH) ?_
  obtain ⟨b1,hb1⟩:=xE (decide (x<pM))
  refine sS (.bool b1) (qF 172 #[.agg Ba,fv x] (λw=>by rw [hb1]; exact rightR_any w x lK))<|sP (.bool b1)<|sA<|sS (.agg Ba) (qL 3 g3 0 7 94 94 Ba U Ey)<|sS (fv y) (qL 2 g2 0 4 90 90 (fcs y) rfl AH) ?_
  obtain ⟨b2,hb2⟩:=xE (decide (y<pM))
  refine sS (.bool b2) (qF 172 #[.agg Ba,fv y] (λw=>by rw [hb2]; exact rightR_any w y lK))<|sP (.bool b2)<|sH (λj=>false) ?_
  refine sZ 0 U (.bool b1)<|sZ 1 U (.bool b1) ?_
  cases b1
  ·refine sQ 2 U<|sZ 3 U (.bool false)<|sZ 4 U (.bool false)<|sQ 5 U<|sQ 6 U<|sQ 7 U<|sQ 8 U<|sQ 9 U ?_
   refine sQ 10 U<|sZ 11 U (.bool false)<|sZ 12 U (.bool false)<|sI<|Sy.ret ?_
   rw [show (.bool (An x y false):Value)=.bool false from by rw [TM (of_decide_eq_false hb1.symm)]]
   exact rV (.bool false) rfl
  ·obtain ⟨ux,rfl⟩:∃ u:Fp,x=u.val:=⟨⟨x,of_decide_eq_true hb1.symm⟩,rfl⟩
   refine sZ 2 U (.bool b2)<|sZ 3 U (.bool b2)<|sZ 4 U (.bool b2) ?_
   cases b2
   ·refine sQ 5 U<|sQ 6 U<|sQ 7 U<|sQ 8 U<|sQ 9 U<|sQ 10 U<|sZ 11 U (.bool false)<|sZ 12 U (.bool false) ?_
    refine sI<|Sy.ret ?_
    rw [show (.bool (An ux.val y false):Value)=.bool false from by rw [TL (of_decide_eq_false hb2.symm)]]
    exact rV (.bool false) rfl
   ·obtain ⟨uy,rfl⟩:∃ u:Fp,y=u.val:=⟨⟨y,of_decide_eq_true hb2.symm⟩,rfl⟩
    refine sD 5 U (fv uy.val) (qL 2 g2 0 4 90 90 (fcs uy.val) rfl AH)<|sD 6 U (fv uy.val) (qL 2 g2 0 4 90 90 (fcs uy.val) rfl AH) ?_
    obtain ⟨z1,hz1⟩:∃ z:Fp,z=uy*uy:=⟨_,rfl⟩
    refine sD 7 U (fv z1.val) (qF 55 #[fv uy.val,fv uy.val] (λw=>by rw [hz1]; exact A5 w uy uy))<|sD 8 U (fv ux.val) (qL 1 g1 0 4 90 90 (fcs ux.val) rfl AH) ?_
    obtain ⟨z2,hz2⟩:∃ z:Fp,z=ux*ux*ux+7:=⟨_,rfl⟩
    refine sD 9 U (fv z2.val) (qF 173 #[fv ux.val] (λw=>by rw [hz2]; exact RH w ux)) ?_
    obtain ⟨b3,hb3⟩:=xE (decide (z1.val=z2.val))
    refine sD 10 U (.bool b3) (Quiet.pure (λw=>by rw [hb3]; exact DY w _ _ _ _ _ _ U U U lK lK))<|sZ 11 U (.bool b3)<|sZ 12 U (.bool b3)<|sI<|Sy.ret ?_
    rw [show (.bool (An ux.val uy.val false):Value)=.bool b3 from by rw [hb3,OT]; simp only [hz2,hz1]]
    exact rV (.bool b3) rfl
 ·refine sT<|Sy.seq ?_
  refine Sy.regionD (λj=>false) kR<|sD 0 U (pv x y true) (qL 0 g0 0 9 48 48 (pcs x y true) rfl Ac)<|sD 1 U (pv 0 0 true) (qF 52 #[] (GD)) ?_
  obtain ⟨b4,hb4⟩:=xE (Cg x y true 0 0 true)
  refine sD 2 U (.bool b4) (Quiet.pure (λw=>by rw [hb4]; exact DK w _ _ _ _ _ _ _ _ _ _ U U U lK lK lK lK))<|sZ 3 U (.bool b4)<|sI<|Sy.ret<|Sy.then_ret ?_
  rw [show (.bool (An x y true):Value)=.bool b4 from by rw [hb4,Gn]]
  exact rV (.bool b4) rfl
theorem Bl (w:World) (x y:Nat) (i:Bool) (hx:x<K4) (hy:y<K4):Calls Tryz.prog 45 #[pv x y i] w (Gets w (ptv (dec x y i))):=by
 refine Sy.enter (args:=[pv x y i]) Tryz.func45 U kL<|sC<|sM 48 (pcs x y i) (λg0=>?_)
 refine sM 48 (pcs 0 0 false) (λg1=>?_)
 refine sA<|sS (pv x y i) (qL 0 g0 0 9 48 48 (pcs x y i) rfl Ac) ?_
 obtain ⟨b1,hb1⟩:=xE (An x y i)
 refine sS (.bool b1) (qF 110 #[pv x y i] (by rw [hb1]; exact λw=>Ju w x y i lK lK))<|sP (.bool b1)<|sG<|Sy.seq<|sC<|sP (.bool b1) ?_
 cases b1
 ·refine sP (.bool true) ?_
  refine sG<|sT<|sC<|sS (pv 0 0 true) (qF 52 #[] (GD))<|sW 1 g1 48 (pcs 0 0 false) (pcs 0 0 true) (wS 0 48 (pcs 0 0 true) rfl)<|sG<|Sy.ret<|Sy.then_ret ?_
  rw [show (ptv (dec x y i):Value)=pv 0 0 true from II x y i hb1.symm]
  exact rC (v:=pv 0 0 true) 48 g1 1 (pcs 0 0 true) rfl Ac
 ·refine sP (.bool false) ?_
  refine sG<|sU<|Sy.skip<|sB<|sS (pv x y i) (qL 0 g0 0 9 48 48 (pcs x y i) rfl Ac)<|sW 1 g1 48 (pcs 0 0 false) (pcs x y i) (wS 0 48 (pcs x y i) rfl)<|sG<|Sy.ret ?_
  rw [show (ptv (dec x y i):Value)=pv x y i from IJ x y i hb1.symm]
  exact rC (v:=pv x y i) 48 g1 1 (pcs x y i) rfl Ac
theorem LN (w:World) (x y:Nat) (i:Bool) (hx:x<K4) (hy:y<K4) (h:dec x y i=none):Calls Tryz.prog 132 #[pv x y i] w (Gets w (ptv (Ec.neg none))):=by
 refine Sy.enter (args:=[pv x y i]) Tryz.func132 U kL<|sC<|sM 48 (pcs x y i) (λg0=>?_)
 refine sM 48 (pcs 0 0 false) (λg1=>?_)
 refine sA<|sS (pv x y i) (qL 0 g0 0 9 48 48 (pcs x y i) rfl Ac)<|sS (pv 0 0 true) (qF 45 #[pv x y i] (λw=>by have hrr:=Bl w x y i lK lK; rw [h] at hrr; exact hrr))<|sW 0 g0 48 (pcs x y i) (pcs 0 0 true) (wS 0 48 (pcs 0 0 true) rfl)<|sG<|Sy.seq<|sC<|sP (pT g0 8)<|sS (.bool true) (qC 0 g0 8 48 4 (pcs 0 0 true) rfl uy4)<|sG<|sT<|sC<|sS (pv 0 0 true) (qL 0 g0 0 9 48 48 (pcs 0 0 true) rfl Ac)<|sW 1 g1 48 (pcs 0 0 false) (pcs 0 0 true) (wS 0 48 (pcs 0 0 true) rfl)<|sG<|Sy.ret<|Sy.then_ret ?_
 rw [show (ptv (Ec.neg none):Value)=pv 0 0 true from rfl]
 exact rC (v:=pv 0 0 true) 48 g1 1 (pcs 0 0 true) rfl Ac
theorem LM (w:World) (x y:Nat) (i:Bool) (hx:x<K4) (hy:y<K4) (u v:Fp) (h:dec x y i=some (u,v)):Calls Tryz.prog 132 #[pv x y i] w (Gets w (ptv (Ec.neg (some (u,v))))):=by
 refine Sy.enter (args:=[pv x y i]) Tryz.func132 U kL<|sC<|sM 48 (pcs x y i) (λg0=>?_)
 refine sM 48 (pcs 0 0 false) (λg1=>?_)
 refine sA<|sS (pv x y i) (qL 0 g0 0 9 48 48 (pcs x y i) rfl Ac)<|sS (pv u.val v.val false) (qF 45 #[pv x y i] (λw=>by have hrr:=Bl w x y i lK lK; rw [h] at hrr; exact hrr))<|sW 0 g0 48 (pcs x y i) (pcs u.val v.val false) (wS 0 48 (pcs u.val v.val false) rfl)<|sG<|Sy.seq<|sC<|sP (pT g0 8)<|sS (.bool false) (qC 0 g0 8 48 4 (pcs u.val v.val false) rfl uy4)<|sG<|sU<|Sy.skip<|sR (λj=>j == 9) ?_
 refine sZ 0 U (pT g0 0)<|sD 1 U (fv u.val) (qL 0 g0 0 4 48 46 (pcs u.val v.val false) rfl AG)<|sD 2 U (fv u.val) (qF 49 #[fv u.val] (λw=>refOf_any w u.val lK))<|sD 3 U (.agg Ba) (qF 54 #[] (Cs))<|sZ 4 U (pT g0 4)<|sD 5 U (fv v.val) (qL 0 g0 4 4 48 46 (pcs u.val v.val false) rfl AG)<|sD 6 U (fv v.val) (qF 49 #[fv v.val] (λw=>refOf_any w v.val lK)) ?_
 obtain ⟨z1,hz1⟩:∃ z:Fp,z = -v:=⟨_,rfl⟩
 refine sD 7 U (fv z1.val) (qF 190 #[.agg Ba,fv v.val] (λw=>by rw [hz1]; exact OQ w v))<|sD 8 U (pv u.val z1.val false) (qF 56 #[fv u.val,fv z1.val] (λw=>E8 w u.val z1.val lK lK))<|sX 9 U 1 g1 48 (pcs 0 0 false) (pcs u.val z1.val false) (wS 0 48 (pcs u.val z1.val false) rfl)<|sI<|Sy.ret ?_
 rw [show (ptv (Ec.neg (some (u,v))):Value)=pv u.val z1.val false from by rw [hz1]; rfl]
 exact rC (v:=pv u.val z1.val false) 48 g1 1 (pcs u.val z1.val false) rfl Ac
theorem NF (w:World) (x y:Nat) (i:Bool) (hx:x<K4) (hy:y<K4):Calls Tryz.prog 132 #[pv x y i] w (Gets w (ptv (Ec.neg (dec x y i)))):=by
 rcases h:dec x y i with _ | ⟨u,v⟩
 ·exact LN w x y i hx hy h
 ·exact LM w x y i hx hy u v h
theorem Pp (w:World) (x y:Nat) (i:Bool) (x2 y2:Nat) (i2:Bool) (hx:x<K4) (hy:y<K4) (hx2:x2<K4) (hy2:y2<K4) (h:dec x y i=none) (k:dec x2 y2 i2=none):Calls Tryz.prog 68 #[pv x y i,pv x2 y2 i2] w (Gets w (ptv none)):=by
 refine Sy.enter (args:=[pv x y i,pv x2 y2 i2]) Tryz.func68 U kL<|sC<|sM 48 (pcs x y i) (λg0=>?_)
 refine sM 48 (pcs x2 y2 i2) (λg1=>?_)
 refine sM 48 (pcs 0 0 false) (λg2=>?_)
 refine sA<|sS (pv x y i) (qL 0 g0 0 9 48 48 (pcs x y i) rfl Ac)<|sS (pv 0 0 true) (qF 45 #[pv x y i] (λw=>by have hrr:=Bl w x y i lK lK; rw [h] at hrr; exact hrr))<|sW 0 g0 48 (pcs x y i) (pcs 0 0 true) (wS 0 48 (pcs 0 0 true) rfl)<|sA<|sS (pv x2 y2 i2) (qL 1 g1 0 9 48 48 (pcs x2 y2 i2) rfl Ac)<|sS (pv 0 0 true) (qF 45 #[pv x2 y2 i2] (λw=>by have hrr:=Bl w x2 y2 i2 lK lK; rw [k] at hrr; exact hrr))<|sW 1 g1 48 (pcs x2 y2 i2) (pcs 0 0 true) (wS 0 48 (pcs 0 0 true) rfl)<|sG<|Sy.seq<|sC<|sP (pT g0 8)<|sS (.bool true) (qC 0 g0 8 48 4 (pcs 0 0 true) rfl uy4)<|sG<|sT<|sC<|sS (pv 0 0 true) (qL 1 g1 0 9 48 48 (pcs 0 0 true) rfl Ac)<|sW 2 g2 48 (pcs 0 0 false) (pcs 0 0 true) (wS 0 48 (pcs 0 0 true) rfl)<|sG<|Sy.ret<|Sy.then_ret ?_
 rw [show (ptv none:Value)=pv 0 0 true from rfl]
 exact rC (v:=pv 0 0 true) 48 g2 2 (pcs 0 0 true) rfl Ac
theorem Po (w:World) (x y:Nat) (i:Bool) (x2 y2:Nat) (i2:Bool) (hx:x<K4) (hy:y<K4) (hx2:x2<K4) (hy2:y2<K4) (c d:Fp) (h:dec x y i=none) (k:dec x2 y2 i2=some (c,d)):Calls Tryz.prog 68 #[pv x y i,pv x2 y2 i2] w (Gets w (ptv (some (c,d)))):=by
 refine Sy.enter (args:=[pv x y i,pv x2 y2 i2]) Tryz.func68 U kL<|sC<|sM 48 (pcs x y i) (λg0=>?_)
 refine sM 48 (pcs x2 y2 i2) (λg1=>?_)
 refine sM 48 (pcs 0 0 false) (λg2=>?_)
 refine sA<|sS (pv x y i) (qL 0 g0 0 9 48 48 (pcs x y i) rfl Ac)<|sS (pv 0 0 true) (qF 45 #[pv x y i] (λw=>by have hrr:=Bl w x y i lK lK; rw [h] at hrr; exact hrr))<|sW 0 g0 48 (pcs x y i) (pcs 0 0 true) (wS 0 48 (pcs 0 0 true) rfl)<|sA<|sS (pv x2 y2 i2) (qL 1 g1 0 9 48 48 (pcs x2 y2 i2) rfl Ac)<|sS (pv c.val d.val false) (qF 45 #[pv x2 y2 i2] (λw=>by have hrr:=Bl w x2 y2 i2 lK lK; rw [k] at hrr; exact hrr))<|sW 1 g1 48 (pcs x2 y2 i2) (pcs c.val d.val false) (wS 0 48 (pcs c.val d.val false) rfl)<|sG<|Sy.seq<|sC<|sP (pT g0 8)<|sS (.bool true) (qC 0 g0 8 48 4 (pcs 0 0 true) rfl uy4)<|sG<|sT<|sC<|sS (pv c.val d.val false) (qL 1 g1 0 9 48 48 (pcs c.val d.val false) rfl Ac)<|sW 2 g2 48 (pcs 0 0 false) (pcs c.val d.val false) (wS 0 48 (pcs c.val d.val false) rfl)<|sG<|Sy.ret<|Sy.then_ret ?_
 rw [show (ptv (some (c,d)):Value)=pv c.val d.val false from rfl]
 exact rC (v:=pv c.val d.val false) 48 g2 2 (pcs c.val d.val false) rfl Ac
theorem Pn (w:World) (x y:Nat) (i:Bool) (x2 y2:Nat) (i2:Bool) (hx:x<K4) (hy:y<K4) (hx2:x2<K4) (hy2:y2<K4) (u v:Fp) (h:dec x y i=some (u,v)) (k:dec x2 y2 i2=none):Calls Tryz.prog 68 #[pv x y i,pv x2 y2 i2] w (Gets w (ptv (some (u,v)))):=by
 refine Sy.enter (args:=[pv x y i,pv x2 y2 i2]) Tryz.func68 U kL<|sC<|sM 48 (pcs x y i) (λg0=>?_)
 refine sM 48 (pcs x2 y2 i2) (λg1=>?_)
 refine sM 48 (pcs 0 0 false) (λg2=>?_)
 refine sA<|sS (pv x y i) (qL 0 g0 0 9 48 48 (pcs x y i) rfl Ac)<|sS (pv u.val v.val false) (qF 45 #[pv x y i] (λw=>by have hrr:=Bl w x y i lK lK; rw [h] at hrr; exact hrr))<|sW 0 g0 48 (pcs x y i) (pcs u.val v.val false) (wS 0 48 (pcs u.val v.val false) rfl)<|sA<|sS (pv x2 y2 i2) (qL 1 g1 0 9 48 48 (pcs x2 y2 i2) rfl Ac)<|sS (pv 0 0 true) (qF 45 #[pv x2 y2 i2] (λw=>by have hrr:=Bl w x2 y2 i2 lK lK; rw [k] at hrr; exact hrr))<|sW 1 g1 48 (pcs x2 y2 i2) (pcs 0 0 true) (wS 0 48 (pcs 0 0 true) rfl)<|sG<|Sy.seq<|sC<|sP (pT g0 8)<|sS (.bool false) (qC 0 g0 8 48 4 (pcs u.val v.val false) rfl uy4)<|sG<|sU<|Sy.skip<|Sy.then_<|Sy.seq<|sC<|sP (pT g1 8)<|sS (.bool true) (qC 1 g1 8 48 4 (pcs 0 0 true) rfl uy4)<|sG<|sT<|sC<|sS (pv u.val v.val false) (qL 0 g0 0 9 48 48 (pcs u.val v.val false) rfl Ac)<|sW 2 g2 48 (pcs 0 0 false) (pcs u.val v.val false) (wS 0 48 (pcs u.val v.val false) rfl)<|sG<|Sy.ret<|Sy.then_ret ?_
 rw [show (ptv (some (u,v)):Value)=pv u.val v.val false from rfl]
 exact rC (v:=pv u.val v.val false) 48 g2 2 (pcs u.val v.val false) rfl Ac
theorem Pm (w:World) (x y:Nat) (i:Bool) (x2 y2:Nat) (i2:Bool) (hx:x<K4) (hy:y<K4) (hx2:x2<K4) (hy2:y2<K4) (u v c d:Fp) (h:dec x y i=some (u,v)) (k:dec x2 y2 i2=some (c,d)) (ho:v*v=u*u*u+7) (hk:d*d=c*c*c+7):Calls Tryz.prog 68 #[pv x y i,pv x2 y2 i2] w (Gets w (ptv (Ec.add Ae (some (u,v)) (some (c,d))))):=by
 refine Sy.enter (args:=[pv x y i,pv x2 y2 i2]) Tryz.func68 U kL<|sC<|sM 48 (pcs x y i) (λg0=>?_)
 refine sM 48 (pcs x2 y2 i2) (λg1=>?_)
 refine sM 48 (pcs 0 0 false) (λg2=>?_)
 refine sA<|sS (pv x y i) (qL 0 g0 0 9 48 48 (pcs x y i) rfl Ac)<|sS (pv u.val v.val false) (qF 45 #[pv x y i] (λw=>by have hrr:=Bl w x y i lK lK; rw [h] at hrr; exact hrr))<|sW 0 g0 48 (pcs x y i) (pcs u.val v.val false) (wS 0 48 (pcs u.val v.val false) rfl)<|sA<|sS (pv x2 y2 i2) (qL 1 g1 0 9 48 48 (pcs x2 y2 i2) rfl Ac)<|sS (pv c.val d.val false) (qF 45 #[pv x2 y2 i2] (λw=>by have hrr:=Bl w x2 y2 i2 lK lK; rw [k] at hrr; exact hrr))<|sW 1 g1 48 (pcs x2 y2 i2) (pcs c.val d.val false) (wS 0 48 (pcs c.val d.val false) rfl)<|sG<|Sy.seq<|sC<|sP (pT g0 8)<|sS (.bool false) (qC 0 g0 8 48 4 (pcs u.val v.val false) rfl uy4)<|sG<|sU<|Sy.skip<|Sy.then_<|Sy.seq<|sC<|sP (pT g1 8)<|sS (.bool false) (qC 1 g1 8 48 4 (pcs c.val d.val false) rfl uy4)<|sG<|sU<|Sy.skip<|sB<|sP (pT g0 0)<|sS (fv u.val) (qL 0 g0 0 4 48 46 (pcs u.val v.val false) rfl AG)<|sS (fv u.val) (qF 49 #[fv u.val] (λw=>refOf_any w u.val lK))<|sM 90 (fcs 0) (λg3=>?_)
 refine sW 3 g3 90 (fcs 0) (fcs u.val) (wS 0 90 (fcs u.val) rfl)<|sA<|sP (pT g0 4)<|sS (fv v.val) (qL 0 g0 4 4 48 46 (pcs u.val v.val false) rfl AG)<|sS (fv v.val) (qF 49 #[fv v.val] (λw=>refOf_any w v.val lK))<|sM 90 (fcs 0) (λg4=>?_)
 refine sW 4 g4 90 (fcs 0) (fcs v.val) (wS 0 90 (fcs v.val) rfl)<|sA<|sP (pT g1 0)<|sS (fv c.val) (qL 1 g1 0 4 48 46 (pcs c.val d.val false) rfl AG)<|sS (fv c.val) (qF 49 #[fv c.val] (λw=>refOf_any w c.val lK))<|sM 90 (fcs 0) (λg5=>?_)
 refine sW 5 g5 90 (fcs 0) (fcs c.val) (wS 0 90 (fcs c.val) rfl)<|sA<|sP (pT g1 4)<|sS (fv d.val) (qL 1 g1 4 4 48 46 (pcs c.val d.val false) rfl AG)<|sS (fv d.val) (qF 49 #[fv d.val] (λw=>refOf_any w d.val lK))<|sM 90 (fcs 0) (λg6=>?_)
 refine sW 6 g6 90 (fcs 0) (fcs d.val) (wS 0 90 (fcs d.val) rfl)<|sA<|sS (fv d.val) (qL 6 g6 0 4 90 90 (fcs d.val) rfl AH)<|sS (fv v.val) (qL 4 g4 0 4 90 90 (fcs v.val) rfl AH) ?_
 obtain ⟨z1,hz1⟩:∃ z:Fp,z=d - v:=⟨_,rfl⟩
 refine sS (fv z1.val) (qF 114 #[fv d.val,fv v.val] (λw=>by rw [hz1]; exact Bm w d v))<|sM 90 (fcs 0) (λg7=>?_)
 refine sW 7 g7 90 (fcs 0) (fcs z1.val) (wS 0 90 (fcs z1.val) rfl)<|sA<|sS (fv c.val) (qL 5 g5 0 4 90 90 (fcs c.val) rfl AH)<|sS (fv u.val) (qL 3 g3 0 4 90 90 (fcs u.val) rfl AH) ?_
 obtain ⟨z2,hz2⟩:∃ z:Fp,z=c - u:=⟨_,rfl⟩
 refine sS (fv z2.val) (qF 114 #[fv c.val,fv u.val] (λw=>by rw [hz2]; exact Bm w c u))<|sM 90 (fcs 0) (λg8=>?_)
 refine sW 8 g8 90 (fcs 0) (fcs z2.val) (wS 0 90 (fcs z2.val) rfl)<|sG<|Sy.seq<|sC<|sS (fv u.val) (qL 3 g3 0 4 90 90 (fcs u.val) rfl AH)<|sS (fv c.val) (qL 5 g5 0 4 90 90 (fcs c.val) rfl AH) ?_
 obtain ⟨b1,hb1⟩:=xE (decide (u.val=c.val))
 refine sS (.bool b1) (Quiet.pure (λw=>by rw [hb1]; exact DY w _ _ _ _ _ _ U U U lK lK))<|sG ?_
 cases b1
 ·have e1:u≠c:=λe=>of_decide_eq_false hb1.symm (congrArg Fin.val e)
  refine sU<|Sy.skip<|sR (λj=>j == 6) ?_
  refine sD 0 U (fv z1.val) (qL 7 g7 0 4 90 90 (fcs z1.val) rfl AH)<|sD 1 U (.agg Ba) (qF 54 #[] (Cs))<|sD 2 U (fv z2.val) (qL 8 g8 0 4 90 90 (fcs z2.val) rfl AH) ?_
  obtain ⟨z3,hz3⟩:∃ z:Fp,z=Ae z2:=⟨_,rfl⟩
  refine sD 3 U (fv z3.val) (qF 53 #[.agg Ba,fv z2.val] (λw=>by rw [hz3]; exact Gq w z2)) ?_
  obtain ⟨z4,hz4⟩:∃ z:Fp,z=z1*z3:=⟨_,rfl⟩
  refine sD 4 U (fv z4.val) (qF 55 #[fv z1.val,fv z3.val] (λw=>by rw [hz4]; exact A5 w z1 z3))<|sO 5 U 90 (fcs 0) (λg9=>?_)
  refine sX 6 U 9 g9 90 (fcs 0) (fcs z4.val) (wS 0 90 (fcs z4.val) rfl)<|sE<|sR (λj=>j == 8) ?_
  refine sD 0 U (fv z4.val) (qL 9 g9 0 4 90 90 (fcs z4.val) rfl AH)<|sD 1 U (fv z4.val) (qL 9 g9 0 4 90 90 (fcs z4.val) rfl AH) ?_
  obtain ⟨z5,hz5⟩:∃ z:Fp,z=z4*z4:=⟨_,rfl⟩
  refine sD 2 U (fv z5.val) (qF 55 #[fv z4.val,fv z4.val] (λw=>by rw [hz5]; exact A5 w z4 z4))<|sD 3 U (fv u.val) (qL 3 g3 0 4 90 90 (fcs u.val) rfl AH) ?_
  obtain ⟨z6,hz6⟩:∃ z:Fp,z=z5 - u:=⟨_,rfl⟩
  refine sD 4 U (fv z6.val) (qF 114 #[fv z5.val,fv u.val] (λw=>by rw [hz6]; exact Bm w z5 u))<|sD 5 U (fv c.val) (qL 5 g5 0 4 90 90 (fcs c.val) rfl AH) ?_
  obtain ⟨z7,hz7⟩:∃ z:Fp,z=z6 - c:=⟨_,rfl⟩
  refine sD 6 U (fv z7.val) (qF 114 #[fv z6.val,fv c.val] (λw=>by rw [hz7]; exact Bm w z6 c))<|sO 7 U 90 (fcs 0) (λg10=>?_)
  refine sX 8 U 10 g10 90 (fcs 0) (fcs z7.val) (wS 0 90 (fcs z7.val) rfl)<|sE<|sR (λj=>j == 9) ?_
  refine sD 0 U (fv z7.val) (qL 10 g10 0 4 90 90 (fcs z7.val) rfl AH)<|sD 1 U (fv z4.val) (qL 9 g9 0 4 90 90 (fcs z4.val) rfl AH)<|sD 2 U (fv u.val) (qL 3 g3 0 4 90 90 (fcs u.val) rfl AH)<|sD 3 U (fv z7.val) (qL 10 g10 0 4 90 90 (fcs z7.val) rfl AH) ?_
  obtain ⟨z8,hz8⟩:∃ z:Fp,z=u - z7:=⟨_,rfl⟩
  refine sD 4 U (fv z8.val) (qF 114 #[fv u.val,fv z7.val] (λw=>by rw [hz8]; exact Bm w u z7)) ?_
  obtain ⟨z9,hz9⟩:∃ z:Fp,z=z4*z8:=⟨_,rfl⟩
  refine sD 5 U (fv z9.val) (qF 55 #[fv z4.val,fv z8.val] (λw=>by rw [hz9]; exact A5 w z4 z8))<|sD 6 U (fv v.val) (qL 4 g4 0 4 90 90 (fcs v.val) rfl AH) ?_
  obtain ⟨z10,hz10⟩:∃ z:Fp,z=z9 - v:=⟨_,rfl⟩
  refine sD 7 U (fv z10.val) (qF 114 #[fv z9.val,fv v.val] (λw=>by rw [hz10]; exact Bm w z9 v))<|sD 8 U (pv z7.val z10.val false) (qF 56 #[fv z7.val,fv z10.val] (λw=>E8 w z7.val z10.val lK lK))<|sX 9 U 2 g2 48 (pcs 0 0 false) (pcs z7.val z10.val false) (wS 0 48 (pcs z7.val z10.val false) rfl)<|sI<|Sy.ret ?_
  have ha:¬ (u=c∧v+d=0):=λt=>e1 t.1
  have hs:z4=Ec.slp Ae u v c d:=by
   unfold Ec.slp
   rw [if_neg e1]
   clear h k ho hk hb1 ha e1
   grobner
  rw [show (ptv (Ec.add Ae (some (u,v)) (some (c,d))):Value)=pv z7.val z10.val false from by simp only [Ec.add]; rw [if_neg ha, ← hs]; unfold Ec.y3 Ec.x3 ptv; rw [hz10,hz9,hz8,hz7,hz6,hz5]]
  exact rC (v:=pv z7.val z10.val false) 48 g2 2 (pcs z7.val z10.val false) rfl Ac
 ·have e1:u=c:=Fin.ext (of_decide_eq_true hb1.symm)
  refine sT<|Sy.seq<|sC<|sS (fv v.val) (qL 4 g4 0 4 90 90 (fcs v.val) rfl AH)<|sS (fv d.val) (qL 6 g6 0 4 90 90 (fcs d.val) rfl AH) ?_
  obtain ⟨b2,hb2⟩:=xE (decide (v.val≠d.val))
  refine sS (.bool b2) (Quiet.pure (λw=>by rw [hb2]; exact Qj w _ _ _ _ _ _ U U U lK lK))<|sP (.bool b2) ?_
  cases b2
  ·have e2:v=d:=Fin.ext (Decidable.of_not_not (of_decide_eq_false hb2.symm))
   refine sS (fv v.val) (qL 4 g4 0 4 90 90 (fcs v.val) rfl AH)<|sP (fv 0) ?_
   obtain ⟨b3,hb3⟩:=xE (decide (v.val=0))
   refine sS (.bool b3) (Quiet.pure (λw=>by rw [hb3]; exact DY w _ _ _ _ _ _ U U U lK lK))<|sP (.bool b3)<|sG ?_
   cases b3
   ·refine sU<|Sy.skip<|sB ?_
    refine sS (fv u.val) (qL 3 g3 0 4 90 90 (fcs u.val) rfl AH)<|sS (fv u.val) (qL 3 g3 0 4 90 90 (fcs u.val) rfl AH) ?_
    obtain ⟨z11,hz11⟩:∃ z:Fp,z=u*u:=⟨_,rfl⟩
    refine sS (fv z11.val) (qF 55 #[fv u.val,fv u.val] (λw=>by rw [hz11]; exact A5 w u u))<|sM 90 (fcs 0) (λg9=>?_)
    refine sW 9 g9 90 (fcs 0) (fcs z11.val) (wS 0 90 (fcs z11.val) rfl)<|sH (λj=>j == 5) ?_
    refine sD 0 U (fv z11.val) (qL 9 g9 0 4 90 90 (fcs z11.val) rfl AH)<|sD 1 U (fv z11.val) (qL 9 g9 0 4 90 90 (fcs z11.val) rfl AH)<|sD 2 U (fv z11.val) (qL 9 g9 0 4 90 90 (fcs z11.val) rfl AH) ?_
    obtain ⟨z12,hz12⟩:∃ z:Fp,z=z11+z11:=⟨_,rfl⟩
    refine sD 3 U (fv z12.val) (qF 113 #[fv z11.val,fv z11.val] (λw=>by rw [hz12]; exact CS w z11 z11)) ?_
    obtain ⟨z13,hz13⟩:∃ z:Fp,z=z11+z12:=⟨_,rfl⟩
    refine sD 4 U (fv z13.val) (qF 113 #[fv z11.val,fv z12.val] (λw=>by rw [hz13]; exact CS w z11 z12))<|sX 5 U 7 g7 90 (fcs z1.val) (fcs z13.val) (wS 0 90 (fcs z13.val) rfl)<|sI<|Sy.region<|sS (fv v.val) (qL 4 g4 0 4 90 90 (fcs v.val) rfl AH)<|sS (fv v.val) (qL 4 g4 0 4 90 90 (fcs v.val) rfl AH) ?_
    obtain ⟨z14,hz14⟩:∃ z:Fp,z=v+v:=⟨_,rfl⟩
    refine sS (fv z14.val) (qF 113 #[fv v.val,fv v.val] (λw=>by rw [hz14]; exact CS w v v))<|sW 8 g8 90 (fcs z2.val) (fcs z14.val) (wS 0 90 (fcs z14.val) rfl)<|sH (λj=>j == 6) ?_
    refine sD 0 U (fv z13.val) (qL 7 g7 0 4 90 90 (fcs z13.val) rfl AH)<|sD 1 U (.agg Ba) (qF 54 #[] (Cs))<|sD 2 U (fv z14.val) (qL 8 g8 0 4 90 90 (fcs z14.val) rfl AH) ?_
    obtain ⟨z15,hz15⟩:∃ z:Fp,z=Ae z14:=⟨_,rfl⟩
    refine sD 3 U (fv z15.val) (qF 53 #[.agg Ba,fv z14.val] (λw=>by rw [hz15]; exact Gq w z14)) ?_
    obtain ⟨z16,hz16⟩:∃ z:Fp,z=z13*z15:=⟨_,rfl⟩
    refine sD 4 U (fv z16.val) (qF 55 #[fv z13.val,fv z15.val] (λw=>by rw [hz16]; exact A5 w z13 z15))<|sO 5 U 90 (fcs 0) (λg10=>?_)
    refine sX 6 U 10 g10 90 (fcs 0) (fcs z16.val) (wS 0 90 (fcs z16.val) rfl)<|sE<|sR (λj=>j == 8) ?_
    refine sD 0 U (fv z16.val) (qL 10 g10 0 4 90 90 (fcs z16.val) rfl AH)<|sD 1 U (fv z16.val) (qL 10 g10 0 4 90 90 (fcs z16.val) rfl AH) ?_
    obtain ⟨z17,hz17⟩:∃ z:Fp,z=z16*z16:=⟨_,rfl⟩
    refine sD 2 U (fv z17.val) (qF 55 #[fv z16.val,fv z16.val] (λw=>by rw [hz17]; exact A5 w z16 z16))<|sD 3 U (fv u.val) (qL 3 g3 0 4 90 90 (fcs u.val) rfl AH) ?_
    obtain ⟨z18,hz18⟩:∃ z:Fp,z=z17 - u:=⟨_,rfl⟩
    refine sD 4 U (fv z18.val) (qF 114 #[fv z17.val,fv u.val] (λw=>by rw [hz18]; exact Bm w z17 u))<|sD 5 U (fv c.val) (qL 5 g5 0 4 90 90 (fcs c.val) rfl AH) ?_
    obtain ⟨z19,hz19⟩:∃ z:Fp,z=z18 - c:=⟨_,rfl⟩
    refine sD 6 U (fv z19.val) (qF 114 #[fv z18.val,fv c.val] (λw=>by rw [hz19]; exact Bm w z18 c))<|sO 7 U 90 (fcs 0) (λg11=>?_)
    refine sX 8 U 11 g11 90 (fcs 0) (fcs z19.val) (wS 0 90 (fcs z19.val) rfl)<|sE<|sR (λj=>j == 9) ?_
    refine sD 0 U (fv z19.val) (qL 11 g11 0 4 90 90 (fcs z19.val) rfl AH)<|sD 1 U (fv z16.val) (qL 10 g10 0 4 90 90 (fcs z16.val) rfl AH)<|sD 2 U (fv u.val) (qL 3 g3 0 4 90 90 (fcs u.val) rfl AH)<|sD 3 U (fv z19.val) (qL 11 g11 0 4 90 90 (fcs z19.val) rfl AH) ?_
    obtain ⟨z20,hz20⟩:∃ z:Fp,z=u - z19:=⟨_,rfl⟩
    refine sD 4 U (fv z20.val) (qF 114 #[fv u.val,fv z19.val] (λw=>by rw [hz20]; exact Bm w u z19)) ?_
    obtain ⟨z21,hz21⟩:∃ z:Fp,z=z16*z20:=⟨_,rfl⟩
    refine sD 5 U (fv z21.val) (qF 55 #[fv z16.val,fv z20.val] (λw=>by rw [hz21]; exact A5 w z16 z20))<|sD 6 U (fv v.val) (qL 4 g4 0 4 90 90 (fcs v.val) rfl AH) ?_
    obtain ⟨z22,hz22⟩:∃ z:Fp,z=z21 - v:=⟨_,rfl⟩
    refine sD 7 U (fv z22.val) (qF 114 #[fv z21.val,fv v.val] (λw=>by rw [hz22]; exact Bm w z21 v))<|sD 8 U (pv z19.val z22.val false) (qF 56 #[fv z19.val,fv z22.val] (λw=>E8 w z19.val z22.val lK lK))<|sX 9 U 2 g2 48 (pcs 0 0 false) (pcs z19.val z22.val false) (wS 0 48 (pcs z19.val z22.val false) rfl)<|sI<|Sy.ret ?_
    have ha:¬ (u=c∧v+d=0):=λt=>LH u v ho (fld.two v (e2 ▸ t.2))
    have hs:z16=Ec.slp Ae u v c d:=by
     unfold Ec.slp
     rw [if_pos e1]
     clear h k ho hk hb1 hb2 hb3 ha e1 e2
     grobner
    rw [show (ptv (Ec.add Ae (some (u,v)) (some (c,d))):Value)=pv z19.val z22.val false from by simp only [Ec.add]; rw [if_neg ha, ← hs]; unfold Ec.y3 Ec.x3 ptv; rw [hz22,hz21,hz20,hz19,hz18,hz17]]
    exact rC (v:=pv z19.val z22.val false) 48 g2 2 (pcs z19.val z22.val false) rfl Ac
   ·exact absurd (Fin.ext (of_decide_eq_true hb3.symm)) (LH u v ho)
  ·have e2:v≠d:=λe=>of_decide_eq_true hb2.symm (congrArg Fin.val e)
   refine sN<|sN<|sN<|sP (.bool true)<|sG<|sT<|sC<|sS (pv 0 0 true) (qF 52 #[] (GD))<|sW 2 g2 48 (pcs 0 0 false) (pcs 0 0 true) (wS 0 48 (pcs 0 0 true) rfl)<|sG<|Sy.ret<|Sy.then_ret<|Sy.then_ret ?_
   rw [show (ptv (Ec.add Ae (some (u,v)) (some (c,d))):Value)=pv 0 0 true from by simp only [Ec.add]; rw [if_pos ⟨e1,Classical.byContradiction λt=>Ec.off fld ho hk (λq=>e2 q.2) (λq=>t q.2) e1⟩]; rfl]
   exact rC (v:=pv 0 0 true) 48 g2 2 (pcs 0 0 true) rfl Ac
theorem Id (w:World) (x y:Nat) (i:Bool) (x2 y2:Nat) (i2:Bool) (hx:x<K4) (hy:y<K4) (hx2:x2<K4) (hy2:y2<K4):Calls Tryz.prog 68 #[pv x y i,pv x2 y2 i2] w (Gets w (ptv (Ec.add Ae (dec x y i) (dec x2 y2 i2)))):=by
 have o1:=Cy x y i
 have o2:=Cy x2 y2 i2
 rcases h:dec x y i with _ | ⟨u,v⟩ <;> rcases k:dec x2 y2 i2 with _ | ⟨c,d⟩
 ·exact Pp w x y i x2 y2 i2 hx hy hx2 hy2 h k
 ·exact Po w x y i x2 y2 i2 hx hy hx2 hy2 c d h k
 ·exact Pn w x y i x2 y2 i2 hx hy hx2 hy2 u v h k
 ·rw [h] at o1
  rw [k] at o2
  exact Pm w x y i x2 y2 i2 hx hy hx2 hy2 u v c d h k o1 o2
end Cu
end
section
namespace Cu
open Go.RowKit Sy
def Bg (a:J):J:=if a.z=0 then a else BA a
theorem KT {a:J} {P:Pt} (hP:Ec.On P) (h:Ec.Rep a P):Ec.Rep (Bg a) (Ec.add Ae P P):=by
 unfold Bg
 by_cases k:a.z=0
 ·rw [if_pos k]
  rcases P with _ | ⟨X,Y⟩
  ·exact k
  ·exact absurd k h.1
 ·rw [if_neg k]; exact FJ hP h
def hR (a:J) (x:Fp):Fp:=x*(a.z*a.z) - a.x
def rR (a:J) (y:Fp):Fp:=y*(a.z*a.z*a.z) - a.y
def pxR (a:J) (x y:Fp):Fp:=rR a y*rR a y - hR a x*hR a x*hR a x - (a.x*(hR a x*hR a x)+a.x*(hR a x*hR a x))
def pyR (a:J) (x y:Fp):Fp:=rR a y*(a.x*(hR a x*hR a x) - pxR a x y) - a.y*(hR a x*hR a x*hR a x)
def BK (a:J) (x y:Fp):J:=if a.z=0 then ⟨x,y,1⟩ else if x*(a.z*a.z)=a.x then (if y*(a.z*a.z*a.z)=a.y then Bg a else ⟨0,0,0⟩) else ⟨pxR a x y,pyR a x y,a.z*hR a x⟩
theorem NA {a:J} {P:Pt} {x y:Fp} (hP:Ec.On P) (hQ:y*y=x*x*x+7) (h:Ec.Rep a P):Ec.Rep (BK a x y) (Ec.add Ae P (some (x,y))):=by
 rcases P with _ | ⟨X,Y⟩
 ·unfold BK
  rw [if_pos (show a.z=0 from h),Ec.zero_add]
  exact Gb (some (x,y))
 obtain ⟨h0,h1,h2⟩:=h
 unfold BK
 rw [if_neg h0]
 have hZZ:=fld.ne_mul h0 h0
 have hZZZ:=fld.ne_mul hZZ h0
 by_cases e1:x*(a.z*a.z)=a.x
 ·rw [if_pos e1]
  have ex:x=X:=fld.cancel hZZ (by rw [h1] at e1; clear h1 h2 hP hQ; grobner)
  subst ex
  by_cases e2:y*(a.z*a.z*a.z)=a.y
  ·rw [if_pos e2]
   have ey:y=Y:=fld.cancel hZZZ (by rw [h2] at e2; clear h1 h2 hP hQ e1; grobner)
   subst ey
   exact KT hP ⟨h0,h1,h2⟩
  ·rw [if_neg e2]
   have hne:Y≠y:=λq=>e2 (by rw [← q,h2])
   have hs:Y+y=0:=Classical.byContradiction λt=>Ec.off fld hP hQ (λq=>hne q.2) (λq=>t q.2) rfl
   have ea:Ec.add Ae (some (x,Y)) (some (x,y))=none:=if_pos ⟨rfl,hs⟩
   rw [ea]
   rfl
 ·rw [if_neg e1]
  exact Ec.ad fld (Z:=a.z) (u:=a.x) (v:=a.y) (c:=hR a x) (r:=rR a y) hP hQ h0 h1 h2 U U (λq=>e1 (by have:=q.1; unfold hR at this; clear q h1 h2 hP hQ; grobner)) U U U
theorem Qa {a:J} {x y:Fp} (h:a.z=0):BK a x y=⟨x,y,1⟩:=if_pos h
theorem QZ {a:J} {x y:Fp} (h:a.z≠0) (k:x*(a.z*a.z)=a.x) (m:y*(a.z*a.z*a.z)=a.y):BK a x y=Bg a:=by unfold BK; rw [if_neg h,if_pos k,if_pos m]
theorem QY {a:J} {x y:Fp} (h:a.z≠0) (k:x*(a.z*a.z)=a.x) (m:y*(a.z*a.z*a.z)≠a.y):BK a x y=⟨0,0,0⟩:=by unfold BK; rw [if_neg h,if_pos k,if_neg m]
theorem QX {a:J} {x y:Fp} (h:a.z≠0) (k:x*(a.z*a.z)≠a.x):BK a x y=⟨pxR a x y,pyR a x y,a.z*hR a x⟩:=by unfold BK; rw [if_neg h,if_neg k]
theorem D7 (w:World) (a:J):Calls Tryz.prog 50 #[tv a.x.val a.y.val a.z.val] w (Gets w (tv (Bg a).x.val (Bg a).y.val (Bg a).z.val)):=by
 refine Sy.enter (args:=[tv a.x.val a.y.val a.z.val]) Tryz.func50 U kL<|sC<|sM 99 (tcs a.x.val a.y.val a.z.val) (λg0=>?_)
 refine sM 99 (tcs 0 0 0) (λg1=>?_)
 refine sG<|Sy.seq<|sC<|sP (pT g0 8)<|sS (fv a.z.val) (qL 0 g0 8 4 99 90 (tcs a.x.val a.y.val a.z.val) rfl AH)<|sP (fv 0) ?_
 obtain ⟨b1,hb1⟩:=xE (decide (a.z.val=0))
 refine sS (.bool b1) (Quiet.pure (λw=>by rw [hb1]; exact DY w _ _ _ _ _ _ U U U lK lK))<|sG ?_
 cases b1
 ·have eb1:a.z≠(0:Fp):=λe=>of_decide_eq_false hb1.symm (congrArg Fin.val e)
  refine sU<|Sy.skip<|sB<|sP (pT g0 0)<|sS (fv a.x.val) (qL 0 g0 0 4 99 90 (tcs a.x.val a.y.val a.z.val) rfl AH)<|sP (pT g0 0)<|sS (fv a.x.val) (qL 0 g0 0 4 99 90 (tcs a.x.val a.y.val a.z.val) rfl AH) ?_
  obtain ⟨z1,hz1⟩:∃ z:Fp,z=a.x*a.x:=⟨_,rfl⟩
  refine sS (fv z1.val) (qF 55 #[fv a.x.val,fv a.x.val] (λw=>by rw [hz1]; exact A5 w a.x a.x))<|sM 90 (fcs 0) (λg2=>?_)
  refine sW 2 g2 90 (fcs 0) (fcs z1.val) (wS 0 90 (fcs z1.val) rfl)<|sA<|sP (pT g0 4)<|sS (fv a.y.val) (qL 0 g0 4 4 99 90 (tcs a.x.val a.y.val a.z.val) rfl AH)<|sP (pT g0 4)<|sS (fv a.y.val) (qL 0 g0 4 4 99 90 (tcs a.x.val a.y.val a.z.val) rfl AH) ?_
  obtain ⟨z2,hz2⟩:∃ z:Fp,z=a.y*a.y:=⟨_,rfl⟩
  refine sS (fv z2.val) (qF 55 #[fv a.y.val,fv a.y.val] (λw=>by rw [hz2]; exact A5 w a.y a.y))<|sM 90 (fcs 0) (λg3=>?_)
  refine sW 3 g3 90 (fcs 0) (fcs z2.val) (wS 0 90 (fcs z2.val) rfl)<|sA<|sS (fv z2.val) (qL 3 g3 0 4 90 90 (fcs z2.val) rfl AH)<|sS (fv z2.val) (qL 3 g3 0 4 90 90 (fcs z2.val) rfl AH) ?_
  obtain ⟨z3,hz3⟩:∃ z:Fp,z=z2*z2:=⟨_,rfl⟩
  refine sS (fv z3.val) (qF 55 #[fv z2.val,fv z2.val] (λw=>by rw [hz3]; exact A5 w z2 z2))<|sM 90 (fcs 0) (λg4=>?_)
  refine sW 4 g4 90 (fcs 0) (fcs z3.val) (wS 0 90 (fcs z3.val) rfl)<|sA<|sP (pT g0 0)<|sS (fv a.x.val) (qL 0 g0 0 4 99 90 (tcs a.x.val a.y.val a.z.val) rfl AH)<|sS (fv z2.val) (qL 3 g3 0 4 90 90 (fcs z2.val) rfl AH) ?_
  obtain ⟨z4,hz4⟩:∃ z:Fp,z=a.x*z2:=⟨_,rfl⟩
  refine sS (fv z4.val) (qF 55 #[fv a.x.val,fv z2.val] (λw=>by rw [hz4]; exact A5 w a.x z2))<|sM 90 (fcs 0) (λg5=>?_)
  refine sW 5 g5 90 (fcs 0) (fcs z4.val) (wS 0 90 (fcs z4.val) rfl)<|sH (λj=>j == 7) ?_
  refine sD 0 U (fv z4.val) (qL 5 g5 0 4 90 90 (fcs z4.val) rfl AH)<|sD 1 U (fv z4.val) (qL 5 g5 0 4 90 90 (fcs z4.val) rfl AH) ?_
  obtain ⟨z5,hz5⟩:∃ z:Fp,z=z4+z4:=⟨_,rfl⟩
  refine sD 2 U (fv z5.val) (qF 113 #[fv z4.val,fv z4.val] (λw=>by rw [hz5]; exact CS w z4 z4))<|sD 3 U (fv z4.val) (qL 5 g5 0 4 90 90 (fcs z4.val) rfl AH)<|sD 4 U (fv z4.val) (qL 5 g5 0 4 90 90 (fcs z4.val) rfl AH) ?_
  obtain ⟨z6,hz6⟩:∃ z:Fp,z=z4+z4:=⟨_,rfl⟩
  refine sD 5 U (fv z6.val) (qF 113 #[fv z4.val,fv z4.val] (λw=>by rw [hz6]; exact CS w z4 z4)) ?_
  obtain ⟨z7,hz7⟩:∃ z:Fp,z=z5+z6:=⟨_,rfl⟩
  refine sD 6 U (fv z7.val) (qF 113 #[fv z5.val,fv z6.val] (λw=>by rw [hz7]; exact CS w z5 z6))<|sX 7 U 5 g5 90 (fcs z4.val) (fcs z7.val) (wS 0 90 (fcs z7.val) rfl)<|sE<|sR (λj=>j == 6) ?_
  refine sD 0 U (fv z1.val) (qL 2 g2 0 4 90 90 (fcs z1.val) rfl AH)<|sD 1 U (fv z1.val) (qL 2 g2 0 4 90 90 (fcs z1.val) rfl AH)<|sD 2 U (fv z1.val) (qL 2 g2 0 4 90 90 (fcs z1.val) rfl AH) ?_
  obtain ⟨z8,hz8⟩:∃ z:Fp,z=z1+z1:=⟨_,rfl⟩
  refine sD 3 U (fv z8.val) (qF 113 #[fv z1.val,fv z1.val] (λw=>by rw [hz8]; exact CS w z1 z1)) ?_
  obtain ⟨z9,hz9⟩:∃ z:Fp,z=z1+z8:=⟨_,rfl⟩
  refine sD 4 U (fv z9.val) (qF 113 #[fv z1.val,fv z8.val] (λw=>by rw [hz9]; exact CS w z1 z8))<|sO 5 U 90 (fcs 0) (λg6=>?_)
  refine sX 6 U 6 g6 90 (fcs 0) (fcs z9.val) (wS 0 90 (fcs z9.val) rfl)<|sE<|sR (λj=>j == 8) ?_
  refine sD 0 U (fv z9.val) (qL 6 g6 0 4 90 90 (fcs z9.val) rfl AH)<|sD 1 U (fv z9.val) (qL 6 g6 0 4 90 90 (fcs z9.val) rfl AH) ?_
  obtain ⟨z10,hz10⟩:∃ z:Fp,z=z9*z9:=⟨_,rfl⟩
  refine sD 2 U (fv z10.val) (qF 55 #[fv z9.val,fv z9.val] (λw=>by rw [hz10]; exact A5 w z9 z9))<|sD 3 U (fv z7.val) (qL 5 g5 0 4 90 90 (fcs z7.val) rfl AH)<|sD 4 U (fv z7.val) (qL 5 g5 0 4 90 90 (fcs z7.val) rfl AH) ?_
  obtain ⟨z11,hz11⟩:∃ z:Fp,z=z7+z7:=⟨_,rfl⟩
  refine sD 5 U (fv z11.val) (qF 113 #[fv z7.val,fv z7.val] (λw=>by rw [hz11]; exact CS w z7 z7)) ?_
  obtain ⟨z12,hz12⟩:∃ z:Fp,z=z10 - z11:=⟨_,rfl⟩
  refine sD 6 U (fv z12.val) (qF 114 #[fv z10.val,fv z11.val] (λw=>by rw [hz12]; exact Bm w z10 z11))<|sO 7 U 90 (fcs 0) (λg7=>?_)
  refine sX 8 U 7 g7 90 (fcs 0) (fcs z12.val) (wS 0 90 (fcs z12.val) rfl)<|sE<|sB<|sS (fv z3.val) (qL 4 g4 0 4 90 90 (fcs z3.val) rfl AH)<|sS (fv z3.val) (qL 4 g4 0 4 90 90 (fcs z3.val) rfl AH) ?_
  obtain ⟨z13,hz13⟩:∃ z:Fp,z=z3+z3:=⟨_,rfl⟩
  refine sS (fv z13.val) (qF 113 #[fv z3.val,fv z3.val] (λw=>by rw [hz13]; exact CS w z3 z3))<|sW 4 g4 90 (fcs z3.val) (fcs z13.val) (wS 0 90 (fcs z13.val) rfl)<|sA<|sS (fv z13.val) (qL 4 g4 0 4 90 90 (fcs z13.val) rfl AH)<|sS (fv z13.val) (qL 4 g4 0 4 90 90 (fcs z13.val) rfl AH) ?_
  obtain ⟨z14,hz14⟩:∃ z:Fp,z=z13+z13:=⟨_,rfl⟩
  refine sS (fv z14.val) (qF 113 #[fv z13.val,fv z13.val] (λw=>by rw [hz14]; exact CS w z13 z13))<|sW 4 g4 90 (fcs z13.val) (fcs z14.val) (wS 0 90 (fcs z14.val) rfl)<|sA<|sS (fv z14.val) (qL 4 g4 0 4 90 90 (fcs z14.val) rfl AH)<|sS (fv z14.val) (qL 4 g4 0 4 90 90 (fcs z14.val) rfl AH) ?_
  obtain ⟨z15,hz15⟩:∃ z:Fp,z=z14+z14:=⟨_,rfl⟩
  refine sS (fv z15.val) (qF 113 #[fv z14.val,fv z14.val] (λw=>by rw [hz15]; exact CS w z14 z14))<|sW 4 g4 90 (fcs z14.val) (fcs z15.val) (wS 0 90 (fcs z15.val) rfl)<|sH (λj=>j == 8) ?_
  refine sD 0 U (fv z9.val) (qL 6 g6 0 4 90 90 (fcs z9.val) rfl AH)<|sD 1 U (fv z7.val) (qL 5 g5 0 4 90 90 (fcs z7.val) rfl AH)<|sD 2 U (fv z12.val) (qL 7 g7 0 4 90 90 (fcs z12.val) rfl AH) ?_
  obtain ⟨z16,hz16⟩:∃ z:Fp,z=z7 - z12:=⟨_,rfl⟩
  refine sD 3 U (fv z16.val) (qF 114 #[fv z7.val,fv z12.val] (λw=>by rw [hz16]; exact Bm w z7 z12)) ?_
  obtain ⟨z17,hz17⟩:∃ z:Fp,z=z9*z16:=⟨_,rfl⟩
  refine sD 4 U (fv z17.val) (qF 55 #[fv z9.val,fv z16.val] (λw=>by rw [hz17]; exact A5 w z9 z16))<|sD 5 U (fv z15.val) (qL 4 g4 0 4 90 90 (fcs z15.val) rfl AH) ?_
  obtain ⟨z18,hz18⟩:∃ z:Fp,z=z17 - z15:=⟨_,rfl⟩
  refine sD 6 U (fv z18.val) (qF 114 #[fv z17.val,fv z15.val] (λw=>by rw [hz18]; exact Bm w z17 z15))<|sO 7 U 90 (fcs 0) (λg8=>?_)
  refine sX 8 U 8 g8 90 (fcs 0) (fcs z18.val) (wS 0 90 (fcs z18.val) rfl)<|sE<|sB<|sP (pT g0 4)<|sS (fv a.y.val) (qL 0 g0 4 4 99 90 (tcs a.x.val a.y.val a.z.val) rfl AH)<|sP (pT g0 8)<|sS (fv a.z.val) (qL 0 g0 8 4 99 90 (tcs a.x.val a.y.val a.z.val) rfl AH) ?_
  obtain ⟨z19,hz19⟩:∃ z:Fp,z=a.y*a.z:=⟨_,rfl⟩
  refine sS (fv z19.val) (qF 55 #[fv a.y.val,fv a.z.val] (λw=>by rw [hz19]; exact A5 w a.y a.z))<|sM 90 (fcs 0) (λg9=>?_)
  refine sW 9 g9 90 (fcs 0) (fcs z19.val) (wS 0 90 (fcs z19.val) rfl)<|sH (λj=>j == 6) ?_
  refine sD 0 U (fv z12.val) (qL 7 g7 0 4 90 90 (fcs z12.val) rfl AH)<|sD 1 U (fv z18.val) (qL 8 g8 0 4 90 90 (fcs z18.val) rfl AH)<|sD 2 U (fv z19.val) (qL 9 g9 0 4 90 90 (fcs z19.val) rfl AH)<|sD 3 U (fv z19.val) (qL 9 g9 0 4 90 90 (fcs z19.val) rfl AH) ?_
  obtain ⟨z20,hz20⟩:∃ z:Fp,z=z19+z19:=⟨_,rfl⟩
  refine sD 4 U (fv z20.val) (qF 113 #[fv z19.val,fv z19.val] (λw=>by rw [hz20]; exact CS w z19 z19))<|sZ 5 U (tv z12.val z18.val z20.val)<|sX 6 U 1 g1 99 (tcs 0 0 0) (tcs z12.val z18.val z20.val) (wS 0 99 (tcs z12.val z18.val z20.val) rfl)<|sI<|Sy.ret ?_
  rw [show (tv (Bg a).x.val (Bg a).y.val (Bg a).z.val:Value)=tv z12.val z18.val z20.val from by
   unfold Bg; rw [if_neg eb1]
   have k0:(BA a).x=z12:=by
    simp only [BA,pxR,pyR,hR,rR]
    simp only [hz12,hz11,hz10,hz9,hz8,hz7,hz6,hz5,hz4,hz2,hz1]
    grobner
   have k1:(BA a).y=z18:=by
    simp only [BA,pxR,pyR,hR,rR]
    simp only [hz18,hz17,hz16,hz15,hz14,hz13,hz12,hz11,hz10,hz9,hz8,hz7,hz6,hz5,hz4,hz3,hz2,hz1]
    grobner
   have k2:(BA a).z=z20:=by
    simp only [BA,pxR,pyR,hR,rR]
    simp only [hz20,hz19]
    grobner
   simp only [k0,k1,k2]]
  exact rC (v:=tv z12.val z18.val z20.val) 99 g1 1 (tcs z12.val z18.val z20.val) rfl Ed
 ·have eb1:a.z=(0:Fp):=Fin.ext (of_decide_eq_true hb1.symm)
  refine sT<|sC<|sS (tv a.x.val a.y.val a.z.val) (qL 0 g0 0 12 99 99 (tcs a.x.val a.y.val a.z.val) rfl Ed)<|sW 1 g1 99 (tcs 0 0 0) (tcs a.x.val a.y.val a.z.val) (wS 0 99 (tcs a.x.val a.y.val a.z.val) rfl)<|sG<|Sy.ret<|Sy.then_ret ?_
  rw [show (tv (Bg a).x.val (Bg a).y.val (Bg a).z.val:Value)=tv a.x.val a.y.val a.z.val from by unfold Bg; rw [if_pos eb1]]
  exact rC (v:=tv a.x.val a.y.val a.z.val) 99 g1 1 (tcs a.x.val a.y.val a.z.val) rfl Ed
theorem GI (w:World) (a:J) (x y:Fp):Calls Tryz.prog 51 #[tv a.x.val a.y.val a.z.val,fv x.val,fv y.val] w (Gets w (tv (BK a x y).x.val (BK a x y).y.val (BK a x y).z.val)):=by
 refine Sy.enter (args:=[tv a.x.val a.y.val a.z.val,fv x.val,fv y.val]) Tryz.func51 U kL<|sC<|sM 99 (tcs a.x.val a.y.val a.z.val) (λg0=>?_)
 refine sM 90 (fcs x.val) (λg1=>?_)
 refine sM 90 (fcs y.val) (λg2=>?_)
 refine sM 99 (tcs 0 0 0) (λg3=>?_)
 refine sG<|Sy.seq<|sC<|sP (pT g0 8)<|sS (fv a.z.val) (qL 0 g0 8 4 99 90 (tcs a.x.val a.y.val a.z.val) rfl AH)<|sP (fv 0) ?_
 obtain ⟨b1,hb1⟩:=xE (decide (a.z.val=0))
 refine sS (.bool b1) (Quiet.pure (λw=>by rw [hb1]; exact DY w _ _ _ _ _ _ U U U lK lK))<|sG ?_
 cases b1
 ·have eb1:a.z≠(0:Fp):=λe=>of_decide_eq_false hb1.symm (congrArg Fin.val e)
  refine sU<|Sy.skip<|sB<|sP (pT g0 8)<|sS (fv a.z.val) (qL 0 g0 8 4 99 90 (tcs a.x.val a.y.val a.z.val) rfl AH)<|sP (pT g0 8)<|sS (fv a.z.val) (qL 0 g0 8 4 99 90 (tcs a.x.val a.y.val a.z.val) rfl AH) ?_
  obtain ⟨z1,hz1⟩:∃ z:Fp,z=a.z*a.z:=⟨_,rfl⟩
  refine sS (fv z1.val) (qF 55 #[fv a.z.val,fv a.z.val] (λw=>by rw [hz1]; exact A5 w a.z a.z))<|sM 90 (fcs 0) (λg4=>?_)
  refine sW 4 g4 90 (fcs 0) (fcs z1.val) (wS 0 90 (fcs z1.val) rfl)<|sA<|sS (fv x.val) (qL 1 g1 0 4 90 90 (fcs x.val) rfl AH)<|sS (fv z1.val) (qL 4 g4 0 4 90 90 (fcs z1.val) rfl AH) ?_
  obtain ⟨z2,hz2⟩:∃ z:Fp,z=x*z1:=⟨_,rfl⟩
  refine sS (fv z2.val) (qF 55 #[fv x.val,fv z1.val] (λw=>by rw [hz2]; exact A5 w x z1))<|sM 90 (fcs 0) (λg5=>?_)
  refine sW 5 g5 90 (fcs 0) (fcs z2.val) (wS 0 90 (fcs z2.val) rfl)<|sH (λj=>j == 7) ?_
  refine sD 0 U (fv y.val) (qL 2 g2 0 4 90 90 (fcs y.val) rfl AH)<|sD 1 U (fv z1.val) (qL 4 g4 0 4 90 90 (fcs z1.val) rfl AH)<|sZ 2 U (pT g0 8)<|sD 3 U (fv a.z.val) (qL 0 g0 8 4 99 90 (tcs a.x.val a.y.val a.z.val) rfl AH) ?_
  obtain ⟨z3,hz3⟩:∃ z:Fp,z=z1*a.z:=⟨_,rfl⟩
  refine sD 4 U (fv z3.val) (qF 55 #[fv z1.val,fv a.z.val] (λw=>by rw [hz3]; exact A5 w z1 a.z)) ?_
  obtain ⟨z4,hz4⟩:∃ z:Fp,z=y*z3:=⟨_,rfl⟩
  refine sD 5 U (fv z4.val) (qF 55 #[fv y.val,fv z3.val] (λw=>by rw [hz4]; exact A5 w y z3))<|sO 6 U 90 (fcs 0) (λg6=>?_)
  refine sX 7 U 6 g6 90 (fcs 0) (fcs z4.val) (wS 0 90 (fcs z4.val) rfl)<|sI<|Sy.seq<|sC<|sS (fv z2.val) (qL 5 g5 0 4 90 90 (fcs z2.val) rfl AH)<|sP (pT g0 0)<|sS (fv a.x.val) (qL 0 g0 0 4 99 90 (tcs a.x.val a.y.val a.z.val) rfl AH) ?_
  obtain ⟨b2,hb2⟩:=xE (decide (z2.val=a.x.val))
  refine sS (.bool b2) (Quiet.pure (λw=>by rw [hb2]; exact DY w _ _ _ _ _ _ U U U lK lK))<|sG ?_
  cases b2
  ·have eb2:z2≠a.x:=λe=>of_decide_eq_false hb2.symm (congrArg Fin.val e)
   refine sU<|Sy.skip<|sB<|sS (fv z2.val) (qL 5 g5 0 4 90 90 (fcs z2.val) rfl AH)<|sP (pT g0 0)<|sS (fv a.x.val) (qL 0 g0 0 4 99 90 (tcs a.x.val a.y.val a.z.val) rfl AH) ?_
   obtain ⟨z5,hz5⟩:∃ z:Fp,z=z2 - a.x:=⟨_,rfl⟩
   refine sS (fv z5.val) (qF 114 #[fv z2.val,fv a.x.val] (λw=>by rw [hz5]; exact Bm w z2 a.x))<|sM 90 (fcs 0) (λg7=>?_)
   refine sW 7 g7 90 (fcs 0) (fcs z5.val) (wS 0 90 (fcs z5.val) rfl)<|sA<|sS (fv z4.val) (qL 6 g6 0 4 90 90 (fcs z4.val) rfl AH)<|sP (pT g0 4)<|sS (fv a.y.val) (qL 0 g0 4 4 99 90 (tcs a.x.val a.y.val a.z.val) rfl AH) ?_
   obtain ⟨z6,hz6⟩:∃ z:Fp,z=z4 - a.y:=⟨_,rfl⟩
   refine sS (fv z6.val) (qF 114 #[fv z4.val,fv a.y.val] (λw=>by rw [hz6]; exact Bm w z4 a.y))<|sM 90 (fcs 0) (λg8=>?_)
   refine sW 8 g8 90 (fcs 0) (fcs z6.val) (wS 0 90 (fcs z6.val) rfl)<|sA<|sS (fv z5.val) (qL 7 g7 0 4 90 90 (fcs z5.val) rfl AH)<|sS (fv z5.val) (qL 7 g7 0 4 90 90 (fcs z5.val) rfl AH) ?_
   obtain ⟨z7,hz7⟩:∃ z:Fp,z=z5*z5:=⟨_,rfl⟩
   refine sS (fv z7.val) (qF 55 #[fv z5.val,fv z5.val] (λw=>by rw [hz7]; exact A5 w z5 z5))<|sM 90 (fcs 0) (λg9=>?_)
   refine sW 9 g9 90 (fcs 0) (fcs z7.val) (wS 0 90 (fcs z7.val) rfl)<|sA<|sS (fv z5.val) (qL 7 g7 0 4 90 90 (fcs z5.val) rfl AH)<|sS (fv z7.val) (qL 9 g9 0 4 90 90 (fcs z7.val) rfl AH) ?_
   obtain ⟨z8,hz8⟩:∃ z:Fp,z=z5*z7:=⟨_,rfl⟩
   refine sS (fv z8.val) (qF 55 #[fv z5.val,fv z7.val] (λw=>by rw [hz8]; exact A5 w z5 z7))<|sM 90 (fcs 0) (λg10=>?_)
   refine sW 10 g10 90 (fcs 0) (fcs z8.val) (wS 0 90 (fcs z8.val) rfl)<|sA<|sP (pT g0 0)<|sS (fv a.x.val) (qL 0 g0 0 4 99 90 (tcs a.x.val a.y.val a.z.val) rfl AH)<|sS (fv z7.val) (qL 9 g9 0 4 90 90 (fcs z7.val) rfl AH) ?_
   obtain ⟨z9,hz9⟩:∃ z:Fp,z=a.x*z7:=⟨_,rfl⟩
   refine sS (fv z9.val) (qF 55 #[fv a.x.val,fv z7.val] (λw=>by rw [hz9]; exact A5 w a.x z7))<|sM 90 (fcs 0) (λg11=>?_)
   refine sW 11 g11 90 (fcs 0) (fcs z9.val) (wS 0 90 (fcs z9.val) rfl)<|sH (λj=>j == 10) ?_
   refine sD 0 U (fv z6.val) (qL 8 g8 0 4 90 90 (fcs z6.val) rfl AH)<|sD 1 U (fv z6.val) (qL 8 g8 0 4 90 90 (fcs z6.val) rfl AH) ?_
   obtain ⟨z10,hz10⟩:∃ z:Fp,z=z6*z6:=⟨_,rfl⟩
   refine sD 2 U (fv z10.val) (qF 55 #[fv z6.val,fv z6.val] (λw=>by rw [hz10]; exact A5 w z6 z6))<|sD 3 U (fv z8.val) (qL 10 g10 0 4 90 90 (fcs z8.val) rfl AH) ?_
   obtain ⟨z11,hz11⟩:∃ z:Fp,z=z10 - z8:=⟨_,rfl⟩
   refine sD 4 U (fv z11.val) (qF 114 #[fv z10.val,fv z8.val] (λw=>by rw [hz11]; exact Bm w z10 z8))<|sD 5 U (fv z9.val) (qL 11 g11 0 4 90 90 (fcs z9.val) rfl AH)<|sD 6 U (fv z9.val) (qL 11 g11 0 4 90 90 (fcs z9.val) rfl AH) ?_
   obtain ⟨z12,hz12⟩:∃ z:Fp,z=z9+z9:=⟨_,rfl⟩
   refine sD 7 U (fv z12.val) (qF 113 #[fv z9.val,fv z9.val] (λw=>by rw [hz12]; exact CS w z9 z9)) ?_
   obtain ⟨z13,hz13⟩:∃ z:Fp,z=z11 - z12:=⟨_,rfl⟩
   refine sD 8 U (fv z13.val) (qF 114 #[fv z11.val,fv z12.val] (λw=>by rw [hz13]; exact Bm w z11 z12))<|sO 9 U 90 (fcs 0) (λg12=>?_)
   refine sX 10 U 12 g12 90 (fcs 0) (fcs z13.val) (wS 0 90 (fcs z13.val) rfl)<|sE<|sR (λj=>j == 16) ?_
   refine sD 0 U (fv z13.val) (qL 12 g12 0 4 90 90 (fcs z13.val) rfl AH)<|sD 1 U (fv z6.val) (qL 8 g8 0 4 90 90 (fcs z6.val) rfl AH)<|sD 2 U (fv z9.val) (qL 11 g11 0 4 90 90 (fcs z9.val) rfl AH)<|sD 3 U (fv z13.val) (qL 12 g12 0 4 90 90 (fcs z13.val) rfl AH) ?_
   obtain ⟨z14,hz14⟩:∃ z:Fp,z=z9 - z13:=⟨_,rfl⟩
   refine sD 4 U (fv z14.val) (qF 114 #[fv z9.val,fv z13.val] (λw=>by rw [hz14]; exact Bm w z9 z13)) ?_
   obtain ⟨z15,hz15⟩:∃ z:Fp,z=z6*z14:=⟨_,rfl⟩
   refine sD 5 U (fv z15.val) (qF 55 #[fv z6.val,fv z14.val] (λw=>by rw [hz15]; exact A5 w z6 z14))<|sZ 6 U (pT g0 4)<|sD 7 U (fv a.y.val) (qL 0 g0 4 4 99 90 (tcs a.x.val a.y.val a.z.val) rfl AH)<|sD 8 U (fv z8.val) (qL 10 g10 0 4 90 90 (fcs z8.val) rfl AH) ?_
   obtain ⟨z16,hz16⟩:∃ z:Fp,z=a.y*z8:=⟨_,rfl⟩
   refine sD 9 U (fv z16.val) (qF 55 #[fv a.y.val,fv z8.val] (λw=>by rw [hz16]; exact A5 w a.y z8)) ?_
   obtain ⟨z17,hz17⟩:∃ z:Fp,z=z15 - z16:=⟨_,rfl⟩
   refine sD 10 U (fv z17.val) (qF 114 #[fv z15.val,fv z16.val] (λw=>by rw [hz17]; exact Bm w z15 z16))<|sD 11 U (fv z5.val) (qL 7 g7 0 4 90 90 (fcs z5.val) rfl AH)<|sZ 12 U (pT g0 8)<|sD 13 U (fv a.z.val) (qL 0 g0 8 4 99 90 (tcs a.x.val a.y.val a.z.val) rfl AH) ?_
   obtain ⟨z18,hz18⟩:∃ z:Fp,z=z5*a.z:=⟨_,rfl⟩
   refine sD 14 U (fv z18.val) (qF 55 #[fv z5.val,fv a.z.val] (λw=>by rw [hz18]; exact A5 w z5 a.z))<|sZ 15 U (tv z13.val z17.val z18.val)<|sX 16 U 3 g3 99 (tcs 0 0 0) (tcs z13.val z17.val z18.val) (wS 0 99 (tcs z13.val z17.val z18.val) rfl)<|sI<|Sy.ret ?_
   rw [show (tv (BK a x y).x.val (BK a x y).y.val (BK a x y).z.val:Value)=tv z13.val z17.val z18.val from by
    rw [QX eb1 (by have q:=eb2; simp only [hz2,hz1] at q; exact q)]; simp only
    have k0:pxR a x y=z13:=by
     simp only [BA,pxR,pyR,hR,rR]
     simp only [hz13,hz12,hz11,hz10,hz9,hz8,hz7,hz6,hz5,hz4,hz3,hz2,hz1]
     grobner
    have k1:pyR a x y=z17:=by
     simp only [BA,pxR,pyR,hR,rR]
     simp only [hz17,hz16,hz15,hz14,hz13,hz12,hz11,hz10,hz9,hz8,hz7,hz6,hz5,hz4,hz3,hz2,hz1]
     grobner
    have k2:a.z*hR a x=z18:=by
     simp only [BA,pxR,pyR,hR,rR]
     simp only [hz18,hz5,hz2,hz1]
     grobner
    simp only [k0,k1,k2]]
   exact rC (v:=tv z13.val z17.val z18.val) 99 g3 3 (tcs z13.val z17.val z18.val) rfl Ed
  ·have eb2:z2=a.x:=Fin.ext (of_decide_eq_true hb2.symm)
   refine sT<|Sy.seq<|sC<|sS (fv z4.val) (qL 6 g6 0 4 90 90 (fcs z4.val) rfl AH)<|sP (pT g0 4)<|sS (fv a.y.val) (qL 0 g0 4 4 99 90 (tcs a.x.val a.y.val a.z.val) rfl AH) ?_
   obtain ⟨b3,hb3⟩:=xE (decide (z4.val=a.y.val))
   refine sS (.bool b3) (Quiet.pure (λw=>by rw [hb3]; exact DY w _ _ _ _ _ _ U U U lK lK))<|sG ?_
   cases b3
   ·have eb3:z4≠a.y:=λe=>of_decide_eq_false hb3.symm (congrArg Fin.val e)
    refine sU<|Sy.skip<|sB<|sP (tv 0 0 0)<|sW 3 g3 99 (tcs 0 0 0) (tcs 0 0 0) (wS 0 99 (tcs 0 0 0) rfl)<|sG<|Sy.ret<|Sy.then_ret ?_
    rw [show (tv (BK a x y).x.val (BK a x y).y.val (BK a x y).z.val:Value)=tv 0 0 0 from by rw [QY eb1 (by have q:=eb2; simp only [hz2,hz1] at q; exact q) (by have q:=eb3; simp only [hz4,hz3,hz1] at q; exact q)]; rfl]
    exact rC (v:=tv 0 0 0) 99 g3 3 (tcs 0 0 0) rfl Ed
   ·have eb3:z4=a.y:=Fin.ext (of_decide_eq_true hb3.symm)
    refine sT<|sC<|sS (tv a.x.val a.y.val a.z.val) (qL 0 g0 0 12 99 99 (tcs a.x.val a.y.val a.z.val) rfl Ed)<|sS (tv ((Bg a).x.val) ((Bg a).y.val) ((Bg a).z.val)) (qF 50 #[tv a.x.val a.y.val a.z.val] (λw=>D7 w a))<|sW 3 g3 99 (tcs 0 0 0) (tcs ((Bg a).x.val) ((Bg a).y.val) ((Bg a).z.val)) (wS 0 99 (tcs ((Bg a).x.val) ((Bg a).y.val) ((Bg a).z.val)) U)<|sG<|Sy.ret<|Sy.then_ret<|Sy.then_ret ?_
    rw [show (tv (BK a x y).x.val (BK a x y).y.val (BK a x y).z.val:Value)=tv ((Bg a).x.val) ((Bg a).y.val) ((Bg a).z.val) from by rw [QZ eb1 (by have q:=eb2; simp only [hz2,hz1] at q; exact q) (by have q:=eb3; simp only [hz4,hz3,hz1] at q; exact q)]]
    exact rC (v:=tv ((Bg a).x.val) ((Bg a).y.val) ((Bg a).z.val)) 99 g3 3 (tcs ((Bg a).x.val) ((Bg a).y.val) ((Bg a).z.val)) U Ed
 ·have eb1:a.z=(0:Fp):=Fin.ext (of_decide_eq_true hb1.symm)
  refine sT<|Sy.seq<|Sy.regionD (λj=>j == 4) kR<|sD 0 U (fv x.val) (qL 1 g1 0 4 90 90 (fcs x.val) rfl AH)<|sD 1 U (fv y.val) (qL 2 g2 0 4 90 90 (fcs y.val) rfl AH) ?_
  obtain ⟨z19,hz19⟩:∃ z:Fp,z=(1:Fp):=⟨_,rfl⟩
  refine sD 2 U (fv z19.val) (qF 115 #[.int .u64 1] (λw=>by rw [hz19]; exact L5 w 1 dZ))<|sZ 3 U (tv x.val y.val z19.val)<|sX 4 U 3 g3 99 (tcs 0 0 0) (tcs x.val y.val z19.val) (wS 0 99 (tcs x.val y.val z19.val) rfl)<|sI<|Sy.ret<|Sy.then_ret ?_
  rw [show (tv (BK a x y).x.val (BK a x y).y.val (BK a x y).z.val:Value)=tv x.val y.val z19.val from by rw [Qa eb1]; simp only [hz19]]
  exact rC (v:=tv x.val y.val z19.val) 99 g3 3 (tcs x.val y.val z19.val) rfl Ed
end Cu
end
section
namespace Sc
open Go.RowKit
def pM:Nat:=115792089237316195423570985008687907852837564279074904382605163141518161494337
theorem DQ:pM=115792089237316195423570985008687907852837564279074904382605163141518161494337:=rfl
theorem mod_lt (n:Nat):n%pM<(2^256):=by have:=Nat.mod_lt n (show 0<pM by decide); rw [DQ] at this ⊢; omega
theorem mod_lt_p (n:Nat):n%pM<pM:=Nat.mod_lt n dZ
def Dx (x y:Nat):Nat:=(x+y)%pM
def negP (x:Nat):Nat:=(pM - x%pM)%pM
def subP (x y:Nat):Nat:=(x+(pM - y%pM))%pM
def mulP (x y:Nat):Nat:=x*y%pM
theorem Mj (x y:Nat):Dx x y<(2^256):=mod_lt _
theorem JC (x:Nat):negP x<(2^256):=mod_lt _
theorem subP_lt (x y:Nat):subP x y<(2^256):=mod_lt _
theorem E5 (x:Nat) (hx:x<(2^256)):x%pM=if x+432420386565659656852420866394968145599<(2^256) then x else x+432420386565659656852420866394968145599 - (2^256):=by
 rw [DQ]
 by_cases h:x+432420386565659656852420866394968145599<(2^256)
 ·rw [if_pos h]; exact Nat.mod_eq_of_lt om
 ·rw [if_neg h,Nat.mod_eq_sub_mod om,Nat.mod_eq_of_lt om]
  omega
theorem DU {x z k:Nat} (h:z+115792089237316195423570985008687907852837564279074904382605163141518161494337*k=x):z%pM=x%pM:=by
 rw [← h,DQ,Nat.add_mul_mod_self_left]
end Sc
end
section
namespace Sc
open Go.RowKit Go.Lib
theorem NB (w:World):Calls Tryz.prog 217 #[] w λe w'=>e=.returned (fv 115792089237316195423570985008687907852837564279074904382605163141518161494337)∧Below w.heap.size w w':=by
 go_enter Tryz.func217,Tryz.ntmps217
 go_wp2
 exact bodyPost_ret (results_cell_row U _ _ w.heap.size _ _ (0,0) _ U (heap_alloc_new w _) Ak U kZ) rfl ⟨rfl,(Below.refl _ _).alloc (Nat.le_refl _) _⟩
theorem Fn (w:World) (x y:Nat) (hx:x<(2^256)) (hy:y<(2^256)):Calls Tryz.prog 216 #[fv x,fv y] w λe w'=>(∃ s k:Nat,s<(2^256)∧k≤1∧s+y=x+(2^256)*k∧e=.returned (.tuple #[fv s,.int .u64 (k:Int)]))∧Below w.heap.size w w':=by
 obtain ⟨x0,x1,x2,x3,a0,a1,a2,a3,ex,fx⟩:=Am x hx
 obtain ⟨y0,y1,y2,y3,b0,b1,b2,b3,ey,fy⟩:=Am y hy
 rw [fx,fy]
 obtain ⟨s0,c0,d0,k0,e0,r0⟩:=Ir x0 y0 a0 b0
 obtain ⟨s1,c1,d1,k1,e1,r1⟩:=C0 x1 y1 c0 a1 b1 k0
 obtain ⟨s2,c2,d2,k2,e2,r2⟩:=C0 x2 y2 c1 a2 b2 k1
 obtain ⟨s3,c3,d3,k3,e3,r3⟩:=C0 x3 y3 c2 a3 b3 k2
 have fin:s0+18446744073709551616*s1+340282366920938463463374607431768211456*s2+6277101735386680763835789423207666416102355444464034512896*s3+y=x+(2^256)*c3:=om
 have hs:=Lib.hid (Ch s0 s1 s2 s3 d0 d1 d2 d3)
 have hlt:=Lib.hid (KE s0 s1 s2 s3 d0 d1 d2 d3)
 have HF:=Lib.hid fin
 have HK:=Lib.hid k3
 clear ex ey fx fy e0 e1 e2 e3 a0 a1 a2 a3 b0 b1 b2 b3 d0 d1 d2 d3 k0 k1 k2 k3 fin hx hy
 go_enter Tryz.func216,Tryz.ntmps216
 go_wp2_with fail
 go_loopw [5,7] (λbo i wr=>Below w.heap.size w wr∧Blk wr w.heap.size 42 #[.int .u64 (x0:Int),.int .u64 (x1:Int),.int .u64 (x2:Int),.int .u64 (x3:Int)]∧Blk wr (w.heap.size+1) 42 #[.int .u64 (y0:Int),.int .u64 (y1:Int),.int .u64 (y2:Int),.int .u64 (y3:Int)]∧Hid ((i=.int .i64 0∧bo=.int .u64 0∧Blk wr (w.heap.size+2) 42 #[.int .u64 0,.int .u64 0,.int .u64 0,.int .u64 0])∨(i=.int .i64 1∧bo=.int .u64 (c0:Int)∧Blk wr (w.heap.size+2) 42 #[.int .u64 (s0:Int),.int .u64 0,.int .u64 0,.int .u64 0])∨(i=.int .i64 2∧bo=.int .u64 (c1:Int)∧Blk wr (w.heap.size+2) 42 #[.int .u64 (s0:Int),.int .u64 (s1:Int),.int .u64 0,.int .u64 0])∨(i=.int .i64 3∧bo=.int .u64 (c2:Int)∧Blk wr (w.heap.size+2) 42 #[.int .u64 (s0:Int),.int .u64 (s1:Int),.int .u64 (s2:Int),.int .u64 0])∨(i=.int .i64 4∧bo=.int .u64 (c3:Int)∧Blk wr (w.heap.size+2) 42 #[.int .u64 (s0:Int),.int .u64 (s1:Int),.int .u64 (s2:Int),.int .u64 (s3:Int)]))) (λ_ i _=>4 - (intOf i).toNat)
 case atStart=>exact ⟨Aa w _ _ _,((Blk.new w _ _).alloc _).alloc _,(AZ w _ _ _).alloc _,Lib.hid (.inl ⟨rfl,rfl,Ao w _ _ _ _⟩)⟩
 case round =>
  obtain ⟨hb,BX,BY,HI⟩:=hrel
  have lX:=BX.lt
  have lY:=BY.lt
  rcases HI.out with ⟨rfl,rfl,BW⟩ | ⟨rfl,rfl,BW⟩ | ⟨rfl,rfl,BW⟩ | ⟨rfl,rfl,BW⟩ | ⟨rfl,rfl,BW⟩
  ·clear HI
   have px:wr.cell? ⟨w.heap.size,0,none⟩=some (.int .u64 (x0:Int)):=BX.cell 0
   have py:wr.cell? ⟨w.heap.size+1,0,none⟩=some (.int .u64 (y0:Int)):=BY.cell 0
   go_wp2
   refine wp_region_G (λj=>j == 13) kZ ?_
   try simp only [Act.put]
   refine tk 0 U ?_
   try simp only [aPS]
   refine tk 1 U ?_
   try simp only [aPS]
   refine tk 2 U ?_
   try simp only [aPS]
   refine tkw 3 U (YieldsG.pure (v:=.int .u64 (x0:Int)) (by rfl) (λw9 h9=>by have hz:=(Below.cell (p:=⟨w.heap.size,0,none⟩) h9 lX).trans px; go_simp; first | done | simp [hz])) ?_
   try simp only [aPS]
   refine tk 4 U ?_
   try simp only [aPS]
   refine tk 5 U ?_
   try simp only [aPS]
   refine tkw 6 U (YieldsG.pure (v:=.int .u64 (y0:Int)) (by rfl) (λw9 h9=>by have hz:=(Below.cell (p:=⟨w.heap.size+1,0,none⟩) h9 lY).trans py; go_simp; first | done | simp [hz])) ?_
   try simp only [aPS]
   refine tk 7 U ?_
   try simp only [aPS]
   refine tkw 8 U (YieldsG.pure (v:=.tuple #[.int .u64 (s0:Int),.int .u64 (c0:Int)]) (by rfl) (λw9 h9=>by go_simp)) ?_
   try simp only [aPS]
   refine tk 9 U ?_
   try simp only [aPS]
   refine tk 10 U ?_
   try simp only [aPS]
   refine AW 11 U kZ (λ_ _ _ h=>h) (λ_=>YieldsG.pure (by rfl) (λw9 _=>by go_simp; try with_reducible rfl)) ?_
   try simp only [aPS]
   refine tk 12 U ?_
   try simp only [aPS]
   refine wpAnyG_sole 13 U kZ (by rfl) (λu hu K hK=>?_)
   have BX:=Gr.blk hu BX
   have BY:=Gr.blk hu BY
   have BW:=Gr.blk hu BW
   have hb:=Below.gr hb hu
   have pc:u.cell? ⟨w.heap.size+2,0,none⟩=some (.int .u64 0):=BW.cell 0
   have pf:=BW.frozen 0
   clear hu px py
   go_simp
   refine hK _ _ (λe=>by cases e) ?_
   clear hK K
   have hb:=hb.setCell (p:=⟨w.heap.size+2,0,none⟩) (by show w.heap.size≤w.heap.size+2; omega) (.int .u64 (s0:Int))
   have BX:=BX.far (p:=⟨w.heap.size+2,0,none⟩) (by show w.heap.size≠w.heap.size+2; omega) (.int .u64 (s0:Int))
   have BY:=BY.far (p:=⟨w.heap.size+2,0,none⟩) (by show w.heap.size+1≠w.heap.size+2; omega) (.int .u64 (s0:Int))
   have BW:=BW.set_ 0 (.int .u64 (s0:Int))
   refine AW 14 U kZ (λ_ _ _ h=>h) (λ_=>YieldsG.pure (by rfl) (λw9 _=>by go_simp; try with_reducible rfl)) ?_
   try simp only [aPS]
   refine wpAnyG_done kZ (λv hv=>?_)
   have hb:=Below.gr hb hv
   have BX:=Gr.blk hv BX
   have BY:=Gr.blk hv BY
   have BW:=Gr.blk hv BW
   clear hv pc pf
   go_wp2
   refine ⟨⟨hb,BX,BY,Lib.hid (.inr (.inl (⟨rfl,rfl,BW⟩)))⟩,by decide⟩
  ·clear HI
   have px:wr.cell? ⟨w.heap.size,1,none⟩=some (.int .u64 (x1:Int)):=BX.cell 1
   have py:wr.cell? ⟨w.heap.size+1,1,none⟩=some (.int .u64 (y1:Int)):=BY.cell 1
   go_wp2
   refine wp_region_G (λj=>j == 13) kZ ?_
   try simp only [Act.put]
   refine tk 0 U ?_
   try simp only [aPS]
   refine tk 1 U ?_
   try simp only [aPS]
   refine tk 2 U ?_
   try simp only [aPS]
   refine tkw 3 U (YieldsG.pure (v:=.int .u64 (x1:Int)) (by rfl) (λw9 h9=>by have hz:=(Below.cell (p:=⟨w.heap.size,1,none⟩) h9 lX).trans px; go_simp; first | done | simp [hz])) ?_
   try simp only [aPS]
   refine tk 4 U ?_
   try simp only [aPS]
   refine tk 5 U ?_
   try simp only [aPS]
   refine tkw 6 U (YieldsG.pure (v:=.int .u64 (y1:Int)) (by rfl) (λw9 h9=>by have hz:=(Below.cell (p:=⟨w.heap.size+1,1,none⟩) h9 lY).trans py; go_simp; first | done | simp [hz])) ?_
   try simp only [aPS]
   refine tk 7 U ?_
   try simp only [aPS]
   refine tkw 8 U (YieldsG.pure (v:=.tuple #[.int .u64 (s1:Int),.int .u64 (c1:Int)]) (by rfl) (λw9 h9=>by go_simp)) ?_
   try simp only [aPS]
   refine tk 9 U ?_
   try simp only [aPS]
   refine tk 10 U ?_
   try simp only [aPS]
   refine AW 11 U kZ (λ_ _ _ h=>h) (λ_=>YieldsG.pure (by rfl) (λw9 _=>by go_simp; try with_reducible rfl)) ?_
   try simp only [aPS]
   refine tk 12 U ?_
   try simp only [aPS]
   refine wpAnyG_sole 13 U kZ (by rfl) (λu hu K hK=>?_)
   have BX:=Gr.blk hu BX
   have BY:=Gr.blk hu BY
   have BW:=Gr.blk hu BW
   have hb:=Below.gr hb hu
   have pc:u.cell? ⟨w.heap.size+2,1,none⟩=some (.int .u64 0):=BW.cell 1
   have pf:=BW.frozen 1
   clear hu px py
   go_simp
   refine hK _ _ (λe=>by cases e) ?_
   clear hK K
   have hb:=hb.setCell (p:=⟨w.heap.size+2,1,none⟩) (by show w.heap.size≤w.heap.size+2; omega) (.int .u64 (s1:Int))
   have BX:=BX.far (p:=⟨w.heap.size+2,1,none⟩) (by show w.heap.size≠w.heap.size+2; omega) (.int .u64 (s1:Int))
   have BY:=BY.far (p:=⟨w.heap.size+2,1,none⟩) (by show w.heap.size+1≠w.heap.size+2; omega) (.int .u64 (s1:Int))
   have BW:=BW.set_ 1 (.int .u64 (s1:Int))
   refine AW 14 U kZ (λ_ _ _ h=>h) (λ_=>YieldsG.pure (by rfl) (λw9 _=>by go_simp; try with_reducible rfl)) ?_
   try simp only [aPS]
   refine wpAnyG_done kZ (λv hv=>?_)
   have hb:=Below.gr hb hv
   have BX:=Gr.blk hv BX
   have BY:=Gr.blk hv BY
   have BW:=Gr.blk hv BW
   clear hv pc pf
   go_wp2
   refine ⟨⟨hb,BX,BY,Lib.hid (.inr (.inr (.inl (⟨rfl,rfl,BW⟩))))⟩,by decide⟩
  ·clear HI
   have px:wr.cell? ⟨w.heap.size,2,none⟩=some (.int .u64 (x2:Int)):=BX.cell 2
   have py:wr.cell? ⟨w.heap.size+1,2,none⟩=some (.int .u64 (y2:Int)):=BY.cell 2
   go_wp2
   refine wp_region_G (λj=>j == 13) kZ ?_
   try simp only [Act.put]
   refine tk 0 U ?_
   try simp only [aPS]
   refine tk 1 U ?_
   try simp only [aPS]
   refine tk 2 U ?_
   try simp only [aPS]
   refine tkw 3 U (YieldsG.pure (v:=.int .u64 (x2:Int)) (by rfl) (λw9 h9=>by have hz:=(Below.cell (p:=⟨w.heap.size,2,none⟩) h9 lX).trans px; go_simp; first | done | simp [hz])) ?_
   try simp only [aPS]
   refine tk 4 U ?_
   try simp only [aPS]
   refine tk 5 U ?_
   try simp only [aPS]
   refine tkw 6 U (YieldsG.pure (v:=.int .u64 (y2:Int)) (by rfl) (λw9 h9=>by have hz:=(Below.cell (p:=⟨w.heap.size+1,2,none⟩) h9 lY).trans py; go_simp; first | done | simp [hz])) ?_
   try simp only [aPS]
   refine tk 7 U ?_
   try simp only [aPS]
   refine tkw 8 U (YieldsG.pure (v:=.tuple #[.int .u64 (s2:Int),.int .u64 (c2:Int)]) (by rfl) (λw9 h9=>by go_simp)) ?_
   try simp only [aPS]
   refine tk 9 U ?_
   try simp only [aPS]
   refine tk 10 U ?_
   try simp only [aPS]
   refine AW 11 U kZ (λ_ _ _ h=>h) (λ_=>YieldsG.pure (by rfl) (λw9 _=>by go_simp; try with_reducible rfl)) ?_
   try simp only [aPS]
   refine tk 12 U ?_
   try simp only [aPS]
   refine wpAnyG_sole 13 U kZ (by rfl) (λu hu K hK=>?_)
   have BX:=Gr.blk hu BX
   have BY:=Gr.blk hu BY
   have BW:=Gr.blk hu BW
   have hb:=Below.gr hb hu
   have pc:u.cell? ⟨w.heap.size+2,2,none⟩=some (.int .u64 0):=BW.cell 2
   have pf:=BW.frozen 2
   clear hu px py
   go_simp
   refine hK _ _ (λe=>by cases e) ?_
   clear hK K
   have hb:=hb.setCell (p:=⟨w.heap.size+2,2,none⟩) (by show w.heap.size≤w.heap.size+2; omega) (.int .u64 (s2:Int))
   have BX:=BX.far (p:=⟨w.heap.size+2,2,none⟩) (by show w.heap.size≠w.heap.size+2; omega) (.int .u64 (s2:Int))
   have BY:=BY.far (p:=⟨w.heap.size+2,2,none⟩) (by show w.heap.size+1≠w.heap.size+2; omega) (.int .u64 (s2:Int))
   have BW:=BW.set_ 2 (.int .u64 (s2:Int))
   refine AW 14 U kZ (λ_ _ _ h=>h) (λ_=>YieldsG.pure (by rfl) (λw9 _=>by go_simp; try with_reducible rfl)) ?_
   try simp only [aPS]
   refine wpAnyG_done kZ (λv hv=>?_)
   have hb:=Below.gr hb hv
   have BX:=Gr.blk hv BX
   have BY:=Gr.blk hv BY
   have BW:=Gr.blk hv BW
   clear hv pc pf
   go_wp2
   refine ⟨⟨hb,BX,BY,Lib.hid (.inr (.inr (.inr (.inl (⟨rfl,rfl,BW⟩)))))⟩,by decide⟩
  ·clear HI
   have px:wr.cell? ⟨w.heap.size,3,none⟩=some (.int .u64 (x3:Int)):=BX.cell 3
   have py:wr.cell? ⟨w.heap.size+1,3,none⟩=some (.int .u64 (y3:Int)):=BY.cell 3
   go_wp2
   refine wp_region_G (λj=>j == 13) kZ ?_
   try simp only [Act.put]
   refine tk 0 U ?_
   try simp only [aPS]
   refine tk 1 U ?_
   try simp only [aPS]
   refine tk 2 U ?_
   try simp only [aPS]
   refine tkw 3 U (YieldsG.pure (v:=.int .u64 (x3:Int)) (by rfl) (λw9 h9=>by have hz:=(Below.cell (p:=⟨w.heap.size,3,none⟩) h9 lX).trans px; go_simp; first | done | simp [hz])) ?_
   try simp only [aPS]
   refine tk 4 U ?_
   try simp only [aPS]
   refine tk 5 U ?_
   try simp only [aPS]
   refine tkw 6 U (YieldsG.pure (v:=.int .u64 (y3:Int)) (by rfl) (λw9 h9=>by have hz:=(Below.cell (p:=⟨w.heap.size+1,3,none⟩) h9 lY).trans py; go_simp; first | done | simp [hz])) ?_
   try simp only [aPS]
   refine tk 7 U ?_
   try simp only [aPS]
   refine tkw 8 U (YieldsG.pure (v:=.tuple #[.int .u64 (s3:Int),.int .u64 (c3:Int)]) (by rfl) (λw9 h9=>by go_simp)) ?_
   try simp only [aPS]
   refine tk 9 U ?_
   try simp only [aPS]
   refine tk 10 U ?_
   try simp only [aPS]
   refine AW 11 U kZ (λ_ _ _ h=>h) (λ_=>YieldsG.pure (by rfl) (λw9 _=>by go_simp; try with_reducible rfl)) ?_
   try simp only [aPS]
   refine tk 12 U ?_
   try simp only [aPS]
   refine wpAnyG_sole 13 U kZ (by rfl) (λu hu K hK=>?_)
   have BX:=Gr.blk hu BX
   have BY:=Gr.blk hu BY
   have BW:=Gr.blk hu BW
   have hb:=Below.gr hb hu
   have pc:u.cell? ⟨w.heap.size+2,3,none⟩=some (.int .u64 0):=BW.cell 3
   have pf:=BW.frozen 3
   clear hu px py
   go_simp
   refine hK _ _ (λe=>by cases e) ?_
   clear hK K
   have hb:=hb.setCell (p:=⟨w.heap.size+2,3,none⟩) (by show w.heap.size≤w.heap.size+2; omega) (.int .u64 (s3:Int))
   have BX:=BX.far (p:=⟨w.heap.size+2,3,none⟩) (by show w.heap.size≠w.heap.size+2; omega) (.int .u64 (s3:Int))
   have BY:=BY.far (p:=⟨w.heap.size+2,3,none⟩) (by show w.heap.size+1≠w.heap.size+2; omega) (.int .u64 (s3:Int))
   have BW:=BW.set_ 3 (.int .u64 (s3:Int))
   refine AW 14 U kZ (λ_ _ _ h=>h) (λ_=>YieldsG.pure (by rfl) (λw9 _=>by go_simp; try with_reducible rfl)) ?_
   try simp only [aPS]
   refine wpAnyG_done kZ (λv hv=>?_)
   have hb:=Below.gr hb hv
   have BX:=Gr.blk hv BX
   have BY:=Gr.blk hv BY
   have BW:=Gr.blk hv BW
   clear hv pc pf
   go_wp2
   refine ⟨⟨hb,BX,BY,Lib.hid (.inr (.inr (.inr (.inr (⟨rfl,rfl,BW⟩)))))⟩,by decide⟩
  ·clear HI
   obtain ⟨s,hsd⟩:=xE (s0+18446744073709551616*s1+340282366920938463463374607431768211456*s2+6277101735386680763835789423207666416102355444464034512896*s3)
   have hf:=hs.out
   have hl:=hlt.out
   have hn:=HF.out
   rw [← hsd] at hf hl hn
   have BS:=BW.eq_ (BO hf.symm).symm
   have HS:=Lib.hid (And.intro hl hn)
   clear hf hl hn hsd
   go_wp2_with (first | ((with_reducible refine AD (d:=some 24) ?_); refine AB U _ _ U (w.heap.size+2) rfl (s) _ _ _ (BS) (AV s) Ak U kZ ?_) | ((with_reducible refine AE ?_); refine AA U _ _ _ U (w.heap.size+2) (fcs (s)) U U _ _ (BS) kZ (by rfl) (AF _) ?_; intro w9 hL9 hB9 hK9))
   exact bodyPost_ret (Bo U _ _ (w.heap.size+2) _ _ _ _ U hL9 U Ak U kZ) rfl ⟨⟨s,c3,HS.out.1,HK.out,HS.out.2,rfl⟩,hb.trans (hB9 _ om)⟩
theorem E_ (w:World) (x y s k:Nat) (hx:x<(2^256)) (hy:y<(2^256)) (hs:s<(2^256)) (he:s+y=x+(2^256)*k) :
  Calls Tryz.prog 216 #[fv x,fv y] w λe w'=>e=.returned (.tuple #[fv s,.int .u64 (k:Int)])∧Below w.heap.size w w':=by
 refine (Fn w x y hx hy).mono ?_
 rintro e w' ⟨⟨s',k',hs',hk',he',rfl⟩,hb⟩
 obtain rfl:k'=k:=om
 obtain rfl:s'=s:=om
 exact ⟨rfl,hb⟩
theorem J2 (w:World) (p:Nat) (hp:p=115792089237316195423570985008687907852837564279074904382605163141518161494337):Calls Tryz.prog 217 #[] w λe w'=>e=.returned (fv p)∧Below w.heap.size w w':=by
 subst hp; exact NB w
theorem IH (w:World) (x k z:Nat) (dk:Int) (hdk:dk=(k:Int)) (hx:x<(2^256)) (hk:k≤1) (h2:x+(2^256)*k<115792089237316195423570985008687907852837564279074904382605163141518161494337+115792089237316195423570985008687907852837564279074904382605163141518161494337) (hz:z=(x+(2^256)*k)%pM):Calls Tryz.prog 168 #[fv x,.int .u64 dk] w λe w'=>e=.returned (fv z)∧Below w.heap.size w w':=by
 subst hdk
 obtain ⟨p,hp⟩:∃ p,p=115792089237316195423570985008687907852837564279074904382605163141518161494337:=⟨_,rfl⟩
 rw [DQ, ← hp] at hz
 rw [← hp] at h2
 have hpl:p<(2^256):=om
 obtain ⟨s,b,hs,hb,he⟩:∃ s b:Nat,s<(2^256)∧b≤1∧s+p=x+(2^256)*b:=by
  by_cases h:p≤x
  ·exact ⟨x - p,0,by omega,by omega,by omega⟩
  ·exact ⟨x+(2^256) - p,1,by omega,by omega,by omega⟩
 have cm:=λw=>E_ w x p s b hx hpl hs he
 have co:=λw=>J2 w p hp
 have t1:b>k→z=x:=λh=>by
  obtain rfl:k=0:=om
  rw [hz,Nat.mod_eq_of_lt om]; omega
 have t2:¬ b>k→z=s:=λh=>by
  rw [hz,Nat.mod_eq_sub_mod om,Nat.mod_eq_of_lt om]
  rcases (show k=0∨k=1 by omega) with rfl | rfl <;> omega
 obtain ⟨x0,x1,x2,x3,fx⟩:=Ad x hx
 have FX:=Lib.hid fx
 rw [fx]
 clear fx hx hz hp h2 hpl hs hb he hk
 go_enter Tryz.func168,Tryz.ntmps168
 go_wp2
 refine wp_region_G (λj=>j == 7) kZ ?_
 try simp only [Act.put]
 refine tkw 0 U (YieldsG.loadF (by rfl) _ _ U (w.heap.size) rfl (x) _ _ ((Blk.new w _ _).alloc _) (FX.out) Ak U kZ) ?_
 try simp only [aPS]
 refine tkw 1 U (YieldsG.call (v:=fv p) (by rfl) 217 _ (λw9=>by go_simp; try (first | with_reducible rfl | rfl)) (λw9 h9=>co w9)) ?_
 try simp only [aPS]
 refine tkw 2 U (YieldsG.call (v:=.tuple #[fv s,.int .u64 (b:Int)]) (by rfl) 216 _ (λw9=>by go_simp; try (first | with_reducible rfl | rfl)) (λw9 h9=>cm w9)) ?_
 try simp only [aPS]
 refine tk 3 U ?_
 try simp only [aPS]
 refine tk 4 U ?_
 try simp only [aPS]
 refine AW 5 U kZ (λ_ _ _ h=>h) (λ_=>YieldsG.pure (by rfl) (λw9 _=>by go_simp; try with_reducible rfl)) ?_
 try simp only [aPS]
 refine wpAnyG_sole 6 U kZ (by rfl) (λw3 h3 K hK=>?_)
 go_simp
 refine hK _ _ (λ_=>gr_alloc _ _) ?_
 clear hK K
 try simp only [aPS]
 refine A9 7 U kZ (by rfl) _ _ _ U (w3.heap.size) (fcs (s)) U U _ _ (Blk.new w3 _ _) kZ (by rfl) (AF _) rfl (λw6 h6 w7 hB7 hL7=>?_)
 try simp only [Act.put]
 refine AW 8 U kZ (λ_ _ _ h=>h) (λ_=>YieldsG.pure (by rfl) (λw9 _=>by go_simp; try with_reducible rfl)) ?_
 try simp only [aPS]
 refine wpAnyG_done kZ (λw8 h8=>?_)
 have BS:=Gr.blk h8 hL7
 have hsz:w.heap.size+2≤w3.heap.size:=by have:=h3.size; simp at this; omega
 have BX:Blk w8 w.heap.size 42 _:=Gr.blk h8 (Blk.below (B:=w3.heap.size) (Gr.blk h6 (Blk.alloc (Gr.blk h3 ((Blk.new w _ _).alloc _)) _)) (hB7 _ (Nat.le_refl _)) om)
 have BR:Blk w8 (w.heap.size+1) 42 _:=Gr.blk h8 (Blk.below (B:=w3.heap.size) (Gr.blk h6 (Blk.alloc (Gr.blk h3 (AZ w _ _ _)) _)) (hB7 _ (Nat.le_refl _)) om)
 have hB:Below w.heap.size w w8:=Below.gr ((Below.gr ((Below.gr (Ab w _ _) h3).alloc om _) h6).trans (hB7 _ om)) h8
 clear h3 h6 hB7 hL7 h8 cm co
 by_cases hbk:b>k
 ·have HZ:=Lib.hid (t1 hbk)
  have p0:(b:Int)>(k:Int):=om
  clear t1 t2 hbk
  go_wp2_with (first | ((with_reducible refine AD (d:=some 16) ?_); refine AB U _ _ U (w.heap.size) rfl (x) _ _ _ (BX) (FX.out) Ak U kZ ?_) | ((with_reducible refine AE ?_); refine AA U _ _ _ U (w.heap.size+1) (fcs (x)) U U _ _ (BR) kZ (by rfl) (AF _) ?_; intro w9 hL9 hB9 hK9))
  exact bodyPost_ret (results_cell_row U _ _ (w.heap.size+1) _ _ (0,0) _ U hL9 Ak U kZ) rfl ⟨by rw [HZ.out]; rfl,hB.trans (hB9 _ om)⟩
 ·have HZ:=Lib.hid (t2 hbk)
  have p0:¬ (b:Int)>(k:Int):=om
  clear t1 t2 hbk
  go_wp2_with (first | ((with_reducible refine AD (d:=some 17) ?_); refine AB U _ _ U (w3.heap.size) rfl (s) _ _ _ (BS) (AV s) Ak U kZ ?_) | ((with_reducible refine AE ?_); refine AA U _ _ _ U (w.heap.size+1) (fcs (s)) U U _ _ (BR) kZ (by rfl) (AF _) ?_; intro w9 hL9 hB9 hK9))
  exact bodyPost_ret (results_cell_row U _ _ (w.heap.size+1) _ _ (0,0) _ U hL9 Ak U kZ) rfl ⟨by rw [HZ.out]; rfl,hB.trans (hB9 _ om)⟩
theorem norm_any (w:World) (x:Nat) (hx:x<(2^256)):Calls Tryz.prog 105 #[fv x] w λe w'=>e=.returned (fv (x%pM))∧Below w.heap.size w w':=by
 obtain ⟨z,hz⟩:=xE (x%pM)
 have cr:=λw=>IH w x 0 z 0 U hx om om (by rw [hz]; rfl)
 obtain ⟨x0,x1,x2,x3,fx⟩:=Ad x hx
 have FX:=Lib.hid fx
 rw [fx] at cr ⊢
 rw [← hz]
 clear fx hx hz
 go_enter Tryz.func105,Tryz.ntmps105
 go_wp2_with fail
 refine (cr _).mono ?_
 rintro e w1 ⟨rfl,hb1⟩
 have hg:=Below.gr (Ab w _ _) hb1
 have hR:Blk w1 (w.heap.size+1) 42 _:=Gr.blk hb1 (AZ w _ _ _)
 go_wp2_with (first | ((with_reducible refine AE ?_); refine AA U _ _ _ U (w.heap.size+1) (fcs (z)) U U _ _ (hR) kZ (by rfl) (AF _) ?_; intro w4 hL hB4 hK4))
 exact bodyPost_ret (results_cell_row U _ _ (w.heap.size+1) _ _ (0,0) _ U hL Ak U kZ) rfl ⟨rfl,hg.trans (hB4 _ om)⟩
theorem bytes_any (w:World) (x:Nat) (hx:x<(2^256)):Calls Tryz.prog 149 #[fv x] w λe w'=>e=.returned (.agg ((AY (x%pM)).map bv).toArray)∧Below w.heap.size w w':=by
 obtain ⟨z,hz⟩:=xE (x%pM)
 have hzl:z<(2^256):=by rw [hz]; exact mod_lt x
 have cn:∀ w,Calls Tryz.prog 105 #[fv x] w λe w'=>e=.returned (fv z)∧Below w.heap.size w w':=by
  intro w; rw [hz]; exact norm_any w x hx
 rw [← hz]
 obtain ⟨z0,z1,z2,z3,a0,a1,a2,a3,ez,fz⟩:=Am z hzl
 have HZ:=Lib.hid (And.intro a0 (And.intro a1 (And.intro a2 (And.intro a3 ez))))
 have FZ:=Lib.hid fz
 obtain ⟨x0,x1,x2,x3,fx⟩:=Ad x hx
 rw [fx] at cn ⊢
 clear fx fz hz hzl a0 a1 a2 a3 ez hx
 have hZB:Hid ((List.replicate 32 (Value.int .u8 0)).toArray=((DC z 0).map bv).toArray):=Lib.hid (by simp [DC,EA,bv])
 go_enter Tryz.func149,Tryz.ntmps149
 go_wp2_with fail
 refine (cn _).mono ?_
 rintro e w1 ⟨rfl,hb⟩
 have BR:Blk w1 (w.heap.size+1) 22 _:=Gr.blk hb (Blk.alloc (AZ w _ _ _) _)
 have BB:Blk w1 (w.heap.size+2) 22 ((DC z 0).map bv).toArray:=Blk.eq_ (Gr.blk hb (Ao w _ _ _ _)) hZB.out
 have hB:=Below.gr (Aa w _ _ _) hb
 have sz:=BB.lt
 clear hb cn
 go_wp2_with (first | ((with_reducible refine AE ?_); refine AA U _ _ _ U (w1.heap.size) (fcs (z)) U U _ _ (Blk.new w1 _ _) kZ (by rfl) (AF _) ?_; intro w2 hL2 hB2 hK2; have CR:=hK2 _ om _ _ (BR.alloc _); have CB:=hK2 _ om _ _ (BB.alloc _); have hC:=(hB.alloc om _).trans (hB2 _ om)))
 go_loopw [8] (λi wr=>∃ k:Nat,k≤32∧i=.int .i64 (k:Int)∧Below w.heap.size w wr∧Blk wr (w.heap.size+2) 22 ((DC z k).map bv).toArray∧Blk wr w1.heap.size 42 #[.int .u64 (z0:Int),.int .u64 (z1:Int),.int .u64 (z2:Int),.int .u64 (z3:Int)]∧Blk wr (w.heap.size+1) 22 (List.replicate 32 (Value.int .u8 0)).toArray) (λi _=>32 - (intOf i).toNat)
 case atStart=>exact ⟨0,by omega,rfl,hC,CB,hL2.eq_ (BO FZ.out),CR⟩
 case round =>
  obtain ⟨k,hk,rfl,hb,hP,hN,hR⟩:=hrel
  by_cases hlt:k<32
  ·have ce:∀ j,j<32→∃ v,wr.cell? ⟨w.heap.size+1+1,j,none⟩=some v:=λj hj=>⟨_,(hP.cell j).trans (Array.getElem?_eq_getElem (by simp [E9 z k hk]; exact hj))⟩
   obtain ⟨v,hv⟩:=ce (31 - k) om
   have ff:=hP.frozen (31 - k)
   have q0:wr.cell? ⟨w1.heap.size,0,none⟩=some (.int .u64 (z0:Int)):=hN.cell 0
   have q1:wr.cell? ⟨w1.heap.size,1,none⟩=some (.int .u64 (z1:Int)):=hN.cell 1
   have q2:wr.cell? ⟨w1.heap.size,2,none⟩=some (.int .u64 (z2:Int)):=hN.cell 2
   have q3:wr.cell? ⟨w1.heap.size,3,none⟩=some (.int .u64 (z3:Int)):=hN.cell 3
   have hPn:=hP.set_ (31 - k) (bv (B8 z k))
   rw [IL z k hlt] at hPn
   have HP:=Lib.hid hPn
   clear hPn ce
   have HR:=Lib.hid (And.intro hb (And.intro hN hR))
   clear hb hP hN hR hk
   have hsz:w.heap.size+2<w1.heap.size:=sz
   rcases (show k=0∨k=1∨k=2∨k=3∨k=4∨k=5∨k=6∨k=7∨k=8∨k=9∨k=10∨k=11∨k=12∨k=13∨k=14∨k=15∨k=16∨k=17∨k=18∨k=19∨k=20∨k=21∨k=22∨k=23∨k=24∨k=25∨k=26∨k=27∨k=28∨k=29∨k=30∨k=31 by omega) with rfl | rfl | rfl | rfl | rfl | rfl | rfl | rfl | rfl | rfl | rfl | rfl | rfl | rfl | rfl | rfl | rfl | rfl | rfl | rfl | rfl | rfl | rfl | rfl | rfl | rfl | rfl | rfl | rfl | rfl | rfl | rfl
   all_goals
    go_wp2
    obtain ⟨a0,a1,a2,a3,ez⟩:=HZ.out
    refine ⟨⟨_,by decide,rfl,HR.out.1.setCell (by show w.heap.size≤w.heap.size+1+1; omega) _,HP.out.val (by rw [Kd]; congr 1; omega),HR.out.2.1.far (by show w1.heap.size≠w.heap.size+1+1; omega) _,HR.out.2.2.far (by show w.heap.size+1≠w.heap.size+1+1; omega) _⟩,by simp [intOf]⟩
  ·have p1:¬ (k:Int)<32:=om
   obtain rfl:k=32:=om
   rw [Gy] at hP
   have HI:=Lib.hid (AQ z)
   have HL:=Lib.hid hP
   have HR:=Lib.hid hR
   clear hN hP hR
   go_wp2_with (first | ((with_reducible refine AD (d:=some 24) ?_); refine A0 U _ _ U (w.heap.size+2) rfl _ _ _ HL.out GZ U (Ce HI.out) ?_) | ((with_reducible refine AE ?_); refine AA U _ _ _ U (w.heap.size+1) ((AY z).map bv).toArray U U _ _ HR.out (Ce HI.out) (by simp [HI.out]) (Me _) ?_; intro w9 hL9 hB9 hK9))
   exact bodyPost_ret (results_cell_row U _ _ (w.heap.size+1) _ _ (0,0) _ U hL9 GZ U (Ce HI.out)) U ⟨rfl,hb.trans (hB9 _ om)⟩
end Sc
end
section
section
open Go.RowKit Go.Lib
theorem bytes_any (w:World) (x:Nat) (hx:x<(2^256)):Calls Tryz.prog 205 #[fv x] w λe w'=>e=.returned (.agg ((AY (x%pM)).map bv).toArray)∧Below w.heap.size w w':=by
 obtain ⟨z,hz⟩:=xE (x%pM)
 have hzl:z<(2^256):=by rw [hz]; exact mod_lt x
 have cn:∀ w,Calls Tryz.prog 210 #[fv x] w λe w'=>e=.returned (fv z)∧Below w.heap.size w w':=by
  intro w; rw [hz]; exact norm_any w x hx
 rw [← hz]
 obtain ⟨z0,z1,z2,z3,a0,a1,a2,a3,ez,fz⟩:=Am z hzl
 have HZ:=Lib.hid (And.intro a0 (And.intro a1 (And.intro a2 (And.intro a3 ez))))
 have FZ:=Lib.hid fz
 obtain ⟨x0,x1,x2,x3,fx⟩:=Ad x hx
 rw [fx] at cn ⊢
 clear fx fz hz hzl a0 a1 a2 a3 ez hx
 have hZB:Hid ((List.replicate 32 (Value.int .u8 0)).toArray=((DC z 0).map bv).toArray):=Lib.hid (by simp [DC,EA,bv])
 go_enter Tryz.func205,Tryz.ntmps205
 go_wp2_with fail
 refine (cn _).mono ?_
 rintro e w1 ⟨rfl,hb⟩
 have BR:Blk w1 (w.heap.size+1) 22 _:=Gr.blk hb (Blk.alloc (AZ w _ _ _) _)
 have BB:Blk w1 (w.heap.size+2) 22 ((DC z 0).map bv).toArray:=Blk.eq_ (Gr.blk hb (Ao w _ _ _ _)) hZB.out
 have hB:=Below.gr (Aa w _ _ _) hb
 have sz:=BB.lt
 clear hb cn
 go_wp2_with (first | ((with_reducible refine AE ?_); refine AA U _ _ _ U (w1.heap.size) (fcs (z)) U U _ _ (Blk.new w1 _ _) kZ (by rfl) (AF _) ?_; intro w2 hL2 hB2 hK2; have CR:=hK2 _ om _ _ (BR.alloc _); have CB:=hK2 _ om _ _ (BB.alloc _); have hC:=(hB.alloc om _).trans (hB2 _ om)))
 go_loopw [8] (λi wr=>∃ k:Nat,k≤32∧i=.int .i64 (k:Int)∧Below w.heap.size w wr∧Blk wr (w.heap.size+2) 22 ((DC z k).map bv).toArray∧Blk wr w1.heap.size 46 #[.int .u64 (z0:Int),.int .u64 (z1:Int),.int .u64 (z2:Int),.int .u64 (z3:Int)]∧Blk wr (w.heap.size+1) 22 (List.replicate 32 (Value.int .u8 0)).toArray) (λi _=>32 - (intOf i).toNat)
 case atStart=>exact ⟨0,by omega,rfl,hC,CB,hL2.eq_ (BO FZ.out),CR⟩
 case round =>
  obtain ⟨k,hk,rfl,hb,hP,hN,hR⟩:=hrel
  by_cases hlt:k<32
  ·have ce:∀ j,j<32→∃ v,wr.cell? ⟨w.heap.size+1+1,j,none⟩=some v:=λj hj=>⟨_,(hP.cell j).trans (Array.getElem?_eq_getElem (by simp [E9 z k hk]; exact hj))⟩
   obtain ⟨v,hv⟩:=ce (31 - k) om
   have ff:=hP.frozen (31 - k)
   have q0:wr.cell? ⟨w1.heap.size,0,none⟩=some (.int .u64 (z0:Int)):=hN.cell 0
   have q1:wr.cell? ⟨w1.heap.size,1,none⟩=some (.int .u64 (z1:Int)):=hN.cell 1
   have q2:wr.cell? ⟨w1.heap.size,2,none⟩=some (.int .u64 (z2:Int)):=hN.cell 2
   have q3:wr.cell? ⟨w1.heap.size,3,none⟩=some (.int .u64 (z3:Int)):=hN.cell 3
   have hPn:=hP.set_ (31 - k) (bv (B8 z k))
   rw [IL z k hlt] at hPn
   have HP:=Lib.hid hPn
   clear hPn ce
   have HR:=Lib.hid (And.intro hb (And.intro hN hR))
   clear hb hP hN hR hk
   have hsz:w.heap.size+2<w1.heap.size:=sz
   rcases (show k=0∨k=1∨k=2∨k=3∨k=4∨k=5∨k=6∨k=7∨k=8∨k=9∨k=10∨k=11∨k=12∨k=13∨k=14∨k=15∨k=16∨k=17∨k=18∨k=19∨k=20∨k=21∨k=22∨k=23∨k=24∨k=25∨k=26∨k=27∨k=28∨k=29∨k=30∨k=31 by omega) with rfl | rfl | rfl | rfl | rfl | rfl | rfl | rfl | rfl | rfl | rfl | rfl | rfl | rfl | rfl | rfl | rfl | rfl | rfl | rfl | rfl | rfl | rfl | rfl | rfl | rfl | rfl | rfl | rfl | rfl | rfl | rfl
   all_goals
    go_wp2
    obtain ⟨a0,a1,a2,a3,ez⟩:=HZ.out
    refine ⟨⟨_,by decide,rfl,HR.out.1.setCell (by show w.heap.size≤w.heap.size+1+1; omega) _,HP.out.val (by rw [Kd]; congr 1; omega),HR.out.2.1.far (by show w1.heap.size≠w.heap.size+1+1; omega) _,HR.out.2.2.far (by show w.heap.size+1≠w.heap.size+1+1; omega) _⟩,by simp [intOf]⟩
  ·have p1:¬ (k:Int)<32:=om
   obtain rfl:k=32:=om
   rw [Gy] at hP
   have HI:=Lib.hid (AQ z)
   have HL:=Lib.hid hP
   have HR:=Lib.hid hR
   clear hN hP hR
   go_wp2_with (first | ((with_reducible refine AD (d:=some 24) ?_); refine A0 U _ _ U (w.heap.size+2) rfl _ _ _ HL.out GZ U (Ce HI.out) ?_) | ((with_reducible refine AE ?_); refine AA U _ _ _ U (w.heap.size+1) ((AY z).map bv).toArray U U _ _ HR.out (Ce HI.out) (by simp [HI.out]) (Me _) ?_; intro w9 hL9 hB9 hK9))
   exact bodyPost_ret (results_cell_row U _ _ (w.heap.size+1) _ _ (0,0) _ U hL9 GZ U (Ce HI.out)) U ⟨rfl,hb.trans (hB9 _ om)⟩
end
end
section
section
open Go.RowKit Go.Lib
end
end
section
section
open Go.RowKit Go.Lib
end
end
section
section
open Go.RowKit Go.Lib
end
end
section
namespace Cu
open Go.RowKit Sy
theorem CW (l:List UInt8) {n:Nat} (hl:l.length=n):Value.agg (((l.map bv).toArray.toList.drop 0).take n).toArray=.agg (l.map bv).toArray:=by
 rw [List.drop_zero,List.take_of_length_le (by simp; omega)]
theorem Ct (l:List UInt8) {n:Nat} (hl:l.length=n):0+n≤(l.map bv).toArray.size:=by simp; omega
theorem Sd (l:List UInt8) {n:Nat} (hl:l.length=n) (k:Nat) (hk:k<n):(l.map bv).toArray[k]? = some (bv (l.getD k 0)):=by
 have:k<l.length:=om
 simp [List.getD,this]
noncomputable def TY:TypeInfo:=(Tryz.prog.info? 5).getD default
theorem JF:Tryz.prog.info? 5=some TY:=kZ
end Cu
end
section
namespace Cu
open Go.RowKit Sy
def dg (m j:Nat):Nat:=m / 16 ^ (63 - j)%16
def dgA (m j:Nat):List Value:=[.int .u8 ((dg m j:Nat):Int)]
theorem B1 (m:Nat):∀ j,(dgA m j).length=1:=λ_=>rfl
theorem Kc (m k:Nat) (hk:k<32):((AY m).getD k 0).toNat=m / 2 ^ (8*(31 - k))%256:=by
 have h:∀ n j,j<n→(EA m n).getD j 0=B8 m (n - 1 - j):=by
  intro n
  induction n with
  | zero=>intro j hj; omega
  | succ n ih =>
   intro j hj
   cases j with
   | zero=>rfl
   | succ j =>
    show (EA m n).getD j 0=_
    rw [ih j om]
    congr 1
    omega
 unfold AY
 rw [h 32 k hk,show 32 - 1 - k=31 - k by omega]
 unfold B8
 rw [UInt8.toNat_ofNat']
 omega
theorem p16 (k:Nat):(2:Nat) ^ (8*k)=16 ^ (2*k):=by
 rw [show 8*k=4*(2*k) by omega,Nat.pow_mul]
theorem Tn (m k:Nat) (hk:k<32):((AY m).getD k 0).toNat / 16=dg m (2*k):=by
 rw [Kc m k hk,p16]
 unfold dg
 rw [show 63 - 2*k=2*(31 - k)+1 by omega,Nat.pow_succ, ← Nat.div_div_eq_div_mul]
 omega
theorem Tm (m k:Nat) (hk:k<32):((AY m).getD k 0).toNat%16=dg m (2*k+1):=by
 rw [Kc m k hk,p16]
 unfold dg
 rw [show 63 - (2*k+1)=2*(31 - k) by omega]
 omega
theorem RB (F:AK) (o:Oper) (t:TypeId) (x y:Operand) {yt:TypeId} (b:UInt8) (d:Nat) (ho:o.op=.binOp .shr t x y yt) (hx:evF F x=bv b) (hy:evF F y=.int .u64 4) (h:b.toNat / 16=d) (w:World):(execOp (evF F) o).run Tryz.prog w=.ok (.value (.int .u8 ((d:Nat):Int))) w :=
 AU .shr t x y .u8 (b.toNat:Int) 4 _ ho hx hy (Qz t .u8 .u64 _ _ _ dZ (by
  show Int.fdiv (b.toNat:Int) ((16:Nat):Int)=_
  rw [← h,Int.fdiv_eq_ediv_of_nonneg _ om]
  omega)) w
theorem Tq:∀ n:Fin 256,IntKind.u8.wrap ((BitVec.ofInt 8 ((n.val:Nat):Int) &&& BitVec.ofInt 8 15).toNat:Int)=((n.val%16:Nat):Int):=by decide +kernel
theorem Q_ (F:AK) (o:Oper) (t:TypeId) (x y:Operand) {yt:TypeId} (b:UInt8) (d:Nat) (ho:o.op=.binOp .and t x y yt) (hx:evF F x=bv b) (hy:evF F y=.int .u8 15) (h:b.toNat%16=d) (w:World):(execOp (evF F) o).run Tryz.prog w=.ok (.value (.int .u8 ((d:Nat):Int))) w :=
 AU .and t x y .u8 (b.toNat:Int) 15 _ ho hx hy (JE t .u8 _ _ _ (by
  rw [← h]
  exact Tq ⟨b.toNat,b.toNat_lt⟩)) w
theorem PQ (w:World) (x:Nat) (hx:x<K4):Calls Tryz.prog 226 #[fv x] w (Gets w (.agg (AO (dgA (x%Sc.pM)) 64).toArray)):=by
 obtain ⟨m,hm⟩:=xE (x%Sc.pM)
 obtain ⟨l,hl0⟩:=xE (AY m)
 have hl:l.length=32:=by rw [hl0]; exact AQ m
 have cB:∀ w,Calls Tryz.prog 149 #[fv x] w (Gets w (.agg (l.map bv).toArray)):=λw=>by rw [hl0,hm]; exact Sc.bytes_any w x hx
 rw [← hm]
 refine Sy.enter (args:=[fv x]) Tryz.func226 U kL<|sC<|sM 42 (fcs x) (λg0=>?_)
 refine Sy.make kR 252 (AO (λ_=>[.int .u8 0]) 64).toArray ptr kF (λg1=>?_)
 refine sA<|Sy.make kR 252 (AO (λ_=>[.int .u8 0]) 64).toArray ptr kF (λg2=>?_)
 refine sG<|Sy.seq<|sC<|sS (fv x) (qL 0 g0 0 4 42 42 (fcs x) rfl Ak)<|sS (.agg (l.map bv).toArray) (qF 149 #[fv x] (cB))<|sP (.int .i64 0)<|sG<|Sy.block<|Sy.loopK 32 (λk1=>[(2,pT g1 0),(3,pT g2 0),(7,.agg (l.map bv).toArray),(8,iZ k1)]) (λk1=>[(g1,252,(AO (λ_=>[.int .u8 0]) 64).toArray),(g2,252,(AO (upto (2*k1) (dgA m) [.int .u8 0]) 64).toArray)]) [false,true,true] (M:=[(g1,252,(AO (λ_=>[.int .u8 0]) 64).toArray),(g2,252,(AO (λ_=>[.int .u8 0]) 64).toArray)]) ac4 kR (AL U (AL (beq (Fe)) U)) (λk1 hk1=>?_)
 refine sC ?_
 obtain ⟨b1,hb1⟩:=xE (decide (k1<32))
 refine sS (.bool b1) (qls U U U hb1)<|sG<|Sy.seq ?_
 cases b1
 ·have lb1:=dN hb1
  refine sU<|Sy.exit<|Sy.then_exit<|Sy.then_exit ?_
  obtain rfl:k1=32:=om
  refine Sy.in_exit<|sB<|sS (.agg (AO (upto (2*32) (dgA m) [.int .u8 0]) 64).toArray) (Quiet.load 1 g2 0 64 252 252 (AO (upto (2*32) (dgA m) [.int .u8 0]) 64).toArray _ _ U kR kR Jf U kR _ (HO (Ax (B1 m) rfl _) rfl) (HJ (Ax (B1 m) rfl _) rfl))<|Sy.write kR 0 g1 252 (AO (λ_=>[.int .u8 0]) 64).toArray (AO (upto (2*32) (dgA m) [.int .u8 0]) 64).toArray kR (Writes.store 0 252 (AO (upto (2*32) (dgA m) [.int .u8 0]) 64).toArray _ _ U kR kR (EW (Ax (B1 m) rfl _) kR) (IR (Ax (B1 m) rfl _) rfl kR) (KG (Ax (B1 m) rfl _) _ (Jh (λ_ u hu=>by rw [List.mem_singleton.1 hu]; rfl) (λu hu=>by rw [List.mem_singleton.1 hu]; rfl) _)) (KF (Ax (B1 m) rfl _) kR))<|sG<|Sy.ret ?_
  rw [show (.agg (AO (dgA m) 64).toArray:Value)=.agg (AO (upto (2*32) (dgA m) [.int .u8 0]) 64).toArray from congrArg Value.agg upto_all.symm]
  exact Sy.ret1 U (v:=.agg (AO (upto (2*32) (dgA m) [.int .u8 0]) 64).toArray) (.inl (Res.cell (ty':=252) g1 0 (AO (upto (2*32) (dgA m) [.int .u8 0]) 64).toArray _ kR kR Jf U (EW (Ax (B1 m) rfl _) kR) rfl))
 ·have lb1:=dY hb1
  refine sT<|Sy.skip<|Sy.then_<|Sy.seq<|Sy.block<|sC<|sP (iZ k1)<|sS (bv (l.getD k1 0)) (Quiet.pure (Hf _ _ _ _ _ 32 k1 .i64 _ _ U U U GZ uy5 U kF om (Sd l hl k1 om)))<|sP (iZ k1)<|sP (bv (l.getD k1 0))<|sG<|Sy.region<|sP (iZ k1)<|sS (iZ (2*k1)) (qml U U U)<|sP (iZ k1)<|sS (iZ (2*k1)) (qml U U U)<|sS (iZ ((2*k1)+1)) (qad U U U)<|sP (bv (l.getD k1 0))<|sS (.int .u8 ((dg m (2*k1):Nat):Int)) (Quiet.pure (RB _ _ _ _ _ (l.getD k1 0) _ U U U (by rw [hl0]; exact Tn m k1 om)))<|sP (bv (l.getD k1 0))<|sS (.int .u8 ((dg m (2*k1+1):Nat):Int)) (Quiet.pure (Q_ _ _ _ _ _ (l.getD k1 0) _ U U U (by rw [hl0]; exact Tm m k1 om)))<|sS (.pointer (some ⟨g2,0+(2*k1)*1,none⟩)) (Quiet.pure (Au 252 _ _ _ g2 0 _ (2*k1) 1 .i64 U U U Jf kF om))<|Sy.write kR 1 g2 252 (AO (upto (2*k1) (dgA m) [.int .u8 0]) 64).toArray (AO (upto (2*k1+1) (dgA m) [.int .u8 0]) 64).toArray kR (Writes.one (0+(2*k1)*1) 5 (.int .u8 ((dg m (2*k1):Nat):Int)) _ _ U kR kR kR U U (KH (Ax (B1 m) rfl _) (k:=2*k1) om om) ((congrArg (Array.setIfInBounds _ · _) (show 0+(2*k1)*1=2*k1 by omega)).trans (H9 (B1 m) (rfl) om)))<|sS (.pointer (some ⟨g2,0+((2*k1)+1)*1,none⟩)) (Quiet.pure (Au 252 _ _ _ g2 0 _ ((2*k1)+1) 1 .i64 U U U Jf kF om))<|Sy.write kR 1 g2 252 (AO (upto (2*k1+1) (dgA m) [.int .u8 0]) 64).toArray (AO (upto (2*k1+1+1) (dgA m) [.int .u8 0]) 64).toArray kR (Writes.one (0+((2*k1)+1)*1) 5 (.int .u8 ((dg m (2*k1+1):Nat):Int)) _ _ U kR kR kR U U (KH (Ax (B1 m) rfl _) (k:=2*k1+1) om om) ((congrArg (Array.setIfInBounds _ · _) (show 0+((2*k1)+1)*1=2*k1+1 by omega)).trans (H9 (B1 m) (rfl) om)))<|Sy.nil<|Sy.in_<|Sy.then_<|Sy.region<|sS (iZ (k1+1)) (qad U U U)<|sP (iZ (k1+1))<|Sy.nil ?_
  exact Sy.againK [true,true] (M:=[(g1,252,(AO (λ_=>[.int .u8 0]) 64).toArray),(g2,252,(AO (upto (2*k1+1+1) (dgA m) [.int .u8 0]) 64).toArray)]) om ac4 kR (AL U (AL (beq (congrArg (λt=>(AO (upto t (dgA m) [.int .u8 0]) 64).toArray) (show 2*k1+1+1=2*(k1+1) by omega))) U))
def tws (x y z:Nat):List Value:=fws x++(fws y++fws z)
def jws (a:J):List Value:=tws a.x.val a.y.val a.z.val
def Bv (a:J):Nat→J
 | 0=>⟨0,0,0⟩
 | k+1=>Bz (Bv a k) a
theorem KL {a:J} {P:Pt} (hP:Ec.On P) (h:Ec.Rep a P):∀ k,Ec.Rep (Bv a k) (Ec.nm Ae k P)
 | 0=>rfl
 | k+1=>Fa (hP.nm fld k) hP (KL hP h k) h
def Dg (a:J) (j:Nat):List Value:=jws (Bv a j)
theorem Bf (a:J):∀ j,(Dg a j).length=12:=λ_=>rfl
theorem Nf (a:J):(AO (λ_=>tws 0 0 0) 16).toArray=(AO (upto 1 (Dg a) (tws 0 0 0)) 16).toArray:=congrArg List.toArray (Bq λj _=>by
 unfold upto
 split
 ·obtain rfl:j=0:=om
  rfl
 ·rfl)
theorem MQ (a:J):∀ u∈jws a,u.oneCell'=true:=λu hu=>by
 unfold jws tws fws at hu
 simp [qv] at hu
 rcases hu with rfl | rfl | rfl | rfl | rfl | rfl | rfl | rfl | rfl | rfl | rfl | rfl <;> rfl
theorem Ro (w:World) (P:Pt) (x y:Nat) (i:Bool) (hP:ptv P=pv x y i):Calls Tryz.prog 227 #[pv x y i] w (Gets w (.agg (AO (Dg (Az P)) 16).toArray)):=by
 obtain ⟨a,ha⟩:=xE (Az P)
 have c3:∀ w,Calls Tryz.prog 249 #[pv x y i] w (Gets w (tv a.x.val a.y.val a.z.val)):=λw=>by
  have h:=P5 w P
  rw [hP, ← ha] at h
  exact h
 rw [← ha]
 refine Sy.enter (args:=[pv x y i]) Tryz.func227 U kL<|sC<|sM 48 (pcs x y i) (λg0=>?_)
 refine Sy.make kR 267 (AO (λ_=>tws 0 0 0) 16).toArray ptr kF (λg1=>?_)
 refine sA<|Sy.make kR 267 (AO (λ_=>tws 0 0 0) 16).toArray ptr kF (λg2=>?_)
 refine sA<|sS (pv x y i) (qL 0 g0 0 9 48 48 (pcs x y i) rfl Ac)<|sS (tv a.x.val a.y.val a.z.val) (qF 249 #[pv x y i] (c3))<|sM 214 (tcs 0 0 0) (λg3=>?_)
 refine sW 3 g3 214 (tcs 0 0 0) (tcs a.x.val a.y.val a.z.val) (wS 0 214 (tcs a.x.val a.y.val a.z.val) rfl)<|sG<|Sy.seq<|sC<|sP (.int .i64 1)<|sG<|Sy.block<|Sy.loopK 15 (λk1=>[(2,pT g1 0),(3,pT g2 0),(4,pT g3 0),(5,iZ (k1+1))]) (λk1=>[(g1,267,(AO (λ_=>tws 0 0 0) 16).toArray),(g2,267,(AO (upto (k1+1) (Dg a) (tws 0 0 0)) 16).toArray),(g3,214,(tcs a.x.val a.y.val a.z.val))]) [false,true,true,true] (M:=[(g1,267,(AO (λ_=>tws 0 0 0) 16).toArray),(g2,267,(AO (λ_=>tws 0 0 0) 16).toArray),(g3,214,(tcs a.x.val a.y.val a.z.val))]) ac4 kR (AL U (AL (beq (Nf a)) (AL U U))) (λk1 hk1=>?_)
 refine Sy.seq<|sC<|sP (iZ (k1+1)) ?_
 obtain ⟨b1,hb1⟩:=xE (decide (k1+1<16))
 refine sS (.bool b1) (qls U U U hb1)<|sG ?_
 cases b1
 ·have lb1:=dN hb1
  refine sU<|Sy.exit<|Sy.then_exit<|Sy.then_exit ?_
  obtain rfl:k1=15:=om
  refine Sy.in_exit<|sB<|sS (.agg (AO (upto (15+1) (Dg a) (tws 0 0 0)) 16).toArray) (Quiet.load 1 g2 0 192 267 267 (AO (upto (15+1) (Dg a) (tws 0 0 0)) 16).toArray _ _ U kR kR Je U kR _ (HO (Ax (Bf a) rfl _) rfl) (HJ (Ax (Bf a) rfl _) rfl))<|Sy.write kR 0 g1 267 (AO (λ_=>tws 0 0 0) 16).toArray (AO (upto (15+1) (Dg a) (tws 0 0 0)) 16).toArray kR (Writes.store 0 267 (AO (upto (15+1) (Dg a) (tws 0 0 0)) 16).toArray _ _ U kR kR (EW (Ax (Bf a) rfl _) kR) (IR (Ax (Bf a) rfl _) rfl kR) (KG (Ax (Bf a) rfl _) _ (Jh (λ_=>MQ _) (MQ ⟨0,0,0⟩) _)) (KF (Ax (Bf a) rfl _) kR))<|sG<|Sy.ret ?_
  rw [show (.agg (AO (Dg a) 16).toArray:Value)=.agg (AO (upto (15+1) (Dg a) (tws 0 0 0)) 16).toArray from congrArg Value.agg upto_all.symm]
  exact Sy.ret1 U (v:=.agg (AO (upto (15+1) (Dg a) (tws 0 0 0)) 16).toArray) (.inl (Res.cell (ty':=267) g1 0 (AO (upto (15+1) (Dg a) (tws 0 0 0)) 16).toArray _ kR kR Je U (EW (Ax (Bf a) rfl _) kR) rfl))
 ·have lb1:=dY hb1
  refine sT<|Sy.skip<|Sy.then_<|Sy.seq<|Sy.block<|Sy.regionD (λj=>j == 8) kR<|sZ 0 U (iZ (k1+1))<|sZ 1 U (iZ (k1+1))<|sD 2 U (iZ ((k1+1) - 1)) (qsb U U U)<|sD 3 U (.pointer (some ⟨g2,0+((k1+1) - 1)*12,none⟩)) (Quiet.pure (Au 267 _ _ _ g2 0 _ ((k1+1) - 1) 12 .i64 U U U Je kF om))<|sD 4 U (tv ((Bv a ((k1+1) - 1)).x.val) ((Bv a ((k1+1) - 1)).y.val) ((Bv a ((k1+1) - 1)).z.val)) (Quiet.load 1 g2 (0+((k1+1) - 1)*12) 12 267 214 (AO (upto (k1+1) (Dg a) (tws 0 0 0)) 16).toArray _ _ U kR kR Bj U kR _ ((Nb (Ax (Bf a) rfl _) (k:=(k1+1) - 1) om om).trans ((congrArg (λl:List Value=>Value.agg l.toArray) (Ij om)).trans kR)) (FE (Ax (Bf a) rfl _) (k:=(k1+1) - 1) om om))<|sD 5 U (tv a.x.val a.y.val a.z.val) (qL 2 g3 0 12 214 214 (tcs a.x.val a.y.val a.z.val) rfl Bj) ?_
  obtain ⟨j1,hj1⟩:∃ z:J,z=Bz (Bv a ((k1+1) - 1)) a:=⟨_,rfl⟩
  refine sD 6 U (tv j1.x.val j1.y.val j1.z.val) (qF 181 #[tv ((Bv a ((k1+1) - 1)).x.val) ((Bv a ((k1+1) - 1)).y.val) ((Bv a ((k1+1) - 1)).z.val),tv a.x.val a.y.val a.z.val] (λw=>by rw [hj1]; exact Lr w (Bv a ((k1+1) - 1)) a))<|sD 7 U (.pointer (some ⟨g2,0+(k1+1)*12,none⟩)) (Quiet.pure (Au 267 _ _ _ g2 0 _ (k1+1) 12 .i64 U U U Je kF om))<|Sy.writeD 8 U kR (by rfl) kR 1 g2 267 (AO (upto (k1+1) (Dg a) (tws 0 0 0)) 16).toArray (AO (upto (k1+1+1) (Dg a) (tws 0 0 0)) 16).toArray kR (Writes.store (0+(k1+1)*12) 214 (tcs j1.x.val j1.y.val j1.z.val) _ _ U kR kR kR (FE (Ax (Bf a) rfl _) (k:=k1+1) om om) kR (E0 (v:=(tcs j1.x.val j1.y.val j1.z.val).toList) (Bf a) rfl (by rw [hj1]; rfl) om om))<|sE<|Sy.in_<|Sy.then_<|Sy.region<|sP (iZ (k1+1))<|sS (iZ ((k1+1)+1)) (qad U U U)<|sP (iZ ((k1+1)+1))<|Sy.nil ?_
  exact Sy.againK [true,true,true] (M:=[(g1,267,(AO (λ_=>tws 0 0 0) 16).toArray),(g2,267,(AO (upto (k1+1+1) (Dg a) (tws 0 0 0)) 16).toArray),(g3,214,(tcs a.x.val a.y.val a.z.val))]) om ac4 kR (AL U (AL U (AL U U)))
end Cu
end
section
namespace Cu
open Go.RowKit Sy
structure Trm where
 k:Nat
 x:Nat
 y:Nat
 i:Bool
def Ji (k x y:Nat) (i:Bool):Array Value:=(fws k++(fws x++(fws y++[Value.bool i]))).toArray
def trv (k x y:Nat) (i:Bool):Value:=.agg (Ji k x y i)
def Trm.cells (t:Trm):List Value:=fws t.k++(fws t.x++(fws t.y++[Value.bool t.i]))
def Trm.ok (t:Trm):Prop:=t.k<K4∧t.x<K4∧t.y<K4
def Trm.pt (t:Trm):Pt:=dec t.x t.y t.i
def Trm.kn (t:Trm):Nat:=t.k%Sc.pM
def tmA (t:Trm):List Value:=AO (dgA t.kn) 64++AO (Dg (Az t.pt)) 16
def R0 (t:Trm):Array Value:=(tmA t).toArray
theorem Im (T:Nat→Trm):∀ j,(tmA (T j)).length=256:=λ_=>by
 unfold tmA
 rw [List.length_append,A1 (B1 _),A1 (Bf _)]
def zt:List Value:=List.replicate 64 (.int .u8 0)++List.replicate 192 (.int .u64 0)
noncomputable def TZ:TypeInfo:=(Tryz.prog.info? 270).getD default
theorem Q2:Tryz.prog.info? 270=some TZ:=kZ
theorem Tl (m j:Nat):dg m j<16:=Nat.mod_lt _ dZ
theorem Th (w:World) (P:Pt):Calls Tryz.prog 227 #[ptv P] w (Gets w (.agg (AO (Dg (Az P)) 16).toArray)):=by
 rcases P with _ | ⟨u,v⟩
 ·exact Ro w none 0 0 true U
 ·exact Ro w (some (u,v)) u.val v.val false U
def dbN (a:J):Nat→J
 | 0=>a
 | j+1=>BA (dbN a j)
def inJ (T:Nat→Trm) (i:Nat) (a:J):Nat→J
 | 0=>a
 | j+1=>Bz (inJ T i a j) (Bv (Az (T j).pt) (dg (T j).kn i))
def muJ (T:Nat→Trm) (n:Nat):Nat→J
 | 0=>⟨0,0,0⟩
 | i+1=>inJ T i (dbN (muJ T n i) 4) n
theorem T2 (w:World) (g off i:Nat) (t:Trm) (hg:g<w.heap.size) (hi:i<64) (hr:w.rangeAt g off (tmA t)):Calls Tryz.prog 228 #[pT g off,iZ i] w (Gets w (tv (Bv (Az t.pt) (dg t.kn i)).x.val (Bv (Az t.pt) (dg t.kn i)).y.val (Bv (Az t.pt) (dg t.kn i)).z.val)):=by
 have hd:=Tl t.kn i
 refine Sy.enter (args:=[pT g off,iZ i]) Tryz.func228 U kL<|sC<|sM 214 (tcs 0 0 0) (λg0=>?_)
 refine sH (λj=>j == 11) ?_
 refine sZ 0 U (pT g off)<|sZ 1 U (pT g off)<|sZ 2 U (iZ i)<|sZ 3 U (pT g off)<|sZ 4 U (pT g off)<|sD 5 U (.pointer (some ⟨g,off+i*1,none⟩)) (Quiet.pure (Au 252 _ _ _ g off _ i 1 .i64 U U U Jf kF om))<|sD 6 U (.int .u8 ((dg t.kn i:Nat):Int)) (Quiet.thereOne g (off+i*1) 5 _ _ U kR hg _ (Gt (Gs hr) (B1 t.kn) hi 0 _ U) uy5 U)<|sZ 7 U (pT g off)<|sZ 8 U (pT g (off+64))<|sD 9 U (.pointer (some ⟨g,off+64+(dg t.kn i)*12,none⟩)) (Quiet.pure (Au 267 _ _ _ g (off+64) _ (dg t.kn i) 12 .u8 U U U Je kF om))<|sD 10 U (tv ((Bv (Az t.pt) (dg t.kn i)).x.val) ((Bv (Az t.pt) (dg t.kn i)).y.val) ((Bv (Az t.pt) (dg t.kn i)).z.val)) (Quiet.there g (off+64+(dg t.kn i)*12) 12 214 (Dg (Az t.pt) (dg t.kn i)) _ _ U kR hg (Gt (F3 hr (A1 (B1 t.kn) 64)) (Bf _) hd) Bj U kR U _ kR)<|sX 11 U 0 g0 214 (tcs 0 0 0) (tcs ((Bv (Az t.pt) (dg t.kn i)).x.val) ((Bv (Az t.pt) (dg t.kn i)).y.val) ((Bv (Az t.pt) (dg t.kn i)).z.val)) (wS 0 214 (tcs ((Bv (Az t.pt) (dg t.kn i)).x.val) ((Bv (Az t.pt) (dg t.kn i)).y.val) ((Bv (Az t.pt) (dg t.kn i)).z.val)) U)<|sI<|Sy.ret ?_
 exact rC (v:=tv ((Bv (Az t.pt) (dg t.kn i)).x.val) ((Bv (Az t.pt) (dg t.kn i)).y.val) ((Bv (Az t.pt) (dg t.kn i)).z.val)) 214 g0 0 (tcs ((Bv (Az t.pt) (dg t.kn i)).x.val) ((Bv (Az t.pt) (dg t.kn i)).y.val) ((Bv (Az t.pt) (dg t.kn i)).z.val)) U Bj
theorem Qm (w:World) (b o n c:Nat) (T:Nat→Trm) (hb:b<w.heap.size) (hn:n≤32) (hok:∀ j,(T j).ok) (hT:∀ j,j<n→w.rangeAt b (o+j*13) (T j).cells):Calls Tryz.prog 182 #[.slice (some ⟨b,o,none⟩) n c] w (Gets w (tv (muJ T n 64).x.val (muJ T n 64).y.val (muJ T n 64).z.val)):=by
 refine Sy.enter (args:=[.slice (some ⟨b,o,none⟩) n c]) Tryz.func182 U kL<|sC<|sM 214 (tcs 0 0 0) (λg0=>?_)
 refine sA<|sP (.slice (some ⟨b,o,none⟩) n c)<|sP (iZ n)<|Sy.make kR 270 (AO (λ_=>zt) n).toArray (λg=>.slice (pA g) n n) (Makes.slice 265 270 _ (.agg zt.toArray) 256 1600 _ _ .i64 .i64 n zt U U U Ny Q2 kR kR dZ kR kR kR om om) (λg1=>?_)
 refine sP (.slice (pA g1) n n)<|sG<|Sy.seq<|sC<|sP (.slice (some ⟨b,o,none⟩) n c)<|sP (iZ n)<|sP (.int .i64 0)<|sG<|Sy.block<|Sy.loopK n (λk1=>[(2,pT g0 0),(3,.slice (pA g1) n n),(12,.slice (some ⟨b,o,none⟩) n c),(13,iZ n),(14,iZ k1)]) (λk1=>[(g0,214,(tcs 0 0 0)),(g1,270,(AO (upto k1 (λj=>tmA (T j)) zt) n).toArray)]) [true,true] (M:=[(g0,214,(tcs 0 0 0)),(g1,270,(AO (λ_=>zt) n).toArray)]) ac5 kR (AL U (AL (beq (Fe)) U)) (λk1 hk1=>?_)
 refine sC ?_
 obtain ⟨b1,hb1⟩:=xE (decide (k1<n))
 refine sS (.bool b1) (qls U U U hb1)<|sG<|Sy.seq ?_
 cases b1
 ·have lb1:=dN hb1
  refine sU<|Sy.exit<|Sy.then_exit<|Sy.then_exit ?_
  obtain rfl:n=k1:=om
  refine Sy.in_exit<|sB<|sM 214 (tcs 0 0 0) (λg2=>?_)
  refine sG<|Sy.seq<|sC<|sP (.int .i64 0)<|sG<|Sy.block<|Sy.loopK 64 (λk2=>[(2,pT g0 0),(3,.slice (pA g1) n n),(6,pT g2 0),(31,iZ k2)]) (λk2=>[(g0,214,(tcs 0 0 0)),(g1,270,(AO ((λj=>tmA (T j))) n).toArray),(g2,214,(tcs ((muJ T n k2).x.val) ((muJ T n k2).y.val) ((muJ T n k2).z.val)))]) [true,true,true] (M:=[(g0,214,(tcs 0 0 0)),(g1,270,(AO (upto n (λj=>tmA (T j)) zt) n).toArray),(g2,214,(tcs 0 0 0))]) ac4 kR (AL U (AL (beq (upto_all)) (AL U U))) (λk2 hk2=>?_)
  refine sC ?_
  obtain ⟨b2,hb2⟩:=xE (decide (k2<64))
  refine sS (.bool b2) (qls U U U hb2)<|sG<|Sy.seq ?_
  cases b2
  ·have lb2:=dN hb2
   refine sU<|Sy.exit<|Sy.then_exit<|Sy.then_exit ?_
   obtain rfl:k2=64:=om
   refine Sy.in_exit<|sB<|sS (tv ((muJ T n 64).x.val) ((muJ T n 64).y.val) ((muJ T n 64).z.val)) (qL 2 g2 0 12 214 214 (tcs ((muJ T n 64).x.val) ((muJ T n 64).y.val) ((muJ T n 64).z.val)) U Bj)<|sW 0 g0 214 (tcs 0 0 0) (tcs ((muJ T n 64).x.val) ((muJ T n 64).y.val) ((muJ T n 64).z.val)) (wS 0 214 (tcs ((muJ T n 64).x.val) ((muJ T n 64).y.val) ((muJ T n 64).z.val)) U)<|sG<|Sy.ret ?_
   exact rC (v:=tv ((muJ T n 64).x.val) ((muJ T n 64).y.val) ((muJ T n 64).z.val)) 214 g0 0 (tcs ((muJ T n 64).x.val) ((muJ T n 64).y.val) ((muJ T n 64).z.val)) U Bj
  ·have lb2:=dY hb2
   refine sT<|Sy.skip<|Sy.then_<|Sy.seq<|Sy.block<|sC<|sP (iZ k2)<|sP (iZ k2)<|sG<|Sy.seq<|sC<|sP (.int .i64 0)<|sG<|Sy.block<|Sy.loopK 4 (λk3=>[(2,pT g0 0),(3,.slice (pA g1) n n),(6,pT g2 0),(7,iZ k2),(31,iZ k2),(34,iZ k3)]) (λk3=>[(g0,214,(tcs 0 0 0)),(g1,270,(AO ((λj=>tmA (T j))) n).toArray),(g2,214,(tcs ((dbN (muJ T n k2) k3).x.val) ((dbN (muJ T n k2) k3).y.val) ((dbN (muJ T n k2) k3).z.val)))]) [true,true,true] (M:=[(g0,214,(tcs 0 0 0)),(g1,270,(AO ((λj=>tmA (T j))) n).toArray),(g2,214,(tcs ((muJ T n k2).x.val) ((muJ T n k2).y.val) ((muJ T n k2).z.val)))]) ac6 kR (AL U (AL U (AL U U))) (λk3 hk3=>?_)
   refine sC ?_
   obtain ⟨b3,hb3⟩:=xE (decide (k3<4))
   refine sS (.bool b3) (qls U U U hb3)<|sG<|Sy.seq ?_
   cases b3
   ·have lb3:=dN hb3
    refine sU<|Sy.exit<|Sy.then_exit<|Sy.then_exit ?_
    obtain rfl:k3=4:=om
    refine Sy.in_exit<|sB<|sP (.slice (pA g1) n n)<|sP (iZ n)<|sP (.int .i64 0)<|sG<|Sy.block<|Sy.loopK n (λk4=>[(2,pT g0 0),(3,.slice (pA g1) n n),(6,pT g2 0),(7,iZ k2),(31,iZ k2),(40,iZ n),(41,iZ k4)]) (λk4=>[(g0,214,(tcs 0 0 0)),(g1,270,(AO ((λj=>tmA (T j))) n).toArray),(g2,214,(tcs ((inJ T k2 (dbN (muJ T n k2) 4) k4).x.val) ((inJ T k2 (dbN (muJ T n k2) 4) k4).y.val) ((inJ T k2 (dbN (muJ T n k2) 4) k4).z.val)))]) [true,true,true] (M:=[(g0,214,(tcs 0 0 0)),(g1,270,(AO ((λj=>tmA (T j))) n).toArray),(g2,214,(tcs ((dbN (muJ T n k2) 4).x.val) ((dbN (muJ T n k2) 4).y.val) ((dbN (muJ T n k2) 4).z.val)))]) ac7 kR (AL U (AL U (AL U U))) (λk4 hk4=>?_)
    refine sC ?_
    obtain ⟨b4,hb4⟩:=xE (decide (k4<n))
    refine sS (.bool b4) (qls U U U hb4)<|sG<|Sy.seq ?_
    cases b4
    ·have lb4:=dN hb4
     refine sU<|Sy.exit<|Sy.then_exit<|Sy.then_exit ?_
     obtain rfl:n=k4:=om
     refine Sy.in_exit<|Sy.in_<|Sy.then_<|Sy.region<|sS (iZ (k2+1)) (qad U U U)<|sP (iZ (k2+1))<|Sy.nil ?_
     exact Sy.againK [true,true,true] (M:=[(g0,214,(tcs 0 0 0)),(g1,270,(AO ((λj=>tmA (T j))) n).toArray),(g2,214,(tcs ((inJ T k2 (dbN (muJ T n k2) 4) n).x.val) ((inJ T k2 (dbN (muJ T n k2) 4) n).y.val) ((inJ T k2 (dbN (muJ T n k2) 4) n).z.val)))]) om ac4 kR (AL U (AL U (AL U U)))
    ·have lb4:=dY hb4
     refine sT<|Sy.skip<|Sy.then_<|Sy.seq<|Sy.block<|sC<|sP (iZ k4)<|sP (iZ k4)<|sG<|Sy.regionD (λj=>j == 7) kR<|sD 0 U (tv ((inJ T k2 (dbN (muJ T n k2) 4) k4).x.val) ((inJ T k2 (dbN (muJ T n k2) 4) k4).y.val) ((inJ T k2 (dbN (muJ T n k2) 4) k4).z.val)) (qL 2 g2 0 12 214 214 (tcs ((inJ T k2 (dbN (muJ T n k2) 4) k4).x.val) ((inJ T k2 (dbN (muJ T n k2) 4) k4).y.val) ((inJ T k2 (dbN (muJ T n k2) 4) k4).z.val)) U Bj)<|sZ 1 U (.slice (pA g1) n n)<|sZ 2 U (iZ k4)<|sD 3 U (.pointer (some ⟨g1,0+k4*256,none⟩)) (Quiet.pure (BT 265 _ _ _ g1 0 n n k4 256 .i64 U U U Ny kF om))<|sZ 4 U (iZ k2)<|sD 5 U (tv ((Bv (Az (T k4).pt) (dg (T k4).kn k2)).x.val) ((Bv (Az (T k4).pt) (dg (T k4).kn k2)).y.val) ((Bv (Az (T k4).pt) (dg (T k4).kn k2)).z.val)) (Quiet.callS 228 #[.pointer (some ⟨g1,0+k4*256,none⟩),iZ k2] kF (λw hw=>T2 w g1 (0+k4*256) k2 (T k4) (hw.get (i:=1) rfl).lt om (CF (hw.get (i:=1) rfl) (EX (Im T) (k:=k4) om om)))) ?_
     obtain ⟨j1,hj1⟩:∃ z:J,z=Bz (inJ T k2 (dbN (muJ T n k2) 4) k4) (Bv (Az (T k4).pt) (dg (T k4).kn k2)):=⟨_,rfl⟩
     refine sD 6 U (tv j1.x.val j1.y.val j1.z.val) (qF 181 #[tv ((inJ T k2 (dbN (muJ T n k2) 4) k4).x.val) ((inJ T k2 (dbN (muJ T n k2) 4) k4).y.val) ((inJ T k2 (dbN (muJ T n k2) 4) k4).z.val),tv ((Bv (Az (T k4).pt) (dg (T k4).kn k2)).x.val) ((Bv (Az (T k4).pt) (dg (T k4).kn k2)).y.val) ((Bv (Az (T k4).pt) (dg (T k4).kn k2)).z.val)] (λw=>by rw [hj1]; exact Lr w (inJ T k2 (dbN (muJ T n k2) 4) k4) (Bv (Az (T k4).pt) (dg (T k4).kn k2))))<|sX 7 U 2 g2 214 (tcs ((inJ T k2 (dbN (muJ T n k2) 4) k4).x.val) ((inJ T k2 (dbN (muJ T n k2) 4) k4).y.val) ((inJ T k2 (dbN (muJ T n k2) 4) k4).z.val)) (tcs j1.x.val j1.y.val j1.z.val) (wS 0 214 (tcs j1.x.val j1.y.val j1.z.val) rfl)<|sE<|Sy.in_<|Sy.then_<|Sy.region<|sS (iZ (k4+1)) (qad U U U)<|sP (iZ (k4+1))<|Sy.nil ?_
     exact Sy.againK [true,true,true] (M:=[(g0,214,(tcs 0 0 0)),(g1,270,(AO ((λj=>tmA (T j))) n).toArray),(g2,214,(tcs j1.x.val j1.y.val j1.z.val))]) om ac7 kR (AL U (AL U (AL (beq (by rw [hj1]; rfl)) U)))
   ·have lb3:=dY hb3
    refine sT<|Sy.skip<|Sy.then_<|Sy.seq<|Sy.block<|Sy.region<|sS (tv ((dbN (muJ T n k2) k3).x.val) ((dbN (muJ T n k2) k3).y.val) ((dbN (muJ T n k2) k3).z.val)) (qL 2 g2 0 12 214 214 (tcs ((dbN (muJ T n k2) k3).x.val) ((dbN (muJ T n k2) k3).y.val) ((dbN (muJ T n k2) k3).z.val)) U Bj) ?_
    obtain ⟨j2,hj2⟩:∃ z:J,z=BA (dbN (muJ T n k2) k3):=⟨_,rfl⟩
    refine sS (tv j2.x.val j2.y.val j2.z.val) (qF 224 #[tv ((dbN (muJ T n k2) k3).x.val) ((dbN (muJ T n k2) k3).y.val) ((dbN (muJ T n k2) k3).z.val)] (λw=>by rw [hj2]; exact KQ w (dbN (muJ T n k2) k3)))<|sW 2 g2 214 (tcs ((dbN (muJ T n k2) k3).x.val) ((dbN (muJ T n k2) k3).y.val) ((dbN (muJ T n k2) k3).z.val)) (tcs j2.x.val j2.y.val j2.z.val) (wS 0 214 (tcs j2.x.val j2.y.val j2.z.val) rfl)<|Sy.nil<|Sy.in_<|Sy.then_<|Sy.region<|sS (iZ (k3+1)) (qad U U U)<|sP (iZ (k3+1))<|Sy.nil ?_
    exact Sy.againK [true,true,true] (M:=[(g0,214,(tcs 0 0 0)),(g1,270,(AO ((λj=>tmA (T j))) n).toArray),(g2,214,(tcs j2.x.val j2.y.val j2.z.val))]) om ac6 kR (AL U (AL U (AL (beq (by rw [hj2]; rfl)) U)))
 ·have lb1:=dY hb1
  refine sT<|Sy.skip<|Sy.then_<|Sy.seq<|Sy.block<|sC<|sP (iZ k1)<|sS (.pointer (some ⟨b,o+k1*13,none⟩)) (Quiet.pure (BT 155 _ _ _ b o n c k1 13 .i64 U U U Jg kF om))<|sS (trv ((T k1).k) ((T k1).x) ((T k1).y) ((T k1).i)) (Quiet.there b (o+k1*13) 13 154 (T k1).cells _ _ U kR hb (hT k1 om) S7 U kR U _ kR)<|sM 154 (Ji 0 0 0 false) (λg3=>?_)
  refine sP (iZ k1)<|sW 2 g3 154 (Ji 0 0 0 false) (Ji ((T k1).k) ((T k1).x) ((T k1).y) ((T k1).i)) (wS 0 154 (Ji ((T k1).k) ((T k1).x) ((T k1).y) ((T k1).i)) U)<|sG<|Sy.regionD (λj=>j == 11) kR<|sZ 0 U (.slice (pA g1) n n)<|sZ 1 U (iZ k1)<|sZ 2 U (pT g3 0)<|sD 3 U (fv ((T k1).k)) (qL 2 g3 0 4 154 42 (Ji ((T k1).k) ((T k1).x) ((T k1).y) ((T k1).i)) U Ak)<|sD 4 U (.agg (AO ((dgA (T k1).kn)) 64).toArray) (qF 226 #[fv ((T k1).k)] (λw=>PQ w (T k1).k (hok k1).1))<|sZ 5 U (pT g3 4)<|sD 6 U (pv ((T k1).x) ((T k1).y) ((T k1).i)) (qL 2 g3 4 9 154 48 (Ji ((T k1).k) ((T k1).x) ((T k1).y) ((T k1).i)) U Ac)<|sD 7 U (ptv (T k1).pt) (qF 194 #[pv ((T k1).x) ((T k1).y) ((T k1).i)] (λw=>CC w (T k1).x (T k1).y (T k1).i (hok k1).2.1 (hok k1).2.2))<|sD 8 U (.agg (AO ((Dg (Az (T k1).pt))) 16).toArray) (qF 227 #[ptv (T k1).pt] (λw=>Th w (T k1).pt))<|sZ 9 U (.agg (R0 (T k1)))<|sD 10 U (.pointer (some ⟨g1,0+k1*256,none⟩)) (Quiet.pure (BT 265 _ _ _ g1 0 n n k1 256 .i64 U U U Ny kF om))<|sX 11 U 1 g1 270 (AO (upto k1 (λj=>tmA (T j)) zt) n).toArray (AO (upto (k1+1) (λj=>tmA (T j)) zt) n).toArray (Writes.store (0+k1*256) 270 (R0 (T k1)) _ _ U kR kR kR (FE (Ax (Im T) rfl _) (k:=k1) om om) kR (E0 (v:=(R0 (T k1)).toList) (Im T) rfl (rfl) om om))<|sE<|Sy.in_<|Sy.then_<|Sy.region<|sS (iZ (k1+1)) (qad U U U)<|sP (iZ (k1+1))<|Sy.nil ?_
  exact Sy.againK [true,true,false] (M:=[(g0,214,(tcs 0 0 0)),(g1,270,(AO (upto (k1+1) (λj=>tmA (T j)) zt) n).toArray)]) om ac5 kR (AL U (AL U U))
end Cu
end
section
namespace Ec
variable {n:Nat} [NeZero n] {inv:Fin n→Fin n} {α:Type}
def sumF (inv:Fin n→Fin n) (f:α→Pt n) (s:Pt n):List α→Pt n
 | []=>s
 | x::l=>sumF inv f (add inv s (f x)) l
def sumL (inv:Fin n→Fin n) (f:α→Pt n) (l:List α):Pt n:=sumF inv f none l
theorem On.sumF (H:Fld n inv) {f:α→Pt n}:∀ (l:List α) {s:Pt n},On s→(∀ x∈l,On (f x))→On (Ec.sumF inv f s l)
 | [],_,hs,_=>hs
 | x::l,_,hs,hf=>On.sumF H l (On.add H hs (hf x (List.mem_cons_self ..))) λy hy=>hf y (List.mem_cons_of_mem _ hy)
theorem Gd (H:Fld n inv) {f:α→Pt n}:∀ (l:List α) {s t:Pt n},On s→On t→(∀ x∈l,On (f x))→sumF inv f (add inv s t) l=add inv s (sumF inv f t l)
 | [],_,_,_,_,_=>rfl
 | x::l,s,t,hs,ht,hf=>by
  have hx:=hf x (List.mem_cons_self ..)
  show sumF inv f (add inv (add inv s t) (f x)) l=add inv s (sumF inv f (add inv t (f x)) l)
  rw [assoc H hs ht hx]
  exact Gd H l hs (On.add H ht hx) λy hy=>hf y (List.mem_cons_of_mem _ hy)
theorem sumF_is (H:Fld n inv) {f:α→Pt n} (l:List α) {s:Pt n} (hs:On s) (hf:∀ x∈l,On (f x)):sumF inv f s l=add inv s (sumL inv f l):=by
 have:=Gd H l hs (show On none from trivial) hf
 rwa [add_zero] at this
theorem On.sumL (H:Fld n inv) {f:α→Pt n} (l:List α) (hf:∀ x∈l,On (f x)):On (Ec.sumL inv f l):=On.sumF H l trivial hf
theorem B_ (H:Fld n inv) {f:α→Pt n} (x:α) (l:List α) (hf:∀ y∈x::l,On (f y)):sumL inv f (x::l)=add inv (f x) (sumL inv f l):=by
 show sumF inv f (add inv none (f x)) l=_
 rw [zero_add]
 exact sumF_is H l (hf x (List.mem_cons_self ..)) λy hy=>hf y (List.mem_cons_of_mem _ hy)
theorem sumL_append (H:Fld n inv) {f:α→Pt n}:∀ (l m:List α),(∀ x∈l++m,On (f x))→sumL inv f (l++m)=add inv (sumL inv f l) (sumL inv f m)
 | [],m,_=>(zero_add _).symm
 | x::l,m,h=>by
  have h1:∀ y∈l++m,On (f y):=λy hy=>h y (List.mem_cons_of_mem _ hy)
  have h2:∀ y∈x::l,On (f y):=λy hy=>h y (by rcases List.mem_cons.1 hy with rfl | hy; exact List.mem_cons_self ..; exact List.mem_cons_of_mem _ (List.mem_append_left _ hy))
  rw [List.cons_append,B_ H x (l++m) (λy hy=>h y (by rw [List.cons_append]; exact hy)),sumL_append H l m h1,B_ H x l h2,
   assoc H (h x (List.mem_cons_self ..)) (On.sumL H l λy hy=>h1 y (List.mem_append_left _ hy)) (On.sumL H m λy hy=>h1 y (List.mem_append_right _ hy))]
theorem Jl (H:Fld n inv) {f g:α→Pt n}:∀ (l:List α),(∀ x∈l,On (f x))→(∀ x∈l,On (g x))→sumL inv (λx=>add inv (f x) (g x)) l=add inv (sumL inv f l) (sumL inv g l)
 | [],_,_=>rfl
 | x::l,hf,hg=>by
  have f1:=hf x (List.mem_cons_self ..)
  have g1:=hg x (List.mem_cons_self ..)
  have hf':∀ y∈l,On (f y):=λy hy=>hf y (List.mem_cons_of_mem _ hy)
  have hg':∀ y∈l,On (g y):=λy hy=>hg y (List.mem_cons_of_mem _ hy)
  rw [B_ H x l (λy hy=>On.add H (hf y hy) (hg y hy)),B_ H x l hf,B_ H x l hg,Jl H l hf' hg']
  exact Tr H f1 g1 (On.sumL H l hf') (On.sumL H l hg')
theorem L3 (H:Fld n inv) {f:α→Pt n} (k:Nat):∀ (l:List α),(∀ x∈l,On (f x))→sumL inv (λx=>nm inv k (f x)) l=nm inv k (sumL inv f l)
 | [],_=>(nm_none k).symm
 | x::l,hf=>by
  have f1:=hf x (List.mem_cons_self ..)
  have hf':∀ y∈l,On (f y):=λy hy=>hf y (List.mem_cons_of_mem _ hy)
  rw [B_ H x l (λy hy=>On.nm H (hf y hy) k),B_ H x l hf,L3 H k l hf',LI H f1 (On.sumL H l hf')]
theorem Gc (H:Fld n inv) {f g:α→Pt n}:∀ (l:List α),(∀ x∈l,On (f x))→(∀ x∈l,f x=g x)→sumL inv f l=sumL inv g l
 | [],_,_=>rfl
 | x::l,hf,he=>by
  have hg:∀ y∈x::l,On (g y):=λy hy=>he y hy ▸ hf y hy
  rw [B_ H x l hf,B_ H x l hg,he x (List.mem_cons_self ..),Gc H l (λy hy=>hf y (List.mem_cons_of_mem _ hy)) λy hy=>he y (List.mem_cons_of_mem _ hy)]
theorem horner (H:Fld n inv) {p:α→Pt n} (k:α→Nat) (q:Nat) (l:List α) (hp:∀ x∈l,On (p x)) :
  add inv (nm inv 16 (sumL inv (λx=>nm inv (k x / (16*q)) (p x)) l)) (sumL inv (λx=>nm inv (k x / q%16) (p x)) l)=sumL inv (λx=>nm inv (k x / q) (p x)) l:=by
 rw [← L3 H 16 l λx hx=>On.nm H (hp x hx) _, ← Jl H l (λx hx=>On.nm H (On.nm H (hp x hx) _) _) λx hx=>On.nm H (hp x hx) _]
 refine Gc H l (λx hx=>On.add H (On.nm H (On.nm H (hp x hx) _) _) (On.nm H (hp x hx) _)) λx hx=>?_
 rw [← nm_mul H (hp x hx), ← nm_add H (hp x hx)]
 congr 1
 rw [Nat.mul_comm 16 q, ← Nat.div_div_eq_div_mul]
 omega
theorem SR (P:Pt n):nm inv 2 P=add inv P P:=by
 show add inv (nm inv 1 P) P=_
 rw [nm_one]
theorem bit_step (H:Fld n inv) {P:Pt n} (hP:On P) (k q:Nat):add inv (add inv (nm inv (k / (2*q)) P) (nm inv (k / (2*q)) P)) (nm inv (k / q%2) P)=nm inv (k / q) P:=by
 rw [← SR, ← nm_mul H hP, ← nm_add H hP]
 congr 1
 rw [Nat.mul_comm 2 q, ← Nat.div_div_eq_div_mul]
 omega
end Ec
end
section
namespace Cu
open Go.RowKit Sy
theorem IA {α:Type} (f:α→Pt):∀ (l:List α) (s:Pt) (x:α),Ec.sumF Ae f s (l++[x])=Ec.add Ae (Ec.sumF Ae f s l) (f x)
 | [],_,_=>rfl
 | y::l,s,x=>IA f l (Ec.add Ae s (f y)) x
theorem H' {α:Type} (f:α→Pt):∀ (l:List α),(∀ x∈l,f x=none)→Ec.sumL Ae f l=none
 | [],_=>rfl
 | x::l,h=>by
  show Ec.sumF Ae f (Ec.add Ae none (f x)) l=none
  rw [h x (List.mem_cons_self ..),Ec.add_zero]
  exact H' f l λy hy=>h y (List.mem_cons_of_mem _ hy)
theorem N6 {α β:Type} (f:β→Pt) (g:α→β) (l:List α):Ec.sumL Ae f (l.map g)=Ec.sumL Ae (λx=>f (g x)) l:=by
 have h:∀ (l:List α) (s:Pt),Ec.sumF Ae f s (l.map g)=Ec.sumF Ae (λx=>f (g x)) s l:=by
  intro l
  induction l with
  | nil=>intro _; rfl
  | cons x l ih=>intro s; exact ih _
 exact h l none
theorem MY {a:J} {P:Pt} (hP:Ec.On P) (h:Ec.Rep a P):∀ j,Ec.Rep (dbN a j) (Ec.nm Ae (2 ^ j) P)
 | 0=>by rw [Nat.pow_zero,Ec.nm_one]; exact h
 | j+1=>by
  rw [show 2 ^ (j+1)=2 ^ j+2 ^ j by omega,Ec.nm_add fld hP]
  exact FJ (hP.nm fld _) (MY hP h j)
theorem Trm.on (t:Trm):Ec.On t.pt:=Cy t.x t.y t.i
theorem MU (T:Nat→Trm) (i:Nat) {a:J} {s:Pt} (hs:Ec.On s) (h:Ec.Rep a s):∀ j,Ec.Rep (inJ T i a j) (Ec.sumF Ae (λt=>Ec.nm Ae (dg (T t).kn i) (T t).pt) s (List.range j))
 | 0=>h
 | j+1=>by
  rw [List.range_succ,IA]
  exact Fa (Ec.On.sumF fld _ hs λx _=>(T x).on.nm fld _) ((T j).on.nm fld _) (MU T i hs h j) (KL (T j).on (Gb _) _)
theorem TX (t:Trm):t.kn<16 ^ 64:=Nat.lt_trans (Nat.mod_lt _ dZ) dZ
theorem MP (T:Nat→Trm) (n:Nat):∀ i,i≤64→Ec.Rep (muJ T n i) (Ec.sumL Ae (λt=>Ec.nm Ae ((T t).kn / 16 ^ (64 - i)) (T t).pt) (List.range n))
 | 0,_=>by
  rw [H' _ _ λx _=>by rw [Nat.sub_zero,Nat.div_eq_of_lt (TX (T x))]; rfl]
  rfl
 | i+1,hi=>by
  have hS:Ec.On (Ec.sumL Ae (λt=>Ec.nm Ae ((T t).kn / 16 ^ (64 - i)) (T t).pt) (List.range n)):=Ec.On.sumL fld _ λx _=>(T x).on.nm fld _
  have h1:=MY hS (MP T n i om) 4
  have h2:=MU T i (hS.nm fld _) h1 n
  rw [Ec.sumF_is fld _ (hS.nm fld _) λx _=>(T x).on.nm fld _] at h2
  have e1:16 ^ (64 - i)=16*16 ^ (63 - i):=by rw [show 64 - i=(63 - i)+1 by omega,Nat.pow_succ,Nat.mul_comm]
  have h3:=Ec.horner fld (p:=λt=>(T t).pt) (λt=>(T t).kn) (16 ^ (63 - i)) (List.range n) λx _=>(T x).on
  rw [show 64 - (i+1)=63 - i by omega, ← h3, ← e1]
  exact h2
theorem NG (T:Nat→Trm) (n:Nat):Ec.Rep (muJ T n 64) (Ec.sumL Ae (λt=>Ec.nm Ae (T t).kn (T t).pt) (List.range n)):=by
 have h:=MP T n 64 (Nat.le_refl _)
 simpa using h
def szC (n c:Nat):Nat:=min 32 (n - c*32)
def chJ (T:Nat→Trm) (n:Nat) (s:J) (c:Nat):J:=Bz s (muJ (λj=>T (c*32+j)) (szC n c) 64)
def chL (T:Nat→Trm) (n:Nat) (l:List Nat):J:=l.foldl (chJ T n) ⟨0,0,0⟩
theorem KZ (T:Nat→Trm) (n:Nat) (l:List Nat) (c:Nat):chL T n (l++[c])=chJ T n (chL T n l) c:=by simp [chL,List.foldl_append]
theorem Ma (T:Nat→Trm) (n:Nat):∀ c,Ec.Rep (chL T n (List.range c)) (Ec.sumL Ae (λt=>Ec.nm Ae (T t).kn (T t).pt) (List.range (min n (c*32))))
 | 0=>by rw [Nat.zero_mul,Nat.min_zero]; rfl
 | c+1=>by
  have hon:∀ l,Ec.On (Ec.sumL Ae (λt=>Ec.nm Ae (T t).kn (T t).pt) l):=λl=>Ec.On.sumL fld _ λx _=>(T x).on.nm fld _
  have h1:=Ma T n c
  have h2:=NG (λj=>T (c*32+j)) (szC n c)
  have h3:=Fa (hon _) (Ec.On.sumL fld _ λx _=>(T (c*32+x)).on.nm fld _) h1 h2
  rw [List.range_succ,KZ]
  show Ec.Rep (Bz _ _) _
  have e:min n ((c+1)*32)=min n (c*32)+szC n c:=by unfold szC; omega
  rcases Nat.lt_or_ge (c*32) n with hlt | hge
  ·rw [e,List.range_add,Ec.sumL_append fld _ _ λx _=>(T x).on.nm fld _,N6]
   rw [show min n (c*32)=c*32 by omega] at h3 ⊢
   exact h3
  ·have ez:szC n c=0:=by unfold szC; omega
   rw [e,ez,Nat.add_zero]
   rw [ez] at h3
   have e0:∀ f:Nat→Pt,Ec.sumL Ae f (List.range 0)=none:=λ_=>rfl
   rw [e0,Ec.add_zero] at h3
   exact h3
theorem RP (T:Nat→Trm) (n:Nat):Ec.Rep (chL T n (List.range ((n+31) / 32))) (Ec.sumL Ae (λt=>Ec.nm Ae (T t).kn (T t).pt) (List.range n)):=by
 have h:=Ma T n ((n+31) / 32)
 rwa [show min n ((n+31) / 32*32)=n by omega] at h
end Cu
end
section
namespace Sy
open Go.RowKit
abbrev SZ (D:Nat):Deferred:={ target:=.collected D,args:=#[] }
theorem St.refix {w0:Base} {w:World} {L:AC} (h:St w0 w L) (ds:List Deferred) (fe:Fence) (ro:Nat):St ⟨w0.world,w,ds,fe,ro⟩ w L:=⟨h.below,h.blk,h.apart,Nat.le_refl _,λ_ _ _ h _=>h⟩
theorem St.back {w0:Base} {W w:World} {L L':AC} (h0:St w0 W L) {ds:List Deferred} {fe:Fence} {ro:Nat} (h:St ⟨w0.world,W,ds,fe,ro⟩ w L') (ds':List Deferred) (fe':Fence) (ro':Nat):St ⟨w0.world,w0.fz,ds',fe',ro'⟩ w L' :=
 ⟨h.below,h.blk,h.apart,Nat.le_trans h0.size h.size,λk o hk ho hc=>h.non k o hk (h0.non k o hk ho hc) hc⟩
theorem St.keeps {w0:Base} {W w:World} {L L':AC} (h0:St w0 W L) {ds:List Deferred} {fe:Fence} {ro:Nat} (h:St ⟨w0.world,W,ds,fe,ro⟩ w L') {B:Nat} (hB:w0.world.heap.size≤B):KeepsFrom B W w:=⟨h.size,λk o hk ho hc=>h.non k o (Nat.le_trans hB hk) ho hc⟩
theorem St.between {w0:Base} {W w:World} {L L':AC} (h0:St w0 W L) {ds:List Deferred} {fe:Fence} {ro:Nat} (h:St ⟨w0.world,W,ds,fe,ro⟩ w L'):Below w0.world.heap.size W w :=
 ⟨h.below.os.trans h0.below.os.symm,h.below.tape.trans h0.below.tape.symm,h.below.output.trans h0.below.output.symm,h.size,λk hk=>(h.below.block k hk).trans (h0.below.block k hk).symm⟩
theorem St.own {w0:Base} {X Y:World} {L:AC} {B:Nat} {row:Option Nat} (h:St w0 X L) (hB:w0.fz.heap.size≤B) (hB2:w0.world.heap.size≤B) (hg:X.grownBy Y row) (hr:∀ r,row=some r→B≤r∧∃ o:Obj,X.heap[r]? = some o∧o.isCells=false):St w0 Y L:=by
 refine ⟨?_,λg t cs hm=>⟨(h.blk g t cs hm).1,(h.blk g t cs hm).2.grown hg (λe=>?_)⟩,h.apart,Nat.le_trans h.size hg.size,λk o hk ho hc=>?_⟩
 ·refine h.below.trans ⟨hg.os,hg.tape,hg.output,hg.size,λk hk=>hg.block k (Nat.lt_of_lt_of_le hk h.below.size) (λe=>?_)⟩
  have:=(hr k e.symm).1
  omega
 ·obtain ⟨o,ho,hc⟩:=(hr g e.symm).2
  have hb:=(h.blk g t cs hm).2
  unfold Blk at hb
  rw [hb] at ho
  cases ho
  cases hc
 ·have h1:=h.non k o hk ho hc
  have hlt:=(Array.getElem?_eq_some_iff.1 ho).1
  exact (hg.block k (Array.getElem?_eq_some_iff.1 h1).1 (λe=>by have:=(hr k e.symm).1; omega)).trans h1
def KpL (n₀:Nat) (l:AC) (W W':World):Prop:=Below n₀ W W'∧∀ p∈l,Blk W p.1 p.2.1 p.2.2→Blk W' p.1 p.2.1 p.2.2
theorem KpL.trans {n₀:Nat} {l:AC} {A B C:World} (h:KpL n₀ l A B) (k:KpL n₀ l B C):KpL n₀ l A C:=⟨h.1.trans k.1,λp hp hc=>k.2 p hp (h.2 p hp hc)⟩
theorem KpL.put {n₀:Nat} {l:AC} {W:World} {k:Nat} {o o':Obj} (hk:n₀≤k) (ho:W.heap[k]? = some o) (hc:o.isCells=false):KpL n₀ l W (W.putObj k o'):=by
 have hg:=grownBy_putObj' W k o'
 refine ⟨⟨hg.os,hg.tape,hg.output,hg.size,λj hj=>World.putObj_heap_other om⟩,λp _ hp=>?_⟩
 have hne:p.1≠k:=by
  rintro rfl
  unfold Blk at hp
  rw [hp] at ho
  cases ho
  cases hc
 exact (World.putObj_heap_other hne).trans hp
def I0 (F:AK) (ps:Array Tmp) (vs:Array Value):AK:=(ps.toList.zip vs.toList).foldl (λF x=>(x.1,x.2)::F) F
theorem Fr.round {ds:List Deferred} {n:Nat}:∀ (l:List (Tmp×Value)) {T:Array Value} {F:AK},(∀ x∈l,x.1<n)→Fr ds { tmps:=T,defers:=ds } n F→Fr ds { tmps:=l.foldl (λt x=>t.setIfInBounds x.1 x.2) T,defers:=ds } n (l.foldl (λF x=>(x.1,x.2)::F) F)
 | [],_,_,_,h=>h
 | x::l,T,F,hl,h=>by
  have h2:=h.put (d:=some x.1) (decide_eq_true (hl x (List.mem_cons_self ..))) x.2
  exact Fr.round l (λy hy=>hl y (List.mem_cons_of_mem _ hy)) h2
section
variable {P:Program} {w0 fz0:World} {n:Nat} {Q:Exit→Act→World→Prop} {F:AK} {L:AC}
abbrev rb (w0 fz:World) (l:Nat):Base:=⟨w0,fz,[],Fence.wide.inRound l,7⟩
abbrev ab (w0 fz:World) (D:Nat):Base:=⟨w0,fz,[SZ D],Fence.wide,9⟩
def BP {α:Type} (w0 fz:World) (l:Nat) (HI:List α→Prop) (LL XR:List α→AC) (HX:List α→Prop) (pre:List α):Exit→Act→World→Prop
 | .normal,_,w=>HI pre∧St (rb w0 fz l) w (LL pre)
 | .ret,_,w=>HX pre∧St (rb w0 fz l) w (XR pre)
 | _,_,_=>False
def AP (w0 fz:World) (l n na:Nat) (FA:List Nat→AK) (LP:AC) (LA:List Nat→AC):Exit→Act→World→Prop
 | .normal,a,w=>∃ gs,gs.length=na∧Fr [] a n (FA gs)∧St (rb w0 fz l) w (LP++LA gs)
 | _,_,_=>False
theorem rangeF {α:Type} {g:Operand} {ps:Array Tmp} {assign body:Code} (gf:Nat) (lb:Array Value) (hgi:inF F g=true) (hg:evF F g=.func (.func gf) #[] lb) (eg:∀ args w,(callFunc gf args).run P w=.ok (.enter gf args) w)
  (encs:α→Array Value) (kl:AC) (S Sp:List α→Prop) (N:Nat) (hps:∀ x,(encs x).size=ps.size) (hpn:∀ p∈ps.toList,p<n)
  (G:List Nat) (HI:List α→Prop) (hI0:HI []) (LL XR:List α→AC) (HX:List α→Prop) (m:List Bool) (h0:sel L m=LL []) (hG:∀ pre,(LL pre).map (·.1)=G)
  (hseq:∀ w,St ⟨w0,fz0,[],Fence.wide,9⟩ w L→∃ wk,Below wk.heap.size wk w∧SeqStopsK Fence.wide 8 P gf lb encs (KpL w0.heap.size kl) S Sp N wk)
  (hkl:∀ p∈kl, ∀ pre,p∈LL pre)
  (na:Nat) (FA:α→List Nat→AK) (LA:α→List Nat→AC) (hLA:∀ x gs,gs.length=na→(LA x gs).map (·.1)=gs)
  (hassign:∀ l fz pre x,wpC P (rb w0 fz l) n (AP w0 fz l n na (FA x) (LL pre) (LA x)) (I0 F ps (encs x)) (LL pre) assign)
  (hbody:∀ l fz pre x gs,gs.length=na→pre.length<N→HI pre→wpC P (rb w0 fz l) n (BP w0 fz l HI LL XR HX (pre++[x])) (FA x gs) (LL pre++LA x gs) body)
  (hdone:∀ D fz xs,S xs→HI xs→w0.heap.size≤D→fz.heap[D]? = some (.deferred (some []))→X (ab w0 fz D) n Q F (LL xs) .normal)
  (hstop:∀ D fz pre,Sp pre→HX pre→w0.heap.size≤D→fz.heap[D]? = some (.deferred (some []))→X (ab w0 fz D) n Q F (XR pre) .ret) :
  wpC P ⟨w0,fz0,[],Fence.wide,9⟩ n Q F L (.rangeFunc g ps assign body):=by
 intro a w ha hw
 obtain ⟨wk,hbk,hsq⟩:=hseq w hw
 have hsz:fz0.heap.size≤w.heap.size:=hw.size
 have hsz0:w0.heap.size≤w.heap.size:=hw.below.size
 have hz:St ⟨w0,fz0,[],Fence.wide,9⟩ w (LL []):=h0 ▸ hw.less (CL L m)
 have had:a.defers=[]:=ha.1
 -- what a round hands on pays the iterator
 have hK:∀ {W W':World} {L1:AC} {pre pre':List α} {l:Nat},St ⟨w0,fz0,[],Fence.wide,9⟩ W (LL pre)→St (rb w0 W l) W' L1→(LL pre').Sublist L1→KpL w0.heap.size kl W W':=λ{W W' L1 pre pre' l} h1 h2 hs =>
  ⟨h1.between h2,λp hp _=>by
   exact (h2.blk _ _ _ (hs.subset (hkl p hp pre'))).2⟩
 refine wpIn_rangeFunc_ownH (F:=Fence.wide) (n:=9) rfl om (gf:=gf) (lb:=lb) ((ha.eval hgi).trans hg) trivial eg (encs:=encs) (Kp:=KpL w0.heap.size kl) (S:=S) (Sp:=Sp) (N:=N) (w0:=wk) hsq KpL.trans
  (λW l o o' hl ho hc _=>KpL.put om ho hc) hbk hps
  (λpre W=>HI pre∧St ⟨w0,fz0,[],Fence.wide,9⟩ W (LL pre)) (λc pre W=>c=.ret∧HX pre∧St ⟨w0,fz0,[],Fence.wide,9⟩ W (XR pre))
  (λpre X Y row hs hg hr=>⟨hs.1,St.own hs.2 hsz hsz0 hg hr⟩) (λc pre X Y row hs hg hr=>⟨hs.1,hs.2.1,St.own hs.2.2 hsz hsz0 hg hr⟩) ⟨hI0,hz⟩
  (λx a' W=>∃ gs,gs.length=na∧Fr [] a' n (FA x gs)∧(∀ e∈LA x gs,w0.heap.size≤e.1∧Blk W e.1 e.2.1 e.2.2)∧(G++gs).Nodup)
  (λx a' _ X Y row hs hg hr=>?_) ?_ ?_ ?_ ?_
 ·obtain ⟨gs,hl0,h1,h2,h3⟩:=hs
  refine ⟨gs,hl0,h1,λe he=>⟨(h2 e he).1,(h2 e he).2.grown hg (λq=>?_)⟩,h3⟩
  obtain ⟨o,ho,hc⟩:=(hr e.1 q.symm).2
  have hb:=(h2 e he).2
  unfold Blk at hb
  rw [hb] at ho
  cases ho
  cases hc
 ·-- the loop variables
  intro l pre x W K hI0' hk
  obtain ⟨hH,hI⟩:=hI0'
  have hfr:Fr [] { tmps:=(ps.zip (encs x)).foldl (λt (p,v)=>t.setIfInBounds p v) a.tmps,defers:=[] } n (I0 F ps (encs x)):=by
   have h1:Fr [] { tmps:=a.tmps,defers:=[] } n F:=⟨rfl,ha.2.1,ha.2.2⟩
   have h2:=Fr.round (ps.toList.zip (encs x).toList) (λy hy=>hpn y.1 (List.of_mem_zip hy).1) h1
   have e:(ps.zip (encs x)).foldl (λt (p,v)=>t.setIfInBounds p v) a.tmps=(ps.toList.zip (encs x).toList).foldl (λt x=>t.setIfInBounds x.1 x.2) a.tmps:=by
    rw [← Array.foldl_toList,Array.toList_zip]
   rw [e]
   exact h2
  refine wpIn_mono (hassign l W pre x _ W hfr (hI.refix _ _ _)) λe a' W' hq=>?_
  cases e with
  | normal =>
   obtain ⟨gs,hl0,h1,h2⟩:=hq
   have hsub:(LL pre).Sublist (LL pre++LA x gs):=List.sublist_append_left _ _
   refine hk a' W' (hI.keeps h2 hsz0) (hK hI h2 hsub) ⟨hH,(hI.back h2 _ _ _).less hsub⟩ ⟨gs,hl0,h1,λe he=>h2.blk e.1 e.2.1 e.2.2 (List.mem_append_right _ he),?_⟩
   have:=h2.apart
   rwa [List.map_append,hG,hLA _ _ hl0] at this
  | _=>exact hq.elim
 ·-- the body
  intro l pre x a' W hl _ hI0' ⟨gs,hl0,h1,h2,h3⟩ hlen
  obtain ⟨hH,hI⟩:=hI0'
  have hst:St (rb w0 W l) W (LL pre++LA x gs):=by
   refine ⟨hI.below,λg t cs hm=>?_,?_,Nat.le_refl _,λ_ _ _ h _=>h⟩
   ·rcases List.mem_append.1 hm with hm | hm
    ·exact hI.blk g t cs hm
    ·exact h2 (g,t,cs) hm
   ·rw [List.map_append,hG,hLA _ _ hl0]
    exact h3
  refine wpIn_mono (hbody l W pre x gs hl0 hlen hH a' W h1 hst) λe a3 W3 hq=>?_
  cases e with
  | normal=>exact ⟨hI.keeps hq.2 hsz0,hK hI hq.2 (List.Sublist.refl _),hq.1,hI.back hq.2 _ _ _⟩
  | ret=>exact ⟨hI.keeps hq.2 hsz0,rfl,hq.1,hI.back hq.2 _ _ _⟩
  | _=>exact hq.elim
 ·intro D xs W hD hS hI hd
  exact hdone D W xs hS hI.1 (Nat.le_trans hsz0 hD) hd _ W ⟨by simp [had],ha.2.1,ha.2.2⟩ (hI.2.refix _ _ _)
 ·rintro D c pre W hD hS ⟨rfl,hx,hI⟩ hd
  exact wpIn_ret (hstop D W pre hS hx (Nat.le_trans hsz0 hD) hd _ W ⟨by simp [had],ha.2.1,ha.2.2⟩ (hI.refix _ _ _))
theorem bpN {α:Type} {l:Nat} {HI:List α→Prop} {LL XR:List α→AC} {HX:List α→Prop} {pre:List α} (m:List Bool) {M:AC} (hL:sel L m=M) (hM:M=LL pre) (hi:HI pre):X (rb w0 fz0 l) n (BP w0 fz0 l HI LL XR HX pre) F L .normal:=λ_ _ _ hw=>by
 subst hL
 refine ⟨hi,?_⟩
 rw [← hM]
 exact hw.less (CL L m)
theorem apN {l na:Nat} {FA:List Nat→AK} {LP:AC} {LA:List Nat→AC} (gs:List Nat) (hg:gs.length=na) (hF:∀ p∈FA gs,F.lookup p.1=some p.2) (m:List Bool) (hL:sel L m=LP++LA gs):X (rb w0 fz0 l) n (AP w0 fz0 l n na FA LP LA) F L .normal:=λ_ _ ha hw=>⟨gs,hg,ha.all hF,hL ▸ hw.less (CL L m)⟩
def GetsN (w:World) (R:Value→AC→Prop) (e:Ending) (w':World):Prop:=∃ v M,e=.returned v∧R v M∧Below w.heap.size w w'∧(∀ g t cs,(g,t,cs)∈M→w.heap.size≤g∧Blk w' g t cs)∧(M.map (·.1)).Nodup
theorem St.addN {w0:Base} {w w':World} {L M:AC} (h:St w0 w L) (hg:Gr w w') (hM:∀ g t cs,(g,t,cs)∈M→w.heap.size≤g∧Blk w' g t cs) (hn:(M.map (·.1)).Nodup):St w0 w' (L++M):=by
 have h':=h.gr hg
 refine ⟨h'.below,λg t cs hm=>?_,?_,h'.size,h'.non⟩
 ·rcases List.mem_append.1 hm with hm | hm
  ·exact h'.blk g t cs hm
  ·exact ⟨Nat.le_trans h.below.size (hM g t cs hm).1,(hM g t cs hm).2⟩
 ·rw [List.map_append,List.nodup_append]
  refine ⟨h.apart,hn,λx hx y hy e=>?_⟩
  obtain ⟨⟨g,t,cs⟩,hm,rfl⟩:=List.mem_map.1 hx
  obtain ⟨⟨g',t',cs'⟩,hm',rfl⟩:=List.mem_map.1 hy
  have h1:=(h.blk g t cs hm).2.lt
  have h2:=(hM g' t' cs' hm').1
  have e':g=g':=e
  omega
theorem callN {w0:Base} {ops:Array Oper} {o:Oper} {l:List Oper} (hg:Bb ops n F o=true) (f:FuncId) (args:Array Value) (he:∀ w,(execOp (evF F) o).run P w=.ok (.enter f args) w) (R:Value→AC→Prop)
  (hc:∀ w,St w0 w L→Calls P f args w (GetsN w R)) (h:∀ v M,R v M→wpS P w0 n ops Q (BN F o.dst v) (L++M) l):wpS P w0 n ops Q F L (o::l):=λa w ha hw=>by
 obtain ⟨g1,_,g3,_⟩:=AN hg
 refine wpList_step λK hK=>?_
 rw [if_pos (ha.wanted g1)]
 unfold Oper.wp
 rw [Al hg ha,he w]
 refine Calls.mono (hc w hw) λe w' he'=>?_
 obtain ⟨v,M,rfl,hR,hb,hM,hn⟩:=he'
 exact hK _ _ (h v M hR _ _ (ha.put g3 v) (hw.addN hb hM hn))
theorem callND {w0:Base} {ops:Array Oper} {ex:Nat→Bool} {fuel:Nat} {listed:Array Bool} (k:Nat) {oi:Oper} (hi0:ops.toList[k]? = some oi) (hr:Region.ready .any ops listed=[k]) (hg:Bb ops n F oi=true) (f:FuncId) (args:Array Value)
  (he:∀ w,(execOp (evF F) oi).run P w=.ok (.enter f args) w) (R:Value→AC→Prop) (hc:∀ w,St w0 w L→Calls P f args w (GetsN w R)) (h:∀ v M,R v M→wpD P w0 n ops Q ex (BN F oi.dst v) (L++M) fuel (listed.setIfInBounds k true)):wpD P w0 n ops Q ex F L (fuel+1) listed:=λa w ha hw =>
 wpAnyG_sole k hi0 hr (ha.wanted (AN hg).1) λw1 h1 K hK=>by
  unfold Oper.wp
  rw [Al hg ha,he w1]
  refine Calls.mono (hc w1 (hw.gr h1)) λe w' he'=>?_
  obtain ⟨v,M,rfl,hR,hb,hM,hn⟩:=he'
  exact hK _ _ (λ_=>hb) (h v M hR _ _ (ha.put (AN hg).2.2.1 v) ((hw.gr h1).addN hb hM hn))
theorem St.unmark {w0 fz:World} {D:Nat} {w:World} (h:St (ab w0 fz D) w L) (hD:w0.heap.size≤D) (hm:fz.heap[D]? = some (.deferred (some []))) :
  (Instr.takeDeferred D).run P w=.ok [] (w.putObj D (.deferred none))∧St (Base.of w0) (w.putObj D (.deferred none)) L:=by
 have ho:=h.non D _ hD hm U
 have hg:=grownBy_putObj' w D (.deferred none)
 refine ⟨run_takeDeferred ho,?_⟩
 have h1:St ⟨w0,w0,[],Fence.wide,9⟩ w L:=⟨h.below,h.blk,h.apart,h.below.size,λk o hk hq _=>by have:=(Array.getElem?_eq_some_iff.1 hq).1; exact absurd this (by show ¬ k<w0.heap.size; have:w0.heap.size≤k:=hk; omega)⟩
 exact h1.own (B:=w0.heap.size) (Nat.le_refl _) (Nat.le_refl _) hg (λr e=>by cases e; exact ⟨hD,_,ho,rfl⟩)
theorem retM1 {w1 fz:World} {D:Nat} {fn:Func} {r:ResultVar} {v:Value} (hr:fn.results=#[r]) (h:Has P F L r v) (hD:w1.heap.size≤D) (hm:fz.heap[D]? = some (.deferred (some []))):X (ab w1 fz D) n (bodyPostM Fence.wide 9 P fn (Gets w1 v)) F L .ret:=λa w ha hw=>by
 obtain ⟨e1,e2⟩:=St.unmark (P:=P) hw hD hm
 have hd:a.defers=[SZ D]:=ha.1
 show LeavesInM Fence.wide 9 P fn a.tmps (Gets w1 v) a.defers .returning w
 rw [hd]
 refine ⟨by simp,.inl ⟨D,_,rfl,e1,?_⟩⟩
 refine ⟨v,?_,rfl,e2.below⟩
 rcases Res.run h ha e2 with ⟨t,rfl,f1⟩ | ⟨t,ty,ad,rfl,f1,f2⟩ <;> simp [results,Result.andThen, *]
end
end Sy
end
section
namespace Sy
open Go.RowKit
abbrev pb (W:World) (m:Nat):Base:=⟨W,W,[],Fence.wide,m⟩
theorem St.here (W:World) (m:Nat):St (pb W m) W []:=⟨Below.refl _ _,(λ_ _ _ h=>by cases h),List.Pairwise.nil,Nat.le_refl _,λ_ _ _ h _=>h⟩
theorem St.grown {W w:World} {m:Nat} {L:AC} (h:St (pb W m) w L):Gr W w:=h.below
section
variable {P:Program} {W:World} {m n:Nat} {Q:Exit→Act→World→Prop} {F:AK} {L:AC} {ops:Array Oper} {o:Oper} {rest:List Oper}
theorem F5 {o:Oper} {a:Act} {w:World} {K:Act→World→Prop} (hd:∀ c,o.op≠.defer c) (h:o.wp P a w K Q):o.wpIn Fence.wide m P a w K Q:=by
 unfold Oper.wpIn
 refine ⟨λ_ _=>trivial,?_⟩
 rw [Oper.semAt_plain _ _ _ hd]
 unfold Oper.wp at h
 generalize (execOp a.eval o).run P w=r at *
 cases r with
 | ok x w' =>
  cases x <;> simp only [Oper.upon,Oper.uponIn] at h ⊢ <;> first
   | exact h
   | exact ⟨λe=>by simp [Fence.wide] at e,callsIn_wide.2 h⟩
   | exact ⟨λe=>by simp [Fence.wide] at e,λc cs _=>let ⟨v,w',r,s⟩:=h c cs; ⟨v,w',r,stepsIn_wide.2 s⟩⟩
   | exact h.elim
 | halt x w'=>cases x <;> simp only [Oper.upon,Oper.uponIn] at h ⊢ <;> exact h
def Lz (P:Program) (ops:Array Oper) (m:Nat) (rest:List Oper) (Q:Exit→Act→World→Prop):Exit→Act→World→Prop
 | .normal,a,w=>wpListIn Fence.wide m P ops Q rest a w
 | e,a,w=>Q e a w
theorem Es (hq:¬ LetsOut Q):∀ (l:List Oper),(∀ o∈l, ∀ c,o.op≠.defer c)→∀ (a:Act) (w:World),wpList P ops (Lz P ops m rest Q) l a w→wpListIn Fence.wide m P ops Q (l++rest) a w
 | [],_,_,_,h=>h
 | o::l,hd,a,w,h=>by
  have hq':¬ LetsOut (Lz P ops m rest Q):=λ⟨a,w,q⟩=>hq ⟨a,w,q⟩
  unfold wpList at h
  show wpListIn Fence.wide m P ops Q (o::(l++rest)) a w
  unfold wpListIn
  split
  ·rename_i hw
   simp only [hw,if_true] at h
   rcases h with h | h
   ·have h1:=F5 (m:=m) (hd o (by simp)) h
    have h2:o.wpIn Fence.wide m P a w _ Q:=h1
    exact Oper.wpIn_mono (λa w h'=>Es hq l (λo ho=>hd o (by simp [ho])) a w h') h2
   ·exact absurd h.2 hq'
  ·rename_i hw
   simp only [hw] at h
   exact ⟨λ_ _=>trivial,Es hq l (λo ho=>hd o (by simp [ho])) _ _ h⟩
theorem EB (hq:¬ LetsOut Q):∀ (l:List Oper),(∀ o∈l, ∀ c,o.op≠.defer c)→∀ (a:Act) (w:World),wpList P ops Q l a w→wpListIn Fence.wide m P ops Q l a w
 | [],_,_,_,h=>h
 | o::l,hd,a,w,h=>by
  unfold wpList at h
  unfold wpListIn
  split
  ·rename_i hw
   simp only [hw,if_true] at h
   rcases h with h | h
   ·exact Oper.wpIn_mono (λa w h'=>EB hq l (λo ho=>hd o (by simp [ho])) a w h') (F5 (hd o (by simp)) h)
   ·exact absurd h.2 hq
  ·rename_i hw
   simp only [hw] at h
   exact ⟨λ_ _=>trivial,EB hq l (λo ho=>hd o (by simp [ho])) _ _ h⟩
theorem F6 (h:Cb ops=true) {o:Oper} (ho:o∈ops.toList):∀ c,o.op≠.defer c:=by
 obtain ⟨i,hi⟩:=List.mem_iff_getElem?.1 ho
 exact Dr h (by simpa using hi)
theorem regionY {i:Nat} (k:Nat) (hq:¬ LetsOut Q) (hd:Cb ops=true) (h:wpS P (pb W m) n ops (Lz P ops m (ops.toList.drop k) Q) F L (ops.toList.take k)):wpC P (pb W m) n Q F L (.region i ops false):=λa w ha hw=>by
 refine wpIn_region_list ?_
 have h1:=Es hq (ops.toList.take k) (λo ho=>F6 hd (List.mem_of_mem_take ho)) a w (h a w ha hw)
 rwa [List.take_append_drop] at h1
theorem yieldX {ro:Option Nat} {k:Nat} (hl:ops.toList.drop k=o::rest) (hq:¬ LetsOut Q) (hd:Cb ops=true) (hg:Bb ops n F o=true) (l:Nat) (args:Array Value) (he:∀ w,(execOp (evF F) o).run P w=(Instr.yield l args).run P w)
  (R:Ending→World→Prop) (hY:∀ w,Gr W w→YieldAt Fence.wide (m - 1) P l args w R) (hR:∀ e w',R e w'→∃ b,e=.returned (.bool b)) (_:ro=none)
  (h:∀ w' b,R (.returned (.bool b)) w'→wpS P (pb w' m) n ops Q (BN F o.dst (.bool b)) [] rest):X (pb W m) n (Lz P ops m (ops.toList.drop k) Q) F L .normal:=λa w ha hw=>by
 show wpListIn Fence.wide m P ops Q (ops.toList.drop k) a w
 have hdr:∀ o∈ops.toList.drop k, ∀ c,o.op≠.defer c:=λo ho=>F6 hd (List.mem_of_mem_drop ho)
 rw [hl] at hdr ⊢
 obtain ⟨g1,_,g3,_⟩:=AN hg
 unfold wpListIn
 rw [if_pos (ha.wanted g1)]
 unfold Oper.wpIn
 refine ⟨λ_ _=>trivial,?_⟩
 rw [Oper.semAt_plain _ _ _ (hdr o (by simp)),Al hg ha,he w]
 obtain ⟨fn,tmps,assign,body,e1,e2⟩:=hY w hw.grown
 rw [e1]
 refine ⟨λe=>by simp [Fence.wide] at e,e2.mono λe w' hr=>?_⟩
 obtain ⟨b,rfl⟩:=hR e w' hr
 exact EB hq rest (λo ho=>hdr o (by simp [ho])) _ _ (h w' b hr _ _ (ha.put g3 _) (St.here w' m))
theorem A_ {β:Type} {B:Nat} {J:β→World→Prop} (h:AbidesFrom B J) {s:β} {X Y:World} (hj:J s X) (hg:Gr X Y):J s Y:=h s X Y none hj (only_of_below hg none) (λr e=>by cases e)
theorem GU {l:Nat} {args:Array Value} {R R':Ending→World→Prop} (h:YieldAt Fence.wide m P l args W R) (hr:∀ e w,R e w→R' e w):YieldAt Fence.wide m P l args W R':=by
 obtain ⟨fn,tmps,assign,body,e1,e2⟩:=h
 exact ⟨fn,tmps,assign,body,e1,e2.mono hr⟩
def Rt (n N:Nat) (FF:Nat→AK) (Z:Nat→World→Prop) (k:Nat):Act→World→Prop:=λa w=>k<N∧Fr [] a n (FF (k+1))∧Z (k+1) w
theorem loopP {c:Code} (N:Nat) (FF:Nat→AK) (Z:Nat→World→Prop) (hF:∀ p∈FF 0,F.lookup p.1=some p.2) (h0:∀ w,Gr W w→Z 0 w)
  (hr:∀ k w,k≤N→Z k w→wpC P (pb w m) n (Exit.then (Rt n N FF Z k) Q) (FF k) [] c):wpC P (pb W m) n Q F L (.loop c) :=
 KB N (λk a w=>Fr [] a n (FF k)∧Z k w) (λa w ha hw=>⟨ha.all hF,h0 w hw.grown⟩)
  λk hk a w ⟨ha,hz⟩=>hr k w hk hz a w ha (St.here w m)
theorem againP {N:Nat} {FF:Nat→AK} {Z:Nat→World→Prop} {k:Nat} {R:Exit→Act→World→Prop} (hk:k<N) (hF:∀ p∈FF (k+1),F.lookup p.1=some p.2) (hz:∀ w,Gr W w→Z (k+1) w) :
  X (pb W m) n (Exit.then (Rt n N FF Z k) R) F L .normal:=λ_ w ha hw=>⟨hk,ha.all hF,hz w hw.grown⟩
theorem enterP {f:FuncId} {fn:Func} {c:Code} {args:List Value} {R:Ending→World→Prop} (hf:P.funcs[f]? = some fn) (hb:fn.body=some c) (hn:args.length≤fn.ntmps)
  (h:wpC P (pb W m) fn.ntmps (bodyPost P fn R) (EL 0 args) [] c):CallsIn Fence.wide m P f args.toArray W R :=
 callsIn_of_wp hf hb trivial (h _ _ ⟨rfl,by simp; omega,λi v hi=>by
  have:=(Cc args 0 i v hi).2
  rw [Nat.sub_zero] at this
  have hl:=(List.getElem?_eq_some_iff.1 this).1
  rw [Array.getElem?_append_left (by simpa using hl)]
  simpa using this⟩ (St.here W m)) U
theorem retP {fn:Func} {R:Ending→World→Prop} (hr:fn.results=#[]) (h:∀ v w,Gr W w→R (.returned v) w) {e:Exit} (he:e=.ret∨e=.normal):X (pb W m) n (bodyPost P fn R) F L e:=λa w ha hw=>by
 have hx:a.defers=[]∧∃ v,(results fn a.tmps).run P w=.ok v w∧R (.returned v) w:=⟨ha.1,_,results_none hr _ _ _,h _ w hw.grown⟩
 rcases he with rfl | rfl <;> exact hx
end
end Sy
end
section
namespace Cu
open Go.RowKit Sy
def chV (b off m c:Nat):Value:=.slice (some ⟨b,off+32*c*13,none⟩) (szC m c) (szC m c)
def chE (b off m:Nat) {N:Nat} (x:Fin N):Array Value:=#[chV b off m x.val]
theorem Nr (w : World) (A : Option Addr) (m cap : Nat) :
    Calls Tryz.prog 180 #[.slice A m cap,.int .i64 32] w (GetsN w λv M=>∃ g1 g2,v=.func (.func 221) #[] #[pT g1 0,pT g2 0]∧M=[(g1,155,#[.slice A m cap]),(g2,3,#[.int .i64 32])]):=by
  go_enter Tryz.func180,Tryz.ntmps180
  go_wp2
  go_ret
  refine ⟨_,_,rfl,⟨_,_,rfl,rfl⟩,Ab w _ _,λg t cs hm=>?_,?_⟩
  · simp only [List.mem_cons,List.not_mem_nil,or_false,Prod.mk.injEq] at hm
    rcases hm with ⟨rfl,rfl,rfl⟩ | ⟨rfl,rfl,rfl⟩
    · exact ⟨Nat.le_refl _,(Blk.new w _ _).alloc _⟩
    · exact ⟨by omega,AZ w _ _ _⟩
  · simp
theorem Ns (n l Bs Bn n₀ b off m cap N : Nat) (hN0 : N = (m + 31) / 32) (hm : m ≤ cap) (hm2 : m ≤ 4611686018427387904) (J Jx : List (Fin N) → World → Prop) (W : World) (hJ : AbidesFrom W.heap.size J) (hJx : AbidesFrom W.heap.size Jx)
    (hY:∀ pre x W1,J pre W1→pre.length<N→YieldAt Fence.wide (n - 1) Tryz.prog l (chE b off m x) W1 λe W'=>(e=.returned (.bool true)∧J (pre++[x]) W'∧KpL n₀ [(Bs,155,#[.slice (some ⟨b,off,none⟩) m cap]),(Bn,3,#[.int .i64 32])] W1 W')∨(e=.returned (.bool false)∧Jx (pre++[x]) W'))
    (hS:Blk W Bs 155 #[.slice (some ⟨b,off,none⟩) m cap]) (hN:Blk W Bn 3 #[.int .i64 32]) (h0:J [] W) :
    CallsIn Fence.wide n Tryz.prog 221 #[.func (.yield l) #[] #[],pT Bs 0,pT Bn 0] W λe W'=>(∃ v,e=.returned v)∧((∃ ys:List (Fin N),ys.map (·.1)=List.range N∧J ys W')∨(∃ pre:List (Fin N),(∃ k,k≤N∧pre.map (·.1)=List.range k)∧Jx pre W')):=by
  refine Sy.enterP (args:=[.func (.yield l) #[] #[],pT Bs 0,pT Bn 0]) Tryz.func221 U kL<|sC<|sP (.int .i64 0)<|sG<|Sy.block<|Sy.loopP N (λk1=>[(0,.func (.yield l) #[] #[]),(1,pT Bs 0),(2,pT Bn 0),(4,iZ (32*k1))]) (λk1 w=>∃ pre:List (Fin N),pre.map (·.1)=List.range k1∧J pre w∧Blk w Bs 155 #[.slice (some ⟨b,off,none⟩) m cap]∧Blk w Bn 3 #[.int .i64 32]) ac4 (λw hg=>⟨[],rfl,A_ hJ h0 hg,hg.blk hS,hg.blk hN⟩) (λk1 wr hk1 hz=>?_)
  clear hS hN
  obtain ⟨pre,hpre,hj,hS,hN⟩:=hz
  have hlen:pre.length=k1:=by have:=congrArg List.length hpre; rwa [List.length_map,List.length_range] at this
  refine Sy.seq<|sC<|sP (iZ (32*k1))<|sS (.slice (some ⟨b,off,none⟩) m cap) (Quiet.thereOne Bs 0 155 _ _ U kR hS.lt _ (hS.cell 0) Jg U)<|sP (iZ m) ?_
  obtain ⟨b1,hb1⟩:=xE (decide (32*k1<m))
  refine sS (.bool b1) (qls U U U hb1)<|sG ?_
  cases b1
  · have lb1:=dN hb1
    refine sU<|Sy.exit<|Sy.then_exit<|Sy.then_exit ?_
    obtain rfl:N=k1:=om
    refine Sy.in_exit ?_
    exact Sy.retP U (λv w3 hg=>⟨⟨_,rfl⟩,.inl ⟨pre,hpre,A_ hJ hj hg⟩⟩) (.inr U)
  · have lb1 : 32 * k1 < m := of_decide_eq_true hb1.symm
    refine sT<|Sy.skip<|Sy.then_<|Sy.seq<|Sy.block<|Sy.seq<|Sy.regionD (λj=>false) kR<|sD 0 U (iZ 32) (Quiet.thereOne Bn 0 3 _ _ U kR hN.lt _ (hN.cell 0) uy3 U)<|sD 1 U (.slice (some ⟨b,off,none⟩) m cap) (Quiet.thereOne Bs 0 155 _ _ U kR hS.lt _ (hS.cell 0) Jg U)<|sZ 2 U (iZ (32*k1))<|sD 3 U (.slice (some ⟨b,off+(32*k1)*13,none⟩) (m - (32*k1)) (cap - (32*k1))) (Quiet.pure (Hd _ _ _ b off m cap (32*k1) 13 .i64 U U U kR kF om om))<|sZ 4 U (.int .i64 (((m - (32*k1)):Nat):Int)) ?_
    obtain ⟨sz,hsz⟩:=xE (szC m k1)
    have hs:0<sz∧32*k1+sz≤m:=by rw [hsz]; unfold szC; omega
    refine sD 5 U (iZ sz) (Quiet.pure (He _ _ .i64 32 (m - (32*k1)) sz U U U (by rw [hsz]; unfold szC; omega)))<|sZ 6 U (iZ sz)<|sI<|Sy.seq ?_
    have hx:k1<N:=om
    refine Sy.regionY 10 (by rintro ⟨_,_,⟨_,hv⟩,_⟩; cases hv) kR<|sP (.func (.yield l) #[] #[])<|sS (.slice (some ⟨b,off,none⟩) m cap) (Quiet.thereOne Bs 0 155 _ _ rfl kR hS.lt _ (hS.cell 0) Jg rfl)<|sP (iZ (32*k1))<|sP (iZ (32*k1))<|sP (iZ sz)<|sS (iZ ((32*k1)+sz)) (qad rfl rfl rfl)<|sP (iZ (32*k1))<|sP (iZ sz)<|sS (iZ ((32*k1)+sz)) (qad rfl rfl rfl)<|sS (.slice (some ⟨b,off+(32*k1)*13,none⟩) (((32*k1)+sz) - (32*k1)) (((32*k1)+sz) - (32*k1))) (Quiet.pure (KM _ _ _ _ _ b off m cap (32*k1) ((32*k1)+sz) ((32*k1)+sz) 13 .i64 .i64 .i64 rfl rfl rfl rfl rfl kR kF (by have:=hs; omega) (by have:=hs; omega) (by have:=hs; omega) (by have:=hs; omega)))<|Sy.nil<|Sy.yieldX (ro := none) rfl (by rintro ⟨_, _, ⟨_, hv⟩, _⟩; cases hv) kR kR l #[.slice (some ⟨b, off + (32 * k1) * 13, none⟩) (((32 * k1) + sz) - (32 * k1)) (((32 * k1) + sz) - (32 * k1))] kF (fun e W' => (e = .returned (.bool true) ∧ J (pre ++ [⟨k1, hx⟩]) W' ∧ Blk W' Bs 155 #[.slice (some ⟨b, off, none⟩) m cap] ∧ Blk W' Bn 3 #[.int .i64 32]) ∨ (e = .returned (.bool false) ∧ Jx (pre ++ [⟨k1, hx⟩]) W')) (fun w hg => by
            have e:chE b off m ⟨k1,hx⟩=#[.slice (some ⟨b,off+32*k1*13,none⟩) (32*k1+sz - 32*k1) (32*k1+sz - 32*k1)]:=by unfold chE chV; rw [← hsz,Nat.add_sub_cancel_left]
            have y:=hY pre ⟨k1,hx⟩ w (A_ hJ hj hg) om
            rw [e] at y
            exact GU y (λe w' q=>q.imp (λq=>⟨q.1,q.2.1,q.2.2.2 (Bs,155,_) (by simp) (hg.blk hS),q.2.2.2 (Bn,3,_) (by simp) (hg.blk hN)⟩) id)) (λe w' q=>q.elim (λq=>⟨_,q.1⟩) (λq=>⟨_,q.1⟩)) U (λw2 b hr=>?_)
    cases b
    · have hx2:=hr.elim (λq=>by cases q.1) (λq=>q.2)
      refine sP (.bool true)<|sG<|sT<|Sy.ret<|Sy.in_ret<|Sy.then_ret<|Sy.then_ret<|Sy.in_ret ?_
      exact Sy.retP U (λv w3 hg=>⟨⟨_,rfl⟩,.inr ⟨pre++[⟨k1,hx⟩],⟨k1+1,by omega,by rw [List.map_append,hpre,List.range_succ]; rfl⟩,A_ hJx hx2 hg⟩⟩) (.inl U)
    · clear hS hN hj
      obtain ⟨hj,hS,hN⟩:=hr.elim (λq=>q.2) (λq=>by cases q.1)
      refine sP (.bool false)<|sG<|sU<|Sy.skip<|Sy.in_<|Sy.then_<|Sy.region<|sP (iZ (32*k1))<|sS (iZ 32) (Quiet.thereOne Bn 0 3 _ _ U kR hN.lt _ (hN.cell 0) uy3 U)<|sS (iZ ((32*k1)+32)) (qad U U U)<|sP (iZ ((32*k1)+32))<|Sy.nil ?_
      exact Sy.againP om ac4 (λw3 hg=>⟨pre++[⟨k1,hx⟩],by rw [List.map_append,hpre,List.range_succ]; rfl,A_ hJ hj hg,hg.blk hS,hg.blk hN⟩)
theorem Nu (n l Bs Bn cap : Nat) (A : Option Addr) (J Jx : List (Fin 0) → World → Prop) (W : World) (hJ : AbidesFrom W.heap.size J)
    (hS:Blk W Bs 155 #[.slice A 0 cap]) (hN:Blk W Bn 3 #[.int .i64 32]) (h0:J [] W) :
    CallsIn Fence.wide n Tryz.prog 221 #[.func (.yield l) #[] #[],pT Bs 0,pT Bn 0] W λe W'=>(∃ v,e=.returned v)∧((∃ ys:List (Fin 0),ys.map (·.1)=List.range 0∧J ys W')∨(∃ pre:List (Fin 0),(∃ k,k≤0∧pre.map (·.1)=List.range k)∧Jx pre W')):=by
  refine Sy.enterP (args:=[.func (.yield l) #[] #[],pT Bs 0,pT Bn 0]) Tryz.func221 U kL<|sC<|sP (.int .i64 0)<|sG<|Sy.block<|Sy.loopP 0 (λk1=>[(0,.func (.yield l) #[] #[]),(1,pT Bs 0),(2,pT Bn 0),(4,iZ (32*k1))]) (λk1 w=>J [] w∧Blk w Bs 155 #[.slice A 0 cap]∧Blk w Bn 3 #[.int .i64 32]) ac4 (λw hg=>⟨A_ hJ h0 hg,hg.blk hS,hg.blk hN⟩) (λk1 wr hk1 hz=>?_)
  clear hS hN
  obtain ⟨hj,hS,hN⟩:=hz
  refine Sy.seq<|sC<|sP (iZ (32*k1))<|sS (.slice A 0 cap) (Quiet.thereOne Bs 0 155 _ _ U kR hS.lt _ (hS.cell 0) Jg U)<|sP (iZ 0) ?_
  obtain ⟨b1,hb1⟩:=xE (decide (32*k1<0))
  refine sS (.bool b1) (qls U U U hb1)<|sG ?_
  cases b1
  · have lb1:=dN hb1
    refine sU<|Sy.exit<|Sy.then_exit<|Sy.then_exit ?_
    obtain rfl:k1=0:=om
    refine Sy.in_exit ?_
    exact Sy.retP U (λv w3 hg=>⟨⟨_,rfl⟩,.inl ⟨[],rfl,A_ hJ hj hg⟩⟩) (.inr U)
  · have lb1:=dY hb1
    refine sT<|Sy.skip<|Sy.then_<|Sy.seq ?_
    exact absurd lb1 om
def T3 (w:World) (A:Option Addr) (n:Nat) (T:Nat→Trm) (b o:Nat):Prop:=0<n→A=some ⟨b,o,none⟩∧b<w.heap.size∧∀ j,j<n→w.rangeAt b (o+j*13) (T j).cells
theorem KY (n Bs Bn n₀ b off m cap N : Nat) (A : Option Addr) (hN0 : N = (m + 31) / 32) (hm : m ≤ cap) (hm2 : m ≤ 4611686018427387904) (hA : 0 < m → A = some ⟨b, off, none⟩) (w : World) (hS : Blk w Bs 155 #[.slice A m cap]) (hN : Blk w Bn 3 #[.int .i64 32]) :
    SeqStopsK Fence.wide n Tryz.prog 221 #[pT Bs 0,pT Bn 0] (chE b off m (N:=N)) (KpL n₀ [(Bs,155,#[.slice A m cap]),(Bn,3,#[.int .i64 32])]) (λys=>ys.map (·.1)=List.range N) (λpre=>∃ k,k≤N∧pre.map (·.1)=List.range k) N w:=λl J Jx W hW hJ hJx hY h0=>by
  have hS':=hS.below hW hS.lt
  have hN':=hN.below hW hN.lt
  rcases Nat.eq_zero_or_pos m with h | h
  · subst h
    obtain rfl:N=0:=hN0
    exact Nu n l Bs Bn cap A J Jx W hJ hS' hN' h0
  · obtain rfl:=hA h
    exact Ns n l Bs Bn n₀ b off m cap N hN0 hm hm2 J Jx W hJ hJx hY hS' hN' h0
end Cu
end
section
namespace Cu
open Go.RowKit Sy
theorem QJ {w w':World} {g o o':Nat} {vs:List Value} (h:w.rangeAt g o vs) (hb:Below w.heap.size w w') (hg:g<w.heap.size) (e:o'=o):w'.rangeAt g o' vs:=λj v hj=>by
 rw [e]
 exact (Below.cell (p:=⟨g,o+j,none⟩) hb hg).trans (h j v hj)
theorem Zn (w:World) (A:Option Addr) (b o n c:Nat) (T:Nat→Trm) (hnc:n≤c) (hc:n≤4611686018427387904) (hok:∀ j,(T j).ok) (hT:T3 w A n T b o):Calls Tryz.prog 120 #[.slice A n c] w (Gets w (ptv (Ec.sumL Ae (λt=>Ec.nm Ae (T t).kn (T t).pt) (List.range n)))):=by
 obtain ⟨N,hN0⟩:=xE ((n+31) / 32)
 obtain ⟨R,hR⟩:=xE (ptJ (chL T n (List.range N)))
 have hRs:Ec.sumL Ae (λt=>Ec.nm Ae (T t).kn (T t).pt) (List.range n)=R:=by rw [hR,hN0]; exact (MF (RP T n)).symm
 rw [hRs]
 have hRo:Ec.On R:=by rw [← hRs]; exact Ec.On.sumL fld _ λx _=>(T x).on.nm fld _
 obtain ⟨rx,ry,ri,_,_,eR,_,_⟩:=QR R hRo
 rw [eR]
 refine Sy.enterM (args:=[.slice A n c]) Tryz.func120 U kL<|sC<|sM 48 (pcs 0 0 false) (λg0=>?_)
 refine sA<|sM 214 (tcs 0 0 0) (λg1=>?_)
 refine sG<|Sy.seq<|sC<|sP (.slice A n c)<|Sy.callN kR 180 #[.slice A n c,.int .i64 32] kF (λv M=>∃ g1 g2,v=.func (.func 221) #[] #[pT g1 0,pT g2 0]∧M=[(g1,155,#[.slice A n c]),(g2,3,#[.int .i64 32])]) (λw _=>Nr w _ _ _) (λv M hR0=>?_)
 obtain ⟨u1,u2,rfl,rfl⟩:=hR0
 refine sG<|Sy.block<|Sy.rangeF (α:=Fin N) 221 #[pT u1 0,pT u2 0] kR kR (enters_of Tryz.func221 kR U) (chE b o n) [(u1,155,(#[.slice A n c])),(u2,3,(#[.int .i64 32]))] (λys=>ys.map (·.1)=List.range N) (λpre=>∃ k,k≤N∧pre.map (·.1)=List.range k) N (λ_=>rfl) dZ [g0,g1,u1,u2] (λ_=>True) (trivial) (λpre=>[(g0,48,(pcs 0 0 false)),(g1,214,(tcs ((chL T n (pre.map (·.1))).x.val) ((chL T n (pre.map (·.1))).y.val) ((chL T n (pre.map (·.1))).z.val))),(u1,155,(#[.slice A n c])),(u2,3,(#[.int .i64 32]))]) (λpre=>[(g0,48,(pcs 0 0 false)),(g1,214,(tcs ((chL T n (pre.map (·.1))).x.val) ((chL T n (pre.map (·.1))).y.val) ((chL T n (pre.map (·.1))).z.val))),(u1,155,(#[.slice A n c])),(u2,3,(#[.int .i64 32]))]) (λ_=>False) [true,true,true,true] kR (λ_=>rfl) ?_ ?_ 0 (λx gs=>[(3,pT g1 0),(4,chV b o n x.val)]) (λx gs=>[]) (λx gs h=>by cases gs with | nil=>rfl | cons _ _=>cases h) ?_ ?_ ?_ ?_
 ·intro w hw
  have hS:=hw.get (i:=2) rfl
  have hN:=hw.get (i:=3) rfl
  exact ⟨w,Below.refl _ _,KY 8 u1 u2 _ b o n c N A hN0 hnc hc (λh=>(hT h).1) w hS hN⟩
 ·intro p hp pre
  simp only [List.mem_cons,List.not_mem_nil,or_false] at hp ⊢
  rcases hp with rfl | rfl <;> simp
 ·intro l fz pre x
  refine Sy.regionR (by rintro ⟨_,_,h⟩; exact h) kR ⟨_,rfl⟩<|sP (chV b o n x.val)<|Sy.nil ?_
  exact Sy.apN [] rfl ac2 [true,true,true,true] kR
 ·intro l fz pre x gs hgs hlen hH
  obtain rfl:gs=[]:=List.eq_nil_of_length_eq_zero hgs
  have hxN:=x.isLt
  have hn0:0<n:=om
  refine Sy.block<|Sy.regionRD (by rintro ⟨_,_,h⟩; exact h) kR ⟨_,rfl⟩ (λj=>j == 4) kR<|sD 0 rfl (tv ((chL T n (pre.map (·.1))).x.val) ((chL T n (pre.map (·.1))).y.val) ((chL T n (pre.map (·.1))).z.val)) (qL 1 g1 0 12 214 214 (tcs ((chL T n (pre.map (·.1))).x.val) ((chL T n (pre.map (·.1))).y.val) ((chL T n (pre.map (·.1))).z.val)) rfl Bj)<|sZ 1 rfl (chV b o n x.val) ?_
  obtain ⟨j1,hj1⟩:∃ z:J,z=muJ (λj=>T (x.val*32+j)) (szC n x.val) 64:=⟨_,rfl⟩
  refine sD 2 U (tv j1.x.val j1.y.val j1.z.val) (qG 182 #[chV b o n x.val] (λw hw=>by rw [hj1]; exact Qm w b (o+32*x.val*13) (szC n x.val) (szC n x.val) (λj=>T (x.val*32+j)) (Nat.lt_of_lt_of_le (hT hn0).2.1 hw.below.size) (by unfold szC; omega) (λj=>hok _) (λj hj=>QJ ((hT hn0).2.2 (x.val*32+j) (by unfold szC at hj; omega)) hw.below (hT hn0).2.1 om))) ?_
  obtain ⟨j2,hj2⟩:∃ z:J,z=Bz (chL T n (pre.map (·.1))) j1:=⟨_,rfl⟩
  refine sD 3 U (tv j2.x.val j2.y.val j2.z.val) (qF 181 #[tv ((chL T n (pre.map (·.1))).x.val) ((chL T n (pre.map (·.1))).y.val) ((chL T n (pre.map (·.1))).z.val),tv j1.x.val j1.y.val j1.z.val] (λw=>by rw [hj2]; exact Lr w (chL T n (pre.map (·.1))) j1))<|sX 4 U 1 g1 214 (tcs ((chL T n (pre.map (·.1))).x.val) ((chL T n (pre.map (·.1))).y.val) ((chL T n (pre.map (·.1))).z.val)) (tcs j2.x.val j2.y.val j2.z.val) (wS 0 214 (tcs j2.x.val j2.y.val j2.z.val) rfl)<|sE<|Sy.in_ ?_
  exact Sy.bpN [true,true,true,true] (M:=[(g0,48,(pcs 0 0 false)),(g1,214,(tcs j2.x.val j2.y.val j2.z.val)),(u1,155,(#[.slice A n c])),(u2,3,(#[.int .i64 32]))]) kR (AL U (AL (beq (by rw [hj2,hj1,List.map_append,List.map_singleton,KZ]; rfl)) (AL U (AL U U)))) (trivial)
 ·intro D fz xs hS hH hD hm
  have hS0:xs.map (·.1)=List.range N:=hS
  refine Sy.in_<|sB<|sS (tv ((chL T n (xs.map (·.1))).x.val) ((chL T n (xs.map (·.1))).y.val) ((chL T n (xs.map (·.1))).z.val)) (qL 1 g1 0 12 214 214 (tcs ((chL T n (xs.map (·.1))).x.val) ((chL T n (xs.map (·.1))).y.val) ((chL T n (xs.map (·.1))).z.val)) U Bj)<|sS (pv rx ry ri) (qF 183 #[tv ((chL T n (xs.map (·.1))).x.val) ((chL T n (xs.map (·.1))).y.val) ((chL T n (xs.map (·.1))).z.val)] (λw=>by rw [← eR,hR, ← hS0]; exact QU w _))<|sW 0 g0 48 (pcs 0 0 false) (pcs rx ry ri) (wS 0 48 (pcs rx ry ri) rfl)<|sG<|Sy.ret ?_
  exact Sy.retM1 (v:=pv rx ry ri) rfl (.inl (Res.cell (ty':=48) g0 0 (pcs rx ry ri) _ kR kR Ac U kR kR)) hD hm
 ·intro D fz pre hS hx hD hm
  exact hx.elim
end Cu
end
section
namespace Cu
open Go.RowKit Sy
theorem Oi {w:World} {g:Nat} {vs:List Value} (h:w.rangeAt g 0 vs):∀ j,j<1→w.rangeAt g (0+j*13) vs:=λj hj=>by
 obtain rfl:j=0:=om
 exact h
def pX:Pt→Nat
 | none=>0
 | some (x,_)=>x.val
def pY:Pt→Nat
 | none=>0
 | some (_,y)=>y.val
def pI:Pt→Bool
 | none=>true
 | some _=>false
theorem Be:∀ P:Pt,ptv P=pv (pX P) (pY P) (pI P)
 | none=>rfl
 | some (_,_)=>rfl
theorem Eh:∀ P:Pt,pX P<K4
 | none=>by show 0<_; decide
 | some (x,_)=>lt4 x
theorem Eg:∀ P:Pt,pY P<K4
 | none=>by show 0<_; decide
 | some (_,y)=>lt4 y
theorem CE:∀ {P:Pt},Ec.On P→dec (pX P) (pY P) (pI P)=P
 | none,_=>KR
 | some (x,y),h=>EZ x y h
theorem I1 {P:Pt} (h:Ec.On P):An (pX P) (pY P) (pI P)=true:=by
 rcases P with _ | ⟨x,y⟩
 ·rfl
 ·show An x.val y.val false=true
  rw [OT,show y*y=x*x*x+7 from h]
  simp
theorem Qn (w:World) (k x y:Nat) (i:Bool) (hk:k<K4) (hx:x<K4) (hy:y<K4):Calls Tryz.prog 97 #[fv k,pv x y i] w (Gets w (ptv (Ec.nm Ae (k%Sc.pM) (dec x y i)))):=by
 obtain ⟨R,hR⟩:=xE (Ec.sumL Ae (λt=>Ec.nm Ae ((λ_:Nat=>(⟨k,x,y,i⟩:Trm)) t).kn ((λ_:Nat=>(⟨k,x,y,i⟩:Trm)) t).pt) (List.range 1))
 have e:Ec.nm Ae (k%Sc.pM) (dec x y i)=R:=by rw [hR]; exact (Ec.zero_add (inv:=Ae) _).symm
 rw [e,Be]
 refine Sy.enter (args:=[fv k,pv x y i]) Tryz.func97 U kL<|sC<|sM 42 (fcs k) (λg0=>?_)
 refine sM 48 (pcs x y i) (λg1=>?_)
 refine sM 48 (pcs 0 0 false) (λg2=>?_)
 refine sA<|sS (fv k) (qL 0 g0 0 4 42 42 (fcs k) rfl Ak)<|sS (pv x y i) (qL 1 g1 0 9 48 48 (pcs x y i) rfl Ac)<|sP (trv k x y i)<|Sy.make kR 154 (Ji k x y i) (λg=>.slice (pA g) 1 1) kF (λg3=>?_)
 refine sS (pv (pX R) (pY R) (pI R)) (qG 120 #[.slice (pA g3) 1 1] (λw hw=>by rw [← Be,hR]; exact Zn w _ g3 0 1 1 (λ_=>⟨k,x,y,i⟩) (Nat.le_refl _) dZ (λ_=>⟨hk,hx,hy⟩) (λ_=>⟨rfl,(hw.get (i:=3) rfl).lt,Oi (CF (hw.get (i:=3) rfl) kR)⟩)))<|sW 2 g2 48 (pcs 0 0 false) (pcs (pX R) (pY R) (pI R)) (wS 0 48 (pcs (pX R) (pY R) (pI R)) U)<|sG<|Sy.ret ?_
 exact rC (v:=pv (pX R) (pY R) (pI R)) 48 g2 2 (pcs (pX R) (pY R) (pI R)) U Ac
end Cu
end
end Go.Proofs.YtbjmjcpdonochaaGreatDoor
