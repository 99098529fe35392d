/-
  Texts of ours.
-/
import Derived.Test.YtgemfpnlnipfnabGreatDoorBV3
set_option linter.unusedVariables false
set_option linter.unusedSimpArgs false
set_option maxRecDepth 100000
set_option maxHeartbeats 80000000
namespace Go.Proofs.YtgemfpnlnipfnabGreatDoor
section
namespace Cu
open Go.RowKit Sy
def De:Array Value:=mP7
def ac:Array Value:=#[.int .u64 0,.int .u64 0,.int .u64 0,.int .u64 0,.int .u64 0,.int .u64 0,.int .u64 0]
theorem TK (w:World) (a b:Fp):Calls Tryz.prog 137 #[.agg De,fv a.val,fv b.val] w (Gets w (fv (a*b).val)):=J1 w a.val b.val (lt4 a) (lt4 b)
theorem TL (w:World) (a b:Fp):Calls Tryz.prog 105 #[.agg De,fv a.val,fv b.val] w (Gets w (fv (a+b).val)):=KP w a.val b.val (lt4 a) (lt4 b)
theorem TJ (w:World) (a b:Fp):Calls Tryz.prog 67 #[.agg De,fv a.val,fv b.val] w (Gets w (fv (a - b).val)):=by rw [← Pz]; exact Sv w a.val b.val (lt4 a) (lt4 b)
theorem Ym (a:Nat):KV a=pw a (115792089237316195423570985008687907853269984665640564039457584007908834671663 - 2):=by
 have h:=Ng a
 rw [Nf] at h
 rw [h, ← Wo]
 rfl
theorem Ji (w:World) (a:Fp):Calls Tryz.prog 74 #[.agg De,fv a.val] w (Gets w (fv (AR a).val)):=by
 have e:(AR a).val=KV a.val:=rfl
 have h:=PK w a.val (lt4 a)
 rw [← Ym, ← e] at h
 exact h
theorem Ed (w:World) (F:AO) (o:Oper) (x y:Operand) (n m:Nat) {yt:TypeId} (ho:o.op=.binOp .eql 87 x y yt) (hx:evF F x=fv n) (hy:evF F y=fv m) (hn:n<K4) (hm:m<K4):(execOp (evF F) o).run Tryz.prog w=.ok (.value (.bool (decide (n=m)))) w:=by
 have h1:=Nm.run_eqGuard_fv .eql x y n m w
 have h2:=Nm.run_eql_fv w n m hn hm
 unfold execOp
 simp only [ho,hx,hy,Sem.run_bind,h1,h2,Result.andThen_ok,Sem.run_pure]
theorem WC (w:World) (F:AO) (o:Oper) (x y:Operand) (n m:Nat) {yt:TypeId} (ho:o.op=.binOp .neq 87 x y yt) (hx:evF F x=fv n) (hy:evF F y=fv m) (hn:n<K4) (hm:m<K4):(execOp (evF F) o).run Tryz.prog w=.ok (.value (.bool (decide (n≠m)))) w:=by
 have h1:=Nm.run_eqGuard_fv .neq x y n m w
 have h2:=Nm.run_neq_fv w n m hn hm
 unfold execOp
 simp only [ho,hx,hy,Sem.run_bind,h1,h2,Result.andThen_ok,Sem.run_pure]
theorem Lm (w:World) (k:Nat) (hk:k<18446744073709551616):AY 139 #[uZ (k:Int)] w (Gets w (fv k)):=by
 rw [F2 k hk]
 refine Sy.enter (args:=[uZ (k:Int)]) Tryz.func139 U kL<|sC<|sM 87 (fcs 0) (λg0=>?_)
 refine sA<|sp U<|sP (.agg #[uZ (k:Int),uZ 0,uZ 0,uZ 0])<|sw 0 U #[uZ (k:Int),uZ 0,uZ 0,uZ 0] (wA U)<|sG<|Sy.ret ?_
 exact Sy.ret1 U (.inl (Res.cell (ty':=87) g0 0 #[uZ (k:Int),uZ 0,uZ 0,uZ 0] _ kR kR AM U kR kR))
theorem BQ (w:World) (a b:Fp):AY 72 #[fv a.val,fv b.val] w (Gets w (fv (a*b).val)):=by
 refine Sy.enter (args:=[fv a.val,fv b.val]) Tryz.func72 U kL<|sC<|sM 87 (fcs a.val) (λg0=>?_)
 refine sM 87 (fcs b.val) (λg1=>?_)
 refine sM 87 (fcs 0) (λg2=>?_)
 refine sH (λj=>j == 4) ?_
 refine sD 0 U (.agg De) (qf Cl)<|sD 1 U (fv a.val) (qk 0 0 4 U U AM)<|sD 2 U (fv b.val) (qk 1 0 4 U U AM) ?_
 obtain ⟨z1,hz1⟩:∃ z:Fp,z=a*b:=⟨_,rfl⟩
 refine sD 3 U (fv z1.val) (qf (λw=>by rw [hz1]; exact TK w a b))<|sx 4 U 2 U (fcs z1.val) (wA U)<|sI<|Sy.ret ?_
 rw [show (fv (a*b).val:Value)=fv z1.val from by rw [hz1]]
 exact rc (v:=fv z1.val) 2 U U AM
theorem C9 (w:World) (a b:Fp):AY 73 #[fv a.val,fv b.val] w (Gets w (fv (a+b).val)):=by
 refine Sy.enter (args:=[fv a.val,fv b.val]) Tryz.func73 U kL<|sC<|sM 87 (fcs a.val) (λg0=>?_)
 refine sM 87 (fcs b.val) (λg1=>?_)
 refine sM 87 (fcs 0) (λg2=>?_)
 refine sH (λj=>j == 4) ?_
 refine sD 0 U (.agg De) (qf Cl)<|sD 1 U (fv a.val) (qk 0 0 4 U U AM)<|sD 2 U (fv b.val) (qk 1 0 4 U U AM) ?_
 obtain ⟨z1,hz1⟩:∃ z:Fp,z=a+b:=⟨_,rfl⟩
 refine sD 3 U (fv z1.val) (qf (λw=>by rw [hz1]; exact TL w a b))<|sx 4 U 2 U (fcs z1.val) (wA U)<|sI<|Sy.ret ?_
 rw [show (fv (a+b).val:Value)=fv z1.val from by rw [hz1]]
 exact rc (v:=fv z1.val) 2 U U AM
theorem CO (w:World) (a b:Fp):AY 70 #[fv a.val,fv b.val] w (Gets w (fv (a - b).val)):=by
 refine Sy.enter (args:=[fv a.val,fv b.val]) Tryz.func70 U kL<|sC<|sM 87 (fcs a.val) (λg0=>?_)
 refine sM 87 (fcs b.val) (λg1=>?_)
 refine sM 87 (fcs 0) (λg2=>?_)
 refine sH (λj=>j == 4) ?_
 refine sD 0 U (.agg De) (qf Cl)<|sD 1 U (fv a.val) (qk 0 0 4 U U AM)<|sD 2 U (fv b.val) (qk 1 0 4 U U AM) ?_
 obtain ⟨z1,hz1⟩:∃ z:Fp,z=a - b:=⟨_,rfl⟩
 refine sD 3 U (fv z1.val) (qf (λw=>by rw [hz1]; exact TJ w a b))<|sx 4 U 2 U (fcs z1.val) (wA U)<|sI<|Sy.ret ?_
 rw [show (fv (a - b).val:Value)=fv z1.val from by rw [hz1]]
 exact rc (v:=fv z1.val) 2 U U AM
theorem GB (w:World)  : AY 71 #[] w (Gets w (pv 0 0 true)):=by
 refine Sy.enter (args:=[]) Tryz.func71 U kL<|sC<|sM 37 (pcs 0 0 false) (λg0=>?_)
 refine sA<|sP (pv 0 0 true)<|sw 0 U (pcs 0 0 true) (wA U)<|sG<|Sy.ret ?_
 exact rc (v:=pv 0 0 true) 0 U U AX
theorem MZ (w:World)  : AY 31 #[] w (Gets w (ptv bP)):=by
 refine Sy.enter (args:=[]) Tryz.func31 U kL<|sC<|sM 37 (pcs 0 0 false) (λg0=>?_)
 refine sA<|sP (fv 55066263022277343669578718895168534326250603453777594175500187360389116729240)<|sP (fv 32670510020758816978083085130507043184471273380659243275938904335757337482424)<|sP (pv 55066263022277343669578718895168534326250603453777594175500187360389116729240 32670510020758816978083085130507043184471273380659243275938904335757337482424 false)<|sw 0 U (pcs 55066263022277343669578718895168534326250603453777594175500187360389116729240 32670510020758816978083085130507043184471273380659243275938904335757337482424 false) (wA U)<|sG<|Sy.ret ?_
 rw [show (ptv bP:Value)=pv 55066263022277343669578718895168534326250603453777594175500187360389116729240 32670510020758816978083085130507043184471273380659243275938904335757337482424 false from by kernel_rfl]
 exact rc (v:=pv 55066263022277343669578718895168534326250603453777594175500187360389116729240 32670510020758816978083085130507043184471273380659243275938904335757337482424 false) 0 U U AX
theorem Wu (w:World) (x:Fp):AY 165 #[fv x.val] w (Gets w (fv (x*x*x+7).val)):=by
 refine Sy.enter (args:=[fv x.val]) Tryz.func165 U kL<|sC<|sM 87 (fcs x.val) (λg0=>?_)
 refine sM 87 (fcs 0) (λg1=>?_)
 refine sH (λj=>j == 7) ?_
 refine sD 0 U (fv x.val) (qk 0 0 4 U U AM)<|sD 1 U (fv x.val) (qk 0 0 4 U U AM)<|sD 2 U (fv x.val) (qk 0 0 4 U U AM) ?_
 obtain ⟨z1,hz1⟩:∃ z:Fp,z=x*x:=⟨_,rfl⟩
 refine sD 3 U (fv z1.val) (qf (λw=>by rw [hz1]; exact BQ w x x)) ?_
 obtain ⟨z2,hz2⟩:∃ z:Fp,z=x*z1:=⟨_,rfl⟩
 refine sD 4 U (fv z2.val) (qf (λw=>by rw [hz2]; exact BQ w x z1)) ?_
 obtain ⟨z3,hz3⟩:∃ z:Fp,z=(7:Fp):=⟨_,rfl⟩
 refine sD 5 U (fv z3.val) (qf (λw=>by rw [hz3]; exact Lm w 7 dZ)) ?_
 obtain ⟨z4,hz4⟩:∃ z:Fp,z=z2+z3:=⟨_,rfl⟩
 refine sD 6 U (fv z4.val) (qf (λw=>by rw [hz4]; exact C9 w z2 z3))<|sx 7 U 1 U (fcs z4.val) (wA U)<|sI<|Sy.ret ?_
 rw [show (fv (x*x*x+7).val:Value)=fv z4.val from by
  refine congrArg (λt:Fp=>fv t.val) ?_
  grobner]
 exact rc (v:=fv z4.val) 1 U U AM
theorem G8 (w:World) (x y:Nat) (hx:x<K4) (hy:y<K4):AY 76 #[fv x,fv y] w (Gets w (pv x y false)):=by
 refine Sy.enter (args:=[fv x,fv y]) Tryz.func76 U kL<|sC<|sM 87 (fcs x) (λg0=>?_)
 refine sM 87 (fcs y) (λg1=>?_)
 refine sM 37 (pcs 0 0 false) (λg2=>?_)
 refine sH (λj=>j == 5) ?_
 refine sD 0 U (fv x) (qk 0 0 4 U U AM)<|sD 1 U (fv x) (qf (λw=>Kx w x lK))<|sD 2 U (fv y) (qk 1 0 4 U U AM)<|sD 3 U (fv y) (qf (λw=>Kx w y lK))<|sZ 4 U (pv x y false)<|sx 5 U 2 U (pcs x y false) (wA U)<|sI<|Sy.ret ?_
 exact rc (v:=pv x y false) 2 U U AX
theorem TH (w:World) (x y:Nat) (i:Bool) (hx:x<K4) (hy:y<K4):AY 101 #[pv x y i] w (Gets w (.bool (A6 x y i))):=by
 refine Sy.enter (args:=[pv x y i]) Tryz.func101 U kL<|sC<|sM 37 (pcs x y i) (λg0=>?_)
 refine sp U<|sG<|Sy.seq<|sC<|sP (pT g0 8)<|sS (.bool i) (qc 0 8 U U uy4)<|sG ?_
 cases i
 ·refine sU<|Sy.skip<|sB ?_
  refine sP (pT g0 0)<|sS (fv x) (qk 0 0 4 U U AN)<|sS (fv x) (qf (λw=>refOf_any w x lK))<|sM 87 (fcs 0) (λg1=>?_)
  refine sw 1 U (fcs x) (wA U)<|sA<|sP (pT g0 4)<|sS (fv y) (qk 0 4 4 U U AN)<|sS (fv y) (qf (λw=>refOf_any w y lK))<|sM 87 (fcs 0) (λg2=>?_)
  refine sw 2 U (fcs y) (wA U)<|sA<|sS (.agg De) (qf Cl)<|sM 91 ac (λg3=>?_)
  refine sw 3 U De (wA U)<|sA<|sS (.agg De) (qk 3 0 7 U U FT)<|sS (fv x) (qk 1 0 4 U U AM) ?_
  obtain ⟨b1,hb1⟩:=xE (decide (x<pM))
  refine sS (.bool b1) (qf (λw=>by rw [hb1]; exact Gf w x lK))<|sp U<|sA<|sS (.agg De) (qk 3 0 7 U U FT)<|sS (fv y) (qk 2 0 4 U U AM) ?_
  obtain ⟨b2,hb2⟩:=xE (decide (y<pM))
  refine sS (.bool b2) (qf (λw=>by rw [hb2]; exact Gf w y lK))<|sp U<|sH (λj=>false) ?_
  refine sz 0 U U<|sz 1 U U ?_
  cases b1
  ·refine sQ 2 U<|sZ 3 U (.bool false)<|sz 4 U U<|sQ 5 U<|sQ 6 U<|sQ 7 U<|sQ 8 U<|sQ 9 U ?_
   refine sQ 10 U<|sZ 11 U (.bool false)<|sz 12 U U<|sI<|Sy.ret ?_
   rw [show (.bool (A6 x y false):Value)=.bool false from by rw [Zj (of_decide_eq_false hb1.symm)]]
   exact rV (.bool false) rfl
  ·obtain ⟨ux,rfl⟩:∃ u:Fp,x=u.val:=⟨⟨x,of_decide_eq_true hb1.symm⟩,rfl⟩
   refine sz 2 U U<|sZ 3 U (.bool b2)<|sz 4 U U ?_
   cases b2
   ·refine sQ 5 U<|sQ 6 U<|sQ 7 U<|sQ 8 U<|sQ 9 U<|sQ 10 U<|sZ 11 U (.bool false)<|sz 12 U U ?_
    refine sI<|Sy.ret ?_
    rw [show (.bool (A6 ux.val y false):Value)=.bool false from by rw [Zi (of_decide_eq_false hb2.symm)]]
    exact rV (.bool false) rfl
   ·obtain ⟨uy,rfl⟩:∃ u:Fp,y=u.val:=⟨⟨y,of_decide_eq_true hb2.symm⟩,rfl⟩
    refine sD 5 U (fv uy.val) (qk 2 0 4 U U AM)<|sD 6 U (fv uy.val) (qk 2 0 4 U U AM) ?_
    obtain ⟨z1,hz1⟩:∃ z:Fp,z=uy*uy:=⟨_,rfl⟩
    refine sD 7 U (fv z1.val) (qf (λw=>by rw [hz1]; exact BQ w uy uy))<|sD 8 U (fv ux.val) (qk 1 0 4 U U AM) ?_
    obtain ⟨z2,hz2⟩:∃ z:Fp,z=ux*ux*ux+7:=⟨_,rfl⟩
    refine sD 9 U (fv z2.val) (qf (λw=>by rw [hz2]; exact Wu w ux)) ?_
    obtain ⟨b3,hb3⟩:=xE (decide (z1.val=z2.val))
    refine sD 10 U (.bool b3) (Quiet.pure (λw=>by rw [hb3]; exact Ed w _ _ _ _ _ _ U U U lK lK))<|sZ 11 U (.bool b3)<|sz 12 U U<|sI<|Sy.ret ?_
    rw [show (.bool (A6 ux.val uy.val false):Value)=.bool b3 from by rw [hb3,TO]; simp only [hz2,hz1]]
    exact rV (.bool b3) rfl
 ·refine sT<|Sy.seq ?_
  refine Sy.regionD (λj=>false) kR<|sD 0 U (pv x y true) (qk 0 0 9 U U AX)<|sD 1 U (pv 0 0 true) (qf GB) ?_
  obtain ⟨b4,hb4⟩:=xE (CH x y true 0 0 true)
  refine sD 2 U (.bool b4) (Quiet.pure (λw=>by rw [hb4]; exact C7 w _ _ _ _ _ _ _ _ _ _ U U U lK lK lK lK))<|sz 3 U U<|sI<|Sy.ret<|Sy.then_ret ?_
  rw [show (.bool (A6 x y true):Value)=.bool b4 from by rw [hb4,Gg]]
  exact rV (.bool b4) rfl
theorem DY (w:World) (x y:Nat) (i:Bool) (hx:x<K4) (hy:y<K4):AY 68 #[pv x y i] w (Gets w (ptv (dec x y i))):=by
 refine Sy.enter (args:=[pv x y i]) Tryz.func68 U kL<|sC<|sM 37 (pcs x y i) (λg0=>?_)
 refine sM 37 (pcs 0 0 false) (λg1=>?_)
 refine sA<|sS (pv x y i) (qk 0 0 9 U U AX) ?_
 obtain ⟨b1,hb1⟩:=xE (A6 x y i)
 refine sS (.bool b1) (qf (by rw [hb1]; exact λw=>TH w x y i lK lK))<|sp U<|sG<|Sy.seq<|sC<|sp U ?_
 cases b1
 ·refine sP (.bool true) ?_
  refine sG<|sT<|sC<|sS (pv 0 0 true) (qf GB)<|sw 1 U (pcs 0 0 true) (wA U)<|sG<|Sy.ret<|Sy.then_ret ?_
  rw [show (ptv (dec x y i):Value)=pv 0 0 true from K3 x y i hb1.symm]
  exact rc (v:=pv 0 0 true) 1 U U AX
 ·refine sP (.bool false) ?_
  refine sG<|sU<|Sy.skip<|sB<|sS (pv x y i) (qk 0 0 9 U U AX)<|sw 1 U (pcs x y i) (wA U)<|sG<|Sy.ret ?_
  rw [show (ptv (dec x y i):Value)=pv x y i from K5 x y i hb1.symm]
  exact rc (v:=pv x y i) 1 U U AX
theorem U8 (w:World) (x y:Nat) (i:Bool) (x2 y2:Nat) (i2:Bool) (hx:x<K4) (hy:y<K4) (hx2:x2<K4) (hy2:y2<K4) (h:dec x y i=none) (k:dec x2 y2 i2=none):AY 28 #[pv x y i,pv x2 y2 i2] w (Gets w (ptv none)):=by
 refine Sy.enter (args:=[pv x y i,pv x2 y2 i2]) Tryz.func28 U kL<|sC<|sM 37 (pcs x y i) (λg0=>?_)
 refine sM 37 (pcs x2 y2 i2) (λg1=>?_)
 refine sM 37 (pcs 0 0 false) (λg2=>?_)
 refine sA<|sS (pv x y i) (qk 0 0 9 U U AX)<|sS (pv 0 0 true) (qf (λw=>by have hrr:=DY w x y i lK lK; rw [h] at hrr; exact hrr))<|sw 0 U (pcs 0 0 true) (wA U)<|sA<|sS (pv x2 y2 i2) (qk 1 0 9 U U AX)<|sS (pv 0 0 true) (qf (λw=>by have hrr:=DY w x2 y2 i2 lK lK; rw [k] at hrr; exact hrr))<|sw 1 U (pcs 0 0 true) (wA U)<|sG<|Sy.seq<|sC<|sP (pT g0 8)<|sS (.bool true) (qc 0 8 U U uy4)<|sG<|sT<|sC<|sS (pv 0 0 true) (qk 1 0 9 U U AX)<|sw 2 U (pcs 0 0 true) (wA U)<|sG<|Sy.ret<|Sy.then_ret ?_
 rw [show (ptv none:Value)=pv 0 0 true from rfl]
 exact rc (v:=pv 0 0 true) 2 U U AX
theorem U7 (w:World) (x y:Nat) (i:Bool) (x2 y2:Nat) (i2:Bool) (hx:x<K4) (hy:y<K4) (hx2:x2<K4) (hy2:y2<K4) (c d:Fp) (h:dec x y i=none) (k:dec x2 y2 i2=some (c,d)):AY 28 #[pv x y i,pv x2 y2 i2] w (Gets w (ptv (some (c,d)))):=by
 refine Sy.enter (args:=[pv x y i,pv x2 y2 i2]) Tryz.func28 U kL<|sC<|sM 37 (pcs x y i) (λg0=>?_)
 refine sM 37 (pcs x2 y2 i2) (λg1=>?_)
 refine sM 37 (pcs 0 0 false) (λg2=>?_)
 refine sA<|sS (pv x y i) (qk 0 0 9 U U AX)<|sS (pv 0 0 true) (qf (λw=>by have hrr:=DY w x y i lK lK; rw [h] at hrr; exact hrr))<|sw 0 U (pcs 0 0 true) (wA U)<|sA<|sS (pv x2 y2 i2) (qk 1 0 9 U U AX)<|sS (pv c.val d.val false) (qf (λw=>by have hrr:=DY w x2 y2 i2 lK lK; rw [k] at hrr; exact hrr))<|sw 1 U (pcs c.val d.val false) (wA U)<|sG<|Sy.seq<|sC<|sP (pT g0 8)<|sS (.bool true) (qc 0 8 U U uy4)<|sG<|sT<|sC<|sS (pv c.val d.val false) (qk 1 0 9 U U AX)<|sw 2 U (pcs c.val d.val false) (wA U)<|sG<|Sy.ret<|Sy.then_ret ?_
 rw [show (ptv (some (c,d)):Value)=pv c.val d.val false from rfl]
 exact rc (v:=pv c.val d.val false) 2 U U AX
theorem U6 (w:World) (x y:Nat) (i:Bool) (x2 y2:Nat) (i2:Bool) (hx:x<K4) (hy:y<K4) (hx2:x2<K4) (hy2:y2<K4) (u v:Fp) (h:dec x y i=some (u,v)) (k:dec x2 y2 i2=none):AY 28 #[pv x y i,pv x2 y2 i2] w (Gets w (ptv (some (u,v)))):=by
 refine Sy.enter (args:=[pv x y i,pv x2 y2 i2]) Tryz.func28 U kL<|sC<|sM 37 (pcs x y i) (λg0=>?_)
 refine sM 37 (pcs x2 y2 i2) (λg1=>?_)
 refine sM 37 (pcs 0 0 false) (λg2=>?_)
 refine sA<|sS (pv x y i) (qk 0 0 9 U U AX)<|sS (pv u.val v.val false) (qf (λw=>by have hrr:=DY w x y i lK lK; rw [h] at hrr; exact hrr))<|sw 0 U (pcs u.val v.val false) (wA U)<|sA<|sS (pv x2 y2 i2) (qk 1 0 9 U U AX)<|sS (pv 0 0 true) (qf (λw=>by have hrr:=DY w x2 y2 i2 lK lK; rw [k] at hrr; exact hrr))<|sw 1 U (pcs 0 0 true) (wA U)<|sG<|Sy.seq<|sC<|sP (pT g0 8)<|sS (.bool false) (qc 0 8 U U uy4)<|sG<|sU<|Sy.skip<|Sy.then_<|Sy.seq<|sC<|sP (pT g1 8)<|sS (.bool true) (qc 1 8 U U uy4)<|sG<|sT<|sC<|sS (pv u.val v.val false) (qk 0 0 9 U U AX)<|sw 2 U (pcs u.val v.val false) (wA U)<|sG<|Sy.ret<|Sy.then_ret ?_
 rw [show (ptv (some (u,v)):Value)=pv u.val v.val false from rfl]
 exact rc (v:=pv u.val v.val false) 2 U U AX
theorem U5 (w:World) (x y:Nat) (i:Bool) (x2 y2:Nat) (i2:Bool) (hx:x<K4) (hy:y<K4) (hx2:x2<K4) (hy2:y2<K4) (u v c d:Fp) (h:dec x y i=some (u,v)) (k:dec x2 y2 i2=some (c,d)) (ho:v*v=u*u*u+7) (hk:d*d=c*c*c+7):AY 28 #[pv x y i,pv x2 y2 i2] w (Gets w (ptv (Ec.add AR (some (u,v)) (some (c,d))))):=by
 refine Sy.enter (args:=[pv x y i,pv x2 y2 i2]) Tryz.func28 U kL<|sC<|sM 37 (pcs x y i) (λg0=>?_)
 refine sM 37 (pcs x2 y2 i2) (λg1=>?_)
 refine sM 37 (pcs 0 0 false) (λg2=>?_)
 refine sA<|sS (pv x y i) (qk 0 0 9 U U AX)<|sS (pv u.val v.val false) (qf (λw=>by have hrr:=DY w x y i lK lK; rw [h] at hrr; exact hrr))<|sw 0 U (pcs u.val v.val false) (wA U)<|sA<|sS (pv x2 y2 i2) (qk 1 0 9 U U AX)<|sS (pv c.val d.val false) (qf (λw=>by have hrr:=DY w x2 y2 i2 lK lK; rw [k] at hrr; exact hrr))<|sw 1 U (pcs c.val d.val false) (wA U)<|sG<|Sy.seq<|sC<|sP (pT g0 8)<|sS (.bool false) (qc 0 8 U U uy4)<|sG<|sU<|Sy.skip<|Sy.then_<|Sy.seq<|sC<|sP (pT g1 8)<|sS (.bool false) (qc 1 8 U U uy4)<|sG<|sU<|Sy.skip<|sB<|sP (pT g0 0)<|sS (fv u.val) (qk 0 0 4 U U AN)<|sS (fv u.val) (qf (λw=>refOf_any w u.val lK))<|sM 87 (fcs 0) (λg3=>?_)
 refine sw 3 U (fcs u.val) (wA U)<|sA<|sP (pT g0 4)<|sS (fv v.val) (qk 0 4 4 U U AN)<|sS (fv v.val) (qf (λw=>refOf_any w v.val lK))<|sM 87 (fcs 0) (λg4=>?_)
 refine sw 4 U (fcs v.val) (wA U)<|sA<|sP (pT g1 0)<|sS (fv c.val) (qL 1 g1 0 4 37 35 (pcs c.val d.val false) rfl AN)<|sS (fv c.val) (qf (λw=>refOf_any w c.val lK))<|sM 87 (fcs 0) (λg5=>?_)
 refine sW 5 g5 87 (fcs 0) (fcs c.val) (wS 0 87 (fcs c.val) rfl)<|sA<|sP (pT g1 4)<|sS (fv d.val) (qL 1 g1 4 4 37 35 (pcs c.val d.val false) rfl AN)<|sS (fv d.val) (qf (λw=>refOf_any w d.val lK))<|sM 87 (fcs 0) (λg6=>?_)
 refine sW 6 g6 87 (fcs 0) (fcs d.val) (wS 0 87 (fcs d.val) rfl)<|sA<|sS (fv d.val) (qL 6 g6 0 4 87 87 (fcs d.val) rfl AM)<|sS (fv v.val) (qL 4 g4 0 4 87 87 (fcs v.val) rfl AM) ?_
 obtain ⟨z1,hz1⟩:∃ z:Fp,z=d - v:=⟨_,rfl⟩
 refine sS (fv z1.val) (qf (λw=>by rw [hz1]; exact CO w d v))<|sM 87 (fcs 0) (λg7=>?_)
 refine sW 7 g7 87 (fcs 0) (fcs z1.val) (wS 0 87 (fcs z1.val) rfl)<|sA<|sS (fv c.val) (qL 5 g5 0 4 87 87 (fcs c.val) rfl AM)<|sS (fv u.val) (qL 3 g3 0 4 87 87 (fcs u.val) rfl AM) ?_
 obtain ⟨z2,hz2⟩:∃ z:Fp,z=c - u:=⟨_,rfl⟩
 refine sS (fv z2.val) (qf (λw=>by rw [hz2]; exact CO w c u))<|sM 87 (fcs 0) (λg8=>?_)
 refine sW 8 g8 87 (fcs 0) (fcs z2.val) (wS 0 87 (fcs z2.val) rfl)<|sG<|Sy.seq<|sC<|sS (fv u.val) (qL 3 g3 0 4 87 87 (fcs u.val) rfl AM)<|sS (fv c.val) (qL 5 g5 0 4 87 87 (fcs c.val) rfl AM) ?_
 obtain ⟨b1,hb1⟩:=xE (decide (u.val=c.val))
 refine sS (.bool b1) (Quiet.pure (λw=>by rw [hb1]; exact Ed w _ _ _ _ _ _ U U U lK lK))<|sG ?_
 cases b1
 ·have e1:u≠c:=λe=>of_decide_eq_false hb1.symm (congrArg Fin.val e)
  refine sU<|Sy.skip<|sR (λj=>j == 6) ?_
  refine sD 0 U (fv z1.val) (qL 7 g7 0 4 87 87 (fcs z1.val) rfl AM)<|sD 1 U (.agg De) (qf Cl)<|sD 2 U (fv z2.val) (qL 8 g8 0 4 87 87 (fcs z2.val) rfl AM) ?_
  obtain ⟨z3,hz3⟩:∃ z:Fp,z=AR z2:=⟨_,rfl⟩
  refine sD 3 U (fv z3.val) (qf (λw=>by rw [hz3]; exact Ji w z2)) ?_
  obtain ⟨z4,hz4⟩:∃ z:Fp,z=z1*z3:=⟨_,rfl⟩
  refine sD 4 U (fv z4.val) (qf (λw=>by rw [hz4]; exact BQ w z1 z3))<|sO 5 U 87 (fcs 0) (λg9=>?_)
  refine sX 6 U 9 g9 87 (fcs 0) (fcs z4.val) (wS 0 87 (fcs z4.val) rfl)<|sE<|sR (λj=>j == 8) ?_
  refine sD 0 U (fv z4.val) (qL 9 g9 0 4 87 87 (fcs z4.val) rfl AM)<|sD 1 U (fv z4.val) (qL 9 g9 0 4 87 87 (fcs z4.val) rfl AM) ?_
  obtain ⟨z5,hz5⟩:∃ z:Fp,z=z4*z4:=⟨_,rfl⟩
  refine sD 2 U (fv z5.val) (qf (λw=>by rw [hz5]; exact BQ w z4 z4))<|sD 3 U (fv u.val) (qL 3 g3 0 4 87 87 (fcs u.val) rfl AM) ?_
  obtain ⟨z6,hz6⟩:∃ z:Fp,z=z5 - u:=⟨_,rfl⟩
  refine sD 4 U (fv z6.val) (qf (λw=>by rw [hz6]; exact CO w z5 u))<|sD 5 U (fv c.val) (qL 5 g5 0 4 87 87 (fcs c.val) rfl AM) ?_
  obtain ⟨z7,hz7⟩:∃ z:Fp,z=z6 - c:=⟨_,rfl⟩
  refine sD 6 U (fv z7.val) (qf (λw=>by rw [hz7]; exact CO w z6 c))<|sO 7 U 87 (fcs 0) (λg10=>?_)
  refine sX 8 U 10 g10 87 (fcs 0) (fcs z7.val) (wS 0 87 (fcs z7.val) rfl)<|sE<|sR (λj=>j == 9) ?_
  refine sD 0 U (fv z7.val) (qL 10 g10 0 4 87 87 (fcs z7.val) rfl AM)<|sD 1 U (fv z4.val) (qL 9 g9 0 4 87 87 (fcs z4.val) rfl AM)<|sD 2 U (fv u.val) (qL 3 g3 0 4 87 87 (fcs u.val) rfl AM)<|sD 3 U (fv z7.val) (qL 10 g10 0 4 87 87 (fcs z7.val) rfl AM) ?_
  obtain ⟨z8,hz8⟩:∃ z:Fp,z=u - z7:=⟨_,rfl⟩
  refine sD 4 U (fv z8.val) (qf (λw=>by rw [hz8]; exact CO w u z7)) ?_
  obtain ⟨z9,hz9⟩:∃ z:Fp,z=z4*z8:=⟨_,rfl⟩
  refine sD 5 U (fv z9.val) (qf (λw=>by rw [hz9]; exact BQ w z4 z8))<|sD 6 U (fv v.val) (qL 4 g4 0 4 87 87 (fcs v.val) rfl AM) ?_
  obtain ⟨z10,hz10⟩:∃ z:Fp,z=z9 - v:=⟨_,rfl⟩
  refine sD 7 U (fv z10.val) (qf (λw=>by rw [hz10]; exact CO w z9 v))<|sD 8 U (pv z7.val z10.val false) (qf (λw=>G8 w z7.val z10.val lK lK))<|sX 9 U 2 g2 37 (pcs 0 0 false) (pcs z7.val z10.val false) (wS 0 37 (pcs z7.val z10.val false) rfl)<|sI<|Sy.ret ?_
  have ha:¬ (u=c∧v+d=0):=λt=>e1 t.1
  have hs:z4=Ec.slp AR u v c d:=by
   unfold Ec.slp
   rw [if_neg e1]
   clear h k ho hk hb1 ha e1
   grobner
  rw [show (ptv (Ec.add AR (some (u,v)) (some (c,d))):Value)=pv z7.val z10.val false from by simp only [Ec.add]; rw [if_neg ha, ← hs]; unfold Ec.y3 Ec.x3 ptv; rw [hz10,hz9,hz8,hz7,hz6,hz5]]
  exact rC (v:=pv z7.val z10.val false) 37 g2 2 (pcs z7.val z10.val false) rfl AX
 ·have e1:u=c:=Fin.ext (of_decide_eq_true hb1.symm)
  refine sT<|Sy.seq<|sC<|sS (fv v.val) (qL 4 g4 0 4 87 87 (fcs v.val) rfl AM)<|sS (fv d.val) (qL 6 g6 0 4 87 87 (fcs d.val) rfl AM) ?_
  obtain ⟨b2,hb2⟩:=xE (decide (v.val≠d.val))
  refine sS (.bool b2) (Quiet.pure (λw=>by rw [hb2]; exact WC w _ _ _ _ _ _ U U U lK lK))<|sp U ?_
  cases b2
  ·have e2:v=d:=Fin.ext (Decidable.of_not_not (of_decide_eq_false hb2.symm))
   refine sS (fv v.val) (qL 4 g4 0 4 87 87 (fcs v.val) rfl AM)<|sP (fv 0) ?_
   obtain ⟨b3,hb3⟩:=xE (decide (v.val=0))
   refine sS (.bool b3) (Quiet.pure (λw=>by rw [hb3]; exact Ed w _ _ _ _ _ _ U U U lK lK))<|sP (.bool b3)<|sG ?_
   cases b3
   ·refine sU<|Sy.skip<|sB ?_
    refine sS (fv u.val) (qL 3 g3 0 4 87 87 (fcs u.val) rfl AM)<|sS (fv u.val) (qL 3 g3 0 4 87 87 (fcs u.val) rfl AM) ?_
    obtain ⟨z11,hz11⟩:∃ z:Fp,z=u*u:=⟨_,rfl⟩
    refine sS (fv z11.val) (qf (λw=>by rw [hz11]; exact BQ w u u))<|sM 87 (fcs 0) (λg9=>?_)
    refine sW 9 g9 87 (fcs 0) (fcs z11.val) (wS 0 87 (fcs z11.val) rfl)<|sH (λj=>j == 5) ?_
    refine sD 0 U (fv z11.val) (qL 9 g9 0 4 87 87 (fcs z11.val) rfl AM)<|sD 1 U (fv z11.val) (qL 9 g9 0 4 87 87 (fcs z11.val) rfl AM)<|sD 2 U (fv z11.val) (qL 9 g9 0 4 87 87 (fcs z11.val) rfl AM) ?_
    obtain ⟨z12,hz12⟩:∃ z:Fp,z=z11+z11:=⟨_,rfl⟩
    refine sD 3 U (fv z12.val) (qf (λw=>by rw [hz12]; exact C9 w z11 z11)) ?_
    obtain ⟨z13,hz13⟩:∃ z:Fp,z=z11+z12:=⟨_,rfl⟩
    refine sD 4 U (fv z13.val) (qf (λw=>by rw [hz13]; exact C9 w z11 z12))<|sX 5 U 7 g7 87 (fcs z1.val) (fcs z13.val) (wS 0 87 (fcs z13.val) rfl)<|sI<|Sy.region<|sS (fv v.val) (qL 4 g4 0 4 87 87 (fcs v.val) rfl AM)<|sS (fv v.val) (qL 4 g4 0 4 87 87 (fcs v.val) rfl AM) ?_
    obtain ⟨z14,hz14⟩:∃ z:Fp,z=v+v:=⟨_,rfl⟩
    refine sS (fv z14.val) (qf (λw=>by rw [hz14]; exact C9 w v v))<|sW 8 g8 87 (fcs z2.val) (fcs z14.val) (wS 0 87 (fcs z14.val) rfl)<|sH (λj=>j == 6) ?_
    refine sD 0 U (fv z13.val) (qL 7 g7 0 4 87 87 (fcs z13.val) rfl AM)<|sD 1 U (.agg De) (qf Cl)<|sD 2 U (fv z14.val) (qL 8 g8 0 4 87 87 (fcs z14.val) rfl AM) ?_
    obtain ⟨z15,hz15⟩:∃ z:Fp,z=AR z14:=⟨_,rfl⟩
    refine sD 3 U (fv z15.val) (qf (λw=>by rw [hz15]; exact Ji w z14)) ?_
    obtain ⟨z16,hz16⟩:∃ z:Fp,z=z13*z15:=⟨_,rfl⟩
    refine sD 4 U (fv z16.val) (qf (λw=>by rw [hz16]; exact BQ w z13 z15))<|sO 5 U 87 (fcs 0) (λg10=>?_)
    refine sX 6 U 10 g10 87 (fcs 0) (fcs z16.val) (wS 0 87 (fcs z16.val) rfl)<|sE<|sR (λj=>j == 8) ?_
    refine sD 0 U (fv z16.val) (qL 10 g10 0 4 87 87 (fcs z16.val) rfl AM)<|sD 1 U (fv z16.val) (qL 10 g10 0 4 87 87 (fcs z16.val) rfl AM) ?_
    obtain ⟨z17,hz17⟩:∃ z:Fp,z=z16*z16:=⟨_,rfl⟩
    refine sD 2 U (fv z17.val) (qf (λw=>by rw [hz17]; exact BQ w z16 z16))<|sD 3 U (fv u.val) (qL 3 g3 0 4 87 87 (fcs u.val) rfl AM) ?_
    obtain ⟨z18,hz18⟩:∃ z:Fp,z=z17 - u:=⟨_,rfl⟩
    refine sD 4 U (fv z18.val) (qf (λw=>by rw [hz18]; exact CO w z17 u))<|sD 5 U (fv c.val) (qL 5 g5 0 4 87 87 (fcs c.val) rfl AM) ?_
    obtain ⟨z19,hz19⟩:∃ z:Fp,z=z18 - c:=⟨_,rfl⟩
    refine sD 6 U (fv z19.val) (qf (λw=>by rw [hz19]; exact CO w z18 c))<|sO 7 U 87 (fcs 0) (λg11=>?_)
    refine sX 8 U 11 g11 87 (fcs 0) (fcs z19.val) (wS 0 87 (fcs z19.val) rfl)<|sE<|sR (λj=>j == 9) ?_
    refine sD 0 U (fv z19.val) (qL 11 g11 0 4 87 87 (fcs z19.val) rfl AM)<|sD 1 U (fv z16.val) (qL 10 g10 0 4 87 87 (fcs z16.val) rfl AM)<|sD 2 U (fv u.val) (qL 3 g3 0 4 87 87 (fcs u.val) rfl AM)<|sD 3 U (fv z19.val) (qL 11 g11 0 4 87 87 (fcs z19.val) rfl AM) ?_
    obtain ⟨z20,hz20⟩:∃ z:Fp,z=u - z19:=⟨_,rfl⟩
    refine sD 4 U (fv z20.val) (qf (λw=>by rw [hz20]; exact CO w u z19)) ?_
    obtain ⟨z21,hz21⟩:∃ z:Fp,z=z16*z20:=⟨_,rfl⟩
    refine sD 5 U (fv z21.val) (qf (λw=>by rw [hz21]; exact BQ w z16 z20))<|sD 6 U (fv v.val) (qL 4 g4 0 4 87 87 (fcs v.val) rfl AM) ?_
    obtain ⟨z22,hz22⟩:∃ z:Fp,z=z21 - v:=⟨_,rfl⟩
    refine sD 7 U (fv z22.val) (qf (λw=>by rw [hz22]; exact CO w z21 v))<|sD 8 U (pv z19.val z22.val false) (qf (λw=>G8 w z19.val z22.val lK lK))<|sX 9 U 2 g2 37 (pcs 0 0 false) (pcs z19.val z22.val false) (wS 0 37 (pcs z19.val z22.val false) rfl)<|sI<|Sy.ret ?_
    have ha:¬ (u=c∧v+d=0):=λt=>L8 u v ho (fld.two v (e2 ▸ t.2))
    have hs:z16=Ec.slp AR u v c d:=by
     unfold Ec.slp
     rw [if_pos e1]
     clear h k ho hk hb1 hb2 hb3 ha e1 e2
     grobner
    rw [show (ptv (Ec.add AR (some (u,v)) (some (c,d))):Value)=pv z19.val z22.val false from by simp only [Ec.add]; rw [if_neg ha, ← hs]; unfold Ec.y3 Ec.x3 ptv; rw [hz22,hz21,hz20,hz19,hz18,hz17]]
    exact rC (v:=pv z19.val z22.val false) 37 g2 2 (pcs z19.val z22.val false) rfl AX
   ·exact absurd (Fin.ext (of_decide_eq_true hb3.symm)) (L8 u v ho)
  ·have e2:v≠d:=λe=>of_decide_eq_true hb2.symm (congrArg Fin.val e)
   refine sN<|sN<|sN<|sP (.bool true)<|sG<|sT<|sC<|sS (pv 0 0 true) (qf GB)<|sW 2 g2 37 (pcs 0 0 false) (pcs 0 0 true) (wS 0 37 (pcs 0 0 true) rfl)<|sG<|Sy.ret<|Sy.then_ret<|Sy.then_ret ?_
   rw [show (ptv (Ec.add AR (some (u,v)) (some (c,d))):Value)=pv 0 0 true from by simp only [Ec.add]; rw [if_pos ⟨e1,Classical.byContradiction λt=>Ec.off fld ho hk (λq=>e2 q.2) (λq=>t q.2) e1⟩]; rfl]
   exact rC (v:=pv 0 0 true) 37 g2 2 (pcs 0 0 true) rfl AX
theorem SQ (w:World) (x y:Nat) (i:Bool) (x2 y2:Nat) (i2:Bool) (hx:x<K4) (hy:y<K4) (hx2:x2<K4) (hy2:y2<K4):Calls Tryz.prog 28 #[pv x y i,pv x2 y2 i2] w (Gets w (ptv (Ec.add AR (dec x y i) (dec x2 y2 i2)))):=by
 have o1:=C8 x y i
 have o2:=C8 x2 y2 i2
 rcases h:dec x y i with _ | ⟨u,v⟩ <;> rcases k:dec x2 y2 i2 with _ | ⟨c,d⟩
 ·exact U8 w x y i x2 y2 i2 hx hy hx2 hy2 h k
 ·exact U7 w x y i x2 y2 i2 hx hy hx2 hy2 c d h k
 ·exact U6 w x y i x2 y2 i2 hx hy hx2 hy2 u v h k
 ·rw [h] at o1
  rw [k] at o2
  exact U5 w x y i x2 y2 i2 hx hy hx2 hy2 u v c d h k o1 o2
def CX (a:J):J:=if a.z=0 then a else B0 a
theorem N0 {a:J} {P:Pt} (hP:Ec.On P) (h:Ec.Rep a P):Ec.Rep (CX a) (Ec.add AR P P):=by
 unfold CX
 by_cases k:a.z=0
 ·rw [if_pos k]
  rcases P with _ | ⟨X,Y⟩
  ·exact k
  ·exact absurd k h.1
 ·rw [if_neg k]; exact Ho hP h
def hR (a:J) (x:Fp):Fp:=x*(a.z*a.z) - a.x
def rR (a:J) (y:Fp):Fp:=y*(a.z*a.z*a.z) - a.y
def pxR (a:J) (x y:Fp):Fp:=rR a y*rR a y - hR a x*hR a x*hR a x - (a.x*(hR a x*hR a x)+a.x*(hR a x*hR a x))
def pyR (a:J) (x y:Fp):Fp:=rR a y*(a.x*(hR a x*hR a x) - pxR a x y) - a.y*(hR a x*hR a x*hR a x)
def Bz (a:J) (x y:Fp):J:=if a.z=0 then ⟨x,y,1⟩ else if x*(a.z*a.z)=a.x then (if y*(a.z*a.z*a.z)=a.y then CX a else ⟨0,0,0⟩) else ⟨pxR a x y,pyR a x y,a.z*hR a x⟩
theorem Rb {a:J} {P:Pt} {x y:Fp} (hP:Ec.On P) (hQ:y*y=x*x*x+7) (h:Ec.Rep a P):Ec.Rep (Bz a x y) (Ec.add AR P (some (x,y))):=by
 rcases P with _ | ⟨X,Y⟩
 ·unfold Bz
  rw [if_pos (show a.z=0 from h),Ec.zero_add]
  exact JM (some (x,y))
 obtain ⟨h0,h1,h2⟩:=h
 unfold Bz
 rw [if_neg h0]
 have hZZ:=fld.ne_mul h0 h0
 have hZZZ:=fld.ne_mul hZZ h0
 by_cases e1:x*(a.z*a.z)=a.x
 ·rw [if_pos e1]
  have ex:x=X:=fld.cancel hZZ (by rw [h1] at e1; clear h1 h2 hP hQ; grobner)
  subst ex
  by_cases e2:y*(a.z*a.z*a.z)=a.y
  ·rw [if_pos e2]
   have ey:y=Y:=fld.cancel hZZZ (by rw [h2] at e2; clear h1 h2 hP hQ e1; grobner)
   subst ey
   exact N0 hP ⟨h0,h1,h2⟩
  ·rw [if_neg e2]
   have hne:Y≠y:=λq=>e2 (by rw [← q,h2])
   have hs:Y+y=0:=Classical.byContradiction λt=>Ec.off fld hP hQ (λq=>hne q.2) (λq=>t q.2) rfl
   have ea:Ec.add AR (some (x,Y)) (some (x,y))=none:=if_pos ⟨rfl,hs⟩
   rw [ea]
   rfl
 ·rw [if_neg e1]
  exact Ec.ad fld (Z:=a.z) (u:=a.x) (v:=a.y) (c:=hR a x) (r:=rR a y) hP hQ h0 h1 h2 U U (λq=>e1 (by have:=q.1; unfold hR at this; clear q h1 h2 hP hQ; grobner)) U U U
theorem V2 {a:J} {x y:Fp} (h:a.z=0):Bz a x y=⟨x,y,1⟩:=if_pos h
theorem V1 {a:J} {x y:Fp} (h:a.z≠0) (k:x*(a.z*a.z)=a.x) (m:y*(a.z*a.z*a.z)=a.y):Bz a x y=CX a:=by unfold Bz; rw [if_neg h,if_pos k,if_pos m]
theorem Vz {a:J} {x y:Fp} (h:a.z≠0) (k:x*(a.z*a.z)=a.x) (m:y*(a.z*a.z*a.z)≠a.y):Bz a x y=⟨0,0,0⟩:=by unfold Bz; rw [if_neg h,if_pos k,if_neg m]
theorem Vy {a:J} {x y:Fp} (h:a.z≠0) (k:x*(a.z*a.z)≠a.x):Bz a x y=⟨pxR a x y,pyR a x y,a.z*hR a x⟩:=by unfold Bz; rw [if_neg h,if_neg k]
theorem Fh (w:World) (a:J):AY 77 #[tv a.x.val a.y.val a.z.val] w (Gets w (tv (CX a).x.val (CX a).y.val (CX a).z.val)):=by
 refine Sy.enter (args:=[tv a.x.val a.y.val a.z.val]) Tryz.func77 U kL<|sC<|sM 111 (tcs a.x.val a.y.val a.z.val) (λg0=>?_)
 refine sM 111 (tcs 0 0 0) (λg1=>?_)
 refine sG<|Sy.seq<|sC<|sP (pT g0 8)<|sS (fv a.z.val) (qk 0 8 4 U U AM)<|sP (fv 0) ?_
 obtain ⟨b1,hb1⟩:=xE (decide (a.z.val=0))
 refine sS (.bool b1) (Quiet.pure (λw=>by rw [hb1]; exact Ed w _ _ _ _ _ _ U U U lK lK))<|sG ?_
 cases b1
 ·have eb1:a.z≠(0:Fp):=λe=>of_decide_eq_false hb1.symm (congrArg Fin.val e)
  refine sU<|Sy.skip<|sB<|sP (pT g0 0)<|sS (fv a.x.val) (qk 0 0 4 U U AM)<|sP (pT g0 0)<|sS (fv a.x.val) (qk 0 0 4 U U AM) ?_
  obtain ⟨z1,hz1⟩:∃ z:Fp,z=a.x*a.x:=⟨_,rfl⟩
  refine sS (fv z1.val) (qf (λw=>by rw [hz1]; exact BQ w a.x a.x))<|sM 87 (fcs 0) (λg2=>?_)
  refine sw 2 U (fcs z1.val) (wA U)<|sA<|sP (pT g0 4)<|sS (fv a.y.val) (qk 0 4 4 U U AM)<|sP (pT g0 4)<|sS (fv a.y.val) (qk 0 4 4 U U AM) ?_
  obtain ⟨z2,hz2⟩:∃ z:Fp,z=a.y*a.y:=⟨_,rfl⟩
  refine sS (fv z2.val) (qf (λw=>by rw [hz2]; exact BQ w a.y a.y))<|sM 87 (fcs 0) (λg3=>?_)
  refine sw 3 U (fcs z2.val) (wA U)<|sA<|sS (fv z2.val) (qk 3 0 4 U U AM)<|sS (fv z2.val) (qk 3 0 4 U U AM) ?_
  obtain ⟨z3,hz3⟩:∃ z:Fp,z=z2*z2:=⟨_,rfl⟩
  refine sS (fv z3.val) (qf (λw=>by rw [hz3]; exact BQ w z2 z2))<|sM 87 (fcs 0) (λg4=>?_)
  refine sw 4 U (fcs z3.val) (wA U)<|sA<|sP (pT g0 0)<|sS (fv a.x.val) (qk 0 0 4 U U AM)<|sS (fv z2.val) (qk 3 0 4 U U AM) ?_
  obtain ⟨z4,hz4⟩:∃ z:Fp,z=a.x*z2:=⟨_,rfl⟩
  refine sS (fv z4.val) (qf (λw=>by rw [hz4]; exact BQ w a.x z2))<|sM 87 (fcs 0) (λg5=>?_)
  refine sW 5 g5 87 (fcs 0) (fcs z4.val) (wS 0 87 (fcs z4.val) rfl)<|sH (λj=>j == 7) ?_
  refine sD 0 U (fv z4.val) (qL 5 g5 0 4 87 87 (fcs z4.val) rfl AM)<|sD 1 U (fv z4.val) (qL 5 g5 0 4 87 87 (fcs z4.val) rfl AM) ?_
  obtain ⟨z5,hz5⟩:∃ z:Fp,z=z4+z4:=⟨_,rfl⟩
  refine sD 2 U (fv z5.val) (qf (λw=>by rw [hz5]; exact C9 w z4 z4))<|sD 3 U (fv z4.val) (qL 5 g5 0 4 87 87 (fcs z4.val) rfl AM)<|sD 4 U (fv z4.val) (qL 5 g5 0 4 87 87 (fcs z4.val) rfl AM) ?_
  obtain ⟨z6,hz6⟩:∃ z:Fp,z=z4+z4:=⟨_,rfl⟩
  refine sD 5 U (fv z6.val) (qf (λw=>by rw [hz6]; exact C9 w z4 z4)) ?_
  obtain ⟨z7,hz7⟩:∃ z:Fp,z=z5+z6:=⟨_,rfl⟩
  refine sD 6 U (fv z7.val) (qf (λw=>by rw [hz7]; exact C9 w z5 z6))<|sX 7 U 5 g5 87 (fcs z4.val) (fcs z7.val) (wS 0 87 (fcs z7.val) rfl)<|sE<|sR (λj=>j == 6) ?_
  refine sD 0 U (fv z1.val) (qL 2 g2 0 4 87 87 (fcs z1.val) rfl AM)<|sD 1 U (fv z1.val) (qL 2 g2 0 4 87 87 (fcs z1.val) rfl AM)<|sD 2 U (fv z1.val) (qL 2 g2 0 4 87 87 (fcs z1.val) rfl AM) ?_
  obtain ⟨z8,hz8⟩:∃ z:Fp,z=z1+z1:=⟨_,rfl⟩
  refine sD 3 U (fv z8.val) (qf (λw=>by rw [hz8]; exact C9 w z1 z1)) ?_
  obtain ⟨z9,hz9⟩:∃ z:Fp,z=z1+z8:=⟨_,rfl⟩
  refine sD 4 U (fv z9.val) (qf (λw=>by rw [hz9]; exact C9 w z1 z8))<|sO 5 U 87 (fcs 0) (λg6=>?_)
  refine sX 6 U 6 g6 87 (fcs 0) (fcs z9.val) (wS 0 87 (fcs z9.val) rfl)<|sE<|sR (λj=>j == 8) ?_
  refine sD 0 U (fv z9.val) (qL 6 g6 0 4 87 87 (fcs z9.val) rfl AM)<|sD 1 U (fv z9.val) (qL 6 g6 0 4 87 87 (fcs z9.val) rfl AM) ?_
  obtain ⟨z10,hz10⟩:∃ z:Fp,z=z9*z9:=⟨_,rfl⟩
  refine sD 2 U (fv z10.val) (qf (λw=>by rw [hz10]; exact BQ w z9 z9))<|sD 3 U (fv z7.val) (qL 5 g5 0 4 87 87 (fcs z7.val) rfl AM)<|sD 4 U (fv z7.val) (qL 5 g5 0 4 87 87 (fcs z7.val) rfl AM) ?_
  obtain ⟨z11,hz11⟩:∃ z:Fp,z=z7+z7:=⟨_,rfl⟩
  refine sD 5 U (fv z11.val) (qf (λw=>by rw [hz11]; exact C9 w z7 z7)) ?_
  obtain ⟨z12,hz12⟩:∃ z:Fp,z=z10 - z11:=⟨_,rfl⟩
  refine sD 6 U (fv z12.val) (qf (λw=>by rw [hz12]; exact CO w z10 z11))<|sO 7 U 87 (fcs 0) (λg7=>?_)
  refine sX 8 U 7 g7 87 (fcs 0) (fcs z12.val) (wS 0 87 (fcs z12.val) rfl)<|sE<|sB<|sS (fv z3.val) (qL 4 g4 0 4 87 87 (fcs z3.val) rfl AM)<|sS (fv z3.val) (qL 4 g4 0 4 87 87 (fcs z3.val) rfl AM) ?_
  obtain ⟨z13,hz13⟩:∃ z:Fp,z=z3+z3:=⟨_,rfl⟩
  refine sS (fv z13.val) (qf (λw=>by rw [hz13]; exact C9 w z3 z3))<|sW 4 g4 87 (fcs z3.val) (fcs z13.val) (wS 0 87 (fcs z13.val) rfl)<|sA<|sS (fv z13.val) (qL 4 g4 0 4 87 87 (fcs z13.val) rfl AM)<|sS (fv z13.val) (qL 4 g4 0 4 87 87 (fcs z13.val) rfl AM) ?_
  obtain ⟨z14,hz14⟩:∃ z:Fp,z=z13+z13:=⟨_,rfl⟩
  refine sS (fv z14.val) (qf (λw=>by rw [hz14]; exact C9 w z13 z13))<|sW 4 g4 87 (fcs z13.val) (fcs z14.val) (wS 0 87 (fcs z14.val) rfl)<|sA<|sS (fv z14.val) (qL 4 g4 0 4 87 87 (fcs z14.val) rfl AM)<|sS (fv z14.val) (qL 4 g4 0 4 87 87 (fcs z14.val) rfl AM) ?_
  obtain ⟨z15,hz15⟩:∃ z:Fp,z=z14+z14:=⟨_,rfl⟩
  refine sS (fv z15.val) (qf (λw=>by rw [hz15]; exact C9 w z14 z14))<|sW 4 g4 87 (fcs z14.val) (fcs z15.val) (wS 0 87 (fcs z15.val) rfl)<|sH (λj=>j == 8) ?_
  refine sD 0 U (fv z9.val) (qL 6 g6 0 4 87 87 (fcs z9.val) rfl AM)<|sD 1 U (fv z7.val) (qL 5 g5 0 4 87 87 (fcs z7.val) rfl AM)<|sD 2 U (fv z12.val) (qL 7 g7 0 4 87 87 (fcs z12.val) rfl AM) ?_
  obtain ⟨z16,hz16⟩:∃ z:Fp,z=z7 - z12:=⟨_,rfl⟩
  refine sD 3 U (fv z16.val) (qf (λw=>by rw [hz16]; exact CO w z7 z12)) ?_
  obtain ⟨z17,hz17⟩:∃ z:Fp,z=z9*z16:=⟨_,rfl⟩
  refine sD 4 U (fv z17.val) (qf (λw=>by rw [hz17]; exact BQ w z9 z16))<|sD 5 U (fv z15.val) (qL 4 g4 0 4 87 87 (fcs z15.val) rfl AM) ?_
  obtain ⟨z18,hz18⟩:∃ z:Fp,z=z17 - z15:=⟨_,rfl⟩
  refine sD 6 U (fv z18.val) (qf (λw=>by rw [hz18]; exact CO w z17 z15))<|sO 7 U 87 (fcs 0) (λg8=>?_)
  refine sX 8 U 8 g8 87 (fcs 0) (fcs z18.val) (wS 0 87 (fcs z18.val) rfl)<|sE<|sB<|sP (pT g0 4)<|sS (fv a.y.val) (qL 0 g0 4 4 111 87 (tcs a.x.val a.y.val a.z.val) rfl AM)<|sP (pT g0 8)<|sS (fv a.z.val) (qL 0 g0 8 4 111 87 (tcs a.x.val a.y.val a.z.val) rfl AM) ?_
  obtain ⟨z19,hz19⟩:∃ z:Fp,z=a.y*a.z:=⟨_,rfl⟩
  refine sS (fv z19.val) (qf (λw=>by rw [hz19]; exact BQ w a.y a.z))<|sM 87 (fcs 0) (λg9=>?_)
  refine sW 9 g9 87 (fcs 0) (fcs z19.val) (wS 0 87 (fcs z19.val) rfl)<|sH (λj=>j == 6) ?_
  refine sD 0 U (fv z12.val) (qL 7 g7 0 4 87 87 (fcs z12.val) rfl AM)<|sD 1 U (fv z18.val) (qL 8 g8 0 4 87 87 (fcs z18.val) rfl AM)<|sD 2 U (fv z19.val) (qL 9 g9 0 4 87 87 (fcs z19.val) rfl AM)<|sD 3 U (fv z19.val) (qL 9 g9 0 4 87 87 (fcs z19.val) rfl AM) ?_
  obtain ⟨z20,hz20⟩:∃ z:Fp,z=z19+z19:=⟨_,rfl⟩
  refine sD 4 U (fv z20.val) (qf (λw=>by rw [hz20]; exact C9 w z19 z19))<|sZ 5 U (tv z12.val z18.val z20.val)<|sX 6 U 1 g1 111 (tcs 0 0 0) (tcs z12.val z18.val z20.val) (wS 0 111 (tcs z12.val z18.val z20.val) rfl)<|sI<|Sy.ret ?_
  rw [show (tv (CX a).x.val (CX a).y.val (CX a).z.val:Value)=tv z12.val z18.val z20.val from by
   unfold CX; rw [if_neg eb1]
   have k0:(B0 a).x=z12:=by
    simp only [B0,pxR,pyR,hR,rR]
    simp only [hz12,hz11,hz10,hz9,hz8,hz7,hz6,hz5,hz4,hz2,hz1]
    grobner
   have k1:(B0 a).y=z18:=by
    simp only [B0,pxR,pyR,hR,rR]
    simp only [hz18,hz17,hz16,hz15,hz14,hz13,hz12,hz11,hz10,hz9,hz8,hz7,hz6,hz5,hz4,hz3,hz2,hz1]
    grobner
   have k2:(B0 a).z=z20:=by
    simp only [B0,pxR,pyR,hR,rR]
    simp only [hz20,hz19]
    grobner
   simp only [k0,k1,k2]]
  exact rC (v:=tv z12.val z18.val z20.val) 111 g1 1 (tcs z12.val z18.val z20.val) rfl Dm
 ·have eb1:a.z=(0:Fp):=Fin.ext (of_decide_eq_true hb1.symm)
  refine sT<|sC<|sS (tv a.x.val a.y.val a.z.val) (qL 0 g0 0 12 111 111 (tcs a.x.val a.y.val a.z.val) rfl Dm)<|sW 1 g1 111 (tcs 0 0 0) (tcs a.x.val a.y.val a.z.val) (wS 0 111 (tcs a.x.val a.y.val a.z.val) rfl)<|sG<|Sy.ret<|Sy.then_ret ?_
  rw [show (tv (CX a).x.val (CX a).y.val (CX a).z.val:Value)=tv a.x.val a.y.val a.z.val from by unfold CX; rw [if_pos eb1]]
  exact rC (v:=tv a.x.val a.y.val a.z.val) 111 g1 1 (tcs a.x.val a.y.val a.z.val) rfl Dm
theorem Iy (w:World) (a:J) (x y:Fp):AY 78 #[tv a.x.val a.y.val a.z.val,fv x.val,fv y.val] w (Gets w (tv (Bz a x y).x.val (Bz a x y).y.val (Bz a x y).z.val)):=by
 refine Sy.enter (args:=[tv a.x.val a.y.val a.z.val,fv x.val,fv y.val]) Tryz.func78 U kL<|sC<|sM 111 (tcs a.x.val a.y.val a.z.val) (λg0=>?_)
 refine sM 87 (fcs x.val) (λg1=>?_)
 refine sM 87 (fcs y.val) (λg2=>?_)
 refine sM 111 (tcs 0 0 0) (λg3=>?_)
 refine sG<|Sy.seq<|sC<|sP (pT g0 8)<|sS (fv a.z.val) (qk 0 8 4 U U AM)<|sP (fv 0) ?_
 obtain ⟨b1,hb1⟩:=xE (decide (a.z.val=0))
 refine sS (.bool b1) (Quiet.pure (λw=>by rw [hb1]; exact Ed w _ _ _ _ _ _ U U U lK lK))<|sG ?_
 cases b1
 ·have eb1:a.z≠(0:Fp):=λe=>of_decide_eq_false hb1.symm (congrArg Fin.val e)
  refine sU<|Sy.skip<|sB<|sP (pT g0 8)<|sS (fv a.z.val) (qk 0 8 4 U U AM)<|sP (pT g0 8)<|sS (fv a.z.val) (qk 0 8 4 U U AM) ?_
  obtain ⟨z1,hz1⟩:∃ z:Fp,z=a.z*a.z:=⟨_,rfl⟩
  refine sS (fv z1.val) (qf (λw=>by rw [hz1]; exact BQ w a.z a.z))<|sM 87 (fcs 0) (λg4=>?_)
  refine sw 4 U (fcs z1.val) (wA U)<|sA<|sS (fv x.val) (qk 1 0 4 U U AM)<|sS (fv z1.val) (qk 4 0 4 U U AM) ?_
  obtain ⟨z2,hz2⟩:∃ z:Fp,z=x*z1:=⟨_,rfl⟩
  refine sS (fv z2.val) (qf (λw=>by rw [hz2]; exact BQ w x z1))<|sM 87 (fcs 0) (λg5=>?_)
  refine sw 5 U (fcs z2.val) (wA U)<|sH (λj=>j == 7) ?_
  refine sD 0 U (fv y.val) (qk 2 0 4 U U AM)<|sD 1 U (fv z1.val) (qk 4 0 4 U U AM)<|sZ 2 U (pT g0 8)<|sD 3 U (fv a.z.val) (qk 0 8 4 U U AM) ?_
  obtain ⟨z3,hz3⟩:∃ z:Fp,z=z1*a.z:=⟨_,rfl⟩
  refine sD 4 U (fv z3.val) (qf (λw=>by rw [hz3]; exact BQ w z1 a.z)) ?_
  obtain ⟨z4,hz4⟩:∃ z:Fp,z=y*z3:=⟨_,rfl⟩
  refine sD 5 U (fv z4.val) (qf (λw=>by rw [hz4]; exact BQ w y z3))<|sO 6 U 87 (fcs 0) (λg6=>?_)
  refine sX 7 U 6 g6 87 (fcs 0) (fcs z4.val) (wS 0 87 (fcs z4.val) rfl)<|sI<|Sy.seq<|sC<|sS (fv z2.val) (qL 5 g5 0 4 87 87 (fcs z2.val) rfl AM)<|sP (pT g0 0)<|sS (fv a.x.val) (qL 0 g0 0 4 111 87 (tcs a.x.val a.y.val a.z.val) rfl AM) ?_
  obtain ⟨b2,hb2⟩:=xE (decide (z2.val=a.x.val))
  refine sS (.bool b2) (Quiet.pure (λw=>by rw [hb2]; exact Ed w _ _ _ _ _ _ U U U lK lK))<|sG ?_
  cases b2
  ·have eb2:z2≠a.x:=λe=>of_decide_eq_false hb2.symm (congrArg Fin.val e)
   refine sU<|Sy.skip<|sB<|sS (fv z2.val) (qL 5 g5 0 4 87 87 (fcs z2.val) rfl AM)<|sP (pT g0 0)<|sS (fv a.x.val) (qL 0 g0 0 4 111 87 (tcs a.x.val a.y.val a.z.val) rfl AM) ?_
   obtain ⟨z5,hz5⟩:∃ z:Fp,z=z2 - a.x:=⟨_,rfl⟩
   refine sS (fv z5.val) (qf (λw=>by rw [hz5]; exact CO w z2 a.x))<|sM 87 (fcs 0) (λg7=>?_)
   refine sW 7 g7 87 (fcs 0) (fcs z5.val) (wS 0 87 (fcs z5.val) rfl)<|sA<|sS (fv z4.val) (qL 6 g6 0 4 87 87 (fcs z4.val) rfl AM)<|sP (pT g0 4)<|sS (fv a.y.val) (qL 0 g0 4 4 111 87 (tcs a.x.val a.y.val a.z.val) rfl AM) ?_
   obtain ⟨z6,hz6⟩:∃ z:Fp,z=z4 - a.y:=⟨_,rfl⟩
   refine sS (fv z6.val) (qf (λw=>by rw [hz6]; exact CO w z4 a.y))<|sM 87 (fcs 0) (λg8=>?_)
   refine sW 8 g8 87 (fcs 0) (fcs z6.val) (wS 0 87 (fcs z6.val) rfl)<|sA<|sS (fv z5.val) (qL 7 g7 0 4 87 87 (fcs z5.val) rfl AM)<|sS (fv z5.val) (qL 7 g7 0 4 87 87 (fcs z5.val) rfl AM) ?_
   obtain ⟨z7,hz7⟩:∃ z:Fp,z=z5*z5:=⟨_,rfl⟩
   refine sS (fv z7.val) (qf (λw=>by rw [hz7]; exact BQ w z5 z5))<|sM 87 (fcs 0) (λg9=>?_)
   refine sW 9 g9 87 (fcs 0) (fcs z7.val) (wS 0 87 (fcs z7.val) rfl)<|sA<|sS (fv z5.val) (qL 7 g7 0 4 87 87 (fcs z5.val) rfl AM)<|sS (fv z7.val) (qL 9 g9 0 4 87 87 (fcs z7.val) rfl AM) ?_
   obtain ⟨z8,hz8⟩:∃ z:Fp,z=z5*z7:=⟨_,rfl⟩
   refine sS (fv z8.val) (qf (λw=>by rw [hz8]; exact BQ w z5 z7))<|sM 87 (fcs 0) (λg10=>?_)
   refine sW 10 g10 87 (fcs 0) (fcs z8.val) (wS 0 87 (fcs z8.val) rfl)<|sA<|sP (pT g0 0)<|sS (fv a.x.val) (qL 0 g0 0 4 111 87 (tcs a.x.val a.y.val a.z.val) rfl AM)<|sS (fv z7.val) (qL 9 g9 0 4 87 87 (fcs z7.val) rfl AM) ?_
   obtain ⟨z9,hz9⟩:∃ z:Fp,z=a.x*z7:=⟨_,rfl⟩
   refine sS (fv z9.val) (qf (λw=>by rw [hz9]; exact BQ w a.x z7))<|sM 87 (fcs 0) (λg11=>?_)
   refine sW 11 g11 87 (fcs 0) (fcs z9.val) (wS 0 87 (fcs z9.val) rfl)<|sH (λj=>j == 10) ?_
   refine sD 0 U (fv z6.val) (qL 8 g8 0 4 87 87 (fcs z6.val) rfl AM)<|sD 1 U (fv z6.val) (qL 8 g8 0 4 87 87 (fcs z6.val) rfl AM) ?_
   obtain ⟨z10,hz10⟩:∃ z:Fp,z=z6*z6:=⟨_,rfl⟩
   refine sD 2 U (fv z10.val) (qf (λw=>by rw [hz10]; exact BQ w z6 z6))<|sD 3 U (fv z8.val) (qL 10 g10 0 4 87 87 (fcs z8.val) rfl AM) ?_
   obtain ⟨z11,hz11⟩:∃ z:Fp,z=z10 - z8:=⟨_,rfl⟩
   refine sD 4 U (fv z11.val) (qf (λw=>by rw [hz11]; exact CO w z10 z8))<|sD 5 U (fv z9.val) (qL 11 g11 0 4 87 87 (fcs z9.val) rfl AM)<|sD 6 U (fv z9.val) (qL 11 g11 0 4 87 87 (fcs z9.val) rfl AM) ?_
   obtain ⟨z12,hz12⟩:∃ z:Fp,z=z9+z9:=⟨_,rfl⟩
   refine sD 7 U (fv z12.val) (qf (λw=>by rw [hz12]; exact C9 w z9 z9)) ?_
   obtain ⟨z13,hz13⟩:∃ z:Fp,z=z11 - z12:=⟨_,rfl⟩
   refine sD 8 U (fv z13.val) (qf (λw=>by rw [hz13]; exact CO w z11 z12))<|sO 9 U 87 (fcs 0) (λg12=>?_)
   refine sX 10 U 12 g12 87 (fcs 0) (fcs z13.val) (wS 0 87 (fcs z13.val) rfl)<|sE<|sR (λj=>j == 16) ?_
   refine sD 0 U (fv z13.val) (qL 12 g12 0 4 87 87 (fcs z13.val) rfl AM)<|sD 1 U (fv z6.val) (qL 8 g8 0 4 87 87 (fcs z6.val) rfl AM)<|sD 2 U (fv z9.val) (qL 11 g11 0 4 87 87 (fcs z9.val) rfl AM)<|sD 3 U (fv z13.val) (qL 12 g12 0 4 87 87 (fcs z13.val) rfl AM) ?_
   obtain ⟨z14,hz14⟩:∃ z:Fp,z=z9 - z13:=⟨_,rfl⟩
   refine sD 4 U (fv z14.val) (qf (λw=>by rw [hz14]; exact CO w z9 z13)) ?_
   obtain ⟨z15,hz15⟩:∃ z:Fp,z=z6*z14:=⟨_,rfl⟩
   refine sD 5 U (fv z15.val) (qf (λw=>by rw [hz15]; exact BQ w z6 z14))<|sZ 6 U (pT g0 4)<|sD 7 U (fv a.y.val) (qL 0 g0 4 4 111 87 (tcs a.x.val a.y.val a.z.val) rfl AM)<|sD 8 U (fv z8.val) (qL 10 g10 0 4 87 87 (fcs z8.val) rfl AM) ?_
   obtain ⟨z16,hz16⟩:∃ z:Fp,z=a.y*z8:=⟨_,rfl⟩
   refine sD 9 U (fv z16.val) (qf (λw=>by rw [hz16]; exact BQ w a.y z8)) ?_
   obtain ⟨z17,hz17⟩:∃ z:Fp,z=z15 - z16:=⟨_,rfl⟩
   refine sD 10 U (fv z17.val) (qf (λw=>by rw [hz17]; exact CO w z15 z16))<|sD 11 U (fv z5.val) (qL 7 g7 0 4 87 87 (fcs z5.val) rfl AM)<|sZ 12 U (pT g0 8)<|sD 13 U (fv a.z.val) (qL 0 g0 8 4 111 87 (tcs a.x.val a.y.val a.z.val) rfl AM) ?_
   obtain ⟨z18,hz18⟩:∃ z:Fp,z=z5*a.z:=⟨_,rfl⟩
   refine sD 14 U (fv z18.val) (qf (λw=>by rw [hz18]; exact BQ w z5 a.z))<|sZ 15 U (tv z13.val z17.val z18.val)<|sX 16 U 3 g3 111 (tcs 0 0 0) (tcs z13.val z17.val z18.val) (wS 0 111 (tcs z13.val z17.val z18.val) rfl)<|sI<|Sy.ret ?_
   rw [show (tv (Bz a x y).x.val (Bz a x y).y.val (Bz a x y).z.val:Value)=tv z13.val z17.val z18.val from by
    rw [Vy eb1 (by have q:=eb2; simp only [hz2,hz1] at q; exact q)]; simp only
    have k0:pxR a x y=z13:=by
     simp only [B0,pxR,pyR,hR,rR]
     simp only [hz13,hz12,hz11,hz10,hz9,hz8,hz7,hz6,hz5,hz4,hz3,hz2,hz1]
     grobner
    have k1:pyR a x y=z17:=by
     simp only [B0,pxR,pyR,hR,rR]
     simp only [hz17,hz16,hz15,hz14,hz13,hz12,hz11,hz10,hz9,hz8,hz7,hz6,hz5,hz4,hz3,hz2,hz1]
     grobner
    have k2:a.z*hR a x=z18:=by
     simp only [B0,pxR,pyR,hR,rR]
     simp only [hz18,hz5,hz2,hz1]
     grobner
    simp only [k0,k1,k2]]
   exact rC (v:=tv z13.val z17.val z18.val) 111 g3 3 (tcs z13.val z17.val z18.val) rfl Dm
  ·have eb2:z2=a.x:=Fin.ext (of_decide_eq_true hb2.symm)
   refine sT<|Sy.seq<|sC<|sS (fv z4.val) (qL 6 g6 0 4 87 87 (fcs z4.val) rfl AM)<|sP (pT g0 4)<|sS (fv a.y.val) (qL 0 g0 4 4 111 87 (tcs a.x.val a.y.val a.z.val) rfl AM) ?_
   obtain ⟨b3,hb3⟩:=xE (decide (z4.val=a.y.val))
   refine sS (.bool b3) (Quiet.pure (λw=>by rw [hb3]; exact Ed w _ _ _ _ _ _ U U U lK lK))<|sG ?_
   cases b3
   ·have eb3:z4≠a.y:=λe=>of_decide_eq_false hb3.symm (congrArg Fin.val e)
    refine sU<|Sy.skip<|sB<|sP (tv 0 0 0)<|sW 3 g3 111 (tcs 0 0 0) (tcs 0 0 0) (wS 0 111 (tcs 0 0 0) rfl)<|sG<|Sy.ret<|Sy.then_ret ?_
    rw [show (tv (Bz a x y).x.val (Bz a x y).y.val (Bz a x y).z.val:Value)=tv 0 0 0 from by rw [Vz eb1 (by have q:=eb2; simp only [hz2,hz1] at q; exact q) (by have q:=eb3; simp only [hz4,hz3,hz1] at q; exact q)]; rfl]
    exact rC (v:=tv 0 0 0) 111 g3 3 (tcs 0 0 0) rfl Dm
   ·have eb3:z4=a.y:=Fin.ext (of_decide_eq_true hb3.symm)
    refine sT<|sC<|sS (tv a.x.val a.y.val a.z.val) (qL 0 g0 0 12 111 111 (tcs a.x.val a.y.val a.z.val) rfl Dm)<|sS (tv ((CX a).x.val) ((CX a).y.val) ((CX a).z.val)) (qf (λw=>Fh w a))<|sW 3 g3 111 (tcs 0 0 0) (tcs ((CX a).x.val) ((CX a).y.val) ((CX a).z.val)) (wS 0 111 (tcs ((CX a).x.val) ((CX a).y.val) ((CX a).z.val)) U)<|sG<|Sy.ret<|Sy.then_ret<|Sy.then_ret ?_
    rw [show (tv (Bz a x y).x.val (Bz a x y).y.val (Bz a x y).z.val:Value)=tv ((CX a).x.val) ((CX a).y.val) ((CX a).z.val) from by rw [V1 eb1 (by have q:=eb2; simp only [hz2,hz1] at q; exact q) (by have q:=eb3; simp only [hz4,hz3,hz1] at q; exact q)]]
    exact rC (v:=tv ((CX a).x.val) ((CX a).y.val) ((CX a).z.val)) 111 g3 3 (tcs ((CX a).x.val) ((CX a).y.val) ((CX a).z.val)) rfl Dm
 ·have eb1:a.z=(0:Fp):=Fin.ext (of_decide_eq_true hb1.symm)
  refine sT<|Sy.seq<|Sy.regionD (λj=>j == 4) kR<|sD 0 U (fv x.val) (qL 1 g1 0 4 87 87 (fcs x.val) rfl AM)<|sD 1 U (fv y.val) (qL 2 g2 0 4 87 87 (fcs y.val) rfl AM) ?_
  obtain ⟨z19,hz19⟩:∃ z:Fp,z=(1:Fp):=⟨_,rfl⟩
  refine sD 2 U (fv z19.val) (qf (λw=>by rw [hz19]; exact Lm w 1 dZ))<|sZ 3 U (tv x.val y.val z19.val)<|sX 4 U 3 g3 111 (tcs 0 0 0) (tcs x.val y.val z19.val) (wS 0 111 (tcs x.val y.val z19.val) rfl)<|sI<|Sy.ret<|Sy.then_ret ?_
  rw [show (tv (Bz a x y).x.val (Bz a x y).y.val (Bz a x y).z.val:Value)=tv x.val y.val z19.val from by rw [V2 eb1]; simp only [hz19]]
  exact rC (v:=tv x.val y.val z19.val) 111 g3 3 (tcs x.val y.val z19.val) rfl Dm
end Cu
end
section
namespace Sc
open Go.RowKit
def pM:Nat:=115792089237316195423570985008687907852837564279074904382605163141518161494337
theorem Er:pM=115792089237316195423570985008687907852837564279074904382605163141518161494337:=rfl
theorem mod_lt (n:Nat):n%pM<(2^256):=by have:=Nat.mod_lt n (show 0<pM by decide); rw [Er] at this ⊢; omega
theorem mod_lt_p (n:Nat):n%pM<pM:=Nat.mod_lt n dZ
def addP (x y:Nat):Nat:=(x+y)%pM
def negP (x:Nat):Nat:=(pM - x%pM)%pM
def subP (x y:Nat):Nat:=(x+(pM - y%pM))%pM
def mulP (x y:Nat):Nat:=x*y%pM
theorem Q1 (x y:Nat):addP x y<(2^256):=mod_lt _
theorem I1 (x:Nat):negP x<(2^256):=mod_lt _
theorem subP_lt (x y:Nat):subP x y<(2^256):=mod_lt _
theorem G5 (x:Nat) (hx:x<(2^256)):x%pM=if x+432420386565659656852420866394968145599<(2^256) then x else x+432420386565659656852420866394968145599 - (2^256):=by
 rw [Er]
 by_cases h:x+432420386565659656852420866394968145599<(2^256)
 ·rw [if_pos h]; exact Nat.mod_eq_of_lt om
 ·rw [if_neg h,Nat.mod_eq_sub_mod om,Nat.mod_eq_of_lt om]
  omega
theorem EW {x z k:Nat} (h:z+115792089237316195423570985008687907852837564279074904382605163141518161494337*k=x):z%pM=x%pM:=by
 rw [← h,Er,Nat.add_mul_mod_self_left]
end Sc
end
section
namespace Sc
open Go.RowKit Go.Lib
theorem Rh (w:World):Calls Tryz.prog 198 #[] w λe w'=>e=.returned (fv 115792089237316195423570985008687907852837564279074904382605163141518161494337)∧Below w.heap.size w w':=by
 go_enter Tryz.func198,Tryz.ntmps198
 go_wp2
 exact bodyPost_ret (results_cell_row U _ _ w.heap.size _ _ (0,0) _ U (heap_alloc_new w _) Au U kZ) rfl ⟨rfl,(Below.refl _ _).alloc (Nat.le_refl _) _⟩
theorem IE (w:World) (x y:Nat) (hx:x<(2^256)) (hy:y<(2^256)):Calls Tryz.prog 197 #[fv x,fv y] w λe w'=>(∃ s k:Nat,s<(2^256)∧k≤1∧s+y=x+(2^256)*k∧e=.returned (.tuple #[fv s,.int .u64 (k:Int)]))∧Below w.heap.size w w':=by
 obtain ⟨x0,x1,x2,x3,a0,a1,a2,a3,ex,fx⟩:=Aw x hx
 obtain ⟨y0,y1,y2,y3,b0,b1,b2,b3,ey,fy⟩:=Aw y hy
 rw [fx,fy]
 obtain ⟨s0,c0,d0,k0,e0,r0⟩:=Lk x0 y0 a0 b0
 obtain ⟨s1,c1,d1,k1,e1,r1⟩:=Dr x1 y1 c0 a1 b1 k0
 obtain ⟨s2,c2,d2,k2,e2,r2⟩:=Dr x2 y2 c1 a2 b2 k1
 obtain ⟨s3,c3,d3,k3,e3,r3⟩:=Dr x3 y3 c2 a3 b3 k2
 have fin:s0+18446744073709551616*s1+340282366920938463463374607431768211456*s2+6277101735386680763835789423207666416102355444464034512896*s3+y=x+(2^256)*c3:=om
 have hs:=Lib.hid (DM s0 s1 s2 s3 d0 d1 d2 d3)
 have hlt:=Lib.hid (LH s0 s1 s2 s3 d0 d1 d2 d3)
 have HF:=Lib.hid fin
 have HK:=Lib.hid k3
 clear ex ey fx fy e0 e1 e2 e3 a0 a1 a2 a3 b0 b1 b2 b3 d0 d1 d2 d3 k0 k1 k2 k3 fin hx hy
 go_enter Tryz.func197,Tryz.ntmps197
 go_wp2_with fail
 go_loopw [5,7] (λbo i wr=>Below w.heap.size w wr∧Blk wr w.heap.size 26 #[.int .u64 (x0:Int),.int .u64 (x1:Int),.int .u64 (x2:Int),.int .u64 (x3:Int)]∧Blk wr (w.heap.size+1) 26 #[.int .u64 (y0:Int),.int .u64 (y1:Int),.int .u64 (y2:Int),.int .u64 (y3:Int)]∧Hid ((i=.int .i64 0∧bo=.int .u64 0∧Blk wr (w.heap.size+2) 26 #[.int .u64 0,.int .u64 0,.int .u64 0,.int .u64 0])∨(i=.int .i64 1∧bo=.int .u64 (c0:Int)∧Blk wr (w.heap.size+2) 26 #[.int .u64 (s0:Int),.int .u64 0,.int .u64 0,.int .u64 0])∨(i=.int .i64 2∧bo=.int .u64 (c1:Int)∧Blk wr (w.heap.size+2) 26 #[.int .u64 (s0:Int),.int .u64 (s1:Int),.int .u64 0,.int .u64 0])∨(i=.int .i64 3∧bo=.int .u64 (c2:Int)∧Blk wr (w.heap.size+2) 26 #[.int .u64 (s0:Int),.int .u64 (s1:Int),.int .u64 (s2:Int),.int .u64 0])∨(i=.int .i64 4∧bo=.int .u64 (c3:Int)∧Blk wr (w.heap.size+2) 26 #[.int .u64 (s0:Int),.int .u64 (s1:Int),.int .u64 (s2:Int),.int .u64 (s3:Int)]))) (λ_ i _=>4 - (intOf i).toNat)
 case atStart=>exact ⟨Ac w _ _ _,((Blk.new w _ _).alloc _).alloc _,(AZ w _ _ _).alloc _,Lib.hid (.inl ⟨rfl,rfl,Ax w _ _ _ _⟩)⟩
 case round =>
  obtain ⟨hb,BX,BY,HI⟩:=hrel
  have lX:=BX.lt
  have lY:=BY.lt
  rcases HI.out with ⟨rfl,rfl,BW⟩ | ⟨rfl,rfl,BW⟩ | ⟨rfl,rfl,BW⟩ | ⟨rfl,rfl,BW⟩ | ⟨rfl,rfl,BW⟩
  ·clear HI
   have px:wr.cell? ⟨w.heap.size,0,none⟩=some (.int .u64 (x0:Int)):=BX.cell 0
   have py:wr.cell? ⟨w.heap.size+1,0,none⟩=some (.int .u64 (y0:Int)):=BY.cell 0
   go_wp2
   refine AJ (λj=>j == 13) kZ ?_
   try simp only [Act.put]
   refine tk 0 U ?_
   refine tk 1 U ?_
   refine tk 2 U ?_
   try simp only [aPS]
   refine tkw 3 U (YieldsG.pure (v:=.int .u64 (x0:Int)) (by rfl) (λw9 h9=>by have hz:=(Below.cell (p:=⟨w.heap.size,0,none⟩) h9 lX).trans px; go_simp; first | done | simp [hz])) ?_
   try simp only [aPS]
   refine tk 4 U ?_
   refine tk 5 U ?_
   try simp only [aPS]
   refine tkw 6 U (YieldsG.pure (v:=.int .u64 (y0:Int)) (by rfl) (λw9 h9=>by have hz:=(Below.cell (p:=⟨w.heap.size+1,0,none⟩) h9 lY).trans py; go_simp; first | done | simp [hz])) ?_
   try simp only [aPS]
   refine tk 7 U ?_
   try simp only [aPS]
   refine tkw 8 U (YieldsG.pure (v:=.tuple #[.int .u64 (s0:Int),.int .u64 (c0:Int)]) (by rfl) (λw9 h9=>by go_simp)) ?_
   try simp only [aPS]
   refine tk 9 U ?_
   refine tk 10 U ?_
   try simp only [aPS]
   refine Aa 11 U kZ (λ_ _ _ h=>h) (λ_=>YieldsG.pure (by rfl) (λw9 _=>by go_simp; try with_reducible rfl)) ?_
   try simp only [aPS]
   refine tk 12 U ?_
   try simp only [aPS]
   refine Al 13 U kZ (by rfl) (λu hu K hK=>?_)
   have BX:=Gr.blk hu BX
   have BY:=Gr.blk hu BY
   have BW:=Gr.blk hu BW
   have hb:=Below.gr hb hu
   have pc:u.cell? ⟨w.heap.size+2,0,none⟩=some (.int .u64 0):=BW.cell 0
   have pf:=BW.frozen 0
   clear hu px py
   go_simp
   refine hK _ _ (λe=>by cases e) ?_
   clear hK K
   have hb:=hb.setCell (p:=⟨w.heap.size+2,0,none⟩) (by show w.heap.size≤w.heap.size+2; omega) (.int .u64 (s0:Int))
   have BX:=BX.far (p:=⟨w.heap.size+2,0,none⟩) (by show w.heap.size≠w.heap.size+2; omega) (.int .u64 (s0:Int))
   have BY:=BY.far (p:=⟨w.heap.size+2,0,none⟩) (by show w.heap.size+1≠w.heap.size+2; omega) (.int .u64 (s0:Int))
   have BW:=BW.set_ 0 (.int .u64 (s0:Int))
   refine Aa 14 U kZ (λ_ _ _ h=>h) (λ_=>YieldsG.pure (by rfl) (λw9 _=>by go_simp; try with_reducible rfl)) ?_
   try simp only [aPS]
   refine AH kZ (λv hv=>?_)
   have hb:=Below.gr hb hv
   have BX:=Gr.blk hv BX
   have BY:=Gr.blk hv BY
   have BW:=Gr.blk hv BW
   clear hv pc pf
   go_wp2
   refine ⟨⟨hb,BX,BY,Lib.hid (.inr (.inl (⟨rfl,rfl,BW⟩)))⟩,by decide⟩
  ·clear HI
   have px:wr.cell? ⟨w.heap.size,1,none⟩=some (.int .u64 (x1:Int)):=BX.cell 1
   have py:wr.cell? ⟨w.heap.size+1,1,none⟩=some (.int .u64 (y1:Int)):=BY.cell 1
   go_wp2
   refine AJ (λj=>j == 13) kZ ?_
   try simp only [Act.put]
   refine tk 0 U ?_
   refine tk 1 U ?_
   refine tk 2 U ?_
   try simp only [aPS]
   refine tkw 3 U (YieldsG.pure (v:=.int .u64 (x1:Int)) (by rfl) (λw9 h9=>by have hz:=(Below.cell (p:=⟨w.heap.size,1,none⟩) h9 lX).trans px; go_simp; first | done | simp [hz])) ?_
   try simp only [aPS]
   refine tk 4 U ?_
   refine tk 5 U ?_
   try simp only [aPS]
   refine tkw 6 U (YieldsG.pure (v:=.int .u64 (y1:Int)) (by rfl) (λw9 h9=>by have hz:=(Below.cell (p:=⟨w.heap.size+1,1,none⟩) h9 lY).trans py; go_simp; first | done | simp [hz])) ?_
   try simp only [aPS]
   refine tk 7 U ?_
   try simp only [aPS]
   refine tkw 8 U (YieldsG.pure (v:=.tuple #[.int .u64 (s1:Int),.int .u64 (c1:Int)]) (by rfl) (λw9 h9=>by go_simp)) ?_
   try simp only [aPS]
   refine tk 9 U ?_
   refine tk 10 U ?_
   try simp only [aPS]
   refine Aa 11 U kZ (λ_ _ _ h=>h) (λ_=>YieldsG.pure (by rfl) (λw9 _=>by go_simp; try with_reducible rfl)) ?_
   try simp only [aPS]
   refine tk 12 U ?_
   try simp only [aPS]
   refine Al 13 U kZ (by rfl) (λu hu K hK=>?_)
   have BX:=Gr.blk hu BX
   have BY:=Gr.blk hu BY
   have BW:=Gr.blk hu BW
   have hb:=Below.gr hb hu
   have pc:u.cell? ⟨w.heap.size+2,1,none⟩=some (.int .u64 0):=BW.cell 1
   have pf:=BW.frozen 1
   clear hu px py
   go_simp
   refine hK _ _ (λe=>by cases e) ?_
   clear hK K
   have hb:=hb.setCell (p:=⟨w.heap.size+2,1,none⟩) (by show w.heap.size≤w.heap.size+2; omega) (.int .u64 (s1:Int))
   have BX:=BX.far (p:=⟨w.heap.size+2,1,none⟩) (by show w.heap.size≠w.heap.size+2; omega) (.int .u64 (s1:Int))
   have BY:=BY.far (p:=⟨w.heap.size+2,1,none⟩) (by show w.heap.size+1≠w.heap.size+2; omega) (.int .u64 (s1:Int))
   have BW:=BW.set_ 1 (.int .u64 (s1:Int))
   refine Aa 14 U kZ (λ_ _ _ h=>h) (λ_=>YieldsG.pure (by rfl) (λw9 _=>by go_simp; try with_reducible rfl)) ?_
   try simp only [aPS]
   refine AH kZ (λv hv=>?_)
   have hb:=Below.gr hb hv
   have BX:=Gr.blk hv BX
   have BY:=Gr.blk hv BY
   have BW:=Gr.blk hv BW
   clear hv pc pf
   go_wp2
   refine ⟨⟨hb,BX,BY,Lib.hid (.inr (.inr (.inl (⟨rfl,rfl,BW⟩))))⟩,by decide⟩
  ·clear HI
   have px:wr.cell? ⟨w.heap.size,2,none⟩=some (.int .u64 (x2:Int)):=BX.cell 2
   have py:wr.cell? ⟨w.heap.size+1,2,none⟩=some (.int .u64 (y2:Int)):=BY.cell 2
   go_wp2
   refine AJ (λj=>j == 13) kZ ?_
   try simp only [Act.put]
   refine tk 0 U ?_
   refine tk 1 U ?_
   refine tk 2 U ?_
   try simp only [aPS]
   refine tkw 3 U (YieldsG.pure (v:=.int .u64 (x2:Int)) (by rfl) (λw9 h9=>by have hz:=(Below.cell (p:=⟨w.heap.size,2,none⟩) h9 lX).trans px; go_simp; first | done | simp [hz])) ?_
   try simp only [aPS]
   refine tk 4 U ?_
   refine tk 5 U ?_
   try simp only [aPS]
   refine tkw 6 U (YieldsG.pure (v:=.int .u64 (y2:Int)) (by rfl) (λw9 h9=>by have hz:=(Below.cell (p:=⟨w.heap.size+1,2,none⟩) h9 lY).trans py; go_simp; first | done | simp [hz])) ?_
   try simp only [aPS]
   refine tk 7 U ?_
   try simp only [aPS]
   refine tkw 8 U (YieldsG.pure (v:=.tuple #[.int .u64 (s2:Int),.int .u64 (c2:Int)]) (by rfl) (λw9 h9=>by go_simp)) ?_
   try simp only [aPS]
   refine tk 9 U ?_
   refine tk 10 U ?_
   try simp only [aPS]
   refine Aa 11 U kZ (λ_ _ _ h=>h) (λ_=>YieldsG.pure (by rfl) (λw9 _=>by go_simp; try with_reducible rfl)) ?_
   try simp only [aPS]
   refine tk 12 U ?_
   try simp only [aPS]
   refine Al 13 U kZ (by rfl) (λu hu K hK=>?_)
   have BX:=Gr.blk hu BX
   have BY:=Gr.blk hu BY
   have BW:=Gr.blk hu BW
   have hb:=Below.gr hb hu
   have pc:u.cell? ⟨w.heap.size+2,2,none⟩=some (.int .u64 0):=BW.cell 2
   have pf:=BW.frozen 2
   clear hu px py
   go_simp
   refine hK _ _ (λe=>by cases e) ?_
   clear hK K
   have hb:=hb.setCell (p:=⟨w.heap.size+2,2,none⟩) (by show w.heap.size≤w.heap.size+2; omega) (.int .u64 (s2:Int))
   have BX:=BX.far (p:=⟨w.heap.size+2,2,none⟩) (by show w.heap.size≠w.heap.size+2; omega) (.int .u64 (s2:Int))
   have BY:=BY.far (p:=⟨w.heap.size+2,2,none⟩) (by show w.heap.size+1≠w.heap.size+2; omega) (.int .u64 (s2:Int))
   have BW:=BW.set_ 2 (.int .u64 (s2:Int))
   refine Aa 14 U kZ (λ_ _ _ h=>h) (λ_=>YieldsG.pure (by rfl) (λw9 _=>by go_simp; try with_reducible rfl)) ?_
   try simp only [aPS]
   refine AH kZ (λv hv=>?_)
   have hb:=Below.gr hb hv
   have BX:=Gr.blk hv BX
   have BY:=Gr.blk hv BY
   have BW:=Gr.blk hv BW
   clear hv pc pf
   go_wp2
   refine ⟨⟨hb,BX,BY,Lib.hid (.inr (.inr (.inr (.inl (⟨rfl,rfl,BW⟩)))))⟩,by decide⟩
  ·clear HI
   have px:wr.cell? ⟨w.heap.size,3,none⟩=some (.int .u64 (x3:Int)):=BX.cell 3
   have py:wr.cell? ⟨w.heap.size+1,3,none⟩=some (.int .u64 (y3:Int)):=BY.cell 3
   go_wp2
   refine AJ (λj=>j == 13) kZ ?_
   try simp only [Act.put]
   refine tk 0 U ?_
   refine tk 1 U ?_
   refine tk 2 U ?_
   try simp only [aPS]
   refine tkw 3 U (YieldsG.pure (v:=.int .u64 (x3:Int)) (by rfl) (λw9 h9=>by have hz:=(Below.cell (p:=⟨w.heap.size,3,none⟩) h9 lX).trans px; go_simp; first | done | simp [hz])) ?_
   try simp only [aPS]
   refine tk 4 U ?_
   refine tk 5 U ?_
   try simp only [aPS]
   refine tkw 6 U (YieldsG.pure (v:=.int .u64 (y3:Int)) (by rfl) (λw9 h9=>by have hz:=(Below.cell (p:=⟨w.heap.size+1,3,none⟩) h9 lY).trans py; go_simp; first | done | simp [hz])) ?_
   try simp only [aPS]
   refine tk 7 U ?_
   try simp only [aPS]
   refine tkw 8 U (YieldsG.pure (v:=.tuple #[.int .u64 (s3:Int),.int .u64 (c3:Int)]) (by rfl) (λw9 h9=>by go_simp)) ?_
   try simp only [aPS]
   refine tk 9 U ?_
   refine tk 10 U ?_
   try simp only [aPS]
   refine Aa 11 U kZ (λ_ _ _ h=>h) (λ_=>YieldsG.pure (by rfl) (λw9 _=>by go_simp; try with_reducible rfl)) ?_
   try simp only [aPS]
   refine tk 12 U ?_
   try simp only [aPS]
   refine Al 13 U kZ (by rfl) (λu hu K hK=>?_)
   have BX:=Gr.blk hu BX
   have BY:=Gr.blk hu BY
   have BW:=Gr.blk hu BW
   have hb:=Below.gr hb hu
   have pc:u.cell? ⟨w.heap.size+2,3,none⟩=some (.int .u64 0):=BW.cell 3
   have pf:=BW.frozen 3
   clear hu px py
   go_simp
   refine hK _ _ (λe=>by cases e) ?_
   clear hK K
   have hb:=hb.setCell (p:=⟨w.heap.size+2,3,none⟩) (by show w.heap.size≤w.heap.size+2; omega) (.int .u64 (s3:Int))
   have BX:=BX.far (p:=⟨w.heap.size+2,3,none⟩) (by show w.heap.size≠w.heap.size+2; omega) (.int .u64 (s3:Int))
   have BY:=BY.far (p:=⟨w.heap.size+2,3,none⟩) (by show w.heap.size+1≠w.heap.size+2; omega) (.int .u64 (s3:Int))
   have BW:=BW.set_ 3 (.int .u64 (s3:Int))
   refine Aa 14 U kZ (λ_ _ _ h=>h) (λ_=>YieldsG.pure (by rfl) (λw9 _=>by go_simp; try with_reducible rfl)) ?_
   try simp only [aPS]
   refine AH kZ (λv hv=>?_)
   have hb:=Below.gr hb hv
   have BX:=Gr.blk hv BX
   have BY:=Gr.blk hv BY
   have BW:=Gr.blk hv BW
   clear hv pc pf
   go_wp2
   refine ⟨⟨hb,BX,BY,Lib.hid (.inr (.inr (.inr (.inr (⟨rfl,rfl,BW⟩)))))⟩,by decide⟩
  ·clear HI
   obtain ⟨s,hsd⟩:=xE (s0+18446744073709551616*s1+340282366920938463463374607431768211456*s2+6277101735386680763835789423207666416102355444464034512896*s3)
   have hf:=hs.out
   have hl:=hlt.out
   have hn:=HF.out
   rw [← hsd] at hf hl hn
   have BS:=BW.eq_ (Bc hf.symm).symm
   have HS:=Lib.hid (And.intro hl hn)
   clear hf hl hn hsd
   go_wp2_with (first | ((with_reducible refine AD (d:=some 24) ?_); refine AB U _ _ U (w.heap.size+2) rfl s _ _ _ BS (AU s) Au U kZ ?_) | ((with_reducible refine AE ?_); refine AA U _ _ _ U (w.heap.size+2) (fcs s) U U _ _ BS kZ (by rfl) (AG _) ?_; intro w9 hL9 hB9 hK9))
   exact bodyPost_ret (A9 U _ _ (w.heap.size+2) _ _ _ _ U hL9 U Au U kZ) rfl ⟨⟨s,c3,HS.out.1,HK.out,HS.out.2,rfl⟩,hb.trans (hB9 _ om)⟩
theorem HO (w:World) (x y s k:Nat) (hx:x<(2^256)) (hy:y<(2^256)) (hs:s<(2^256)) (he:s+y=x+(2^256)*k) :
  Calls Tryz.prog 197 #[fv x,fv y] w λe w'=>e=.returned (.tuple #[fv s,.int .u64 (k:Int)])∧Below w.heap.size w w':=by
 refine (IE w x y hx hy).mono ?_
 rintro e w' ⟨⟨s',k',hs',hk',he',rfl⟩,hb⟩
 obtain rfl:k'=k:=om
 obtain rfl:s'=s:=om
 exact ⟨rfl,hb⟩
theorem NK (w:World) (p:Nat) (hp:p=115792089237316195423570985008687907852837564279074904382605163141518161494337):Calls Tryz.prog 198 #[] w λe w'=>e=.returned (fv p)∧Below w.heap.size w w':=by
 subst hp; exact Rh w
theorem Ky (w:World) (x k z:Nat) (dk:Int) (hdk:dk=(k:Int)) (hx:x<(2^256)) (hk:k≤1) (h2:x+(2^256)*k<115792089237316195423570985008687907852837564279074904382605163141518161494337+115792089237316195423570985008687907852837564279074904382605163141518161494337) (hz:z=(x+(2^256)*k)%pM):Calls Tryz.prog 162 #[fv x,.int .u64 dk] w λe w'=>e=.returned (fv z)∧Below w.heap.size w w':=by
 subst hdk
 obtain ⟨p,hp⟩:∃ p,p=115792089237316195423570985008687907852837564279074904382605163141518161494337:=⟨_,rfl⟩
 rw [Er, ← hp] at hz
 rw [← hp] at h2
 have hpl:p<(2^256):=om
 obtain ⟨s,b,hs,hb,he⟩:∃ s b:Nat,s<(2^256)∧b≤1∧s+p=x+(2^256)*b:=by
  by_cases h:p≤x
  ·exact ⟨x - p,0,by omega,by omega,by omega⟩
  ·exact ⟨x+(2^256) - p,1,by omega,by omega,by omega⟩
 have cm:=λw=>HO w x p s b hx hpl hs he
 have co:=λw=>NK w p hp
 have t1:b>k→z=x:=λh=>by
  obtain rfl:k=0:=om
  rw [hz,Nat.mod_eq_of_lt om]; omega
 have t2:¬ b>k→z=s:=λh=>by
  rw [hz,Nat.mod_eq_sub_mod om,Nat.mod_eq_of_lt om]
  rcases (show k=0∨k=1 by omega) with rfl|rfl <;> omega
 obtain ⟨x0,x1,x2,x3,fx⟩:=Ae x hx
 have FX:=Lib.hid fx
 rw [fx]
 clear fx hx hz hp h2 hpl hs hb he hk
 go_enter Tryz.func162,Tryz.ntmps162
 go_wp2
 refine AJ (λj=>j == 7) kZ ?_
 try simp only [Act.put]
 refine tkw 0 U (YieldsG.loadF (by rfl) _ _ U w.heap.size rfl x _ _ ((Blk.new w _ _).alloc _) FX.out Au U kZ) ?_
 try simp only [aPS]
 refine tkw 1 U (YieldsG.call (v:=fv p) (by rfl) 198 _ (λw9=>by go_simp; try rfl) (λw9 h9=>co w9)) ?_
 try simp only [aPS]
 refine tkw 2 U (YieldsG.call (v:=.tuple #[fv s,.int .u64 (b:Int)]) (by rfl) 197 _ (λw9=>by go_simp; try rfl) (λw9 h9=>cm w9)) ?_
 try simp only [aPS]
 refine tk 3 U ?_
 refine tk 4 U ?_
 try simp only [aPS]
 refine Aa 5 U kZ (λ_ _ _ h=>h) (λ_=>YieldsG.pure (by rfl) (λw9 _=>by go_simp; try with_reducible rfl)) ?_
 try simp only [aPS]
 refine Al 6 U kZ (by rfl) (λw3 h3 K hK=>?_)
 go_simp
 refine hK _ _ (λ_=>BK _ _) ?_
 clear hK K
 try simp only [aPS]
 refine BU 7 U kZ (by rfl) _ _ _ U w3.heap.size (fcs s) U U _ _ (Blk.new w3 _ _) kZ (by rfl) (AG _) rfl (λw6 h6 w7 hB7 hL7=>?_)
 try simp only [Act.put]
 refine Aa 8 U kZ (λ_ _ _ h=>h) (λ_=>YieldsG.pure (by rfl) (λw9 _=>by go_simp; try with_reducible rfl)) ?_
 try simp only [aPS]
 refine AH kZ (λw8 h8=>?_)
 have BS:=Gr.blk h8 hL7
 have hsz:w.heap.size+2≤w3.heap.size:=by have:=h3.size; simp at this; omega
 have BX:Blk w8 w.heap.size 26 _:=Gr.blk h8 (Blk.below (B:=w3.heap.size) (Gr.blk h6 (Blk.alloc (Gr.blk h3 ((Blk.new w _ _).alloc _)) _)) (hB7 _ (Nat.le_refl _)) om)
 have BR:Blk w8 (w.heap.size+1) 26 _:=Gr.blk h8 (Blk.below (B:=w3.heap.size) (Gr.blk h6 (Blk.alloc (Gr.blk h3 (AZ w _ _ _)) _)) (hB7 _ (Nat.le_refl _)) om)
 have hB:Below w.heap.size w w8:=Below.gr ((Below.gr ((Below.gr (Ad w _ _) h3).alloc om _) h6).trans (hB7 _ om)) h8
 clear h3 h6 hB7 hL7 h8 cm co
 by_cases hbk:b>k
 ·have HZ:=Lib.hid (t1 hbk)
  have p0:(b:Int)>(k:Int):=om
  clear t1 t2 hbk
  go_wp2_with (first | ((with_reducible refine AD (d:=some 16) ?_); refine AB U _ _ U w.heap.size rfl x _ _ _ BX FX.out Au U kZ ?_) | ((with_reducible refine AE ?_); refine AA U _ _ _ U (w.heap.size+1) (fcs x) U U _ _ BR kZ (by rfl) (AG _) ?_; intro w9 hL9 hB9 hK9))
  exact bodyPost_ret (results_cell_row U _ _ (w.heap.size+1) _ _ (0,0) _ U hL9 Au U kZ) rfl ⟨by rw [HZ.out]; rfl,hB.trans (hB9 _ om)⟩
 ·have HZ:=Lib.hid (t2 hbk)
  have p0:¬ (b:Int)>(k:Int):=om
  clear t1 t2 hbk
  go_wp2_with (first | ((with_reducible refine AD (d:=some 17) ?_); refine AB U _ _ U w3.heap.size rfl s _ _ _ BS (AU s) Au U kZ ?_) | ((with_reducible refine AE ?_); refine AA U _ _ _ U (w.heap.size+1) (fcs s) U U _ _ BR kZ (by rfl) (AG _) ?_; intro w9 hL9 hB9 hK9))
  exact bodyPost_ret (results_cell_row U _ _ (w.heap.size+1) _ _ (0,0) _ U hL9 Au U kZ) rfl ⟨by rw [HZ.out]; rfl,hB.trans (hB9 _ om)⟩
theorem norm_any (w:World) (x:Nat) (hx:x<(2^256)):Calls Tryz.prog 127 #[fv x] w λe w'=>e=.returned (fv (x%pM))∧Below w.heap.size w w':=by
 obtain ⟨z,hz⟩:=xE (x%pM)
 have cr:=λw=>Ky w x 0 z 0 U hx om om (by rw [hz]; rfl)
 obtain ⟨x0,x1,x2,x3,fx⟩:=Ae x hx
 have FX:=Lib.hid fx
 rw [fx] at cr ⊢
 rw [← hz]
 clear fx hx hz
 go_enter Tryz.func127,Tryz.ntmps127
 go_wp2_with fail
 refine (cr _).mono ?_
 rintro e w1 ⟨rfl,hb1⟩
 have hg:=Below.gr (Ad w _ _) hb1
 have hR:Blk w1 (w.heap.size+1) 26 _:=Gr.blk hb1 (AZ w _ _ _)
 go_wp2_with ((with_reducible refine AE ?_); refine AA U _ _ _ U (w.heap.size+1) (fcs z) U U _ _ hR kZ (by rfl) (AG _) ?_; intro w4 hL hB4 hK4)
 exact bodyPost_ret (results_cell_row U _ _ (w.heap.size+1) _ _ (0,0) _ U hL Au U kZ) rfl ⟨rfl,hg.trans (hB4 _ om)⟩
theorem bytes_any (w:World) (x:Nat) (hx:x<(2^256)):Calls Tryz.prog 126 #[fv x] w λe w'=>e=.returned (.agg ((BA (x%pM)).map bv).toArray)∧Below w.heap.size w w':=by
 obtain ⟨z,hz⟩:=xE (x%pM)
 have hzl:z<(2^256):=by rw [hz]; exact mod_lt x
 have cn:∀ w,Calls Tryz.prog 127 #[fv x] w λe w'=>e=.returned (fv z)∧Below w.heap.size w w':=by
  intro w; rw [hz]; exact norm_any w x hx
 rw [← hz]
 obtain ⟨z0,z1,z2,z3,a0,a1,a2,a3,ez,fz⟩:=Aw z hzl
 have HZ:=Lib.hid (And.intro a0 (And.intro a1 (And.intro a2 (And.intro a3 ez))))
 have FZ:=Lib.hid fz
 obtain ⟨x0,x1,x2,x3,fx⟩:=Ae x hx
 rw [fx] at cn ⊢
 clear fx fz hz hzl a0 a1 a2 a3 ez hx
 have hZB:Hid ((List.replicate 32 (Value.int .u8 0)).toArray=((D5 z 0).map bv).toArray):=Lib.hid (by simp [D5,Ha,bv])
 go_enter Tryz.func126,Tryz.ntmps126
 go_wp2_with fail
 refine (cn _).mono ?_
 rintro e w1 ⟨rfl,hb⟩
 have BR:Blk w1 (w.heap.size+1) 22 _:=Gr.blk hb (Blk.alloc (AZ w _ _ _) _)
 have BB:Blk w1 (w.heap.size+2) 22 ((D5 z 0).map bv).toArray:=Blk.eq_ (Gr.blk hb (Ax w _ _ _ _)) hZB.out
 have hB:=Below.gr (Ac w _ _ _) hb
 have sz:=BB.lt
 clear hb cn
 go_wp2_with ((with_reducible refine AE ?_); refine AA U _ _ _ U w1.heap.size (fcs z) U U _ _ (Blk.new w1 _ _) kZ (by rfl) (AG _) ?_; intro w2 hL2 hB2 hK2; have CR:=hK2 _ om _ _ (BR.alloc _); have CB:=hK2 _ om _ _ (BB.alloc _); have hC:=(hB.alloc om _).trans (hB2 _ om))
 go_loopw [8] (λi wr=>∃ k:Nat,k≤32∧i=.int .i64 (k:Int)∧Below w.heap.size w wr∧Blk wr (w.heap.size+2) 22 ((D5 z k).map bv).toArray∧Blk wr w1.heap.size 26 #[.int .u64 (z0:Int),.int .u64 (z1:Int),.int .u64 (z2:Int),.int .u64 (z3:Int)]∧Blk wr (w.heap.size+1) 22 (List.replicate 32 (Value.int .u8 0)).toArray) (λi _=>32 - (intOf i).toNat)
 case atStart=>exact ⟨0,by omega,rfl,hC,CB,hL2.eq_ (Bc FZ.out),CR⟩
 case round =>
  obtain ⟨k,hk,rfl,hb,hP,hN,hR⟩:=hrel
  by_cases hlt:k<32
  ·have ce:∀ j,j<32→∃ v,wr.cell? ⟨w.heap.size+1+1,j,none⟩=some v:=λj hj=>⟨_,(hP.cell j).trans (Array.getElem?_eq_getElem (by simp [G_ z k hk]; exact hj))⟩
   obtain ⟨v,hv⟩:=ce (31 - k) om
   have ff:=hP.frozen (31 - k)
   have q0:wr.cell? ⟨w1.heap.size,0,none⟩=some (.int .u64 (z0:Int)):=hN.cell 0
   have q1:wr.cell? ⟨w1.heap.size,1,none⟩=some (.int .u64 (z1:Int)):=hN.cell 1
   have q2:wr.cell? ⟨w1.heap.size,2,none⟩=some (.int .u64 (z2:Int)):=hN.cell 2
   have q3:wr.cell? ⟨w1.heap.size,3,none⟩=some (.int .u64 (z3:Int)):=hN.cell 3
   have hPn:=hP.set_ (31 - k) (bv (Ey z k))
   rw [K8 z k hlt] at hPn
   have HP:=Lib.hid hPn
   clear hPn ce
   have HR:=Lib.hid (And.intro hb (And.intro hN hR))
   clear hb hP hN hR hk
   have hsz:w.heap.size+2<w1.heap.size:=sz
   rcases (EG k) with rfl|rfl|rfl|rfl|rfl|rfl|rfl|rfl|rfl|rfl|rfl|rfl|rfl|rfl|rfl|rfl|rfl|rfl|rfl|rfl|rfl|rfl|rfl|rfl|rfl|rfl|rfl|rfl|rfl|rfl|rfl|rfl
   all_goals
    go_wp2
    obtain ⟨a0,a1,a2,a3,ez⟩:=HZ.out
    refine ⟨⟨_,by decide,rfl,HR.out.1.setCell (by show w.heap.size≤w.heap.size+1+1; omega) _,HP.out.val (by rw [OA]; congr 1; omega),HR.out.2.1.far (by show w1.heap.size≠w.heap.size+1+1; omega) _,HR.out.2.2.far (by show w.heap.size+1≠w.heap.size+1+1; omega) _⟩,by simp [intOf]⟩
  ·have p1:¬ (k:Int)<32:=om
   obtain rfl:k=32:=om
   rw [Jr] at hP
   have HI:=Lib.hid (BT z)
   have HL:=Lib.hid hP
   have HR:=Lib.hid hR
   clear hN hP hR
   go_wp2_with (first | ((with_reducible refine AD (d:=some 24) ?_); refine Az U _ _ U (w.heap.size+2) rfl _ _ _ HL.out Il U (C0 HI.out) ?_) | ((with_reducible refine AE ?_); refine AA U _ _ _ U (w.heap.size+1) ((BA z).map bv).toArray U U _ _ HR.out (C0 HI.out) (by simp [HI.out]) (Qt _) ?_; intro w9 hL9 hB9 hK9))
   exact bodyPost_ret (results_cell_row U _ _ (w.heap.size+1) _ _ (0,0) _ U hL9 Il U (C0 HI.out)) U ⟨rfl,hb.trans (hB9 _ om)⟩
end Sc
end
section
section
open Go.RowKit Go.Lib
theorem bytes_any (w:World) (x:Nat) (hx:x<(2^256)):Calls Tryz.prog 184 #[fv x] w λe w'=>e=.returned (.agg ((BA (x%pM)).map bv).toArray)∧Below w.heap.size w w':=by
 obtain ⟨z,hz⟩:=xE (x%pM)
 have hzl:z<(2^256):=by rw [hz]; exact mod_lt x
 have cn:∀ w,Calls Tryz.prog 229 #[fv x] w λe w'=>e=.returned (fv z)∧Below w.heap.size w w':=by
  intro w; rw [hz]; exact norm_any w x hx
 rw [← hz]
 obtain ⟨z0,z1,z2,z3,a0,a1,a2,a3,ez,fz⟩:=Aw z hzl
 have HZ:=Lib.hid (And.intro a0 (And.intro a1 (And.intro a2 (And.intro a3 ez))))
 have FZ:=Lib.hid fz
 obtain ⟨x0,x1,x2,x3,fx⟩:=Ae x hx
 rw [fx] at cn ⊢
 clear fx fz hz hzl a0 a1 a2 a3 ez hx
 have hZB:Hid ((List.replicate 32 (Value.int .u8 0)).toArray=((D5 z 0).map bv).toArray):=Lib.hid (by simp [D5,Ha,bv])
 go_enter Tryz.func184,Tryz.ntmps184
 go_wp2_with fail
 refine (cn _).mono ?_
 rintro e w1 ⟨rfl,hb⟩
 have BR:Blk w1 (w.heap.size+1) 22 _:=Gr.blk hb (Blk.alloc (AZ w _ _ _) _)
 have BB:Blk w1 (w.heap.size+2) 22 ((D5 z 0).map bv).toArray:=Blk.eq_ (Gr.blk hb (Ax w _ _ _ _)) hZB.out
 have hB:=Below.gr (Ac w _ _ _) hb
 have sz:=BB.lt
 clear hb cn
 go_wp2_with ((with_reducible refine AE ?_); refine AA U _ _ _ U w1.heap.size (fcs z) U U _ _ (Blk.new w1 _ _) kZ (by rfl) (AG _) ?_; intro w2 hL2 hB2 hK2; have CR:=hK2 _ om _ _ (BR.alloc _); have CB:=hK2 _ om _ _ (BB.alloc _); have hC:=(hB.alloc om _).trans (hB2 _ om))
 go_loopw [8] (λi wr=>∃ k:Nat,k≤32∧i=.int .i64 (k:Int)∧Below w.heap.size w wr∧Blk wr (w.heap.size+2) 22 ((D5 z k).map bv).toArray∧Blk wr w1.heap.size 35 #[.int .u64 (z0:Int),.int .u64 (z1:Int),.int .u64 (z2:Int),.int .u64 (z3:Int)]∧Blk wr (w.heap.size+1) 22 (List.replicate 32 (Value.int .u8 0)).toArray) (λi _=>32 - (intOf i).toNat)
 case atStart=>exact ⟨0,by omega,rfl,hC,CB,hL2.eq_ (Bc FZ.out),CR⟩
 case round =>
  obtain ⟨k,hk,rfl,hb,hP,hN,hR⟩:=hrel
  by_cases hlt:k<32
  ·have ce:∀ j,j<32→∃ v,wr.cell? ⟨w.heap.size+1+1,j,none⟩=some v:=λj hj=>⟨_,(hP.cell j).trans (Array.getElem?_eq_getElem (by simp [G_ z k hk]; exact hj))⟩
   obtain ⟨v,hv⟩:=ce (31 - k) om
   have ff:=hP.frozen (31 - k)
   have q0:wr.cell? ⟨w1.heap.size,0,none⟩=some (.int .u64 (z0:Int)):=hN.cell 0
   have q1:wr.cell? ⟨w1.heap.size,1,none⟩=some (.int .u64 (z1:Int)):=hN.cell 1
   have q2:wr.cell? ⟨w1.heap.size,2,none⟩=some (.int .u64 (z2:Int)):=hN.cell 2
   have q3:wr.cell? ⟨w1.heap.size,3,none⟩=some (.int .u64 (z3:Int)):=hN.cell 3
   have hPn:=hP.set_ (31 - k) (bv (Ey z k))
   rw [K8 z k hlt] at hPn
   have HP:=Lib.hid hPn
   clear hPn ce
   have HR:=Lib.hid (And.intro hb (And.intro hN hR))
   clear hb hP hN hR hk
   have hsz:w.heap.size+2<w1.heap.size:=sz
   rcases (EG k) with rfl|rfl|rfl|rfl|rfl|rfl|rfl|rfl|rfl|rfl|rfl|rfl|rfl|rfl|rfl|rfl|rfl|rfl|rfl|rfl|rfl|rfl|rfl|rfl|rfl|rfl|rfl|rfl|rfl|rfl|rfl|rfl
   all_goals
    go_wp2
    obtain ⟨a0,a1,a2,a3,ez⟩:=HZ.out
    refine ⟨⟨_,by decide,rfl,HR.out.1.setCell (by show w.heap.size≤w.heap.size+1+1; omega) _,HP.out.val (by rw [OA]; congr 1; omega),HR.out.2.1.far (by show w1.heap.size≠w.heap.size+1+1; omega) _,HR.out.2.2.far (by show w.heap.size+1≠w.heap.size+1+1; omega) _⟩,by simp [intOf]⟩
  ·have p1:¬ (k:Int)<32:=om
   obtain rfl:k=32:=om
   rw [Jr] at hP
   have HI:=Lib.hid (BT z)
   have HL:=Lib.hid hP
   have HR:=Lib.hid hR
   clear hN hP hR
   go_wp2_with (first | ((with_reducible refine AD (d:=some 24) ?_); refine Az U _ _ U (w.heap.size+2) rfl _ _ _ HL.out Il U (C0 HI.out) ?_) | ((with_reducible refine AE ?_); refine AA U _ _ _ U (w.heap.size+1) ((BA z).map bv).toArray U U _ _ HR.out (C0 HI.out) (by simp [HI.out]) (Qt _) ?_; intro w9 hL9 hB9 hK9))
   exact bodyPost_ret (results_cell_row U _ _ (w.heap.size+1) _ _ (0,0) _ U hL9 Il U (C0 HI.out)) U ⟨rfl,hb.trans (hB9 _ om)⟩
end
end
section
section
open Go.RowKit Go.Lib
def readS (l:AF):Nat×Bool:=if A2 l<pM then (A2 l,true) else (0,false)
theorem read_any (w:World) (l:AF) (hl:l.length=32):Calls Tryz.prog 222 #[.agg (l.map bv).toArray] w λe w'=>e=.returned (.tuple #[fv (readS l).1,.bool (readS l).2])∧Below w.heap.size w w':=by
 have HL:=Lib.hid hl
 clear hl
 go_enter Tryz.func222,Tryz.ntmps222
 go_wp2_with ((with_reducible refine AD (d:=some 7) ?_); refine Az U _ _ U w.heap.size U _ _ _ (((Blk.new w _ _).alloc _).alloc _) Il U (C0 HL.out) ?_)
 go_loopw [8] (λi wr=>∃ k y0 y1 y2 y3:Nat,k≤32∧i=.int .i64 (k:Int)∧Hid (y0=wdB l k 0∧y1=wdB l k 1∧y2=wdB l k 2∧y3=wdB l k 3)∧Below w.heap.size w wr∧Blk wr (w.heap.size+2) 35 #[.int .u64 (y3:Int),.int .u64 (y2:Int),.int .u64 (y1:Int),.int .u64 (y0:Int)]∧Blk wr (w.heap.size+1) 35 #[.int .u64 0,.int .u64 0,.int .u64 0,.int .u64 0]) (λi _=>32 - (intOf i).toNat)
 case atStart=>exact ⟨0,0,0,0,0,by omega,rfl,Lib.hid ⟨(CS l 0).symm,(CS l 1).symm,(CS l 2).symm,(CS l 3).symm⟩,Ac w _ _ _,Ax w _ _ _ _,(AZ w _ _ _).alloc _⟩
 case round =>
  obtain ⟨k,y0,y1,y2,y3,hk,rfl,HY,hb,hP,hR⟩:=hrel
  have q3:wr.cell? ⟨w.heap.size+1+1,0,none⟩=some (.int .u64 (y3:Int)):=hP.cell 0
  have q2:wr.cell? ⟨w.heap.size+1+1,1,none⟩=some (.int .u64 (y2:Int)):=hP.cell 1
  have q1:wr.cell? ⟨w.heap.size+1+1,2,none⟩=some (.int .u64 (y1:Int)):=hP.cell 2
  have q0:wr.cell? ⟨w.heap.size+1+1,3,none⟩=some (.int .u64 (y0:Int)):=hP.cell 3
  have ff:∀ j,wr.frozen? ⟨w.heap.size+1+1,j,none⟩=false:=λj=>hP.frozen j
  by_cases hlt:k<32
  ·obtain ⟨c,hc⟩:∃ c,l[k]? = some c:=⟨l[k]'(by rw [HL.out]; exact hlt),List.getElem?_eq_getElem _⟩
   have HC:=Lib.hid hc
   obtain ⟨m,hm⟩:=xE c.toNat
   have hm8:m<256:=by rw [hm]; exact c.toNat_lt
   have hI:∀ W,(Instr.index 22 (.agg (l.map bv).toArray) (.int .i64 (k:Int))).run Tryz.prog W=.ok (.int .u8 (m:Int)) W:=λW=>by
    rw [GT W l k c hc hlt,hm]; rfl
   have HM:=Lib.hid hm
   have HR:=Lib.hid (And.intro hb (And.intro hP hR))
   clear hb hP hR hc hk hm
   rcases (EG k) with rfl|rfl|rfl|rfl|rfl|rfl|rfl|rfl|rfl|rfl|rfl|rfl|rfl|rfl|rfl|rfl|rfl|rfl|rfl|rfl|rfl|rfl|rfl|rfl|rfl|rfl|rfl|rfl|rfl|rfl|rfl|rfl
   all_goals
    simp only [Int.cast_ofNat_Int] at hI
   all_goals
    first
    | ((have hy:y0<72057594037927936:=by rw [HY.out.1]; exact Dj l _ 0 dZ); (have ho:=Ft y0 m hy hm8); go_wp2; (refine ⟨⟨_,y0*256+m,y1,y2,y3,by decide,rfl,Lib.hid ⟨by rw [HY.out.1,HM.out]; exact (CT l _ 0 c HC.out dZ).symm,by rw [HY.out.2.1]; exact (Aj l _ 1 dZ).symm,by rw [HY.out.2.2.1]; exact (Aj l _ 2 dZ).symm,by rw [HY.out.2.2.2]; exact (Aj l _ 3 dZ).symm⟩,HR.out.1.setCell (by show w.heap.size≤w.heap.size+1+1; omega) _,Blk.eq_ (HR.out.2.1.set_ 3 _) (by rw [show ((y0*256+m:Nat):Int)=(y0:Int)*256+(m:Int) by omega]; rfl),HR.out.2.2.far (by show w.heap.size+1≠w.heap.size+1+1; omega) _⟩,by simp [intOf]⟩))
    | ((have hy:y1<72057594037927936:=by rw [HY.out.2.1]; exact Dj l _ 1 dZ); (have ho:=Ft y1 m hy hm8); go_wp2; (refine ⟨⟨_,y0,y1*256+m,y2,y3,by decide,rfl,Lib.hid ⟨by rw [HY.out.1]; exact (Aj l _ 0 dZ).symm,by rw [HY.out.2.1,HM.out]; exact (CT l _ 1 c HC.out dZ).symm,by rw [HY.out.2.2.1]; exact (Aj l _ 2 dZ).symm,by rw [HY.out.2.2.2]; exact (Aj l _ 3 dZ).symm⟩,HR.out.1.setCell (by show w.heap.size≤w.heap.size+1+1; omega) _,Blk.eq_ (HR.out.2.1.set_ 2 _) (by rw [show ((y1*256+m:Nat):Int)=(y1:Int)*256+(m:Int) by omega]; rfl),HR.out.2.2.far (by show w.heap.size+1≠w.heap.size+1+1; omega) _⟩,by simp [intOf]⟩))
    | ((have hy:y2<72057594037927936:=by rw [HY.out.2.2.1]; exact Dj l _ 2 dZ); (have ho:=Ft y2 m hy hm8); go_wp2; (refine ⟨⟨_,y0,y1,y2*256+m,y3,by decide,rfl,Lib.hid ⟨by rw [HY.out.1]; exact (Aj l _ 0 dZ).symm,by rw [HY.out.2.1]; exact (Aj l _ 1 dZ).symm,by rw [HY.out.2.2.1,HM.out]; exact (CT l _ 2 c HC.out dZ).symm,by rw [HY.out.2.2.2]; exact (Aj l _ 3 dZ).symm⟩,HR.out.1.setCell (by show w.heap.size≤w.heap.size+1+1; omega) _,Blk.eq_ (HR.out.2.1.set_ 1 _) (by rw [show ((y2*256+m:Nat):Int)=(y2:Int)*256+(m:Int) by omega]; rfl),HR.out.2.2.far (by show w.heap.size+1≠w.heap.size+1+1; omega) _⟩,by simp [intOf]⟩))
    | ((have hy:y3<72057594037927936:=by rw [HY.out.2.2.2]; exact Dj l _ 3 dZ); (have ho:=Ft y3 m hy hm8); go_wp2; (refine ⟨⟨_,y0,y1,y2,y3*256+m,by decide,rfl,Lib.hid ⟨by rw [HY.out.1]; exact (Aj l _ 0 dZ).symm,by rw [HY.out.2.1]; exact (Aj l _ 1 dZ).symm,by rw [HY.out.2.2.1]; exact (Aj l _ 2 dZ).symm,by rw [HY.out.2.2.2,HM.out]; exact (CT l _ 3 c HC.out dZ).symm⟩,HR.out.1.setCell (by show w.heap.size≤w.heap.size+1+1; omega) _,Blk.eq_ (HR.out.2.1.set_ 0 _) (by rw [show ((y3*256+m:Nat):Int)=(y3:Int)*256+(m:Int) by omega]; rfl),HR.out.2.2.far (by show w.heap.size+1≠w.heap.size+1+1; omega) _⟩,by simp [intOf]⟩))
  ·have p1:¬ (k:Int)<32:=om
   obtain rfl:k=32:=om
   have b0:y0<18446744073709551616:=by rw [HY.out.1]; exact C1 l _ _
   have b1:y1<18446744073709551616:=by rw [HY.out.2.1]; exact C1 l _ _
   have b2:y2<18446744073709551616:=by rw [HY.out.2.2.1]; exact C1 l _ _
   have b3:y3<18446744073709551616:=by rw [HY.out.2.2.2]; exact C1 l _ _
   obtain ⟨z,hz⟩:=xE (y3+18446744073709551616*y2+340282366920938463463374607431768211456*y1+6277101735386680763835789423207666416102355444464034512896*y0)
   have fz:=DM y3 y2 y1 y0 b3 b2 b1 b0
   rw [← hz] at fz
   have hzl:z<(2^256):=by rw [hz]; exact LH y3 y2 y1 y0 b3 b2 b1 b0
   have hzv:z=A2 l:=by rw [Lc l HL.out,hz,HY.out.1,HY.out.2.1,HY.out.2.2.1,HY.out.2.2.2]
   obtain ⟨n,hn⟩:=xE (z%pM)
   have hnl:n<(2^256):=by rw [hn]; exact mod_lt z
   obtain ⟨b,hbd⟩:=xE (decide (n≠z))
   have eb:∀ W,(binOp .neq 35 (fv n) (fv z)).run Tryz.prog W=.ok (.bool b) W:=λW=>by rw [hbd]; exact run_neq_fv W n z hnl hzl
   have cn:∀ w,Calls Tryz.prog 229 #[fv z] w λe w'=>e=.returned (fv n)∧Below w.heap.size w w':=by
    intro w; rw [hn]; exact norm_any w z hzl
   have hS:readS l=if b=true then (0,false) else (z,true):=by
    unfold readS
    rw [← hzv,hbd,hn]
    by_cases h:z<pM
    ·rw [if_pos h,Nat.mod_eq_of_lt h]; simp
    ·have h2:z%pM≠z:=λe=>h (by rw [← e]; exact mod_lt_p z)
     rw [if_neg h]; simp [h2]
   have HS:=Lib.hid hS
   have FZ:=Lib.hid fz.symm
   have HP:=Lib.hid hP
   clear HY b0 b1 b2 b3 hz fz hzl hzv hn hnl hbd hS q0 q1 q2 q3 ff hP
   go_wp2
   refine AJ (λ_=>false) kZ ?_
   try simp only [Act.put]
   refine tkw 0 U (YieldsG.loadF (by rfl) _ _ U (w.heap.size+2) rfl z _ _ HP.out FZ.out AN U kZ) ?_
   try simp only [aPS]
   refine tkw 1 U (YieldsG.call (v:=fv n) (by rfl) 229 _ (λw9=>by go_simp; try rfl) (λw9 h9=>cn w9)) ?_
   try simp only [aPS]
   refine tkw 2 U (YieldsG.loadF (by rfl) _ _ U (w.heap.size+2) rfl z _ _ HP.out FZ.out AN U kZ) ?_
   try simp only [aPS]
   refine tkw 3 U (YieldsG.pure (v:=.bool b) (by rfl) (λw9 h9=>by go_simp; rw [run_eqGuard_fv]; simp only [Result.andThen_ok,eb])) ?_
   try simp only [aPS]
   refine AH kZ (λu hu=>?_)
   have hbu:=Below.gr hb hu
   have BR:=Gr.blk hu hR
   have BP:=Gr.blk hu HP.out
   clear hu hb hR HP eb cn
   cases b
   ·have HT:Hid (readS l=(z,true)):=Lib.hid (by rw [HS.out]; rfl)
    clear HS
    go_wp2_with (first | ((with_reducible refine AD (d:=some 31) ?_); refine AB U _ _ U (w.heap.size+2) rfl z _ _ _ BP FZ.out AN U kZ ?_) | ((with_reducible refine AE ?_); refine AA U _ _ _ U (w.heap.size+1) (fcs z) U U _ _ BR kZ (by rfl) (AG _) ?_; intro vz hLz hqz hKz))
    exact bodyPost_ret (A9 U _ _ (w.heap.size+1) _ _ _ _ U hLz U AN U kZ) rfl ⟨by rw [HT.out]; rfl,hbu.trans (hqz _ om)⟩
   ·have HT:Hid (readS l=(0,false)):=Lib.hid (by rw [HS.out]; rfl)
    clear HS
    go_wp2_with ((with_reducible refine AE ?_); refine AA U _ _ _ U (w.heap.size+1) _ U U _ _ BR kZ (by rfl) (by simp [Value.oneCell']) ?_; intro vz hLz hqz hKz)
    exact bodyPost_ret (A9 U _ _ (w.heap.size+1) _ _ _ _ U hLz U AN U kZ) rfl ⟨by rw [HT.out]; rfl,hbu.trans (hqz _ om)⟩
end
end
section
section
open Go.RowKit Go.Lib
theorem XK {v1 v2:Value} (w:World) (x y s k:Nat) (h1:fv x=v1) (h2:fv y=v2) (hx:x<(2^256)) (hy:y<(2^256)) (hs:s<(2^256)) (he:s+(2^256)*k=x+y):Calls Tryz.prog 221 #[v1,v2] w λe w'=>e=.returned (fv s)∧Below w.heap.size w w':=by
 subst h1 h2
 obtain ⟨x0,x1,x2,x3,a0,a1,a2,a3,ex,fx⟩:=Aw x hx
 obtain ⟨y0,y1,y2,y3,b0,b1,b2,b3,ey,fy⟩:=Aw y hy
 obtain ⟨s0,c0,d0,k0,e0,r0⟩:=DN x0 y0 a0 b0
 obtain ⟨s1,c1,d1,k1,e1,r1⟩:=C3 x1 y1 c0 a1 b1 k0
 obtain ⟨s2,c2,d2,k2,e2,r2⟩:=C3 x2 y2 c1 a2 b2 k1
 obtain ⟨s3,c3,d3,k3,e3,r3⟩:=C3 x3 y3 c2 a3 b3 k2
 have fin:s0+18446744073709551616*s1+340282366920938463463374607431768211456*s2+6277101735386680763835789423207666416102355444464034512896*s3=s:=om
 have hfs:=DM s0 s1 s2 s3 d0 d1 d2 d3
 rw [fin] at hfs
 have Fd:=Lib.hid hfs
 rw [fx,fy]
 clear fx fy ex ey hx hy hs he a0 a1 a2 a3 b0 b1 b2 b3 d0 d1 d2 d3 k0 k1 k2 k3 e0 e1 e2 e3 fin hfs
 go_enter Tryz.func221,Tryz.ntmps221
 go_wp2_with fail
 go_loopw [5,6] (λbo i wr=>Below w.heap.size w wr∧Blk wr (w.heap.size+1) 87 #[.int .u64 (y0:Int),.int .u64 (y1:Int),.int .u64 (y2:Int),.int .u64 (y3:Int)]∧Blk wr (w.heap.size+2) 87 #[.int .u64 0,.int .u64 0,.int .u64 0,.int .u64 0]∧Hid ((i=.int .i64 0∧bo=.int .u64 0∧Blk wr w.heap.size 87 #[.int .u64 (x0:Int),.int .u64 (x1:Int),.int .u64 (x2:Int),.int .u64 (x3:Int)])∨(i=.int .i64 1∧bo=.int .u64 (c0:Int)∧Blk wr w.heap.size 87 #[.int .u64 (s0:Int),.int .u64 (x1:Int),.int .u64 (x2:Int),.int .u64 (x3:Int)])∨(i=.int .i64 2∧bo=.int .u64 (c1:Int)∧Blk wr w.heap.size 87 #[.int .u64 (s0:Int),.int .u64 (s1:Int),.int .u64 (x2:Int),.int .u64 (x3:Int)])∨(i=.int .i64 3∧bo=.int .u64 (c2:Int)∧Blk wr w.heap.size 87 #[.int .u64 (s0:Int),.int .u64 (s1:Int),.int .u64 (s2:Int),.int .u64 (x3:Int)])∨(i=.int .i64 4∧bo=.int .u64 (c3:Int)∧Blk wr w.heap.size 87 #[.int .u64 (s0:Int),.int .u64 (s1:Int),.int .u64 (s2:Int),.int .u64 (s3:Int)]))) (λ_ i _=>4 - (intOf i).toNat)
 case atStart=>exact ⟨Ac w _ _ _,(AZ w _ _ _).alloc _,Ax w _ _ _ _,Lib.hid (.inl ⟨rfl,rfl,((Blk.new w _ _).alloc _).alloc _⟩)⟩
 case round =>
  obtain ⟨hb,BY,BR,HI⟩:=hrel
  have lY:=BY.lt
  have lX:w.heap.size<wr.heap.size:=om
  have hsz:w.heap.size+2<wr.heap.size:=BR.lt
  rcases HI.out with ⟨rfl,rfl,BX⟩ | ⟨rfl,rfl,BX⟩ | ⟨rfl,rfl,BX⟩ | ⟨rfl,rfl,BX⟩ | ⟨rfl,rfl,BX⟩
  ·clear HI
   have px:wr.cell? ⟨w.heap.size,0,none⟩=some (.int .u64 (x0:Int)):=BX.cell 0
   have py:wr.cell? ⟨w.heap.size+1,0,none⟩=some (.int .u64 (y0:Int)):=BY.cell 0
   go_wp2
   refine AJ (λ_=>false) kZ ?_
   try simp only [Act.put]
   refine tk 0 U ?_
   refine tk 1 U ?_
   try simp only [aPS]
   refine tkw 2 U (YieldsG.pure (v:=.int .u64 (x0:Int)) (by rfl) (λw9 h9=>by have hz:=(Below.cell (p:=⟨w.heap.size,0,none⟩) h9 lX).trans px; go_simp; first | done | simp [hz])) ?_
   try simp only [aPS]
   refine tk 3 U ?_
   refine tk 4 U ?_
   try simp only [aPS]
   refine tkw 5 U (YieldsG.pure (v:=.int .u64 (y0:Int)) (by rfl) (λw9 h9=>by have hz:=(Below.cell (p:=⟨w.heap.size+1,0,none⟩) h9 lY).trans py; go_simp; first | done | simp [hz])) ?_
   try simp only [aPS]
   refine tk 6 U ?_
   try simp only [aPS]
   refine tkw 7 U (YieldsG.pure (v:=.tuple #[.int .u64 (s0:Int),.int .u64 (c0:Int)]) (by rfl) (λw9 h9=>by go_simp)) ?_
   try simp only [aPS]
   refine tk 8 U ?_
   refine tk 9 U ?_
   refine tk 10 U ?_
   refine tk 11 U ?_
   refine tk 12 U ?_
   try simp only [aPS]
   refine AH kZ (λu hu=>?_)
   have BXu:=Gr.blk hu BX
   have BYu:=Gr.blk hu BY
   have BRu:=Gr.blk hu BR
   have hbu:=Below.gr hb hu
   have pc:u.cell? ⟨w.heap.size,0,none⟩=some (.int .u64 (x0:Int)):=BXu.cell 0
   have pf:=BXu.frozen 0
   go_wp2
   refine ⟨⟨hbu.setCell (Nat.le_refl _) _,BYu.far (by show w.heap.size+1≠w.heap.size; omega) _,BRu.far (by show w.heap.size+2≠w.heap.size; omega) _,Lib.hid (.inr (.inl (⟨rfl,rfl,BXu.set_ 0 _⟩)))⟩,by decide⟩
  ·clear HI
   have px:wr.cell? ⟨w.heap.size,1,none⟩=some (.int .u64 (x1:Int)):=BX.cell 1
   have py:wr.cell? ⟨w.heap.size+1,1,none⟩=some (.int .u64 (y1:Int)):=BY.cell 1
   go_wp2
   refine AJ (λ_=>false) kZ ?_
   try simp only [Act.put]
   refine tk 0 U ?_
   refine tk 1 U ?_
   try simp only [aPS]
   refine tkw 2 U (YieldsG.pure (v:=.int .u64 (x1:Int)) (by rfl) (λw9 h9=>by have hz:=(Below.cell (p:=⟨w.heap.size,1,none⟩) h9 lX).trans px; go_simp; first | done | simp [hz])) ?_
   try simp only [aPS]
   refine tk 3 U ?_
   refine tk 4 U ?_
   try simp only [aPS]
   refine tkw 5 U (YieldsG.pure (v:=.int .u64 (y1:Int)) (by rfl) (λw9 h9=>by have hz:=(Below.cell (p:=⟨w.heap.size+1,1,none⟩) h9 lY).trans py; go_simp; first | done | simp [hz])) ?_
   try simp only [aPS]
   refine tk 6 U ?_
   try simp only [aPS]
   refine tkw 7 U (YieldsG.pure (v:=.tuple #[.int .u64 (s1:Int),.int .u64 (c1:Int)]) (by rfl) (λw9 h9=>by go_simp)) ?_
   try simp only [aPS]
   refine tk 8 U ?_
   refine tk 9 U ?_
   refine tk 10 U ?_
   refine tk 11 U ?_
   refine tk 12 U ?_
   try simp only [aPS]
   refine AH kZ (λu hu=>?_)
   have BXu:=Gr.blk hu BX
   have BYu:=Gr.blk hu BY
   have BRu:=Gr.blk hu BR
   have hbu:=Below.gr hb hu
   have pc:u.cell? ⟨w.heap.size,1,none⟩=some (.int .u64 (x1:Int)):=BXu.cell 1
   have pf:=BXu.frozen 1
   go_wp2
   refine ⟨⟨hbu.setCell (Nat.le_refl _) _,BYu.far (by show w.heap.size+1≠w.heap.size; omega) _,BRu.far (by show w.heap.size+2≠w.heap.size; omega) _,Lib.hid (.inr (.inr (.inl (⟨rfl,rfl,BXu.set_ 1 _⟩))))⟩,by decide⟩
  ·clear HI
   have px:wr.cell? ⟨w.heap.size,2,none⟩=some (.int .u64 (x2:Int)):=BX.cell 2
   have py:wr.cell? ⟨w.heap.size+1,2,none⟩=some (.int .u64 (y2:Int)):=BY.cell 2
   go_wp2
   refine AJ (λ_=>false) kZ ?_
   try simp only [Act.put]
   refine tk 0 U ?_
   refine tk 1 U ?_
   try simp only [aPS]
   refine tkw 2 U (YieldsG.pure (v:=.int .u64 (x2:Int)) (by rfl) (λw9 h9=>by have hz:=(Below.cell (p:=⟨w.heap.size,2,none⟩) h9 lX).trans px; go_simp; first | done | simp [hz])) ?_
   try simp only [aPS]
   refine tk 3 U ?_
   refine tk 4 U ?_
   try simp only [aPS]
   refine tkw 5 U (YieldsG.pure (v:=.int .u64 (y2:Int)) (by rfl) (λw9 h9=>by have hz:=(Below.cell (p:=⟨w.heap.size+1,2,none⟩) h9 lY).trans py; go_simp; first | done | simp [hz])) ?_
   try simp only [aPS]
   refine tk 6 U ?_
   try simp only [aPS]
   refine tkw 7 U (YieldsG.pure (v:=.tuple #[.int .u64 (s2:Int),.int .u64 (c2:Int)]) (by rfl) (λw9 h9=>by go_simp)) ?_
   try simp only [aPS]
   refine tk 8 U ?_
   refine tk 9 U ?_
   refine tk 10 U ?_
   refine tk 11 U ?_
   refine tk 12 U ?_
   try simp only [aPS]
   refine AH kZ (λu hu=>?_)
   have BXu:=Gr.blk hu BX
   have BYu:=Gr.blk hu BY
   have BRu:=Gr.blk hu BR
   have hbu:=Below.gr hb hu
   have pc:u.cell? ⟨w.heap.size,2,none⟩=some (.int .u64 (x2:Int)):=BXu.cell 2
   have pf:=BXu.frozen 2
   go_wp2
   refine ⟨⟨hbu.setCell (Nat.le_refl _) _,BYu.far (by show w.heap.size+1≠w.heap.size; omega) _,BRu.far (by show w.heap.size+2≠w.heap.size; omega) _,Lib.hid (.inr (.inr (.inr (.inl (⟨rfl,rfl,BXu.set_ 2 _⟩)))))⟩,by decide⟩
  ·clear HI
   have px:wr.cell? ⟨w.heap.size,3,none⟩=some (.int .u64 (x3:Int)):=BX.cell 3
   have py:wr.cell? ⟨w.heap.size+1,3,none⟩=some (.int .u64 (y3:Int)):=BY.cell 3
   go_wp2
   refine AJ (λ_=>false) kZ ?_
   try simp only [Act.put]
   refine tk 0 U ?_
   refine tk 1 U ?_
   try simp only [aPS]
   refine tkw 2 U (YieldsG.pure (v:=.int .u64 (x3:Int)) (by rfl) (λw9 h9=>by have hz:=(Below.cell (p:=⟨w.heap.size,3,none⟩) h9 lX).trans px; go_simp; first | done | simp [hz])) ?_
   try simp only [aPS]
   refine tk 3 U ?_
   refine tk 4 U ?_
   try simp only [aPS]
   refine tkw 5 U (YieldsG.pure (v:=.int .u64 (y3:Int)) (by rfl) (λw9 h9=>by have hz:=(Below.cell (p:=⟨w.heap.size+1,3,none⟩) h9 lY).trans py; go_simp; first | done | simp [hz])) ?_
   try simp only [aPS]
   refine tk 6 U ?_
   try simp only [aPS]
   refine tkw 7 U (YieldsG.pure (v:=.tuple #[.int .u64 (s3:Int),.int .u64 (c3:Int)]) (by rfl) (λw9 h9=>by go_simp)) ?_
   try simp only [aPS]
   refine tk 8 U ?_
   refine tk 9 U ?_
   refine tk 10 U ?_
   refine tk 11 U ?_
   refine tk 12 U ?_
   try simp only [aPS]
   refine AH kZ (λu hu=>?_)
   have BXu:=Gr.blk hu BX
   have BYu:=Gr.blk hu BY
   have BRu:=Gr.blk hu BR
   have hbu:=Below.gr hb hu
   have pc:u.cell? ⟨w.heap.size,3,none⟩=some (.int .u64 (x3:Int)):=BXu.cell 3
   have pf:=BXu.frozen 3
   go_wp2
   refine ⟨⟨hbu.setCell (Nat.le_refl _) _,BYu.far (by show w.heap.size+1≠w.heap.size; omega) _,BRu.far (by show w.heap.size+2≠w.heap.size; omega) _,Lib.hid (.inr (.inr (.inr (.inr (⟨rfl,rfl,BXu.set_ 3 _⟩)))))⟩,by decide⟩
  ·clear HI
   have BS:=BX.eq_ (Bc Fd.out.symm).symm
   go_wp2_with (first | ((with_reducible refine AD (d:=some 28) ?_); refine AB U _ _ U w.heap.size rfl s _ _ _ BS (AU s) AM U kZ ?_) | ((with_reducible refine AE ?_); refine AA U _ _ _ U (w.heap.size+2) (fcs s) U U _ _ BR kZ (by rfl) (AG _) ?_; intro w9 hL9 hB9 hK9))
   exact bodyPost_ret (results_cell_row U _ _ (w.heap.size+2) _ _ (0,0) _ U hL9 AM U kZ) rfl ⟨rfl,hb.trans (hB9 _ om)⟩
def eQ:Nat:=28948022309329048855892746252171976963317496166410141009864396001977208667916
def rtR (x:Nat):Nat:=pw x eQ
def Kr (x:Nat):Nat×Bool:=if mulP (rtR x) (rtR x)≠x%pM then (0,false) else if rtR x%18446744073709551616%2=1 then (negP (rtR x),true) else (rtR x,true)
theorem Z_:fv 28948022309329048855892746252171976963317496166410141009864396001977208667916=.agg #[.int .u64 18446744072635809548,.int .u64 18446744073709551615,.int .u64 18446744073709551615,.int .u64 4611686018427387903]:=rfl
theorem Vj (n:Nat) (_:n<18446744073709551616):∃ b:Bool,b=decide (n%2=1)∧(((n:Int)%2 == 1)=b):=by
 refine ⟨_,rfl,?_⟩
 rcases (show n%2=0∨n%2=1 by omega) with h | h
 ·have:(n:Int)%2=0:=om
  rw [this,h]; rfl
 ·have:(n:Int)%2=1:=om
  rw [this,h]; rfl
theorem RF (w:World) (x:Nat) (hx:x<(2^256)):Calls Tryz.prog 169 #[fv x] w λe w'=>e=.returned (.tuple #[fv (Kr x).1,.bool (Kr x).2])∧Below w.heap.size w w':=by
 obtain ⟨p,hp⟩:∃ p,p=115792089237316195423570985008687907853269984665640564039457584007908834671663:=⟨_,rfl⟩
 obtain ⟨one,h1⟩:∃ n,n=1:=⟨_,rfl⟩
 obtain ⟨e,he⟩:=xE (115792089237316195423570985008687907853269984665640564039457584007908834671663+1)
 obtain ⟨q,hq⟩:=xE eQ
 obtain ⟨r,hr⟩:=xE (rtR x)
 obtain ⟨m,hm⟩:=xE (mulP r r)
 obtain ⟨n,hn⟩:=xE (x%pM)
 obtain ⟨g,hg⟩:=xE (negP r)
 have lq:q<(2^256):=by rw [hq,eQ]; omega
 have lr:r<(2^256):=by rw [hr]; exact Zm _ _
 have lm:m<(2^256):=by rw [hm]; exact HJ _ _
 have ln:n<(2^256):=by rw [hn]; exact mod_lt x
 have cP:∀ w,Calls Tryz.prog 75 #[] w λe w'=>e=.returned (.agg mP7)∧Below w.heap.size w w':=Cl
 have c1:∀ w,Calls Tryz.prog 139 #[.int .u64 1] w λe w'=>e=.returned (fv one)∧Below w.heap.size w w':=λw=>JS w one 1 (by rw [h1]; rfl) om
 have cA:∀ w,Calls Tryz.prog 221 #[fv p,fv one] w λr w'=>r=.returned (fv e)∧Below w.heap.size w w':=λw=>XK w p one e 0 U U om om om om
 have cW:∀ w,Calls Tryz.prog 138 #[.agg mP7,fv x,fv q] w λe w'=>e=.returned (fv r)∧Below w.heap.size w w':=by
  intro w; rw [hr,rtR, ← hq]; exact K6 w x q hx lq
 have cM:∀ w,Calls Tryz.prog 137 #[.agg mP7,fv r,fv r] w λe w'=>e=.returned (fv m)∧Below w.heap.size w w':=by
  intro w; rw [hm]; exact J1 w r r lr lr
 have cN:∀ w,Calls Tryz.prog 49 #[.agg mP7,fv x] w λe w'=>e=.returned (fv n)∧Below w.heap.size w w':=by
  intro w; rw [hn]; exact normR_any w x hx
 have cG:∀ w,Calls Tryz.prog 136 #[.agg mP7,fv r] w λe w'=>e=.returned (fv g)∧Below w.heap.size w w':=by
  intro w; rw [hg]; exact NY w r lr
 obtain ⟨b,hb⟩:=xE (decide (m≠n))
 have eb:∀ W,(binOp .neq 87 (fv m) (fv n)).run Tryz.prog W=.ok (.bool b) W:=λW=>by rw [hb]; exact Nm.run_neq_fv W m n lm ln
 obtain ⟨r0,r1,r2,r3,a0,a1,a2,a3,er,fr⟩:=Aw r lr
 obtain ⟨o,ho,hob⟩:=Vj r0 a0
 have hS:Kr x=if b=true then (0,false) else if o=true then (g,true) else (r,true):=by
  unfold Kr
  have h0:r%18446744073709551616=r0:=om
  rw [← hr, ← hm, ← hn, ← hg,hb,ho,h0]
  by_cases h1:m=n <;> by_cases h2:r0%2=1 <;> simp [h1,h2]
 have FP:Hid (fv p=.agg #[.int .u64 18446744069414583343,.int .u64 18446744073709551615,.int .u64 18446744073709551615,.int .u64 18446744073709551615]):=Lib.hid (by rw [hp]; exact PQ)
 have FE:Hid (fv e=.agg #[.int .u64 18446744069414583344,.int .u64 18446744073709551615,.int .u64 18446744073709551615,.int .u64 18446744073709551615]):=Lib.hid (by rw [he]; rfl)
 have FQ:Hid (fv q=.agg #[.int .u64 18446744072635809548,.int .u64 18446744073709551615,.int .u64 18446744073709551615,.int .u64 4611686018427387903]):=Lib.hid (by rw [hq]; exact Z_)
 have FR:=Lib.hid fr
 obtain ⟨x0,x1,x2,x3,fx⟩:=Ae x hx
 have FX:=Lib.hid fx
 rw [fx,hS]
 clear fx hx hp h1 he hq hr hm hn hg lq lr lm ln hb ho hS a0 a1 a2 a3 er fr
 go_enter Tryz.func169,Tryz.ntmps169
 go_wp2_with fail
 refine (cP _).mono ?_
 rintro z w1 ⟨rfl,k1⟩
 have BX:=Gr.blk k1 ((Blk.new w _ _).alloc _)
 have BR:=Gr.blk k1 (AZ w _ _ _)
 have hB:=Below.gr (Ad w _ _) k1
 have sz1:w.heap.size+1<w1.heap.size:=BR.lt
 clear k1 cP
 go_wp2_with ((with_reducible refine AE ?_); refine AA U _ _ _ U w1.heap.size mP7 U U _ _ (Blk.new w1 _ _) kZ (by rfl) (by simp [Value.oneCell']) ?_; intro w2 hL2 hq2 hK2; have BX2:=hK2 _ om _ _ (BX.alloc _); have BR2:=hK2 _ om _ _ (BR.alloc _); have hB2:=(hB.alloc om _).trans (hq2 _ om))
 refine AJ (λj=>j == 5) kZ ?_
 try simp only [Act.put]
 refine tk 0 U ?_
 try simp only [aPS]
 refine tkw 1 U (YieldsG.loadP (by rfl) _ _ U w1.heap.size U p _ (Blk.lt hL2) (DA hL2) FP.out AM U kZ) ?_
 try simp only [aPS]
 refine tkw 2 U (YieldsG.call (v:=fv one) (by rfl) 139 _ (λw9=>by go_simp; try rfl) (λw9 h9=>c1 w9)) ?_
 try simp only [aPS]
 refine tkw 3 U (YieldsG.call (v:=fv e) (by rfl) 221 _ (λw9=>by go_simp; try rfl) (λw9 h9=>cA w9)) ?_
 try simp only [aPS]
 refine Al 4 U kZ (by rfl) (λw4 h4 K hK=>?_)
 go_simp
 refine hK _ _ (λ_=>BK _ _) ?_
 clear hK K
 try simp only [aPS]
 refine BU 5 U kZ (by rfl) _ _ _ U w4.heap.size (fcs e) U U _ _ (Blk.new w4 _ _) kZ (by rfl) (AG _) rfl (λw6 h6 w7 hB7 hL7=>?_)
 try simp only [Act.put]
 refine AH kZ (λw8 h8=>?_)
 have sz4:w1.heap.size<w4.heap.size:=by have:=hL2.lt; have:=h4.size; omega
 have BM8:Blk w8 w1.heap.size 91 mP7:=Gr.blk h8 (Blk.below (B:=w4.heap.size) (Gr.blk h6 (Blk.alloc (Gr.blk h4 hL2) _)) (hB7 _ (Nat.le_refl _)) om)
 have BX8:=Gr.blk h8 (Blk.below (B:=w4.heap.size) (Gr.blk h6 (Blk.alloc (Gr.blk h4 BX2) _)) (hB7 _ (Nat.le_refl _)) om)
 have BR8:=Gr.blk h8 (Blk.below (B:=w4.heap.size) (Gr.blk h6 (Blk.alloc (Gr.blk h4 BR2) _)) (hB7 _ (Nat.le_refl _)) om)
 have BE8:Blk w8 w4.heap.size 87 #[.int .u64 18446744069414583344,.int .u64 18446744073709551615,.int .u64 18446744073709551615,.int .u64 18446744073709551615]:=(Gr.blk h8 hL7).eq_ (Bc FE.out)
 have hB8:Below w.heap.size w w8:=Below.gr ((Below.gr ((Below.gr hB2 h4).alloc om _) h6).trans (hB7 _ om)) h8
 clear h4 h6 hB7 hL7 h8 c1 cA hL2 BX2 BR2 hB2
 go_wp2_with fail
 go_loopw [6,7] (λrs i wr=>Below w.heap.size w wr∧Blk wr w1.heap.size 91 mP7∧Blk wr w.heap.size 87 #[.int .u64 x0,.int .u64 x1,.int .u64 x2,.int .u64 x3]∧Blk wr (w.heap.size+1) 87 #[.int .u64 0,.int .u64 0,.int .u64 0,.int .u64 0]∧Hid ((i=.int .i64 3∧rs=.int .u64 0∧Blk wr w4.heap.size 87 #[.int .u64 18446744069414583344,.int .u64 18446744073709551615,.int .u64 18446744073709551615,.int .u64 18446744073709551615])∨(i=.int .i64 2∧rs=.int .u64 3∧Blk wr w4.heap.size 87 #[.int .u64 18446744069414583344,.int .u64 18446744073709551615,.int .u64 18446744073709551615,.int .u64 4611686018427387903])∨(i=.int .i64 1∧rs=.int .u64 3∧Blk wr w4.heap.size 87 #[.int .u64 18446744069414583344,.int .u64 18446744073709551615,.int .u64 18446744073709551615,.int .u64 4611686018427387903])∨(i=.int .i64 0∧rs=.int .u64 3∧Blk wr w4.heap.size 87 #[.int .u64 18446744069414583344,.int .u64 18446744073709551615,.int .u64 18446744073709551615,.int .u64 4611686018427387903])∨(i=.int .i64 (-1)∧rs=.int .u64 0∧Blk wr w4.heap.size 87 #[.int .u64 18446744072635809548,.int .u64 18446744073709551615,.int .u64 18446744073709551615,.int .u64 4611686018427387903]))) (λ_ i _=>(intOf i+1).toNat)
 case atStart=>exact ⟨hB8,BM8,BX8,BR8,Lib.hid (.inl ⟨rfl,rfl,BE8⟩)⟩
 case round =>
  clear hB8 BM8 BX8 BR8 BE8
  obtain ⟨hb,BM,BX,BR,HI⟩:=hrel
  rcases HI.out with ⟨rfl,rfl,BE⟩ | ⟨rfl,rfl,BE⟩ | ⟨rfl,rfl,BE⟩ | ⟨rfl,rfl,BE⟩ | ⟨rfl,rfl,BE⟩
  ·clear HI
   have pe:wr.cell? ⟨w4.heap.size,3,none⟩=some (.int .u64 18446744073709551615):=BE.cell 3
   have pf:=BE.frozen 3
   go_wp2
   refine ⟨⟨hb.setCell (by show w.heap.size≤w4.heap.size; omega) _,BM.far (by show w1.heap.size≠w4.heap.size; omega) _,BX.far (by show w.heap.size≠w4.heap.size; omega) _,BR.far (by show w.heap.size+1≠w4.heap.size; omega) _,Lib.hid (.inr (.inl (⟨rfl,rfl,BE.set_ 3 _⟩)))⟩,by decide⟩
  ·clear HI
   have pe:wr.cell? ⟨w4.heap.size,2,none⟩=some (.int .u64 18446744073709551615):=BE.cell 2
   have pf:=BE.frozen 2
   go_wp2
   refine ⟨⟨hb.setCell (by show w.heap.size≤w4.heap.size; omega) _,BM.far (by show w1.heap.size≠w4.heap.size; omega) _,BX.far (by show w.heap.size≠w4.heap.size; omega) _,BR.far (by show w.heap.size+1≠w4.heap.size; omega) _,Lib.hid (.inr (.inr (.inl (⟨rfl,rfl,BE.set_ 2 _⟩))))⟩,by decide⟩
  ·clear HI
   have pe:wr.cell? ⟨w4.heap.size,1,none⟩=some (.int .u64 18446744073709551615):=BE.cell 1
   have pf:=BE.frozen 1
   go_wp2
   refine ⟨⟨hb.setCell (by show w.heap.size≤w4.heap.size; omega) _,BM.far (by show w1.heap.size≠w4.heap.size; omega) _,BX.far (by show w.heap.size≠w4.heap.size; omega) _,BR.far (by show w.heap.size+1≠w4.heap.size; omega) _,Lib.hid (.inr (.inr (.inr (.inl (⟨rfl,rfl,BE.set_ 1 _⟩)))))⟩,by decide⟩
  ·clear HI
   have pe:wr.cell? ⟨w4.heap.size,0,none⟩=some (.int .u64 18446744069414583344):=BE.cell 0
   have pf:=BE.frozen 0
   go_wp2
   refine ⟨⟨hb.setCell (by show w.heap.size≤w4.heap.size; omega) _,BM.far (by show w1.heap.size≠w4.heap.size; omega) _,BX.far (by show w.heap.size≠w4.heap.size; omega) _,BR.far (by show w.heap.size+1≠w4.heap.size; omega) _,Lib.hid (.inr (.inr (.inr (.inr (⟨rfl,rfl,BE.set_ 0 _⟩)))))⟩,by decide⟩
  ·clear HI
   have sl:=BE.lt
   go_wp2_with (first | ((with_reducible refine AD (d:=some 31) ?_); refine Az U _ _ U w1.heap.size U _ _ _ BM FT U kZ ?_) | ((with_reducible refine AD (d:=some 32) ?_); refine AB U _ _ U w.heap.size rfl x _ _ _ BX FX.out AM U kZ ?_) | ((with_reducible refine AD (d:=some 33) ?_); refine AB U _ _ U w4.heap.size rfl q _ _ _ BE FQ.out AM U kZ ?_))
   refine (cW _).mono ?_
   rintro z w5 ⟨rfl,k1⟩
   have BM:=Gr.blk k1 BM
   have BX:=Gr.blk k1 BX
   have BR:=Gr.blk k1 BR
   have hb:=Below.gr hb k1
   have sz5:w4.heap.size<w5.heap.size:=Nat.lt_of_lt_of_le sl k1.size
   clear k1 cW BE
   go_wp2_with ((with_reducible refine AE ?_); refine AA U _ _ _ U w5.heap.size (fcs r) U U _ _ (Blk.new w5 _ _) kZ (by rfl) (AG _) ?_; intro w6 hL6 hq6 hK6; have BM6:=hK6 _ om _ _ (BM.alloc _); have BX6:=hK6 _ om _ _ (BX.alloc _); have BR6:=hK6 _ om _ _ (BR.alloc _); have hB6:=(hb.alloc om _).trans (hq6 _ om))
   refine AJ (λ_=>false) kZ ?_
   try simp only [Act.put]
   refine tkw 0 U (YieldsG.load (by rfl) _ _ U w1.heap.size 0 U ([.int .u64 18446744069414583343,.int .u64 18446744073709551615,.int .u64 18446744073709551615,.int .u64 18446744073709551615,.int .u64 4294968273,.int .u64 0,.int .u64 0]) _ (Blk.lt BM6) (Blk.range BM6) FT U kZ) ?_
   try simp only [aPS]
   refine tkw 1 U (YieldsG.loadF (by rfl) _ _ U w5.heap.size rfl r _ _ hL6 (AU _) AM U kZ) ?_
   try simp only [aPS]
   refine tkw 2 U (YieldsG.loadF (by rfl) _ _ U w5.heap.size rfl r _ _ hL6 (AU _) AM U kZ) ?_
   try simp only [aPS]
   refine tkw 3 U (YieldsG.call (v:=fv m) (by rfl) 137 _ (λw9=>by go_simp; try rfl) (λw9 h9=>cM w9)) ?_
   try simp only [aPS]
   refine tkw 4 U (YieldsG.load (by rfl) _ _ U w1.heap.size 0 U ([.int .u64 18446744069414583343,.int .u64 18446744073709551615,.int .u64 18446744073709551615,.int .u64 18446744073709551615,.int .u64 4294968273,.int .u64 0,.int .u64 0]) _ (Blk.lt BM6) (Blk.range BM6) FT U kZ) ?_
   try simp only [aPS]
   refine tkw 5 U (YieldsG.loadF (by rfl) _ _ U w.heap.size rfl x _ _ BX6 FX.out AM U kZ) ?_
   try simp only [aPS]
   refine tkw 6 U (YieldsG.call (v:=fv n) (by rfl) 49 _ (λw9=>by go_simp; try rfl) (λw9 h9=>cN w9)) ?_
   try simp only [aPS]
   refine tkw 7 U (YieldsG.pure (v:=.bool b) (by rfl) (λw9 h9=>by go_simp; rw [Nm.run_eqGuard_fv]; simp only [Result.andThen_ok])) ?_
   try simp only [aPS]
   refine AH kZ (λu hu=>?_)
   have BM:=Gr.blk hu BM6
   have BR:=Gr.blk hu BR6
   have BRT:=Gr.blk hu hL6
   have hb:=Below.gr hB6 hu
   have BW:Blk u w5.heap.size 87 #[.int .u64 (r0:Int),.int .u64 (r1:Int),.int .u64 (r2:Int),.int .u64 (r3:Int)]:=BRT.eq_ (Bc FR.out)
   have pc:u.cell? ⟨w5.heap.size,0,none⟩=some (.int .u64 (r0:Int)):=BW.cell 0
   clear hu BM6 BX6 BR6 hL6 hB6 BX eb cM cN BW
   cases b
   ·cases o
    ·go_wp2_with (first | ((with_reducible refine AD (d:=some 51) ?_); refine AB U _ _ U (w5.heap.size) rfl (r) _ _ _ (BRT) (AU _) AM U kZ ?_) | ((with_reducible refine AE ?_); refine AA U _ _ _ U (w.heap.size+1) (fcs (r)) U U _ _ (BR) kZ (by rfl) (AG _) ?_; intro w9 hL9 hB9 hK9))
     exact bodyPost_ret (A9 U _ _ (w.heap.size+1) _ _ _ _ U hL9 U AM U kZ) rfl ⟨rfl,hb.trans (hB9 _ om)⟩
    ·go_wp2_with (first | ((with_reducible refine AD (d:=some 48) ?_); refine Az U _ _ U w1.heap.size U _ _ _ (BM) FT U kZ ?_) | ((with_reducible refine AD (d:=some 49) ?_); refine AB U _ _ U (w5.heap.size) rfl (r) _ _ _ (BRT) (AU _) AM U kZ ?_))
     refine (cG _).mono ?_
     rintro z w6 ⟨rfl,k1⟩
     have BR:=Gr.blk k1 BR
     have hb:=Below.gr hb k1
     clear k1 cG
     go_wp2_with ((with_reducible refine AE ?_); refine AA U _ _ _ U (w.heap.size+1) (fcs g) U U _ _ BR kZ (by rfl) (AG _) ?_; intro w9 hL9 hB9 hK9)
     exact bodyPost_ret (A9 U _ _ (w.heap.size+1) _ _ _ _ U hL9 U AM U kZ) rfl ⟨rfl,hb.trans (hB9 _ om)⟩
   ·go_wp2_with ((with_reducible refine AE ?_); refine AA U _ _ _ U (w.heap.size+1) _ U U _ _ (BR) kZ (by rfl) (by simp [Value.oneCell']) ?_; intro w9 hL9 hB9 hK9)
    exact bodyPost_ret (A9 U _ _ (w.heap.size+1) _ _ _ _ U hL9 U AM U kZ) rfl ⟨rfl,hb.trans (hB9 _ om)⟩
end
end
section
section
open Go.RowKit Go.Lib
theorem QN:Nt.Pr pM:=Nt.pr_p
theorem Nw:UR=eQ:=by decide +kernel
theorem Wh:2*(eQ+eQ)=pM+1:=by decide +kernel
theorem Vh (x:Nat):rtR x=Bh x:=by
 have h:=Kv x
 rw [DW,Nw] at h
 rw [h]
 rfl
theorem H' (x:Nat):Bh x<pM:=by rw [← DW]; exact mod_lt_p _
theorem WQ (r:Nat):r%18446744073709551616%2=r%2:=om
theorem VZ (x:Nat):Kr x=B3 x:=by
 unfold Kr B3
 rw [Vh,WQ,DW]
theorem XU {p r a:Nat} (hp:Nt.Pr p) (hle:a≤r) (hr:r<p) (h:r*r%p=a*a%p):r=a∨r+a=p:=by
 have e:(r - a)*(r+a)=r*r - a*a:=by
  obtain ⟨d,rfl⟩:∃ d,r=a+d:=⟨r - a,by omega⟩
  rw [Nat.add_sub_cancel_left]
  have h1:(a+d)*(a+d)=a*a+d*(a+d+a):=by
   simp only [Nat.mul_add,Nat.add_mul]
   have:=Nat.mul_comm a d
   omega
  rw [h1,Nat.add_sub_cancel_left]
 have hd:p ∣ (r - a)*(r+a):=by
  rw [e]
  exact Nat.dvd_of_mod_eq_zero (Nat.sub_mod_eq_zero_of_mod_eq h)
 by_cases hz:(r+a)%p=0
 ·obtain ⟨k,hk⟩:=Nat.dvd_of_mod_eq_zero hz
  rcases k with _ | _ | k
  ·left; omega
  ·right; omega
  ·have hk':r+a=p*(k+2):=hk
   have:p*2≤p*(k+2):=Nat.mul_le_mul (Nat.le_refl _) om
   omega
 ·left
  have hd2:p ∣ r - a:=(Nt.cop hp (r+a) hz).dvd_of_dvd_mul_right hd
  have:=Nat.eq_zero_of_dvd_of_lt hd2 om
  omega
theorem S0 {p r a:Nat} (hp:Nt.Pr p) (hr:r<p) (ha:a<p) (h:r*r%p=a*a%p):r=a∨r+a=p:=by
 rcases Nat.le_total a r with hl | hl
 ·exact XU hp hl hr h
 ·rcases XU hp hl ha h.symm with h1 | h1
  ·exact .inl h1.symm
  ·exact .inr om
theorem Vu {p a e:Nat} (hp:Nt.Pr p) (he:2*(e+e)=p+1):((a*a) ^ e%p)*((a*a) ^ e%p)%p=a*a%p:=by
 have h2:=hp.1
 rw [← Nat.mul_mod, ← Nat.pow_add, ← Nat.pow_two, ← Nat.pow_mul,he]
 have e1:a ^ (p+1)=a ^ (p - 1)*a ^ 2:=by rw [← Nat.pow_add]; congr 1; omega
 rw [e1,Nat.mul_mod]
 by_cases hz:a%p=0
 ·have:a ^ 2%p=0:=by rw [Nat.pow_two,Nat.mul_mod,hz]; simp
  rw [this]; simp
 ·rw [Nt.flt hp a hz,Nat.one_mul,Nat.mod_mod]
theorem Vg (a:Nat):mulP (Bh (mulP a a)) (Bh (mulP a a))=mulP a a:=by
 have h:=Kv (mulP a a)
 rw [DW,Nw] at h
 rw [h]
 unfold mulP
 rw [← Nat.pow_mod]
 exact Vu QN Wh
theorem Fv (r:Nat) (h:r<pM) (h0:r≠0):negP r=pM - r:=by
 unfold negP
 rw [Nat.mod_eq_of_lt h]
 exact Nat.mod_eq_of_lt om
theorem YZ (r:Nat) (h:r<pM) (h0:r≠0):mulP (negP r) (negP r)=mulP r r:=by
 rw [Fv r h h0]
 obtain ⟨q,hq⟩:∃ q,pM=q+r:=⟨pM - r,by omega⟩
 rw [show pM - r=q by omega]
 unfold mulP
 have e:q*q+pM*r=r*r+pM*q:=by
  rw [hq,Nat.add_mul,Nat.add_mul,Nat.mul_comm r q]
  omega
 have h1:(q*q+pM*r)%pM=q*q%pM:=Nat.add_mul_mod_self_left _ _ _
 have h2:(r*r+pM*q)%pM=r*r%pM:=Nat.add_mul_mod_self_left _ _ _
 rw [← h1, ← h2,e]
theorem YR:pM%2=1:=by decide +kernel
theorem RE (x:Nat):(B3 x).1%pM%2=0:=by
 unfold B3
 have hr:=H' x
 by_cases h1:mulP (Bh x) (Bh x)≠x%pM
 ·rw [if_pos h1]; rw [Nat.zero_mod]
 ·rw [if_neg h1]
  by_cases h2:Bh x%pM%2=1
  ·rw [if_pos h2]
   rw [DW] at h2
   have h0:Bh x≠0:=om
   have e:=Fv _ hr h0
   have hp:=YR
   show negP (Bh x)%pM%2=0
   rw [e,Nat.mod_eq_of_lt (show pM - Bh x<pM by omega)]
   omega
  ·rw [if_neg h2]
   show Bh x%pM%2=0
   omega
theorem Ll (x:Nat):(B3 x).1<(2^256):=by
 unfold B3
 by_cases h1:mulP (Bh x) (Bh x)≠x%pM
 ·rw [if_pos h1]; show 0<_; omega
 ·rw [if_neg h1]
  by_cases h2:Bh x%pM%2=1
  ·rw [if_pos h2]; exact I1 _
  ·rw [if_neg h2]; exact NF _
theorem Sz (x:Nat) (h:(B3 x).2=true):mulP (B3 x).1 (B3 x).1=x%pM:=by
 unfold B3 at h ⊢
 by_cases h1:mulP (Bh x) (Bh x)≠x%pM
 ·rw [if_pos h1] at h; cases h
 ·rw [if_neg h1]
  have h1':mulP (Bh x) (Bh x)=x%pM:=Classical.not_not.1 h1
  by_cases h2:Bh x%pM%2=1
  ·rw [if_pos h2]
   rw [DW] at h2
   show mulP (negP (Bh x)) (negP (Bh x))=_
   rw [YZ _ (H' x) om]
   exact h1'
  ·rw [if_neg h2]; exact h1'
theorem VY (a:Nat):∃ s,B3 (mulP a a)=(s,true)∧(s=a%pM∨s=negP a):=by
 obtain ⟨r,hr⟩:=xE (Bh (mulP a a))
 have hs:=Vg a
 rw [← hr] at hs
 have hl:r<pM:=by rw [hr]; exact H' _
 have hx:mulP a a%pM=mulP a a:=by unfold mulP; rw [Nat.mod_mod]
 obtain ⟨b,hb⟩:=xE (a%pM)
 have hbl:b<pM:=by rw [hb]; exact mod_lt_p a
 have hng:negP a=negP b:=by unfold negP; rw [hb,Nat.mod_mod]
 have hrr:r=b∨r+b=pM:=by
  refine S0 QN hl hbl ?_
  have:mulP a a=b*b%pM:=by rw [hb, ← Nat.mul_mod]; rfl
  rw [← this]; exact hs
 have p0:0<pM:=om
 have hor:(r=b∧negP r=negP b)∨(r=negP b∧negP r=b):=by
  rcases hrr with h | h
  ·left; exact ⟨h,by rw [h]⟩
  ·by_cases h0:b=0
   ·omega
   ·right
    have e1:=Fv b hbl h0
    have e2:=Fv r hl om
    exact ⟨by omega,by omega⟩
 unfold B3
 rw [← hr,hx,if_neg (by rw [hs]; exact λh=>h U),hng, ← hb]
 by_cases h2:r%pM%2=1
 ·rw [if_pos h2]
  refine ⟨_,rfl,?_⟩
  rcases hor with h | h
  ·exact .inr h.2
  ·exact .inl h.2
 ·rw [if_neg h2]
  refine ⟨_,rfl,?_⟩
  rcases hor with h | h
  ·exact .inl h.1
  ·exact .inr h.1
end
end
section
namespace Cu
open Go.RowKit Sy
theorem BO (l:AF) {n:Nat} (hl:l.length=n):Value.agg (((l.map bv).toArray.toList.drop 0).take n).toArray=.agg (l.map bv).toArray:=by
 rw [List.drop_zero,List.take_of_length_le (by simp; omega)]
theorem Bf (l:AF) {n:Nat} (hl:l.length=n):0+n≤(l.map bv).toArray.size:=by simp; omega
theorem T4 (l:AF) {n:Nat} (hl:l.length=n) (k:Nat) (hk:k<n):(l.map bv).toArray[k]? = some (bv (l.getD k 0)):=by
 have:k<l.length:=om
 simp [List.getD,this]
noncomputable def Z1:TypeInfo:=(Tryz.prog.info? 5).getD default
theorem Qc:Tryz.prog.info? 5=some Z1:=kZ
theorem Tp (w:World) (a b:Nat) (ha:a<K4) (hb:b<K4):AY 72 #[fv a,fv b] w (Gets w (fv (mulP a b))):=by
 refine Sy.enter (args:=[fv a,fv b]) Tryz.func72 U kL<|sC<|sM 87 (fcs a) (λg0=>?_)
 refine sM 87 (fcs b) (λg1=>?_)
 refine sM 87 (fcs 0) (λg2=>?_)
 refine sH (λj=>j == 4) ?_
 refine sD 0 U (.agg De) (qf Cl)<|sD 1 U (fv a) (qk 0 0 4 U U AM)<|sD 2 U (fv b) (qk 1 0 4 U U AM) ?_
 obtain ⟨z1,hz1⟩:∃ z:Nat,z=mulP a b:=⟨_,rfl⟩
 have lz1:z1<K4:=by rw [hz1]; exact mod_lt _
 refine sD 3 U (fv z1) (qf (λw=>by rw [hz1]; exact J1 w a b lK lK))<|sx 4 U 2 U (fcs z1) (wA U)<|sI<|Sy.ret ?_
 rw [show (fv (mulP a b):Value)=fv z1 from by rw [hz1]]
 exact rc (v:=fv z1) 2 U U AM
theorem ZH (w:World) (a b:Nat) (ha:a<K4) (hb:b<K4):AY 73 #[fv a,fv b] w (Gets w (fv (addP a b))):=by
 refine Sy.enter (args:=[fv a,fv b]) Tryz.func73 U kL<|sC<|sM 87 (fcs a) (λg0=>?_)
 refine sM 87 (fcs b) (λg1=>?_)
 refine sM 87 (fcs 0) (λg2=>?_)
 refine sH (λj=>j == 4) ?_
 refine sD 0 U (.agg De) (qf Cl)<|sD 1 U (fv a) (qk 0 0 4 U U AM)<|sD 2 U (fv b) (qk 1 0 4 U U AM) ?_
 obtain ⟨z1,hz1⟩:∃ z:Nat,z=addP a b:=⟨_,rfl⟩
 have lz1:z1<K4:=by rw [hz1]; exact mod_lt _
 refine sD 3 U (fv z1) (qf (λw=>by rw [hz1]; exact KP w a b lK lK))<|sx 4 U 2 U (fcs z1) (wA U)<|sI<|Sy.ret ?_
 rw [show (fv (addP a b):Value)=fv z1 from by rw [hz1]]
 exact rc (v:=fv z1) 2 U U AM
def Ee (x:Nat):Nat:=addP (mulP x (mulP x x)) 7
theorem Ud (x:Nat):Ee x<K4:=mod_lt _
theorem Wt (w:World) (x:Nat) (hx:x<K4):AY 165 #[fv x] w (Gets w (fv (Ee x))):=by
 refine Sy.enter (args:=[fv x]) Tryz.func165 U kL<|sC<|sM 87 (fcs x) (λg0=>?_)
 refine sM 87 (fcs 0) (λg1=>?_)
 refine sH (λj=>j == 7) ?_
 refine sD 0 U (fv x) (qk 0 0 4 U U AM)<|sD 1 U (fv x) (qk 0 0 4 U U AM)<|sD 2 U (fv x) (qk 0 0 4 U U AM) ?_
 obtain ⟨z1,hz1⟩:∃ z:Nat,z=mulP x x:=⟨_,rfl⟩
 have lz1:z1<K4:=by rw [hz1]; exact mod_lt _
 refine sD 3 U (fv z1) (qf (λw=>by rw [hz1]; exact Tp w x x lK lK)) ?_
 obtain ⟨z2,hz2⟩:∃ z:Nat,z=mulP x z1:=⟨_,rfl⟩
 have lz2:z2<K4:=by rw [hz2]; exact mod_lt _
 refine sD 4 U (fv z2) (qf (λw=>by rw [hz2]; exact Tp w x z1 lK lK))<|sD 5 U (fv 7) (qf (λw=>Lm w 7 dZ)) ?_
 obtain ⟨z3,hz3⟩:∃ z:Nat,z=addP z2 7:=⟨_,rfl⟩
 have lz3:z3<K4:=by rw [hz3]; exact mod_lt _
 refine sD 6 U (fv z3) (qf (λw=>by rw [hz3]; exact ZH w z2 7 lK lK))<|sx 7 U 1 U (fcs z3) (wA U)<|sI<|Sy.ret ?_
 rw [show (fv (Ee x):Value)=fv z3 from by unfold Ee; rw [hz3,hz2,hz1]]
 exact rc (v:=fv z3) 1 U U AM
theorem Ev (u:Fp):Ee u.val=(u*u*u+7).val:=by
 have e:u*(u*u)+7=u*u*u+7:=by grobner
 rw [← e]
 rfl
def A7 (l:AF):Bool:=decide (A2 l<pM) && (B3 (Ee (A2 l))).2
theorem M2 (x:Nat):(B3 x).1<pM:=by
 unfold B3
 split
 ·exact Nat.pos_of_ne_zero (by decide +kernel)
 ·split
  ·exact mod_lt_p _
  ·show Bh x<pM
   rw [← DW]; exact mod_lt_p _
def Ah (l:AF):Pt:=if h:A7 l=true then some (⟨A2 l,by unfold A7 at h; simp at h; exact h.1⟩,⟨(B3 (Ee (A2 l))).1,M2 _⟩) else none
theorem GM {l:AF} (h:A7 l=false):Ah l=none:=by unfold Ah; rw [dif_neg (by simp [h])]
theorem Fx {l:AF} (h:A7 l=true):∃ u y:Fp,u.val=A2 l∧y.val=(B3 (Ee (A2 l))).1∧Ah l=some (u,y)∧y*y=u*u*u+7∧y.val%2=0:=by
 refine ⟨_,_,rfl,rfl,by unfold Ah; rw [dif_pos h],?_,?_⟩
 ·have h2:(B3 (Ee (A2 l))).2=true:=by unfold A7 at h; simp at h; exact h.2
  have hm:=Sz _ h2
  refine Fin.ext ?_
  have hv:A2 l<pM:=by unfold A7 at h; simp at h; exact h.1
  have e:=Ev ⟨A2 l,hv⟩
  show mulP (B3 (Ee (A2 l))).1 (B3 (Ee (A2 l))).1=_
  rw [hm, ← e]
  exact Nat.mod_eq_of_lt (mod_lt_p _)
 ·have:=RE (Ee (A2 l))
  rw [Nat.mod_eq_of_lt (M2 _)] at this
  exact this
theorem TM {l:AF} {u:Fp} (h:u.val=A2 l):readS l=(u.val,true):=by
 unfold readS
 rw [if_pos (by rw [← h]; exact u.isLt),h]
theorem Vk {l:AF} (h:¬ A2 l<pM):readS l=(0,false):=by unfold readS; rw [if_neg h]
theorem WR (w:World) (l:AF) (hl:l.length=32) (u:Fp) (hu:u.val=A2 l):AY 171 #[.agg (l.map bv).toArray] w (Gets w (.tuple #[ptv (Ah l),.bool (A7 l)])):=by
 have cR:∀ w,AY 222 #[.agg (l.map bv).toArray] w (Gets w (.tuple #[fv u.val,.bool true])):=λw=>by
  have h:=read_any w l hl
  rw [TM hu] at h
  exact h
 refine Sy.enter (args:=[.agg (l.map bv).toArray]) Tryz.func171 U kL<|sC<|sM 146 (l.map bv).toArray (λg0=>?_)
 refine sM 37 (pcs 0 0 false) (λg1=>?_)
 refine sp U<|sA<|sS (.agg (l.map bv).toArray) (qx 0 0 32 U U Kj (BO l hl) (Bf l hl))<|sS (.tuple #[fv u.val,.bool true]) (qf cR)<|sp U<|sp U<|sp U<|sM 35 (fcs 0) (λg2=>?_)
 refine sw 2 U (fcs u.val) (wA U)<|sp U<|sA<|sS (fv u.val) (qk 2 0 4 U U AN) ?_
 obtain ⟨z1,hz1⟩:∃ z:Fp,z=u*u*u+7:=⟨_,rfl⟩
 refine sS (fv z1.val) (qf (by rw [hz1]; exact λw=>JQ w u)) ?_
 obtain ⟨r1,hr1⟩:∃ z:Nat,z=(B3 z1.val).1:=⟨_,rfl⟩
 obtain ⟨k1,hk1⟩:=xE ((B3 z1.val).2)
 have lr1:r1<K4:=by rw [hr1]; exact Ll _
 refine sS (.tuple #[fv r1,.bool k1]) (qf (λw=>by rw [hr1,hk1]; exact M4 w z1.val lK))<|sp U<|sp U<|sp U<|sM 35 (fcs 0) (λg3=>?_)
 refine sw 3 U (fcs r1) (wA U)<|sp U<|sG<|Sy.seq<|sC<|sp U<|sP (.bool false)<|sp U<|sp U ?_
 cases k1
 ·refine sP (.bool true)<|sP (.bool true) ?_
  refine sG<|sT<|sC<|sS (pv 0 0 true) (qf CC)<|sw 1 U (pcs 0 0 true) (wA U)<|sp U<|sG<|Sy.ret<|Sy.then_ret ?_
  rw [show (.tuple #[ptv (Ah l),.bool (A7 l)]:Value)=.tuple #[pv 0 0 true,.bool false] from by
   have hb:A7 l=false:=by unfold A7; rw [← hu,Ev, ← hz1, ← hk1]; simp
   rw [hb,GM hb]; rfl]
  exact Sy.ret2 (v:=pv 0 0 true) (u:=.bool false) rfl (.inl (Res.cell (ty':=37) g1 1 (pcs 0 0 true) _ kR kR AX U kR kR)) (.inl (show _=_ by kernel_rfl))
 ·refine sP (.bool false)<|sP (.bool false) ?_
  refine sG<|sU<|Sy.skip<|sB<|sS (fv u.val) (qk 2 0 4 U U AN)<|sS (fv r1) (qk 3 0 4 U U AN)<|sP (pv u.val r1 false)<|sw 1 U (pcs u.val r1 false) (wA U)<|sp U<|sG<|Sy.ret ?_
  rw [show (.tuple #[ptv (Ah l),.bool (A7 l)]:Value)=.tuple #[pv u.val r1 false,.bool true] from by
   have hb:A7 l=true:=by unfold A7; rw [← hu,Ev, ← hz1, ← hk1]; simp [u.isLt]
   obtain ⟨u2,y2,e1,e2,e3,_,_⟩:=Fx hb
   rw [hb,e3]
   unfold ptv
   simp only
   rw [e1,e2, ← hu,Ev, ← hz1, ← hr1]]
  exact Sy.ret2 (v:=pv u.val r1 false) (u:=.bool true) rfl (.inl (Res.cell (ty':=37) g1 1 (pcs u.val r1 false) _ kR kR AX U kR kR)) (.inl (show _=_ by kernel_rfl))
theorem Ty (w:World) (l:AF) (hl:l.length=32) (hu:¬ A2 l<pM):AY 171 #[.agg (l.map bv).toArray] w (Gets w (.tuple #[ptv (Ah l),.bool (A7 l)])):=by
 have cR:∀ w,AY 222 #[.agg (l.map bv).toArray] w (Gets w (.tuple #[fv (0:Fp).val,.bool false])):=λw=>by
  have h:=read_any w l hl
  rw [Vk hu] at h
  exact h
 refine Sy.enter (args:=[.agg (l.map bv).toArray]) Tryz.func171 U kL<|sC<|sM 146 (l.map bv).toArray (λg0=>?_)
 refine sM 37 (pcs 0 0 false) (λg1=>?_)
 refine sp U<|sA<|sS (.agg (l.map bv).toArray) (qx 0 0 32 U U Kj (BO l hl) (Bf l hl))<|sS (.tuple #[fv ((0:Fp).val),.bool false]) (qf cR)<|sp U<|sp U<|sp U<|sM 35 (fcs 0) (λg2=>?_)
 refine sw 2 U (fcs ((0:Fp).val)) (wA U)<|sp U<|sA<|sS (fv ((0:Fp).val)) (qk 2 0 4 U U AN) ?_
 obtain ⟨z1,hz1⟩:∃ z:Fp,z=(0:Fp)*(0:Fp)*(0:Fp)+7:=⟨_,rfl⟩
 refine sS (fv z1.val) (qf (by rw [hz1]; exact λw=>JQ w (0:Fp))) ?_
 obtain ⟨r1,hr1⟩:∃ z:Nat,z=(B3 z1.val).1:=⟨_,rfl⟩
 obtain ⟨k1,hk1⟩:=xE ((B3 z1.val).2)
 have lr1:r1<K4:=by rw [hr1]; exact Ll _
 refine sS (.tuple #[fv r1,.bool k1]) (qf (λw=>by rw [hr1,hk1]; exact M4 w z1.val lK))<|sp U<|sp U<|sp U<|sM 35 (fcs 0) (λg3=>?_)
 refine sw 3 U (fcs r1) (wA U)<|sp U<|sG<|Sy.seq<|sC<|sp U<|sP (.bool true)<|sp U<|sN<|sN<|sP (.bool true)<|sG<|sT<|sC<|sS (pv 0 0 true) (qf CC)<|sw 1 U (pcs 0 0 true) (wA U)<|sp U<|sG<|Sy.ret<|Sy.then_ret ?_
 rw [show (.tuple #[ptv (Ah l),.bool (A7 l)]:Value)=.tuple #[pv 0 0 true,.bool false] from by
   have hb:A7 l=false:=by unfold A7; simp [hu]
   rw [hb,GM hb]; rfl]
 exact Sy.ret2 (v:=pv 0 0 true) (u:=.bool false) rfl (.inl (Res.cell (ty':=37) g1 1 (pcs 0 0 true) _ kR kR AX U kR kR)) (.inl (show _=_ by kernel_rfl))
theorem Nc (w:World) (l:AF) (hl:l.length=32):Calls Tryz.prog 171 #[.agg (l.map bv).toArray] w (Gets w (.tuple #[ptv (Ah l),.bool (A7 l)])):=by
 by_cases h:A2 l<pM
 ·exact WR w l hl ⟨A2 l,h⟩ rfl
 ·exact Ty w l hl h
def dg (m j:Nat):Nat:=m / 16 ^ (63 - j)%16
def dgA (m j:Nat):List Value:=[.int .u8 ((dg m j:Nat):Int)]
theorem Cj (m:Nat):∀ j,(dgA m j).length=1:=λ_=>rfl
theorem N' (m k:Nat) (hk:k<32):((BA m).getD k 0).toNat=m / 2 ^ (8*(31 - k))%256:=by
 have h:∀ n j,j<n→(Ha m n).getD j 0=Ey m (n - 1 - j):=by
  intro n
  induction n with
  | zero=>intro j hj; omega
  | succ n ih =>
   intro j hj
   cases j with
   | zero=>rfl
   | succ j =>
    show (Ha m n).getD j 0=_
    rw [ih j om]
    congr 1
    omega
 unfold BA
 rw [h 32 k hk,show 32 - 1 - k=31 - k by omega]
 unfold Ey
 rw [UInt8.toNat_ofNat']
 omega
theorem p16 (k:Nat):(2:Nat) ^ (8*k)=16 ^ (2*k):=by
 rw [show 8*k=4*(2*k) by omega,Nat.pow_mul]
theorem aG (m k:Nat) (hk:k<32):((BA m).getD k 0).toNat / 16=dg m (2*k):=by
 rw [N' m k hk,p16]
 unfold dg
 rw [show 63 - 2*k=2*(31 - k)+1 by omega,Nat.pow_succ, ← Nat.div_div_eq_div_mul]
 omega
theorem aF (m k:Nat) (hk:k<32):((BA m).getD k 0).toNat%16=dg m (2*k+1):=by
 rw [N' m k hk,p16]
 unfold dg
 rw [show 63 - (2*k+1)=2*(31 - k) by omega]
 omega
theorem Wm (F:AO) (o:Oper) (t:TypeId) (x y:Operand) {yt:TypeId} (b:UInt8) (d:Nat) (ho:o.op=.binOp .shr t x y yt) (hx:evF F x=bv b) (hy:evF F y=.int .u64 4) (h:b.toNat / 16=d) (w:World):(execOp (evF F) o).run Tryz.prog w=.ok (.value (.int .u8 ((d:Nat):Int))) w :=
 AK .shr t x y .u8 (b.toNat:Int) 4 _ ho hx hy (I2 t .u8 .u64 _ _ _ dZ (by
  show Int.fdiv (b.toNat:Int) ((16:Nat):Int)=_
  rw [← h,Int.fdiv_eq_ediv_of_nonneg _ om]
  omega)) w
theorem aK:∀ n:Fin 256,IntKind.u8.wrap ((BitVec.ofInt 8 ((n.val:Nat):Int) &&& BitVec.ofInt 8 15).toNat:Int)=((n.val%16:Nat):Int):=by decide +kernel
theorem Wl (F:AO) (o:Oper) (t:TypeId) (x y:Operand) {yt:TypeId} (b:UInt8) (d:Nat) (ho:o.op=.binOp .and t x y yt) (hx:evF F x=bv b) (hy:evF F y=.int .u8 15) (h:b.toNat%16=d) (w:World):(execOp (evF F) o).run Tryz.prog w=.ok (.value (.int .u8 ((d:Nat):Int))) w :=
 AK .and t x y .u8 (b.toNat:Int) 15 _ ho hx hy (MH t .u8 _ _ _ (by
  rw [← h]
  exact aK ⟨b.toNat,b.toNat_lt⟩)) w
theorem UU (w:World) (x:Nat) (hx:x<K4):AY 178 #[fv x] w (Gets w (.agg (AL (dgA (x%Sc.pM)) 64).toArray)):=by
 obtain ⟨m,hm⟩:=xE (x%Sc.pM)
 obtain ⟨l,hl0⟩:=xE (BA m)
 have hl:l.length=32:=by rw [hl0]; exact BT m
 have cB:∀ w,AY 126 #[fv x] w (Gets w (.agg (l.map bv).toArray)):=λw=>by rw [hl0,hm]; exact Sc.bytes_any w x hx
 rw [← hm]
 refine Sy.enter (args:=[fv x]) Tryz.func178 U kL<|sC<|sM 26 (fcs x) (λg0=>?_)
 refine Sy.make kR 225 (AL (λ_=>[.int .u8 0]) 64).toArray ptr kF (λg1=>?_)
 refine sA<|Sy.make kR 225 (AL (λ_=>[.int .u8 0]) 64).toArray ptr kF (λg2=>?_)
 refine sG<|Sy.seq<|sC<|sS (fv x) (qk 0 0 4 U U Au)<|sS (.agg (l.map bv).toArray) (qf cB)<|sp U<|sG<|Sy.block<|Sy.loopK 32 (λk1=>[(2,pT g1 0),(3,pT g2 0),(7,.agg (l.map bv).toArray),(8,iZ k1)]) (λk1=>[(g1,225,(AL (λ_=>[.int .u8 0]) 64).toArray),(g2,225,(AL (upto (2*k1) (dgA m) [.int .u8 0]) 64).toArray)]) [false,true,true] (M:=[(g1,225,(AL (λ_=>[.int .u8 0]) 64).toArray),(g2,225,(AL (λ_=>[.int .u8 0]) 64).toArray)]) ac4 kR (AW U (AW (beq Em) U)) (λk1 hk1=>?_)
 refine sC ?_
 obtain ⟨b1,hb1⟩:=xE (decide (k1<32))
 refine sS (.bool b1) (qls U U U hb1)<|sG<|Sy.seq ?_
 cases b1
 ·have lb1:=dN hb1
  refine sU<|Sy.exit<|Sy.then_exit<|Sy.then_exit ?_
  obtain rfl:k1=32:=om
  refine Sy.in_exit<|sB<|sS (.agg (AL (upto (2*32) (dgA m) [.int .u8 0]) 64).toArray) (qx 1 0 64 U U Mu (Gp (An (Cj m) rfl _) rfl) (Gn (An (Cj m) rfl _) rfl))<|Sy.write kR 0 g1 225 (AL (λ_=>[.int .u8 0]) 64).toArray (AL (upto (2*32) (dgA m) [.int .u8 0]) 64).toArray kR (Writes.store 0 225 (AL (upto (2*32) (dgA m) [.int .u8 0]) 64).toArray _ _ U kR kR (Dx (An (Cj m) rfl _) kR) (GP (An (Cj m) rfl _) rfl kR) (Hh (An (Cj m) rfl _) _ (JJ (λ_ u hu=>by rw [List.mem_singleton.1 hu]; rfl) (λu hu=>by rw [List.mem_singleton.1 hu]; rfl) _)) (Hg (An (Cj m) rfl _) kR))<|sG<|Sy.ret ?_
  rw [show (.agg (AL (dgA m) 64).toArray:Value)=.agg (AL (upto (2*32) (dgA m) [.int .u8 0]) 64).toArray from congrArg Value.agg upto_all.symm]
  exact Sy.ret1 U (v:=.agg (AL (upto (2*32) (dgA m) [.int .u8 0]) 64).toArray) (.inl (Res.cell (ty':=225) g1 0 (AL (upto (2*32) (dgA m) [.int .u8 0]) 64).toArray _ kR kR Mu U (Dx (An (Cj m) rfl _) kR) rfl))
 ·have lb1:=dY hb1
  refine sT<|Sy.skip<|Sy.then_<|Sy.seq<|Sy.block<|sC<|sp U<|sS (bv (l.getD k1 0)) (Quiet.pure (KC _ _ _ _ _ 32 k1 .i64 _ _ U U U Il uy5 U kF om (T4 l hl k1 om)))<|sp U<|sp U<|sG<|Sy.region<|sp U<|sS (iZ (2*k1)) (qml U U U)<|sp U<|sS (iZ (2*k1)) (qml U U U)<|sS (iZ ((2*k1)+1)) (qad U U U)<|sp U<|sS (.int .u8 ((dg m (2*k1):Nat):Int)) (Quiet.pure (Wm _ _ _ _ _ (l.getD k1 0) _ U U U (by rw [hl0]; exact aG m k1 om)))<|sp U<|sS (.int .u8 ((dg m (2*k1+1):Nat):Int)) (Quiet.pure (Wl _ _ _ _ _ (l.getD k1 0) _ U U U (by rw [hl0]; exact aF m k1 om)))<|sS (.pointer (some ⟨g2,0+(2*k1)*1,none⟩)) (Quiet.pure (A_ 225 _ _ _ g2 0 _ (2*k1) 1 .i64 U U U Mu kF om))<|Sy.write kR 1 g2 225 (AL (upto (2*k1) (dgA m) [.int .u8 0]) 64).toArray (AL (upto (2*k1+1) (dgA m) [.int .u8 0]) 64).toArray kR (Writes.one (0+(2*k1)*1) 5 (.int .u8 ((dg m (2*k1):Nat):Int)) _ _ U kR kR kR U U (Nr (An (Cj m) rfl _) (k:=2*k1) om om) ((congrArg (Array.setIfInBounds _ · _) (show 0+(2*k1)*1=2*k1 by omega)).trans (Kk (Cj m) rfl om)))<|sS (.pointer (some ⟨g2,0+((2*k1)+1)*1,none⟩)) (Quiet.pure (A_ 225 _ _ _ g2 0 _ ((2*k1)+1) 1 .i64 U U U Mu kF om))<|Sy.write kR 1 g2 225 (AL (upto (2*k1+1) (dgA m) [.int .u8 0]) 64).toArray (AL (upto (2*k1+1+1) (dgA m) [.int .u8 0]) 64).toArray kR (Writes.one (0+((2*k1)+1)*1) 5 (.int .u8 ((dg m (2*k1+1):Nat):Int)) _ _ U kR kR kR U U (Nr (An (Cj m) rfl _) (k:=2*k1+1) om om) ((congrArg (Array.setIfInBounds _ · _) (show 0+((2*k1)+1)*1=2*k1+1 by omega)).trans (Kk (Cj m) rfl om)))<|Sy.nil<|Sy.in_<|Sy.then_<|Sy.region<|sS (iZ (k1+1)) (qad U U U)<|sp U<|Sy.nil ?_
  exact Sy.againK [true,true] (M:=[(g1,225,(AL (λ_=>[.int .u8 0]) 64).toArray),(g2,225,(AL (upto (2*k1+1+1) (dgA m) [.int .u8 0]) 64).toArray)]) om ac4 kR (AW U (AW (beq (congrArg (λt=>(AL (upto t (dgA m) [.int .u8 0]) 64).toArray) (show 2*k1+1+1=2*(k1+1) by omega))) U))
def tws (x y z:Nat):List Value:=fws x++(fws y++fws z)
def jws (a:J):List Value:=tws a.x.val a.y.val a.z.val
def Df (a:J):Nat→J
 | 0=>⟨0,0,0⟩
 | k+1=>Cf (Df a k) a
theorem Nu {a:J} {P:Pt} (hP:Ec.On P) (h:Ec.Rep a P):∀ k,Ec.Rep (Df a k) (Ec.nm AR k P)
 | 0=>rfl
 | k+1=>Hw (hP.nm fld k) hP (Nu hP h k) h
def Fb (a:J) (j:Nat):List Value:=jws (Df a j)
theorem CI (a:J):∀ j,(Fb a j).length=12:=λ_=>rfl
theorem R9 (a:J):(AL (λ_=>tws 0 0 0) 16).toArray=(AL (upto 1 (Fb a) (tws 0 0 0)) 16).toArray:=congrArg List.toArray (CD λj _=>by
 unfold upto
 split
 ·obtain rfl:j=0:=om
  rfl
 ·rfl)
theorem QX (a:J):∀ u∈jws a,u.oneCell'=true:=λu hu=>by
 unfold jws tws fws at hu
 simp [qv] at hu
 rcases hu with rfl|rfl|rfl|rfl|rfl|rfl|rfl|rfl|rfl|rfl|rfl|rfl <;> rfl
theorem Xc (w:World) (P:Pt) (x y:Nat) (i:Bool) (hP:ptv P=pv x y i):AY 179 #[pv x y i] w (Gets w (.agg (AL (Fb (Bl P)) 16).toArray)):=by
 obtain ⟨a,ha⟩:=xE (Bl P)
 have c3:∀ w,AY 226 #[pv x y i] w (Gets w (tv a.x.val a.y.val a.z.val)):=λw=>by
  have h:=VM w P
  rw [hP, ← ha] at h
  exact h
 rw [← ha]
 refine Sy.enter (args:=[pv x y i]) Tryz.func179 U kL<|sC<|sM 37 (pcs x y i) (λg0=>?_)
 refine Sy.make kR 227 (AL (λ_=>tws 0 0 0) 16).toArray ptr kF (λg1=>?_)
 refine sA<|Sy.make kR 227 (AL (λ_=>tws 0 0 0) 16).toArray ptr kF (λg2=>?_)
 refine sA<|sS (pv x y i) (qk 0 0 9 U U AX)<|sS (tv a.x.val a.y.val a.z.val) (qf c3)<|sM 153 (tcs 0 0 0) (λg3=>?_)
 refine sw 3 U (tcs a.x.val a.y.val a.z.val) (wA U)<|sG<|Sy.seq<|sC<|sp U<|sG<|Sy.block<|Sy.loopK 15 (λk1=>[(2,pT g1 0),(3,pT g2 0),(4,pT g3 0),(5,iZ (k1+1))]) (λk1=>[(g1,227,(AL (λ_=>tws 0 0 0) 16).toArray),(g2,227,(AL (upto (k1+1) (Fb a) (tws 0 0 0)) 16).toArray),(g3,153,(tcs a.x.val a.y.val a.z.val))]) [false,true,true,true] (M:=[(g1,227,(AL (λ_=>tws 0 0 0) 16).toArray),(g2,227,(AL (λ_=>tws 0 0 0) 16).toArray),(g3,153,(tcs a.x.val a.y.val a.z.val))]) ac4 kR (AW U (AW (beq (R9 a)) (AW U U))) (λk1 hk1=>?_)
 refine Sy.seq<|sC<|sp U ?_
 obtain ⟨b1,hb1⟩:=xE (decide (k1+1<16))
 refine sS (.bool b1) (qls U U U hb1)<|sG ?_
 cases b1
 ·have lb1:=dN hb1
  refine sU<|Sy.exit<|Sy.then_exit<|Sy.then_exit ?_
  obtain rfl:k1=15:=om
  refine Sy.in_exit<|sB<|sS (.agg (AL (upto (15+1) (Fb a) (tws 0 0 0)) 16).toArray) (qx 1 0 192 U U Mn (Gp (An (CI a) rfl _) rfl) (Gn (An (CI a) rfl _) rfl))<|Sy.write kR 0 g1 227 (AL (λ_=>tws 0 0 0) 16).toArray (AL (upto (15+1) (Fb a) (tws 0 0 0)) 16).toArray kR (Writes.store 0 227 (AL (upto (15+1) (Fb a) (tws 0 0 0)) 16).toArray _ _ U kR kR (Dx (An (CI a) rfl _) kR) (GP (An (CI a) rfl _) rfl kR) (Hh (An (CI a) rfl _) _ (JJ (λ_=>QX _) (QX ⟨0,0,0⟩) _)) (Hg (An (CI a) rfl _) kR))<|sG<|Sy.ret ?_
  rw [show (.agg (AL (Fb a) 16).toArray:Value)=.agg (AL (upto (15+1) (Fb a) (tws 0 0 0)) 16).toArray from congrArg Value.agg upto_all.symm]
  exact Sy.ret1 U (v:=.agg (AL (upto (15+1) (Fb a) (tws 0 0 0)) 16).toArray) (.inl (Res.cell (ty':=227) g1 0 (AL (upto (15+1) (Fb a) (tws 0 0 0)) 16).toArray _ kR kR Mn U (Dx (An (CI a) rfl _) kR) rfl))
 ·have lb1:=dY hb1
  refine sT<|Sy.skip<|Sy.then_<|Sy.seq<|Sy.block<|Sy.regionD (λj=>j == 8) kR<|sz 0 U U<|sz 1 U U<|sD 2 U (iZ ((k1+1) - 1)) (qsb U U U)<|sD 3 U (.pointer (some ⟨g2,0+((k1+1) - 1)*12,none⟩)) (Quiet.pure (A_ 227 _ _ _ g2 0 _ ((k1+1) - 1) 12 .i64 U U U Mn kF om))<|sD 4 U (tv ((Df a ((k1+1) - 1)).x.val) ((Df a ((k1+1) - 1)).y.val) ((Df a ((k1+1) - 1)).z.val)) (qx 1 (0+((k1+1) - 1)*12) 12 U U CM ((R4 (An (CI a) rfl _) (k:=(k1+1) - 1) om om).trans ((congrArg (λl:List Value=>Value.agg l.toArray) (Lf om)).trans kR)) (Hi (An (CI a) rfl _) (k:=(k1+1) - 1) om om))<|sD 5 U (tv a.x.val a.y.val a.z.val) (qk 2 0 12 U U CM) ?_
  obtain ⟨j1,hj1⟩:∃ z:J,z=Cf (Df a ((k1+1) - 1)) a:=⟨_,rfl⟩
  refine sD 6 U (tv j1.x.val j1.y.val j1.z.val) (qf (λw=>by rw [hj1]; exact Pp w (Df a ((k1+1) - 1)) a))<|sD 7 U (.pointer (some ⟨g2,0+(k1+1)*12,none⟩)) (Quiet.pure (A_ 227 _ _ _ g2 0 _ (k1+1) 12 .i64 U U U Mn kF om))<|Sy.writeD 8 U kR (by rfl) kR 1 g2 227 (AL (upto (k1+1) (Fb a) (tws 0 0 0)) 16).toArray (AL (upto (k1+1+1) (Fb a) (tws 0 0 0)) 16).toArray kR (Writes.store (0+(k1+1)*12) 153 (tcs j1.x.val j1.y.val j1.z.val) _ _ U kR kR kR (Hi (An (CI a) rfl _) (k:=k1+1) om om) kR (D2 (v:=(tcs j1.x.val j1.y.val j1.z.val).toList) (CI a) rfl (by rw [hj1]; rfl) om om))<|sE<|Sy.in_<|Sy.then_<|Sy.region<|sp U<|sS (iZ ((k1+1)+1)) (qad U U U)<|sp U<|Sy.nil ?_
  exact Sy.againK [true,true,true] (M:=[(g1,227,(AL (λ_=>tws 0 0 0) 16).toArray),(g2,227,(AL (upto (k1+1+1) (Fb a) (tws 0 0 0)) 16).toArray),(g3,153,(tcs a.x.val a.y.val a.z.val))]) om ac4 kR (AW U (AW U (AW U U)))
structure Trm where
 k:Nat
 x:Nat
 y:Nat
 i:Bool
def VJ (k x y:Nat) (i:Bool):Array Value:=(fws k++(fws x++(fws y++[Value.bool i]))).toArray
def trv (k x y:Nat) (i:Bool):Value:=.agg (VJ k x y i)
def Trm.cells (t:Trm):List Value:=fws t.k++(fws t.x++(fws t.y++[Value.bool t.i]))
def Trm.ok (t:Trm):Prop:=t.k<K4∧t.x<K4∧t.y<K4
def Trm.pt (t:Trm):Pt:=dec t.x t.y t.i
def Trm.kn (t:Trm):Nat:=t.k%Sc.pM
def tmA (t:Trm):List Value:=AL (dgA t.kn) 64++AL (Fb (Bl t.pt)) 16
def Xs (t:Trm):Array Value:=(tmA t).toArray
theorem Lh (T:Nat→Trm):∀ j,(tmA (T j)).length=256:=λ_=>by
 unfold tmA
 rw [List.length_append,Am (Cj _),Am (CI _)]
def zt:List Value:=List.replicate 64 (.int .u8 0)++List.replicate 192 (.int .u64 0)
noncomputable def Z2:TypeInfo:=(Tryz.prog.info? 230).getD default
theorem Wa:Tryz.prog.info? 230=some Z2:=kZ
theorem aE (m j:Nat):dg m j<16:=Nat.mod_lt _ dZ
theorem aB (w:World) (P:Pt):Calls Tryz.prog 179 #[ptv P] w (Gets w (.agg (AL (Fb (Bl P)) 16).toArray)):=by
 rcases P with _ | ⟨u,v⟩
 ·exact Xc w none 0 0 true U
 ·exact Xc w (some (u,v)) u.val v.val false U
def dbN (a:J):Nat→J
 | 0=>a
 | j+1=>B0 (dbN a j)
def inJ (T:Nat→Trm) (i:Nat) (a:J):Nat→J
 | 0=>a
 | j+1=>Cf (inJ T i a j) (Df (Bl (T j).pt) (dg (T j).kn i))
def muJ (T:Nat→Trm) (n:Nat):Nat→J
 | 0=>⟨0,0,0⟩
 | i+1=>inJ T i (dbN (muJ T n i) 4) n
theorem aj (w:World) (g off i:Nat) (t:Trm) (hg:g<w.heap.size) (hi:i<64) (hr:w.rangeAt g off (tmA t)):AY 180 #[pT g off,iZ i] w (Gets w (tv (Df (Bl t.pt) (dg t.kn i)).x.val (Df (Bl t.pt) (dg t.kn i)).y.val (Df (Bl t.pt) (dg t.kn i)).z.val)):=by
 have hd:=aE t.kn i
 refine Sy.enter (args:=[pT g off,iZ i]) Tryz.func180 U kL<|sC<|sM 153 (tcs 0 0 0) (λg0=>?_)
 refine sH (λj=>j == 11) ?_
 refine sz 0 U U<|sz 1 U U<|sz 2 U U<|sz 3 U U<|sZ 4 U (pT g off)<|sD 5 U (.pointer (some ⟨g,off+i*1,none⟩)) (Quiet.pure (A_ 225 _ _ _ g off _ i 1 .i64 U U U Mu kF om))<|sD 6 U (.int .u8 ((dg t.kn i:Nat):Int)) (Quiet.thereOne g (off+i*1) 5 _ _ U kR hg _ (Gj (Gi hr) (Cj t.kn) hi 0 _ U) uy5 U)<|sz 7 U U<|sZ 8 U (pT g (off+64))<|sD 9 U (.pointer (some ⟨g,off+64+(dg t.kn i)*12,none⟩)) (Quiet.pure (A_ 227 _ _ _ g (off+64) _ (dg t.kn i) 12 .u8 U U U Mn kF om))<|sD 10 U (tv ((Df (Bl t.pt) (dg t.kn i)).x.val) ((Df (Bl t.pt) (dg t.kn i)).y.val) ((Df (Bl t.pt) (dg t.kn i)).z.val)) (Quiet.there g (off+64+(dg t.kn i)*12) 12 153 (Fb (Bl t.pt) (dg t.kn i)) _ _ U kR hg (Gj (Fo hr (Am (Cj t.kn) 64)) (CI _) hd) CM U kR U _ kR)<|sx 11 U 0 U (tcs ((Df (Bl t.pt) (dg t.kn i)).x.val) ((Df (Bl t.pt) (dg t.kn i)).y.val) ((Df (Bl t.pt) (dg t.kn i)).z.val)) (wA U)<|sI<|Sy.ret ?_
 exact rc (v:=tv ((Df (Bl t.pt) (dg t.kn i)).x.val) ((Df (Bl t.pt) (dg t.kn i)).y.val) ((Df (Bl t.pt) (dg t.kn i)).z.val)) 0 U U CM
theorem WG (w:World) (b o n c:Nat) (T:Nat→Trm) (hb:b<w.heap.size) (hn:n≤32) (hok:∀ j,(T j).ok) (hT:∀ j,j<n→w.rangeAt b (o+j*13) (T j).cells):AY 114 #[.slice (some ⟨b,o,none⟩) n c] w (Gets w (tv (muJ T n 64).x.val (muJ T n 64).y.val (muJ T n 64).z.val)):=by
 refine Sy.enter (args:=[.slice (some ⟨b,o,none⟩) n c]) Tryz.func114 U kL<|sC<|sM 153 (tcs 0 0 0) (λg0=>?_)
 refine sA<|sp U<|sP (iZ n)<|Sy.make kR 230 (AL (λ_=>zt) n).toArray (λg=>.slice (pA g) n n) (Makes.slice 224 230 _ (.agg zt.toArray) 256 1600 _ _ .i64 .i64 n zt U U U Se Wa kR kR dZ kR kR kR om om) (λg1=>?_)
 refine sp U<|sG<|Sy.seq<|sC<|sp U<|sP (iZ n)<|sp U<|sG<|Sy.block<|Sy.loopK n (λk1=>[(2,pT g0 0),(3,.slice (pA g1) n n),(12,.slice (some ⟨b,o,none⟩) n c),(13,iZ n),(14,iZ k1)]) (λk1=>[(g0,153,(tcs 0 0 0)),(g1,230,(AL (upto k1 (λj=>tmA (T j)) zt) n).toArray)]) [true,true] (M:=[(g0,153,(tcs 0 0 0)),(g1,230,(AL (λ_=>zt) n).toArray)]) ac5 kR (AW U (AW (beq Em) U)) (λk1 hk1=>?_)
 refine sC ?_
 obtain ⟨b1,hb1⟩:=xE (decide (k1<n))
 refine sS (.bool b1) (qls U U U hb1)<|sG<|Sy.seq ?_
 cases b1
 ·have lb1:=dN hb1
  refine sU<|Sy.exit<|Sy.then_exit<|Sy.then_exit ?_
  obtain rfl:n=k1:=om
  refine Sy.in_exit<|sB<|sM 153 (tcs 0 0 0) (λg2=>?_)
  refine sG<|Sy.seq<|sC<|sp U<|sG<|Sy.block<|Sy.loopK 64 (λk2=>[(2,pT g0 0),(3,.slice (pA g1) n n),(6,pT g2 0),(31,iZ k2)]) (λk2=>[(g0,153,(tcs 0 0 0)),(g1,230,(AL ((λj=>tmA (T j))) n).toArray),(g2,153,(tcs ((muJ T n k2).x.val) ((muJ T n k2).y.val) ((muJ T n k2).z.val)))]) [true,true,true] (M:=[(g0,153,(tcs 0 0 0)),(g1,230,(AL (upto n (λj=>tmA (T j)) zt) n).toArray),(g2,153,(tcs 0 0 0))]) ac4 kR (AW U (AW (beq upto_all) (AW U U))) (λk2 hk2=>?_)
  refine sC ?_
  obtain ⟨b2,hb2⟩:=xE (decide (k2<64))
  refine sS (.bool b2) (qls U U U hb2)<|sG<|Sy.seq ?_
  cases b2
  ·have lb2:=dN hb2
   refine sU<|Sy.exit<|Sy.then_exit<|Sy.then_exit ?_
   obtain rfl:k2=64:=om
   refine Sy.in_exit<|sB<|sS (tv ((muJ T n 64).x.val) ((muJ T n 64).y.val) ((muJ T n 64).z.val)) (qk 2 0 12 U U CM)<|sw 0 U (tcs ((muJ T n 64).x.val) ((muJ T n 64).y.val) ((muJ T n 64).z.val)) (wA U)<|sG<|Sy.ret ?_
   exact rc (v:=tv ((muJ T n 64).x.val) ((muJ T n 64).y.val) ((muJ T n 64).z.val)) 0 U U CM
  ·have lb2:=dY hb2
   refine sT<|Sy.skip<|Sy.then_<|Sy.seq<|Sy.block<|sC<|sp U<|sp U<|sG<|Sy.seq<|sC<|sp U<|sG<|Sy.block<|Sy.loopK 4 (λk3=>[(2,pT g0 0),(3,.slice (pA g1) n n),(6,pT g2 0),(7,iZ k2),(31,iZ k2),(34,iZ k3)]) (λk3=>[(g0,153,(tcs 0 0 0)),(g1,230,(AL ((λj=>tmA (T j))) n).toArray),(g2,153,(tcs ((dbN (muJ T n k2) k3).x.val) ((dbN (muJ T n k2) k3).y.val) ((dbN (muJ T n k2) k3).z.val)))]) [true,true,true] (M:=[(g0,153,(tcs 0 0 0)),(g1,230,(AL ((λj=>tmA (T j))) n).toArray),(g2,153,(tcs ((muJ T n k2).x.val) ((muJ T n k2).y.val) ((muJ T n k2).z.val)))]) ac6 kR (AW U (AW U (AW U U))) (λk3 hk3=>?_)
   refine sC ?_
   obtain ⟨b3,hb3⟩:=xE (decide (k3<4))
   refine sS (.bool b3) (qls U U U hb3)<|sG<|Sy.seq ?_
   cases b3
   ·have lb3:=dN hb3
    refine sU<|Sy.exit<|Sy.then_exit<|Sy.then_exit ?_
    obtain rfl:k3=4:=om
    refine Sy.in_exit<|sB<|sp U<|sP (iZ n)<|sp U<|sG<|Sy.block<|Sy.loopK n (λk4=>[(2,pT g0 0),(3,.slice (pA g1) n n),(6,pT g2 0),(7,iZ k2),(31,iZ k2),(40,iZ n),(41,iZ k4)]) (λk4=>[(g0,153,(tcs 0 0 0)),(g1,230,(AL ((λj=>tmA (T j))) n).toArray),(g2,153,(tcs ((inJ T k2 (dbN (muJ T n k2) 4) k4).x.val) ((inJ T k2 (dbN (muJ T n k2) 4) k4).y.val) ((inJ T k2 (dbN (muJ T n k2) 4) k4).z.val)))]) [true,true,true] (M:=[(g0,153,(tcs 0 0 0)),(g1,230,(AL ((λj=>tmA (T j))) n).toArray),(g2,153,(tcs ((dbN (muJ T n k2) 4).x.val) ((dbN (muJ T n k2) 4).y.val) ((dbN (muJ T n k2) 4).z.val)))]) ac7 kR (AW U (AW U (AW U U))) (λk4 hk4=>?_)
    refine sC ?_
    obtain ⟨b4,hb4⟩:=xE (decide (k4<n))
    refine sS (.bool b4) (qls U U U hb4)<|sG<|Sy.seq ?_
    cases b4
    ·have lb4:=dN hb4
     refine sU<|Sy.exit<|Sy.then_exit<|Sy.then_exit ?_
     obtain rfl:n=k4:=om
     refine Sy.in_exit<|Sy.in_<|Sy.then_<|Sy.region<|sS (iZ (k2+1)) (qad U U U)<|sp U<|Sy.nil ?_
     exact Sy.againK [true,true,true] (M:=[(g0,153,(tcs 0 0 0)),(g1,230,(AL ((λj=>tmA (T j))) n).toArray),(g2,153,(tcs ((inJ T k2 (dbN (muJ T n k2) 4) n).x.val) ((inJ T k2 (dbN (muJ T n k2) 4) n).y.val) ((inJ T k2 (dbN (muJ T n k2) 4) n).z.val)))]) om ac4 kR (AW U (AW U (AW U U)))
    ·have lb4:=dY hb4
     refine sT<|Sy.skip<|Sy.then_<|Sy.seq<|Sy.block<|sC<|sp U<|sp U<|sG<|Sy.regionD (λj=>j == 7) kR<|sD 0 U (tv ((inJ T k2 (dbN (muJ T n k2) 4) k4).x.val) ((inJ T k2 (dbN (muJ T n k2) 4) k4).y.val) ((inJ T k2 (dbN (muJ T n k2) 4) k4).z.val)) (qk 2 0 12 U U CM)<|sz 1 U U<|sz 2 U U<|sD 3 U (.pointer (some ⟨g1,0+k4*256,none⟩)) (Quiet.pure (CQ 224 _ _ _ g1 0 n n k4 256 .i64 U U U Se kF om))<|sz 4 U U<|sD 5 U (tv ((Df (Bl (T k4).pt) (dg (T k4).kn k2)).x.val) ((Df (Bl (T k4).pt) (dg (T k4).kn k2)).y.val) ((Df (Bl (T k4).pt) (dg (T k4).kn k2)).z.val)) (qg (λw hw=>aj w g1 (0+k4*256) k2 (T k4) (hw.get (i:=1) rfl).lt om (CJ (hw.get (i:=1) rfl) (FD (Lh T) (k:=k4) om om)))) ?_
     obtain ⟨j1,hj1⟩:∃ z:J,z=Cf (inJ T k2 (dbN (muJ T n k2) 4) k4) (Df (Bl (T k4).pt) (dg (T k4).kn k2)):=⟨_,rfl⟩
     refine sD 6 U (tv j1.x.val j1.y.val j1.z.val) (qf (λw=>by rw [hj1]; exact Pp w (inJ T k2 (dbN (muJ T n k2) 4) k4) (Df (Bl (T k4).pt) (dg (T k4).kn k2))))<|sx 7 U 2 U (tcs j1.x.val j1.y.val j1.z.val) (wA U)<|sE<|Sy.in_<|Sy.then_<|Sy.region<|sS (iZ (k4+1)) (qad U U U)<|sp U<|Sy.nil ?_
     exact Sy.againK [true,true,true] (M:=[(g0,153,(tcs 0 0 0)),(g1,230,(AL ((λj=>tmA (T j))) n).toArray),(g2,153,(tcs j1.x.val j1.y.val j1.z.val))]) om ac7 kR (AW U (AW U (AW (beq (by rw [hj1]; rfl)) U)))
   ·have lb3:=dY hb3
    refine sT<|Sy.skip<|Sy.then_<|Sy.seq<|Sy.block<|Sy.region<|sS (tv ((dbN (muJ T n k2) k3).x.val) ((dbN (muJ T n k2) k3).y.val) ((dbN (muJ T n k2) k3).z.val)) (qk 2 0 12 U U CM) ?_
    obtain ⟨j2,hj2⟩:∃ z:J,z=B0 (dbN (muJ T n k2) k3):=⟨_,rfl⟩
    refine sS (tv j2.x.val j2.y.val j2.z.val) (qf (λw=>by rw [hj2]; exact Nx w (dbN (muJ T n k2) k3)))<|sw 2 U (tcs j2.x.val j2.y.val j2.z.val) (wA U)<|Sy.nil<|Sy.in_<|Sy.then_<|Sy.region<|sS (iZ (k3+1)) (qad U U U)<|sp U<|Sy.nil ?_
    exact Sy.againK [true,true,true] (M:=[(g0,153,(tcs 0 0 0)),(g1,230,(AL ((λj=>tmA (T j))) n).toArray),(g2,153,(tcs j2.x.val j2.y.val j2.z.val))]) om ac6 kR (AW U (AW U (AW (beq (by rw [hj2]; rfl)) U)))
 ·have lb1:=dY hb1
  refine sT<|Sy.skip<|Sy.then_<|Sy.seq<|Sy.block<|sC<|sp U<|sS (.pointer (some ⟨b,o+k1*13,none⟩)) (Quiet.pure (CQ 98 _ _ _ b o n c k1 13 .i64 U U U Sd kF om))<|sS (trv ((T k1).k) ((T k1).x) ((T k1).y) ((T k1).i)) (Quiet.there b (o+k1*13) 13 97 (T k1).cells _ _ U kR hb (hT k1 om) aQ U kR U _ kR)<|sM 97 (VJ 0 0 0 false) (λg3=>?_)
  refine sp U<|sw 2 U (VJ ((T k1).k) ((T k1).x) ((T k1).y) ((T k1).i)) (wA U)<|sG<|Sy.regionD (λj=>j == 11) kR<|sz 0 U U<|sz 1 U U<|sZ 2 U (pT g3 0)<|sD 3 U (fv ((T k1).k)) (qk 2 0 4 U U Au)<|sD 4 U (.agg (AL ((dgA (T k1).kn)) 64).toArray) (qf (λw=>UU w (T k1).k (hok k1).1))<|sZ 5 U (pT g3 4)<|sD 6 U (pv ((T k1).x) ((T k1).y) ((T k1).i)) (qk 2 4 9 U U AX)<|sD 7 U (ptv (T k1).pt) (qf (λw=>Cq w (T k1).x (T k1).y (T k1).i (hok k1).2.1 (hok k1).2.2))<|sD 8 U (.agg (AL ((Fb (Bl (T k1).pt))) 16).toArray) (qf (λw=>aB w (T k1).pt))<|sZ 9 U (.agg (Xs (T k1)))<|sD 10 U (.pointer (some ⟨g1,0+k1*256,none⟩)) (Quiet.pure (CQ 224 _ _ _ g1 0 n n k1 256 .i64 U U U Se kF om))<|sx 11 U 1 U (AL (upto (k1+1) (λj=>tmA (T j)) zt) n).toArray (Writes.store (0+k1*256) 230 (Xs (T k1)) _ _ U kR kR kR (Hi (An (Lh T) rfl _) (k:=k1) om om) kR (D2 (v:=(Xs (T k1)).toList) (Lh T) rfl rfl om om))<|sE<|Sy.in_<|Sy.then_<|Sy.region<|sS (iZ (k1+1)) (qad U U U)<|sp U<|Sy.nil ?_
  exact Sy.againK [true,true,false] (M:=[(g0,153,(tcs 0 0 0)),(g1,230,(AL (upto (k1+1) (λj=>tmA (T j)) zt) n).toArray)]) om ac5 kR (AW U (AW U U))
end Cu
end
end Go.Proofs.YtgemfpnlnipfnabGreatDoor
