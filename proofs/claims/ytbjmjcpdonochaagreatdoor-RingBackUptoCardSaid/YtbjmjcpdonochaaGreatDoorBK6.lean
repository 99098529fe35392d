/-
  Texts of ours, put together: ScRefs, SigR, SigK, EqB, SigAlive, ComM, ComV, SigV, RingA, RingB, RingC, RingD, RingE, SymY, SymR, SymQ, SymW, TxsW, RingI, SymU, RingJ, RingH, RingK, RingL, SymS, RingM.
-/
import Derived.Test.YtbjmjcpdonochaaGreatDoorBK5
set_option linter.unusedVariables false
set_option linter.unusedSimpArgs false
set_option maxRecDepth 100000
set_option maxHeartbeats 4000000
namespace Go.Proofs.YtbjmjcpdonochaaGreatDoor
section
namespace Cu
open Go.RowKit Sy
theorem Nw {w:World} {g:Nat} {t:TypeId} {m:List UInt8} {sp:List Value} (hb:Blk w g t (m.map bv++sp).toArray) (j:Nat) (u:UInt8) (hj:m[j]? = some u):w.cell? ⟨g,j,none⟩=some (bv u):=by
 refine (hb.cell j).trans ?_
 have hl:=(List.getElem?_eq_some_iff.1 hj).1
 rw [List.getElem?_toArray,List.getElem?_append_left (by rw [List.length_map]; exact hl),List.getElem?_map,hj]
 rfl
theorem Lg (w:World) (a:Nat) (ha:a<K4):Calls Tryz.prog 19 #[fv a] w (Gets w (fv (a%Sc.pM))):=by
 refine Sy.enter (args:=[fv a]) Tryz.func19 U kL<|sC<|sM 42 (fcs a) (λg0=>?_)
 refine sM 42 (fcs 0) (λg1=>?_)
 refine sH (λj=>j == 5) ?_
 refine sD 0 U (.agg Pk) (qF 47 #[] (Sc.refN_any))<|sD 1 U (fv a) (qL 0 g0 0 4 42 42 (fcs a) rfl Ab)<|sD 2 U (fv a) (qF 48 #[fv a] (λw=>Sc.refOf_any w a (by first | assumption | exact Sc.mod_lt _ | exact lt4 _ | exact Ch _ (by first | assumption | exact AW _) | decide +kernel)))<|sD 3 U (fv (a%Sc.pM)) (qF 46 #[.agg Pk,fv a] (λw=>Sc.normR_any w a (by first | assumption | exact Sc.mod_lt _ | exact lt4 _ | exact Ch _ (by first | assumption | exact AW _) | decide +kernel)))<|sD 4 U (fv (a%Sc.pM)) (qF 60 #[fv (a%Sc.pM)] (λw=>Sc.refSc_any w (a%Sc.pM) (by first | assumption | exact Sc.mod_lt _ | exact lt4 _ | exact Ch _ (by first | assumption | exact AW _) | decide +kernel)))<|sX 5 U 1 g1 42 (fcs 0) (fcs (a%Sc.pM)) (wS 0 42 (fcs (a%Sc.pM)) U)<|sI<|Sy.ret ?_
 exact rC (v:=fv (a%Sc.pM)) 42 g1 1 (fcs (a%Sc.pM)) U Ab
theorem PA (w:World) (l:List UInt8) (hl:l.length=32):Calls Tryz.prog 66 #[.agg (l.map bv).toArray] w (Gets w (fv (Ar l%Sc.pM))):=by
 refine Sy.enter (args:=[.agg (l.map bv).toArray]) Tryz.func66 U kL<|sC<|sM 23 (l.map bv).toArray (λg0=>?_)
 refine sM 42 (fcs 0) (λg1=>?_)
 refine sA<|sS (.agg (l.map bv).toArray) (Quiet.load 0 g0 0 32 23 23 (l.map bv).toArray _ _ U kR kR C8 U kR _ (BK l hl) (Bj l hl))<|Sy.callN kR 43 #[.agg (l.map bv).toArray] kF (λvq Mq=>∃ (g:Nat) (sp:List Value) (cap:Nat),vq=.slice (pA g) 32 cap∧(32≤cap∧cap≤9223372036854775807)∧Mq=[(g,5,(l.map bv++sp).toArray)]) (λw _=>Dy w l hl) (λvq Mq hR0=>?_)
 obtain ⟨go1,spo1,cpo1,rfl,hcpo1,rfl⟩:=hR0
 refine sS (fv (Ar l)) (qG 127 #[.slice (pA go1) 32 cpo1] (λw hw=>Je w go1 cpo1 l hl (hw.get (i:=2) rfl).lt (Nw (hw.get (i:=2) rfl)) hcpo1.1 hcpo1.2))<|sS (fv (Ar l)) (qF 60 #[fv (Ar l)] (λw=>Sc.refSc_any w (Ar l) (by first | assumption | exact Sc.mod_lt _ | exact lt4 _ | exact Ch _ (by first | assumption | exact AW _) | decide +kernel)))<|sS (fv ((Ar l)%Sc.pM)) (qF 19 #[fv (Ar l)] (λw=>Lg w (Ar l) (by first | assumption | exact Sc.mod_lt _ | exact lt4 _ | exact Ch _ (by first | assumption | exact AW _) | decide +kernel)))<|sW 1 g1 42 (fcs 0) (fcs ((Ar l)%Sc.pM)) (wS 0 42 (fcs ((Ar l)%Sc.pM)) U)<|sG<|Sy.ret ?_
 exact rC (v:=fv ((Ar l)%Sc.pM)) 42 g1 1 (fcs ((Ar l)%Sc.pM)) U Ab
end Cu
end
section
namespace Cu
open Go.RowKit Sy
end Cu
end
section
namespace Cu
open Go.RowKit Sy
end Cu
end
section
namespace Cu
open Go.RowKit Sy
theorem Ko (w:World) (F:AM) (o:Oper) (x y:Operand) (a b:List UInt8) (ha:a.length=32) (hb:b.length=32) {yt:TypeId} (ho:o.op=.binOp .neq 23 x y yt) (hx:evF F x=.agg (a.map bv).toArray) (hy:evF F y=.agg (b.map bv).toArray):(execOp (evF F) o).run Tryz.prog w=.ok (.value (.bool (decide (a≠b)))) w:=by
 have h1:(eqGuard .neq 23 x y (.agg (a.map bv).toArray) (.agg (b.map bv).toArray)).run Tryz.prog w=.ok () w:=by go_simp
 have h2:(binOp .neq 23 (.agg (a.map bv).toArray) (.agg (b.map bv).toArray)).run Tryz.prog w=.ok (.bool (decide (a≠b))) w:=by
  have h:=run_equalIn_bytes (P:=Tryz.prog) w 9998 23 5 32 C8 uy5 (λW=>kZ) a b ha hb
  rw [run_neq_struct,show (10000:Nat)=9998+2 from rfl,show (Op.equalIn (9998+2) 23 (.agg (a.map bv).toArray) (.agg (b.map bv).toArray)).run Tryz.prog w=_ from h]
  by_cases e:a=b <;> simp [e]
 unfold execOp
 simp only [ho,hx,hy,Sem.run_bind,h1,h2,Result.andThen_ok,Sem.run_pure]
end Cu
end
section
namespace Cu
open Go.RowKit Sy
end Cu
end
section
namespace Cu
open Go.RowKit Sy
end Cu
end
section
namespace Cu
open Go.RowKit Sy
theorem lP {n:Nat} (h:n<K4:=by first | assumption | exact small_lt (by assumption) | exact Hq _ | exact Hp _ | exact lt4 _ | exact Sc.mod_lt _ | decide +kernel):n<K4:=h
def pml (x y:Nat) (i:Bool):List Value:=fws x++(fws y++[Value.bool i])
theorem RB (w:World) (F:AM) (o:Oper) (x y:Operand) (a b:Nat) (i:Bool) (c d:Nat) (j:Bool) {yt:TypeId} (ho:o.op=.binOp .neq 48 x y yt) (hx:evF F x=pv a b i) (hy:evF F y=pv c d j) (ha:a<K4) (hb:b<K4) (hc:c<K4) (hd:d<K4):(execOp (evF F) o).run Tryz.prog w=.ok (.value (.bool (!CW a b i c d j))) w:=by
 have h1:=Dj .neq x y a b i c d j w
 have h2:=GF w a b i c d j ha hb hc hd
 have h3:(binOp .neq 48 (pv a b i) (pv c d j)).run Tryz.prog w=.ok (.bool (!CW a b i c d j)) w:=by
  unfold pv at h2 ⊢
  rw [run_eql_struct] at h2
  rw [run_neq_struct]
  generalize (Op.equalIn 10000 48 (Value.agg (pcs a b i)) (Value.agg (pcs c d j))).run Tryz.prog w=r at h2 ⊢
  revert h2
  cases r <;> simp <;> intros <;> simp_all
 unfold execOp
 simp only [ho,hx,hy,Sem.run_bind,h1,h3,Result.andThen_ok,Sem.run_pure]
theorem KR (a b:Nat) (i:Bool):CW a b i a b i=true:=by
 unfold CW
 simp
theorem Iu (w:World) (F:AM) (o:Oper) (x y:Operand) (n m:Nat) {yt:TypeId} (ho:o.op=.binOp .eql 42 x y yt) (hx:evF F x=fv n) (hy:evF F y=fv m) (hn:n<K4) (hm:m<K4):(execOp (evF F) o).run Tryz.prog w=.ok (.value (.bool (decide (n=m)))) w:=by
 have h1:=Sc.run_eqGuard_fv .eql x y n m w
 have h2:=Sc.run_eql_fv w n m hn hm
 unfold execOp
 simp only [ho,hx,hy,Sem.run_bind,h1,h2,Result.andThen_ok,Sem.run_pure]
theorem N5 (w:World) (F:AM) (o:Oper) (x y:Operand) (n m:Nat) {yt:TypeId} (ho:o.op=.binOp .neq 42 x y yt) (hx:evF F x=fv n) (hy:evF F y=fv m) (hn:n<K4) (hm:m<K4):(execOp (evF F) o).run Tryz.prog w=.ok (.value (.bool (!decide (n=m)))) w:=by
 have h1:=Sc.run_eqGuard_fv .neq x y n m w
 have h2:=Sc.run_neq_fv w n m hn hm
 rw [decide_not] at h2
 unfold execOp
 simp only [ho,hx,hy,Sem.run_bind,h1,h2,Result.andThen_ok,Sem.run_pure]
theorem Ih {P R:Pt} {k a b:Nat} {i:Bool} (hk:k<K4) (ha:a<K4) (hb:b<K4) (h1:dec a b i=P) (he:Ec.nm Ac (k%Sc.pM) P=R) (w:World):Calls Tryz.prog 15 #[fv k,pv a b i] w (Gets w (pv (pX R) (pY R) (pI R))):=by
 have h:=Me w k a b i hk ha hb
 rw [h1,he,B9] at h
 exact h
theorem Lj {P R:Pt} {k a b:Nat} {i:Bool} (hk:k<K4) (ha:a<K4) (hb:b<K4) (h1:dec a b i=P) (he:Ec.nm Ac (k%Sc.pM) P=R) (w:World):Calls Tryz.prog 97 #[fv k,pv a b i] w (Gets w (pv (pX R) (pY R) (pI R))):=by
 have h:=Pg w k a b i hk ha hb
 rw [h1,he,B9] at h
 exact h
theorem QO {P Q R:Pt} {a b c d:Nat} {i j:Bool} (ha:a<K4) (hb:b<K4) (hc:c<K4) (hd:d<K4) (h1:dec a b i=P) (h2:dec c d j=Q) (he:Ec.add Ac P Q=R) (w:World):Calls Tryz.prog 68 #[pv a b i,pv c d j] w (Gets w (pv (pX R) (pY R) (pI R))):=by
 have h:=M6 w a b i c d j ha hb hc hd
 rw [h1,h2,he,B9] at h
 exact h
end Cu
end
section
namespace Cu
open Go.RowKit Sy
end Cu
end
section
namespace Cu
open Go.RowKit Sy
def Dw (P:Pt) (v:Value) (M:AD):Prop:=∃ g,v=.slice (pA g) 33 33∧M=[(g,174,((A3 P).map bv).toArray)]
def Bc (x px py:Nat) (pi:Bool):Bool:=CW (pX (evP x)) (pY (evP x)) (pI (evP x)) px py pi
theorem Gl (w:World) (px py:Nat) (pi:Bool) (hpx:px<K4) (hpy:py<K4):Calls Tryz.prog 94 #[pv px py pi] w (GetsN w (Dw (dec px py pi))):=by
 refine Sy.enter (args:=[pv px py pi]) Tryz.func94 U kL<|sC<|sM 48 (pcs px py pi) (λg0=>?_)
 refine sP (.slice none 0 0)<|sA<|sS (pv px py pi) (qL 0 g0 0 9 48 48 (pcs px py pi) rfl An)<|sS (.agg ((A3 (dec px py pi)).map bv).toArray) (qF 146 #[pv px py pi] (λw=>P6 w px py pi hpx hpy))<|Sy.make kR 174 (Zl 33).toArray ptr kF (λg1=>?_)
 refine Sy.write kR 1 g1 174 (Zl 33).toArray ((A3 (dec px py pi)).map bv).toArray kR (Writes.store 0 174 ((A3 (dec px py pi)).map bv).toArray _ _ U kR kR (by rw [Eb (A3 (dec px py pi)) (A5 _)]; kernel_rfl) (by rw [Eb (A3 (dec px py pi)) (A5 _)]; exact Nat.le_of_ble_eq_true kR) (Ij _) (Ll _ _ (by rw [(A5 _)]; kernel_rfl)))<|sA<|sP (.slice (pA g1) 33 33)<|sP (.slice (pA g1) 33 33)<|sG<|Sy.ret ?_
 exact JV 1 (g1,174,((A3 (dec px py pi)).map bv).toArray) rfl (v:=.slice (pA g1) 33 33) (.inl (show _=_ by kernel_rfl)) kR ⟨_,rfl,rfl⟩
theorem Hs (w:World) (x px py:Nat) (pi:Bool) (hx:x<K4) (hpx:px<K4) (hpy:py<K4):Calls Tryz.prog 93 #[fv x,pv px py pi] w (Gets w (.bool (Bc x px py pi))):=by
 have hPX:=Hq (evP x)
 have hPY:=Hp (evP x)
 refine Sy.enter (args:=[fv x,pv px py pi]) Tryz.func93 U kL<|sC<|sM 42 (fcs x) (λg0=>?_)
 refine sM 48 (pcs px py pi) (λg1=>?_)
 refine sP (.bool false)<|sH (λj=>false) ?_
 refine sD 0 U (fv x) (qL 0 g0 0 4 42 42 (fcs x) rfl Ab)<|sD 1 U (pv gx.val gy.val false) (qF 99 #[] (LC))<|sD 2 U (pv (pX (evP x)) (pY (evP x)) (pI (evP x))) (qF 97 #[fv x,pv gx.val gy.val false] (λw=>Lj hx (lt4 _) (lt4 _) (show dec gx.val gy.val false=bP from Eu gx gy bP_on) rfl w))<|sD 3 U (pv px py pi) (qL 1 g1 0 9 48 48 (pcs px py pi) rfl An) ?_
 obtain ⟨b1,hb1⟩:=xE (CW (pX (evP x)) (pY (evP x)) (pI (evP x)) px py pi)
 refine sD 4 U (.bool b1) (Quiet.pure (λw=>by rw [hb1]; exact FJ w _ _ _ _ _ _ _ _ _ _ U U U lK lK lK lK))<|sZ 5 U (.bool b1)<|sI<|Sy.ret ?_
 rw [show (.bool (Bc x px py pi):Value)=.bool b1 from by unfold Bc; rw [hb1]]
 exact rV (.bool b1) rfl
theorem Ef (w:World) (s e px py:Nat) (pi:Bool) (hs:s<K4) (he:e<K4) (hpx:px<K4) (hpy:py<K4):Calls Tryz.prog 106 #[fv s,fv e,pv px py pi] w (GetsN w (Dw (rPt s e px py pi))):=by
 refine Sy.enter (args:=[fv s,fv e,pv px py pi]) Tryz.func106 U kL<|sC<|sM 42 (fcs s) (λg0=>?_)
 refine sM 42 (fcs e) (λg1=>?_)
 refine sM 48 (pcs px py pi) (λg2=>?_)
 refine sP (.slice none 0 0)<|sH (λj=>false) ?_
 refine sD 0 U (fv s) (qL 0 g0 0 4 42 42 (fcs s) rfl Ab)<|sD 1 U (pv gx.val gy.val false) (qF 99 #[] (LC))<|sZ 2 U (trv s gx.val gy.val false)<|sD 3 U (fv e) (qL 1 g1 0 4 42 42 (fcs e) rfl Ab)<|sD 4 U (pv px py pi) (qL 2 g2 0 9 48 48 (pcs px py pi) rfl An)<|sZ 5 U (trv e px py pi)<|Sy.makeD 6 U kR kR 154 (trl s gx.val gy.val false++(trl e px py pi)).toArray (λg=>.slice (pA g) 2 2) kF (λg3=>?_)
 refine sD 7 U (pv (pX (rPt s e px py pi)) (pY (rPt s e px py pi)) (pI (rPt s e px py pi))) (qG 120 #[.slice (pA g3) 2 2] (λw hw=>by rw [← B9]; exact Rn w g3 _ _ _ px py pi hs he hpx hpy (hw.get (i:=3) rfl)))<|Sy.callND 8 U kR kR 94 #[pv (pX (rPt s e px py pi)) (pY (rPt s e px py pi)) (pI (rPt s e px py pi))] kF ((Dw (rPt s e px py pi))) (λw hw=>by have q:=Gl w (pX (rPt s e px py pi)) (pY (rPt s e px py pi)) (pI (rPt s e px py pi)) (Hq _) (Hp _); rwa [B_ (Qz _ _ _ _ _)] at q) (λvq Mq hR0=>?_)
 obtain ⟨q7,rfl,rfl⟩:=hR0
 refine sZ 9 U (.slice (pA q7) 33 33)<|sI<|Sy.ret ?_
 exact JV 4 (q7,174,((A3 (rPt s e px py pi)).map bv).toArray) rfl (v:=.slice (pA q7) 33 33) (.inl (show _=_ by kernel_rfl)) kR ⟨_,rfl,rfl⟩
end Cu
end
section
namespace Cu
open Go.RowKit Sy
def rgNonce:ByteArray:=⟨#[116,111,108,108,104,111,117,115,101,47,110,111,110,99,101]⟩
def rgFake:ByteArray:=⟨#[116,111,108,108,104,111,117,115,101,47,102,97,107,101]⟩
def rgStep:ByteArray:=⟨#[116,111,108,108,104,111,117,115,101,47,115,116,101,112]⟩
def rgFirst:ByteArray:=⟨#[116,111,108,108,104,111,117,115,101,47,102,105,114,115,116]⟩
def rgRing:ByteArray:=⟨#[116,111,108,108,104,111,117,115,101,47,114,105,110,103]⟩
def Ag (RA:Option Addr) (RN RC:Nat) (bm:List UInt8):List Value:=.slice RA RN RC::bm.map bv
def Aw (RA:Option Addr) (RN RC:Nat) (bm:List UInt8):Value:=.agg (Ag RA RN RC bm).toArray
theorem GD {w:World} {g:Nat} {t:TypeId} {v:Value} {l:List UInt8} (hb:Blk w g t (v::l.map bv).toArray):Sh.Src w (some ⟨g,1,none⟩) l:=λ_=>⟨g,1,rfl,hb.lt,λj u hj=>by
 refine (hb.cell (1+j)).trans ?_
 rw [Nat.add_comm,List.getElem?_toArray,List.getElem?_cons_succ,List.getElem?_map,hj]
 rfl⟩
theorem NB (w:World) (nm:ByteArray) (hnm:nm.size≤1000000000) (g g1 g2 g3:Nat) (t t1 t2 t3:TypeId) (x y:List UInt8) (hx:x.length=32) (hy:y.length=32) (RA:Option Addr) (RN RC:Nat) (l:List UInt8) (k:Nat) (hk:l.length=k) (hk2:k≤100)
  (h1:Blk w g1 t1 (x.map bv).toArray) (h2:Blk w g2 t2 (Ag RA RN RC y).toArray) (h3:Blk w g3 t3 (l.map bv).toArray) (hb:Blk w g t #[.slice (pA g1) 32 32,.slice (some ⟨g2,1,none⟩) 32 32,.slice (pA g3) k k]) (ht:Sh.TabAt w 1) :
  Calls Tryz.prog 95 #[.string nm,.slice (pA g) 3 3] w (Gets w (.agg ((Sh.taggedS nm.data.toList (x++y++l)).map bv).toArray)):=by
 refine QS w nm hnm g t [⟨some ⟨g1,0,none⟩,x,32⟩,⟨some ⟨g2,1,none⟩,y,32⟩,⟨some ⟨g3,0,none⟩,l,k⟩] 3 3 (x++y++l) (by simp [Sh.cat]) U ?_ (ok3 (Q8 h1 hx) ⟨GD (v:=.slice RA RN RC) h2,by show y.length≤32; omega,by show 32≤9223372036854775807; omega⟩ ⟨Sh.Src.of_blk h3,by show l.length≤k; omega,by show k≤9223372036854775807; omega⟩) (by rw [List.length_append,List.length_append,hx,hy]; omega) dZ ht
 rw [List.map_cons,List.map_cons,List.map_cons,List.map_nil]
 unfold Sh.Tx.val
 rw [hx,hy,hk]
 exact hb
theorem Qq (w:World) (nm:ByteArray) (hnm:nm.size≤1000000000) (g g1 g3:Nat) (t t1 t3:TypeId) (y m:List UInt8) (hy:y.length=32) (A:Option Addr) (n c:Nat) (hn:m.length=n) (hm:n≤999999900) (hc:n≤c) (hc2:c≤9223372036854775807) (RA:Option Addr) (RN RC:Nat) (l:List UInt8) (k:Nat) (hk:l.length=k) (hk2:k≤60)
  (h1:Blk w g1 t1 (Ag RA RN RC y).toArray) (hs:Sh.Src w A m) (h3:Blk w g3 t3 (l.map bv).toArray) (hb:Blk w g t #[.slice (some ⟨g1,1,none⟩) 32 32,.slice A n c,.slice (pA g3) k k]) (ht:Sh.TabAt w 1) :
  Calls Tryz.prog 95 #[.string nm,.slice (pA g) 3 3] w (Gets w (.agg ((Sh.taggedS nm.data.toList (y++m++l)).map bv).toArray)):=by
 subst hn
 refine QS w nm hnm g t [⟨some ⟨g1,1,none⟩,y,32⟩,⟨A,m,c⟩,⟨some ⟨g3,0,none⟩,l,k⟩] 3 3 (y++m++l) (by simp [Sh.cat]) U ?_ (ok3 ⟨GD (v:=.slice RA RN RC) h1,by show y.length≤32; omega,by show 32≤9223372036854775807; omega⟩ ⟨hs,hc,hc2⟩ ⟨Sh.Src.of_blk h3,by show l.length≤k; omega,by show k≤9223372036854775807; omega⟩) (by rw [List.length_append,List.length_append,hy]; omega) dZ ht
 rw [List.map_cons,List.map_cons,List.map_cons,List.map_nil]
 unfold Sh.Tx.val
 rw [hy,hk]
 exact hb
def rgN (bm sd:List UInt8) (i:Nat):Nat:=Ar (Sh.taggedS rgNonce.data.toList (sd++bm++[UInt8.ofNat i]))%Sc.pM
def rgF (bm sd:List UInt8) (i j:Nat):Nat:=Ar (Sh.taggedS rgFake.data.toList (sd++bm++[UInt8.ofNat i,UInt8.ofNat j]))%Sc.pM
def rgC (bm x:List UInt8) (i j:Nat):Nat:=Ar (Sh.taggedS rgStep.data.toList (bm++x++[UInt8.ofNat i,UInt8.ofNat j]))%Sc.pM
theorem KV (bm sd:List UInt8) (i:Nat):rgN bm sd i<K4:=Sc.mod_lt _
theorem C6 (bm sd:List UInt8) (i j:Nat):rgF bm sd i j<K4:=Sc.mod_lt _
theorem EY (bm x:List UInt8) (i j:Nat):rgC bm x i j<K4:=Sc.mod_lt _
theorem EZ (w:World) (RA:Option Addr) (RN RC:Nat) (bm:List UInt8) (hbm:bm.length=32) (sd:List UInt8) (hsd:sd.length=32) (i:Nat) (hi:i<256) (ht:Sh.TabAt w 1):Calls Tryz.prog 98 #[Aw RA RN RC bm,.agg (sd.map bv).toArray,iZ i] w (Gets w (fv (rgN bm sd i))):=by
 refine Sy.enter (args:=[Aw RA RN RC bm,.agg (sd.map bv).toArray,iZ i]) Tryz.func98 U kL<|sC<|sM 79 (Ag RA RN RC bm).toArray (λg0=>?_)
 refine sM 23 (sd.map bv).toArray (λg1=>?_)
 refine sM 42 (fcs 0) (λg2=>?_)
 refine sH (λj=>j == 9) ?_
 refine sZ 0 U (.slice (pA g1) 32 32)<|sZ 1 U (pT g0 1)<|sZ 2 U (.slice (some ⟨g0,1,none⟩) 32 32)<|sZ 3 U (iZ i)<|sD 4 U (bv (UInt8.ofNat i)) (Quiet.pure (λw=>CF w _ _ _ i om U U))<|Sy.makeD 5 U kR kR 5 #[bv (UInt8.ofNat i)] (λg=>.slice (pA g) 1 1) kF (λg3=>?_)
 refine Sy.makeD 6 U kR kR 24 #[.slice (pA g1) 32 32,.slice (some ⟨g0,1,none⟩) 32 32,.slice (pA g3) 1 1] (λg=>.slice (pA g) 3 3) kF (λg4=>?_)
 refine sD 7 U (.agg ((Sh.taggedS rgNonce.data.toList (sd++bm++[(UInt8.ofNat i)])).map bv).toArray) (qG 95 #[.string rgNonce,.slice (pA g4) 3 3] (λw hw=>NB w rgNonce dZ g4 g1 g0 g3 _ _ _ _ sd bm hsd hbm RA RN RC [(UInt8.ofNat i)] 1 U dZ (hw.get (i:=1) rfl) (hw.get (i:=0) rfl) (hw.get (i:=3) rfl) (hw.get (i:=4) rfl) (ht.below hw.below ht.lt)))<|sD 8 U (fv (Ar (Sh.taggedS rgNonce.data.toList (sd++bm++[(UInt8.ofNat i)]))%Sc.pM)) (qF 126 #[.agg ((Sh.taggedS rgNonce.data.toList (sd++bm++[(UInt8.ofNat i)])).map bv).toArray] (λw=>Sc.reduceB_any w (Sh.taggedS rgNonce.data.toList (sd++bm++[(UInt8.ofNat i)])) (B8 _ _)))<|sX 9 U 2 g2 42 (fcs 0) (fcs (Ar (Sh.taggedS rgNonce.data.toList (sd++bm++[(UInt8.ofNat i)]))%Sc.pM)) (wS 0 42 (fcs (Ar (Sh.taggedS rgNonce.data.toList (sd++bm++[(UInt8.ofNat i)]))%Sc.pM)) U)<|sI<|Sy.ret ?_
 rw [show (fv (rgN bm sd i):Value)=fv (Ar (Sh.taggedS rgNonce.data.toList (sd++bm++[(UInt8.ofNat i)]))%Sc.pM) from rfl]
 exact rC (v:=fv (Ar (Sh.taggedS rgNonce.data.toList (sd++bm++[(UInt8.ofNat i)]))%Sc.pM)) 42 g2 2 (fcs (Ar (Sh.taggedS rgNonce.data.toList (sd++bm++[(UInt8.ofNat i)]))%Sc.pM)) U Ab
theorem Hy (w:World) (RA:Option Addr) (RN RC:Nat) (bm:List UInt8) (hbm:bm.length=32) (sd:List UInt8) (hsd:sd.length=32) (i j:Nat) (hi:i<256) (hj:j<256) (ht:Sh.TabAt w 1):Calls Tryz.prog 163 #[Aw RA RN RC bm,.agg (sd.map bv).toArray,iZ i,iZ j] w (Gets w (fv (rgF bm sd i j))):=by
 refine Sy.enter (args:=[Aw RA RN RC bm,.agg (sd.map bv).toArray,iZ i,iZ j]) Tryz.func163 U kL<|sC<|sM 79 (Ag RA RN RC bm).toArray (λg0=>?_)
 refine sM 23 (sd.map bv).toArray (λg1=>?_)
 refine sM 42 (fcs 0) (λg2=>?_)
 refine sH (λj=>j == 11) ?_
 refine sZ 0 U (.slice (pA g1) 32 32)<|sZ 1 U (pT g0 1)<|sZ 2 U (.slice (some ⟨g0,1,none⟩) 32 32)<|sZ 3 U (iZ i)<|sD 4 U (bv (UInt8.ofNat i)) (Quiet.pure (λw=>CF w _ _ _ i om U U))<|sZ 5 U (iZ j)<|sD 6 U (bv (UInt8.ofNat j)) (Quiet.pure (λw=>CF w _ _ _ j om U U))<|Sy.makeD 7 U kR kR 5 #[bv (UInt8.ofNat i),bv (UInt8.ofNat j)] (λg=>.slice (pA g) 2 2) kF (λg3=>?_)
 refine Sy.makeD 8 U kR kR 24 #[.slice (pA g1) 32 32,.slice (some ⟨g0,1,none⟩) 32 32,.slice (pA g3) 2 2] (λg=>.slice (pA g) 3 3) kF (λg4=>?_)
 refine sD 9 U (.agg ((Sh.taggedS rgFake.data.toList (sd++bm++[(UInt8.ofNat i),(UInt8.ofNat j)])).map bv).toArray) (qG 95 #[.string rgFake,.slice (pA g4) 3 3] (λw hw=>NB w rgFake dZ g4 g1 g0 g3 _ _ _ _ sd bm hsd hbm RA RN RC [(UInt8.ofNat i),(UInt8.ofNat j)] 2 U dZ (hw.get (i:=1) rfl) (hw.get (i:=0) rfl) (hw.get (i:=3) rfl) (hw.get (i:=4) rfl) (ht.below hw.below ht.lt)))<|sD 10 U (fv (Ar (Sh.taggedS rgFake.data.toList (sd++bm++[(UInt8.ofNat i),(UInt8.ofNat j)]))%Sc.pM)) (qF 126 #[.agg ((Sh.taggedS rgFake.data.toList (sd++bm++[(UInt8.ofNat i),(UInt8.ofNat j)])).map bv).toArray] (λw=>Sc.reduceB_any w (Sh.taggedS rgFake.data.toList (sd++bm++[(UInt8.ofNat i),(UInt8.ofNat j)])) (B8 _ _)))<|sX 11 U 2 g2 42 (fcs 0) (fcs (Ar (Sh.taggedS rgFake.data.toList (sd++bm++[(UInt8.ofNat i),(UInt8.ofNat j)]))%Sc.pM)) (wS 0 42 (fcs (Ar (Sh.taggedS rgFake.data.toList (sd++bm++[(UInt8.ofNat i),(UInt8.ofNat j)]))%Sc.pM)) U)<|sI<|Sy.ret ?_
 rw [show (fv (rgF bm sd i j):Value)=fv (Ar (Sh.taggedS rgFake.data.toList (sd++bm++[(UInt8.ofNat i),(UInt8.ofNat j)]))%Sc.pM) from rfl]
 exact rC (v:=fv (Ar (Sh.taggedS rgFake.data.toList (sd++bm++[(UInt8.ofNat i),(UInt8.ofNat j)]))%Sc.pM)) 42 g2 2 (fcs (Ar (Sh.taggedS rgFake.data.toList (sd++bm++[(UInt8.ofNat i),(UInt8.ofNat j)]))%Sc.pM)) U Ab
theorem EC (w:World) (RA:Option Addr) (RN RC:Nat) (bm:List UInt8) (hbm:bm.length=32) (A:Option Addr) (x:List UInt8) (n c:Nat) (hn:x.length=n) (hm:n≤999999900) (hc:n≤c) (hc2:c≤9223372036854775807) (hs:Sh.Src w A x) (i j:Nat) (hi:i<256) (hj:j<256) (ht:Sh.TabAt w 1):Calls Tryz.prog 102 #[Aw RA RN RC bm,.slice A n c,iZ i,iZ j] w (Gets w (fv (rgC bm x i j))):=by
 refine Sy.enter (args:=[Aw RA RN RC bm,.slice A n c,iZ i,iZ j]) Tryz.func102 U kL<|sC<|sM 79 (Ag RA RN RC bm).toArray (λg0=>?_)
 refine sM 42 (fcs 0) (λg1=>?_)
 refine sA<|sP (pT g0 1)<|sP (.slice (some ⟨g0,1,none⟩) 32 32)<|sP (.slice A n c)<|sP (iZ i)<|sS (bv (UInt8.ofNat i)) (Quiet.pure (λw=>CF w _ _ _ i om U U))<|sP (iZ j)<|sS (bv (UInt8.ofNat j)) (Quiet.pure (λw=>CF w _ _ _ j om U U))<|Sy.make kR 5 #[bv (UInt8.ofNat i),bv (UInt8.ofNat j)] (λg=>.slice (pA g) 2 2) kF (λg2=>?_)
 refine Sy.make kR 24 #[.slice (some ⟨g0,1,none⟩) 32 32,.slice A n c,.slice (pA g2) 2 2] (λg=>.slice (pA g) 3 3) kF (λg3=>?_)
 refine sS (.agg ((Sh.taggedS rgStep.data.toList (bm++x++[(UInt8.ofNat i),(UInt8.ofNat j)])).map bv).toArray) (qG 95 #[.string rgStep,.slice (pA g3) 3 3] (λw hw=>Qq w rgStep dZ g3 g0 g2 _ _ _ bm x hbm A n c hn hm hc hc2 RA RN RC [(UInt8.ofNat i),(UInt8.ofNat j)] 2 U dZ (hw.get (i:=0) rfl) (hs.below hw.below) (hw.get (i:=2) rfl) (hw.get (i:=3) rfl) (ht.below hw.below ht.lt)))<|sS (fv (Ar (Sh.taggedS rgStep.data.toList (bm++x++[(UInt8.ofNat i),(UInt8.ofNat j)]))%Sc.pM)) (qF 126 #[.agg ((Sh.taggedS rgStep.data.toList (bm++x++[(UInt8.ofNat i),(UInt8.ofNat j)])).map bv).toArray] (λw=>Sc.reduceB_any w (Sh.taggedS rgStep.data.toList (bm++x++[(UInt8.ofNat i),(UInt8.ofNat j)])) (B8 _ _)))<|sW 1 g1 42 (fcs 0) (fcs (Ar (Sh.taggedS rgStep.data.toList (bm++x++[(UInt8.ofNat i),(UInt8.ofNat j)]))%Sc.pM)) (wS 0 42 (fcs (Ar (Sh.taggedS rgStep.data.toList (bm++x++[(UInt8.ofNat i),(UInt8.ofNat j)]))%Sc.pM)) U)<|sG<|Sy.ret ?_
 rw [show (fv (rgC bm x i j):Value)=fv (Ar (Sh.taggedS rgStep.data.toList (bm++x++[(UInt8.ofNat i),(UInt8.ofNat j)]))%Sc.pM) from rfl]
 exact rC (v:=fv (Ar (Sh.taggedS rgStep.data.toList (bm++x++[(UInt8.ofNat i),(UInt8.ofNat j)]))%Sc.pM)) 42 g1 1 (fcs (Ar (Sh.taggedS rgStep.data.toList (bm++x++[(UInt8.ofNat i),(UInt8.ofNat j)]))%Sc.pM)) U Ab
end Cu
end
section
namespace Cu
open Go.RowKit Sy
def ixB (N:Nat) (p:Nat→Bool):Int:=match (List.range N).find? p with
 | some k=>(k:Int)
 | none => -1
theorem OC {N k:Nat} {p:Nat→Bool} (hk:k<N) (h:∀ a,a<k→p a=false) (hp:p k=true):ixB N p=(k:Int):=by
 unfold ixB
 rw [List.find?_range_eq_some.2 ⟨hp,List.mem_range.2 hk,λj hj=>by rw [h j hj]; rfl⟩]
theorem OB {N:Nat} {p:Nat→Bool} (h:∀ a,a<N→p a=false):ixB N p = -1:=by
 unfold ixB
 rw [List.find?_range_eq_none.2 λj hj=>by rw [h j hj]; rfl]
theorem Ln (N:Nat) (p:Nat→Bool):decide (ixB N p ≥ 0)=(List.range N).any p:=by
 unfold ixB
 cases h:(List.range N).find? p with
 | none =>
  have q:(List.range N).any p=false:=by
   rw [List.any_eq_false]
   intro x hx e
   rw [List.find?_eq_none] at h
   exact h x hx e
  rw [q]; rfl
 | some k =>
  have q:(List.range N).any p=true:=List.any_eq_true.2 ⟨k,List.mem_of_find?_eq_some h,List.find?_some h⟩
  rw [q]; exact decide_eq_true (Int.natCast_nonneg k)
def E1 (X Y:Nat→Nat) (I:Nat→Bool) (k:Nat):Bool:=!Al (X k) (Y k) (I k)
theorem Oh (w:World) (x y:Nat) (i:Bool) (hx:x<K4) (hy:y<K4):Calls Tryz.prog 157 #[pv x y i] w (Gets w (.bool (!Al x y i))):=by
 refine Sy.enter (args:=[pv x y i]) Tryz.func157 U kL<|sC<|sM 48 (pcs x y i) (λg0=>?_)
 refine sP (.bool false)<|sA<|sS (pv x y i) (qL 0 g0 0 9 48 48 (pcs x y i) rfl An) ?_
 obtain ⟨b1,hb1⟩:=xE (Al x y i)
 refine sS (.bool b1) (qF 158 #[pv x y i] (λw=>by rw [hb1]; exact LZ w x y i hx hy)) ?_
 cases b1
 ·refine sP (.bool true)<|sP (.bool true) ?_
  refine sG<|Sy.ret ?_
  rw [show (.bool (!Al x y i):Value)=.bool true from by rw [← hb1]; rfl]
  exact rV (.bool true) rfl
 ·refine sP (.bool false)<|sP (.bool false) ?_
  refine sG<|Sy.ret ?_
  rw [show (.bool (!Al x y i):Value)=.bool false from by rw [← hb1]; rfl]
  exact rV (.bool false) rfl
theorem Pp (w:World) (A:Option Addr) (N c:Nat) (X Y:Nat→Nat) (I:Nat→Bool) (hX:∀ k,X k<K4) (hY:∀ k,Y k<K4) (hN:N≤4611686018427387904) (hlk:Lst w 9 A N (λk=>pml (X k) (Y k) (I k))):Calls Tryz.prog 209 #[.slice A N c,.func (.func 157) #[] #[]] w (Gets w (.int .i64 (ixB N (E1 X Y I)))):=by
 obtain ⟨gK,oK,hT⟩:=hlk
 refine Sy.enter (args:=[.slice A N c,.func (.func 157) #[] #[]]) Tryz.func209 U kL<|sC<|sP (.int .i64 0)<|sG<|Sy.seq<|sC<|sP (.slice A N c)<|sP (iZ N)<|sP (.int .i64 0)<|sG<|Sy.block<|Sy.loopH N (λk1=>∀ a,a<k1→E1 X Y I a=false) (λk1=>[(0,.slice A N c),(1,.func (.func 157) #[] #[]),(7,iZ N),(8,iZ k1)]) (λk1=>[]) [] (M:=[]) (λa ha=>absurd ha (Nat.not_lt_zero _)) ac4 kR U (λk1 hk1 hh=>?_)
 have hh1:=hh
 refine sC ?_
 obtain ⟨b1,hb1⟩:=xE (decide (k1<N))
 refine sS (.bool b1) (qls U U U hb1)<|sG<|Sy.seq ?_
 cases b1
 ·have lb1:=dN hb1
  refine sU<|Sy.exit<|Sy.then_exit<|Sy.then_exit ?_
  obtain rfl:N=k1:=om
  refine Sy.in_exit<|sB<|sP (.int .i64 (-1))<|sG<|Sy.ret ?_
  rw [show (.int .i64 (ixB N (E1 X Y I)):Value)=.int .i64 (-1) from by rw [OB (λa ha=>hh1 a om)]]
  exact rV (.int .i64 (-1)) U
 ·have lb1:=dY hb1
  refine sT<|Sy.skip<|Sy.then_<|Sy.seq<|Sy.block<|sC<|sP (iZ k1)<|sP (iZ k1)<|sA<|sP (.func (.func 157) #[] #[])<|sP (.slice A N c)<|sP (iZ k1)<|sS (.pointer (some ⟨gK,oK+k1*9,none⟩)) (Quiet.pure (AJ 45 _ _ _ A gK oK N c k1 9 .i64 (hT om).1 U U U CJ kF om))<|sS (pv (X k1) (Y k1) (I k1)) (Quiet.there gK (oK+k1*9) 9 48 (pml (X k1) (Y k1) (I k1)) _ _ U kR (hT om).2.1 ((hT om).2.2 k1 om) An U kR U _ U) ?_
  obtain ⟨b2,hb2⟩:=xE (E1 X Y I k1)
  refine sS (.bool b2) (qG 157 #[pv (X k1) (Y k1) (I k1)] (λw hw=>by rw [hb2]; exact Oh w _ _ _ (hX _) (hY _)))<|sG ?_
  cases b2
  ·refine sU<|Sy.skip<|Sy.in_<|Sy.then_<|Sy.region ?_
   refine sS (iZ (k1+1)) (qad U U U)<|sP (iZ (k1+1))<|Sy.nil ?_
   exact Sy.againH [] (M:=[]) om (λa ha=>(Nat.lt_succ_iff_lt_or_eq.1 ha).elim (hh1 a) (λh=>by rw [h]; exact hb2.symm)) ac4 kR U
  ·refine sT<|sC ?_
   refine sP (iZ k1)<|sP (iZ k1)<|sG<|Sy.ret<|Sy.in_ret<|Sy.then_ret<|Sy.then_ret<|Sy.in_ret<|Sy.then_ret ?_
   rw [show (.int .i64 (ixB N (E1 X Y I)):Value)=iZ k1 from by rw [OC om hh1 hb2.symm]]
   exact rV (iZ k1) rfl
theorem QE (w:World) (A:Option Addr) (N c:Nat) (X Y:Nat→Nat) (I:Nat→Bool) (hX:∀ k,X k<K4) (hY:∀ k,Y k<K4) (hN:N≤4611686018427387904) (hlk:Lst w 9 A N (λk=>pml (X k) (Y k) (I k))):Calls Tryz.prog 156 #[.slice A N c,.func (.func 157) #[] #[]] w (Gets w (.bool ((List.range N).any (E1 X Y I)))):=by
 have hlk0:=hlk
 obtain ⟨gK,oK,hT⟩:=hlk
 refine Sy.enter (args:=[.slice A N c,.func (.func 157) #[] #[]]) Tryz.func156 U kL<|sC<|sP (.bool false)<|sA<|sP (.slice A N c)<|sP (.func (.func 157) #[] #[])<|sS (.int .i64 (ixB N (E1 X Y I))) (Quiet.callS 209 #[.slice A N c,.func (.func 157) #[] #[]] kF (λw hw=>Pp w A N c X Y I hX hY hN (hlk0.below hw.below))) ?_
 obtain ⟨b1,hb1⟩:=xE (decide ((ixB N (E1 X Y I)) ≥ 0))
 refine sS (.bool b1) (Quiet.pure (AO .geq _ _ _ .i64 _ _ _ U U U (D9 _ _ _ _ _ hb1.symm)))<|sP (.bool b1)<|sG<|Sy.ret ?_
 rw [show (.bool ((List.range N).any (E1 X Y I)):Value)=.bool b1 from by rw [← Ln,hb1]]
 exact rV (.bool b1) rfl
theorem QK (w:World) (A:Option Addr) (N c:Nat) (X Y:Nat→Nat) (I:Nat→Bool) (hX:∀ k,X k<K4) (hY:∀ k,Y k<K4) (hN:N≤4611686018427387904) (hlk:Lst w 9 A N (λk=>pml (X k) (Y k) (I k))):Calls Tryz.prog 92 #[.slice A N c] w (Gets w (.bool ((List.range N).any (E1 X Y I)))):=by
 have hlk0:=hlk
 obtain ⟨gK,oK,hT⟩:=hlk
 refine Sy.enter (args:=[.slice A N c]) Tryz.func92 U kL<|sC<|sP (.bool false)<|sA<|sP (.slice A N c) ?_
 obtain ⟨b1,hb1⟩:=xE ((List.range N).any (E1 X Y I))
 refine sS (.bool b1) (Quiet.callS 156 #[.slice A N c,.func (.func 157) #[] #[]] kF (λw hw=>by rw [hb1]; exact QE w A N c X Y I hX hY hN (hlk0.below hw.below)))<|sP (.bool b1)<|sG<|Sy.ret ?_
 rw [show (.bool ((List.range N).any (E1 X Y I)):Value)=.bool b1 from by rw [hb1]]
 exact rV (.bool b1) rfl
end Cu
end
section
namespace Cu
open Go.RowKit Sy
def mnF (D:Nat→Nat):Nat→Nat
 | 0=>D 0
 | k+1=>min (mnF D k) (D (k+1))
def mxF (D:Nat→Nat):Nat→Nat
 | 0=>D 0
 | k+1=>max (mxF D k) (D (k+1))
theorem RG (D:Nat→Nat) (a k:Nat):a≤mnF D k↔∀ j,j≤k→a≤D j:=by
 induction k with
 | zero=>exact ⟨λh j hj=>by rw [Nat.le_zero.1 hj]; exact h,λh=>h 0 (Nat.le_refl _)⟩
 | succ k ih =>
  show a≤min (mnF D k) (D (k+1))↔_
  rw [Nat.le_min,ih]
  exact ⟨λh j hj=>(Nat.lt_or_eq_of_le hj).elim (λq=>h.1 j om) (λq=>by rw [q]; exact h.2),λh=>⟨λj hj=>h j om,h _ (Nat.le_refl _)⟩⟩
theorem RF (D:Nat→Nat) (a k:Nat):mxF D k≤a↔∀ j,j≤k→D j≤a:=by
 induction k with
 | zero=>exact ⟨λh j hj=>by rw [Nat.le_zero.1 hj]; exact h,λh=>h 0 (Nat.le_refl _)⟩
 | succ k ih =>
  show max (mxF D k) (D (k+1))≤a↔_
  rw [Nat.max_le,ih]
  exact ⟨λh j hj=>(Nat.lt_or_eq_of_le hj).elim (λq=>h.1 j om) (λq=>by rw [q]; exact h.2),λh=>⟨λj hj=>h j om,h _ (Nat.le_refl _)⟩⟩
theorem OP {F:AM} {o:Oper} (x y:Operand) {ts:Array TypeId} (k:IntKind) (a b c:Nat) (ho:o.op=.call { callee:=.builtin .max,args:=#[x,y],argTypes:=ts }) (hx:evF F x=.int k (a:Int)) (hy:evF F y=.int k (b:Int)) (h:max a b=c) (w:World):(execOp (evF F) o).run Tryz.prog w=.ok (.value (.int k (c:Int))) w:=by
 have e:(if (a:Int)<(b:Int) then (b:Int) else (a:Int))=(c:Int):=by split <;> omega
 unfold execOp
 simp [ho,hx,hy,resolve,invoke,builtin,Builtin.max_,Builtin.max2]
 omega
theorem Pm (w:World) (A:Option Addr) (M c:Nat) (D:Nat→Nat) (hN:M+1≤4611686018427387904) (hlk:Lst w 1 A (M+1) (λk=>[iZ (D k)])):Calls Tryz.prog 153 #[.slice A (M+1) c] w (Gets w (iZ (mnF D M))):=by
 obtain ⟨gK,oK,hT⟩:=hlk
 refine Sy.enter (args:=[.slice A (M+1) c]) Tryz.func153 U kL<|sC<|sP (.int .i64 0)<|sG<|Sy.seq<|sC<|sP (.slice A (M+1) c)<|sP (iZ ((M+1))) ?_
 obtain ⟨b1,hb1⟩:=xE (decide ((M+1)<1))
 refine sS (.bool b1) (qls U U U hb1)<|sG ?_
 cases b1
 ·have lb1:=dN hb1
  refine sU<|Sy.skip<|sB<|sP (.slice A (M+1) c)<|sS (.pointer (some ⟨gK,oK+0*1,none⟩)) (Quiet.pure (AJ 131 _ _ _ A gK oK (M+1) c 0 1 .i64 (hT om).1 U U U JE kF om))<|sS (iZ ((D 0))) (Quiet.thereOne gK (oK+0*1) 3 _ _ U kR (hT om).2.1 _ (AV ((hT om).2.2 0 om) 0 U) uy3 U)<|sP (iZ ((D 0)))<|sG<|Sy.seq<|sC<|sP (.int .i64 1)<|sG<|Sy.block<|Sy.loopK M (λk1=>[(0,.slice A (M+1) c),(3,iZ ((mnF D k1))),(4,iZ (k1+1))]) (λk1=>[]) [] (M:=[]) ac3 kR U (λk1 hk1=>?_)
  refine Sy.seq<|sC<|sP (iZ (k1+1))<|sP (.slice A (M+1) c)<|sP (iZ ((M+1))) ?_
  obtain ⟨b2,hb2⟩:=xE (decide (k1+1<(M+1)))
  refine sS (.bool b2) (qls U U U hb2)<|sG ?_
  cases b2
  ·have lb2:=dN hb2
   refine sU<|Sy.exit<|Sy.then_exit<|Sy.then_exit ?_
   obtain rfl:M=k1:=om
   refine Sy.in_exit<|sB<|sP (iZ ((mnF D M)))<|sP (iZ ((mnF D M)))<|sG<|Sy.ret ?_
   rw [show (iZ (mnF D M):Value)=iZ ((mnF D M)) from rfl]
   exact rV (iZ ((mnF D M))) U
  ·have lb2:=dY hb2
   refine sT<|Sy.skip<|Sy.then_<|Sy.seq<|Sy.block<|Sy.region<|sP (iZ ((mnF D k1)))<|sP (.slice A (M+1) c)<|sP (iZ (k1+1))<|sS (.pointer (some ⟨gK,oK+(k1+1)*1,none⟩)) (Quiet.pure (AJ 131 _ _ _ A gK oK (M+1) c (k1+1) 1 .i64 (hT om).1 U U U JE kF om))<|sS (.int .i64 (((D (k1+1)):Nat):Int)) (Quiet.thereOne gK (oK+(k1+1)*1) 3 _ _ U kR (hT om).2.1 _ (AV ((hT om).2.2 (k1+1) om) 0 U) uy3 U)<|sS (.int .i64 (((mnF D (k1+1)):Nat):Int)) (Quiet.pure (Jw _ _ .i64 (mnF D k1) (D (k1+1)) (mnF D (k1+1)) U U U U))<|sP (.int .i64 (((mnF D (k1+1)):Nat):Int))<|Sy.nil<|Sy.in_<|Sy.then_<|Sy.region<|sP (iZ (k1+1))<|sS (iZ ((k1+1)+1)) (qad U U U)<|sP (iZ ((k1+1)+1))<|Sy.nil ?_
   exact Sy.againK [] (M:=[]) om ac3 kR U
 ·have lb1:=dY hb1
  exact absurd lb1 om
theorem Pn (w:World) (A:Option Addr) (M c:Nat) (D:Nat→Nat) (hN:M+1≤4611686018427387904) (hlk:Lst w 1 A (M+1) (λk=>[iZ (D k)])):Calls Tryz.prog 154 #[.slice A (M+1) c] w (Gets w (iZ (mxF D M))):=by
 obtain ⟨gK,oK,hT⟩:=hlk
 refine Sy.enter (args:=[.slice A (M+1) c]) Tryz.func154 U kL<|sC<|sP (.int .i64 0)<|sG<|Sy.seq<|sC<|sP (.slice A (M+1) c)<|sP (iZ ((M+1))) ?_
 obtain ⟨b1,hb1⟩:=xE (decide ((M+1)<1))
 refine sS (.bool b1) (qls U U U hb1)<|sG ?_
 cases b1
 ·have lb1:=dN hb1
  refine sU<|Sy.skip<|sB<|sP (.slice A (M+1) c)<|sS (.pointer (some ⟨gK,oK+0*1,none⟩)) (Quiet.pure (AJ 131 _ _ _ A gK oK (M+1) c 0 1 .i64 (hT om).1 U U U JE kF om))<|sS (iZ ((D 0))) (Quiet.thereOne gK (oK+0*1) 3 _ _ U kR (hT om).2.1 _ (AV ((hT om).2.2 0 om) 0 U) uy3 U)<|sP (iZ ((D 0)))<|sG<|Sy.seq<|sC<|sP (.int .i64 1)<|sG<|Sy.block<|Sy.loopK M (λk1=>[(0,.slice A (M+1) c),(3,iZ ((mxF D k1))),(4,iZ (k1+1))]) (λk1=>[]) [] (M:=[]) ac3 kR U (λk1 hk1=>?_)
  refine Sy.seq<|sC<|sP (iZ (k1+1))<|sP (.slice A (M+1) c)<|sP (iZ ((M+1))) ?_
  obtain ⟨b2,hb2⟩:=xE (decide (k1+1<(M+1)))
  refine sS (.bool b2) (qls U U U hb2)<|sG ?_
  cases b2
  ·have lb2:=dN hb2
   refine sU<|Sy.exit<|Sy.then_exit<|Sy.then_exit ?_
   obtain rfl:M=k1:=om
   refine Sy.in_exit<|sB<|sP (iZ ((mxF D M)))<|sP (iZ ((mxF D M)))<|sG<|Sy.ret ?_
   rw [show (iZ (mxF D M):Value)=iZ ((mxF D M)) from rfl]
   exact rV (iZ ((mxF D M))) U
  ·have lb2:=dY hb2
   refine sT<|Sy.skip<|Sy.then_<|Sy.seq<|Sy.block<|Sy.region<|sP (iZ ((mxF D k1)))<|sP (.slice A (M+1) c)<|sP (iZ (k1+1))<|sS (.pointer (some ⟨gK,oK+(k1+1)*1,none⟩)) (Quiet.pure (AJ 131 _ _ _ A gK oK (M+1) c (k1+1) 1 .i64 (hT om).1 U U U JE kF om))<|sS (.int .i64 (((D (k1+1)):Nat):Int)) (Quiet.thereOne gK (oK+(k1+1)*1) 3 _ _ U kR (hT om).2.1 _ (AV ((hT om).2.2 (k1+1) om) 0 U) uy3 U)<|sS (.int .i64 (((mxF D (k1+1)):Nat):Int)) (Quiet.pure (OP _ _ .i64 (mxF D k1) (D (k1+1)) (mxF D (k1+1)) U U U U))<|sP (.int .i64 (((mxF D (k1+1)):Nat):Int))<|Sy.nil<|Sy.in_<|Sy.then_<|Sy.region<|sP (iZ (k1+1))<|sS (iZ ((k1+1)+1)) (qad U U U)<|sP (iZ ((k1+1)+1))<|Sy.nil ?_
   exact Sy.againK [] (M:=[]) om ac3 kR U
 ·have lb1:=dY hb1
  exact absurd lb1 om
def szB (N:Nat) (D:Nat→Nat):Bool:=decide (1≤N) && (decide (N≤32) && (decide (1≤mnF D (N - 1)) && decide (mxF D (N - 1)≤64)))
theorem LQ (N:Nat) (D:Nat→Nat):szB N D=true↔1≤N∧N≤32∧∀ j,j<N→1≤D j∧D j≤64:=by
 unfold szB
 simp only [Bool.and_eq_true,decide_eq_true_eq,RG,RF]
 exact ⟨λ⟨a,b,c,d⟩=>⟨a,b,λj hj=>⟨c j om,d j om⟩⟩,λ⟨a,b,c⟩=>⟨a,b,λj hj=>(c j om).1,λj hj=>(c j om).2⟩⟩
theorem Rs {N:Nat} {D:Nat→Nat} (h:N<1):szB N D=false:=by unfold szB; rw [decide_eq_false (by omega:¬ 1≤N)]; rfl
theorem Rr {N:Nat} {D:Nat→Nat} (h:N>32):szB N D=false:=by unfold szB; rw [decide_eq_false (by omega:¬ N≤32),Bool.false_and,Bool.and_false]
theorem Rq {N:Nat} {D:Nat→Nat} (h:¬ (mnF D (N - 1) ≥ 1)):szB N D=false:=by unfold szB; rw [show decide (1≤mnF D (N - 1))=false from decide_eq_false h,Bool.false_and,Bool.and_false,Bool.and_false]
theorem Rp {N:Nat} {D:Nat→Nat} (h1:¬ N<1) (h2:¬ N>32) (h3:mnF D (N - 1) ≥ 1):szB N D=decide (mxF D (N - 1)≤64):=by
 unfold szB
 rw [decide_eq_true (by omega:1≤N),decide_eq_true (by omega:N≤32),show decide (1≤mnF D (N - 1))=true from decide_eq_true h3,Bool.true_and,Bool.true_and,Bool.true_and]
theorem N_ (w:World) (A:Option Addr) (N c:Nat) (D:Nat→Nat) (h1:1≤N) (hN:N≤4611686018427387904) (hlk:Lst w 1 A N (λk=>[iZ (D k)])):Calls Tryz.prog 153 #[.slice A N c] w (Gets w (iZ (mnF D (N - 1)))):=by
 have e:N - 1+1=N:=om
 have q:=Pm w A (N - 1) c D om (by rw [e]; exact hlk)
 rwa [e] at q
theorem N' (w:World) (A:Option Addr) (N c:Nat) (D:Nat→Nat) (h1:1≤N) (hN:N≤4611686018427387904) (hlk:Lst w 1 A N (λk=>[iZ (D k)])):Calls Tryz.prog 154 #[.slice A N c] w (Gets w (iZ (mxF D (N - 1)))):=by
 have e:N - 1+1=N:=om
 have q:=Pn w A (N - 1) c D om (by rw [e]; exact hlk)
 rwa [e] at q
theorem KG (w:World) (A:Option Addr) (N c:Nat) (D:Nat→Nat) (hN:N≤4611686018427387904) (hlk:Lst w 1 A N (λk=>[iZ (D k)])):Calls Tryz.prog 90 #[.slice A N c] w (Gets w (.bool (szB N D))):=by
 have hlk0:=hlk
 obtain ⟨gK,oK,hT⟩:=hlk
 refine Sy.enter (args:=[.slice A N c]) Tryz.func90 U kL<|sC<|sP (.bool false)<|sG<|Sy.seq<|sC<|sP (.slice A N c)<|sP (iZ N) ?_
 obtain ⟨b1,hb1⟩:=xE (decide (N<1))
 refine sS (.bool b1) (qls U U U hb1)<|sP (.bool b1) ?_
 cases b1
 ·have lb1:=dN hb1
  refine sP (.slice A N c)<|sP (iZ N) ?_
  obtain ⟨b2,hb2⟩:=xE (decide (N>32))
  refine sS (.bool b2) (qgt U U U hb2)<|sP (.bool b2)<|sG ?_
  cases b2
  ·have lb2:=dN hb2
   refine sU<|Sy.skip<|sB<|sP (.slice A N c)<|sS (.int .i64 (((mnF D (N - 1)):Nat):Int)) (Quiet.callS 153 #[.slice A N c] kF (λw hw=>N_ w A N c D om hN (hlk0.below hw.below))) ?_
   obtain ⟨b3,hb3⟩:=xE (decide ((mnF D (N - 1)) ≥ 1))
   refine sS (.bool b3) (qge U U U hb3)<|sP (.bool b3) ?_
   cases b3
   ·have lb3:=dN hb3
    refine sN<|sN<|sN<|sP (.bool false)<|sP (.bool false)<|sG<|Sy.ret ?_
    rw [show (.bool (szB N D):Value)=.bool false from by rw [Rq lb3]]
    exact rV (.bool false) rfl
   ·have lb3:=dY hb3
    refine sP (.slice A N c)<|sS (.int .i64 (((mxF D (N - 1)):Nat):Int)) (Quiet.callS 154 #[.slice A N c] kF (λw hw=>N' w A N c D om hN (hlk0.below hw.below))) ?_
    obtain ⟨b4,hb4⟩:=xE (decide ((mxF D (N - 1))≤64))
    refine sS (.bool b4) (qle U U U hb4)<|sP (.bool b4)<|sP (.bool b4)<|sG<|Sy.ret ?_
    rw [show (.bool (szB N D):Value)=.bool b4 from by rw [Rp lb1 lb2 lb3, ← hb4]]
    exact rV (.bool b4) rfl
  ·have lb2:=dY hb2
   refine sT<|sC<|sP (.bool false)<|sG<|Sy.ret<|Sy.then_ret ?_
   rw [show (.bool (szB N D):Value)=.bool false from by rw [Rr lb2]]
   exact rV (.bool false) rfl
 ·have lb1:=dY hb1
  refine sN<|sN<|sN<|sP (.bool true)<|sG<|sT<|sC<|sP (.bool false)<|sG<|Sy.ret<|Sy.then_ret ?_
  rw [show (.bool (szB N D):Value)=.bool false from by rw [Rs lb1]]
  exact rV (.bool false) rfl
end Cu
end
section
namespace Cu
open Go.RowKit Sy
def Fg (n:Nat→Nat) (X Y:Nat→Nat→Nat) (I:Nat→Nat→Bool) (i:Nat):Bool:=(List.range (n i)).any (E1 (X i) (Y i) (I i))
theorem Po (w:World) (R:Option Addr) (NR cR:Nat) (a:Nat→Option Addr) (n c:Nat→Nat) (X Y:Nat→Nat→Nat) (I:Nat→Nat→Bool) (hX:∀ i k,X i k<K4) (hY:∀ i k,Y i k<K4) (hNR:NR≤4611686018427387904) (hn:∀ i,n i≤4611686018427387904) (hlr:Lst w 1 R NR (λi=>[.slice (a i) (n i) (c i)])) (hlk:∀ i,i<NR→Lst w 9 (a i) (n i) (λk=>pml (X i k) (Y i k) (I i k))):Calls Tryz.prog 155 #[.slice R NR cR,.func (.func 92) #[] #[]] w (Gets w (.int .i64 (ixB NR (Fg n X Y I)))):=by
 have hlr0:=hlr
 obtain ⟨gR,oR,hR⟩:=hlr
 refine Sy.enter (args:=[.slice R NR cR,.func (.func 92) #[] #[]]) Tryz.func155 U kL<|sC<|sP (.int .i64 0)<|sG<|Sy.seq<|sC<|sP (.slice R NR cR)<|sP (iZ NR)<|sP (.int .i64 0)<|sG<|Sy.block<|Sy.loopH NR (λk1=>∀ a,a<k1→Fg n X Y I a=false) (λk1=>[(0,.slice R NR cR),(1,.func (.func 92) #[] #[]),(7,iZ NR),(8,iZ k1)]) (λk1=>[]) [] (M:=[]) (λa ha=>absurd ha (Nat.not_lt_zero _)) ac4 kR U (λk1 hk1 hh=>?_)
 have hh1:=hh
 refine sC ?_
 obtain ⟨b1,hb1⟩:=xE (decide (k1<NR))
 refine sS (.bool b1) (qls U U U hb1)<|sG<|Sy.seq ?_
 cases b1
 ·have lb1:=dN hb1
  refine sU<|Sy.exit<|Sy.then_exit<|Sy.then_exit ?_
  obtain rfl:NR=k1:=om
  refine Sy.in_exit<|sB<|sP (.int .i64 (-1))<|sG<|Sy.ret ?_
  rw [show (.int .i64 (ixB NR (Fg n X Y I)):Value)=.int .i64 (-1) from by rw [OB (λa ha=>hh1 a om)]]
  exact rV (.int .i64 (-1)) U
 ·have lb1:=dY hb1
  refine sT<|Sy.skip<|Sy.then_<|Sy.seq<|Sy.block<|sC<|sP (iZ k1)<|sP (iZ k1)<|sA<|sP (.func (.func 92) #[] #[])<|sP (.slice R NR cR)<|sP (iZ k1)<|sS (.pointer (some ⟨gR,oR+k1*1,none⟩)) (Quiet.pure (AJ 25 _ _ _ R gR oR NR cR k1 1 .i64 (hR om).1 U U U Bl kF om))<|sS (.slice (a k1) (n k1) (c k1)) (Quiet.thereOne gR (oR+k1*1) 45 _ _ U kR (hR om).2.1 _ (AV ((hR om).2.2 k1 om) 0 U) CJ U) ?_
  obtain ⟨b2,hb2⟩:=xE (Fg n X Y I k1)
  refine sS (.bool b2) (qG 92 #[.slice (a k1) (n k1) (c k1)] (λw hw=>by rw [hb2]; exact QK w _ _ _ _ _ _ (hX k1) (hY k1) (hn k1) ((hlk k1 om).below hw.below)))<|sG ?_
  cases b2
  ·refine sU<|Sy.skip<|Sy.in_<|Sy.then_<|Sy.region ?_
   refine sS (iZ (k1+1)) (qad U U U)<|sP (iZ (k1+1))<|Sy.nil ?_
   exact Sy.againH [] (M:=[]) om (λa ha=>(Nat.lt_succ_iff_lt_or_eq.1 ha).elim (hh1 a) (λh=>by rw [h]; exact hb2.symm)) ac4 kR U
  ·refine sT<|sC ?_
   refine sP (iZ k1)<|sP (iZ k1)<|sG<|Sy.ret<|Sy.in_ret<|Sy.then_ret<|Sy.then_ret<|Sy.in_ret<|Sy.then_ret ?_
   rw [show (.int .i64 (ixB NR (Fg n X Y I)):Value)=iZ k1 from by rw [OC om hh1 hb2.symm]]
   exact rV (iZ k1) rfl
theorem QD (w:World) (R:Option Addr) (NR cR:Nat) (a:Nat→Option Addr) (n c:Nat→Nat) (X Y:Nat→Nat→Nat) (I:Nat→Nat→Bool) (hX:∀ i k,X i k<K4) (hY:∀ i k,Y i k<K4) (hNR:NR≤4611686018427387904) (hn:∀ i,n i≤4611686018427387904) (hlr:Lst w 1 R NR (λi=>[.slice (a i) (n i) (c i)])) (hlk:∀ i,i<NR→Lst w 9 (a i) (n i) (λk=>pml (X i k) (Y i k) (I i k))):Calls Tryz.prog 91 #[.slice R NR cR,.func (.func 92) #[] #[]] w (Gets w (.bool ((List.range NR).any (Fg n X Y I)))):=by
 have hlr0:=hlr
 obtain ⟨gR,oR,hR⟩:=hlr
 refine Sy.enter (args:=[.slice R NR cR,.func (.func 92) #[] #[]]) Tryz.func91 U kL<|sC<|sP (.bool false)<|sA<|sP (.slice R NR cR)<|sP (.func (.func 92) #[] #[])<|sS (.int .i64 (ixB NR (Fg n X Y I))) (Quiet.callS 155 #[.slice R NR cR,.func (.func 92) #[] #[]] kF (λw hw=>Po w R NR cR a n c X Y I hX hY hNR hn (hlr0.below hw.below) (λi hi=>(hlk i hi).below hw.below))) ?_
 obtain ⟨b1,hb1⟩:=xE (decide ((ixB NR (Fg n X Y I)) ≥ 0))
 refine sS (.bool b1) (Quiet.pure (AO .geq _ _ _ .i64 _ _ _ U U U (D9 _ _ _ _ _ hb1.symm)))<|sP (.bool b1)<|sG<|Sy.ret ?_
 rw [show (.bool ((List.range NR).any (Fg n X Y I)):Value)=.bool b1 from by rw [← Ln,hb1]]
 exact rV (.bool b1) rfl
end Cu
end
section
namespace Sy
open Go.RowKit
theorem St.perm {w0:Base} {w:World} {L M:AD} (h:St w0 w L) (p:L.Perm M):St w0 w M :=
 ⟨h.below,λg t cs hm=>h.blk g t cs (p.mem_iff.2 hm),(p.map _).nodup_iff.1 h.apart,h.size,h.non⟩
theorem PU {α:Type _} {l m:List α} (is:List Nat) (hi:is.isPerm (List.range l.length)=true) (hm:is.map (λi=>l[i]?)=m.map some):l.Perm m:=by
 have h1:(is.map (λi=>l[i]?)).Perm ((List.range l.length).map (λi=>l[i]?)):=(List.isPerm_iff.1 hi).map _
 have h2:(List.range l.length).map (λi=>l[i]?)=l.map some:=by
  refine List.ext_getElem (by simp) λi h _=>?_
  simp only [List.getElem_map,List.getElem_range]
  exact List.getElem?_eq_getElem (by simpa using h)
 rw [hm,h2] at h1
 have h3:=h1.filterMap id
 simpa [List.filterMap_map] using h3.symm
section
variable {P:Program} {w0:Base} {n:Nat} {Q:Exit→Act→World→Prop} {F:AM} {L:AD} {ops:Array Oper} {ex:Nat→Bool} {fuel:Nat} {listed:Array Bool}
end
end Sy
end
section
namespace Sy
open Go.RowKit
section
variable {P:Program} {w0:Base} {n:Nat} {Q:Exit→Act→World→Prop} {F:AM} {L:AD} {ops:Array Oper} {o:Oper} {l:List Oper}
def From (w0:Base) (L:AD) (A:Option Addr) (news:List Value):Prop:=∀ w,St w0 w L→(news=[]∨∃ a,A=some a∧∀ j u,news[j]? = some u→w.cell? (a.add j)=some u)
theorem From.blk {i g f:Nat} {t:TypeId} {cs:Array Value} {news:List Value} (hL:L[i]? = some (g,t,cs)) (hn:(cs.toList.drop f).take news.length=news):From w0 L (some ⟨g,f,none⟩) news:=λw hw =>
 .inr ⟨_,rfl,λj u hj=>by
  rw [CG]
  exact Bw (hw.get hL) hn j u hj⟩
theorem Lz (hg:Bf ops n F o=true) (ts e:TypeId) (inf:TypeInfo) (z:Value) (sz by_:Nat) (ht:P.underlying ts=some (.slice e)) (hinf:P.info? e=some inf) (hz:inf.zero=some z) (hs1:inf.size=sz) (hb1:inf.bytes=by_) (hzs:z.cells.size=sz) (h0:0<sz)
  (s x:Operand) (ho:o.op=.call { callee:=.builtin .append,args:=#[s,x],argTypes:=#[ts,ts] })
  (i g len cap:Nat) (old sp:List Value) (hs:evF F s=.slice (pA g) len cap) (hL:L[i]? = some (g,e,(old++sp).toArray)) (hlen:old.length=len*sz) (hsp:sp.length+len*sz=cap*sz) (hmax:cap≤maxLen)
  (A:Option Addr) (m c:Nat) (news:List Value) (hx:evF F x=.slice A m c) (hf:From w0 L A news) (hm:news.length=m*sz) (hmc:m≤c) (h1:∀ u∈news,u.oneCell'=true) (hsmall:(len+m)*by_≤140737488355328) (h63:len+m≤maxLen)
  (h:∀ (g' cap':Nat) (sp':List Value),sp'.length+(len+m)*sz=cap'*sz→len+m≤cap'→cap'≤maxLen→wpS P w0 n ops Q (BN F o.dst (.slice (some ⟨g',0,none⟩) (len+m) cap')) (L.set i (g',e,(old++news++sp').toArray)) l):wpS P w0 n ops Q F L (o::l):=λa w ha hw=>by
 obtain ⟨k1,_,k3,_⟩:=AN hg
 refine wpList_step λK hK=>?_
 rw [if_pos (ha.wanted k1)]
 have hb:=hw.get hL
 have hle:len≤cap:=Nat.le_of_mul_le_mul_right om h0
 have II:∀ v' w',(Builtin.append_ #[ts,ts] o.type #[.slice (pA g) len cap,.slice A m c]).run P w=.ok v' w'→K (a.put o.dst v') w'→o.wp P a w K Q:=λv' w' hr hk=>by
  unfold Oper.wp
  rw [Aj hg ha]
  unfold execOp
  simp only [ho,resolve,invoke,builtin,Sem.run_bind,Sem.run_pure,Result.andThen_ok,List.map_toArray,List.map_cons,List.map_nil,hs,hx,hr]
  exact hk
 rcases hf w hw with rfl | ⟨ad,rfl,hn⟩
 ·have hm0:m=0:=by
   rcases Nat.eq_zero_or_pos m with h | h
   ·exact h
   ·have:=Nat.mul_pos h h0
    simp at hm
    omega
  subst hm0
  have hr:(Builtin.append_ #[ts,ts] o.type #[.slice (pA g) len cap,.slice A 0 c]).run P w=.ok (.slice (pA g) len cap) w:=by
   have hfc:(Builtin.firstCells inf.size 0 (.slice A 0 c)).run P w=.ok #[] w:=by
    cases A with
    | none=>simp [Builtin.firstCells,Sem.run_pure]
    | some a=>simpa using run_firstCells_some (P:=P) w inf.size 0 a 0 c [] (by simp) (λj u hj=>by cases hj)
   have hst:∀ a:Addr,(storeCells a []).run P w=.ok () w:=λa=>by simp [storeCells,Sem.run_pure]
   simp [Builtin.append_,run_underlying ht,sizeOf,typeInfo,hinf,hle,Builtin.lenOf,hfc,hst]
  refine II _ w hr ?_
  have hset:L.set i (g,e,(old++[]++sp).toArray)=L:=by
   rw [List.append_nil]
   refine List.ext_getElem? λj=>?_
   rw [List.getElem?_set]
   by_cases e':i=j
   ·subst e'
    rw [if_pos U,if_pos (List.getElem?_eq_some_iff.1 hL).1,hL]
   ·rw [if_neg e']
  refine hK _ _ (h g cap sp (by simpa using hsp) om hmax _ _ (ha.put k3 _) ?_)
  rw [hset]
  exact hw
 ·have hown:w.ownsRow 0 e sz (.slice (pA g) len cap) len old:=⟨hlen,.inr ⟨g,cap,_,rfl,Nat.zero_le _,hb,hle,hmax,by rw [List.size_toArray,List.length_append]; omega,by show (old++sp).take _=old; rw [List.take_left' hlen]⟩⟩
  have last:∀ (w':World) (g' cap':Nat) (cur:Array Value),cur.size=cap'*sz→len+m≤cap'→cap'≤maxLen→cur.toList.take ((len+m)*sz)=old++news→St w0 w' (L.set i (g',e,cur))→K (a.put o.dst (.slice (some ⟨g',0,none⟩) (len+m) cap')) w':=λw' g' cap' cur h2 h2' h3 h4 h5=>by
   have hc:cur=(old++news++cur.toList.drop ((len+m)*sz)).toArray:=by
    rw [← h4,List.take_append_drop]
   rw [hc] at h5
   refine hK _ _ (h g' cap' _ ?_ h2' h3 _ _ (ha.put k3 _) h5)
   have h6:=Nat.mul_le_mul_right sz h2'
   rw [List.length_drop,Array.length_toList,h2]
   omega
  rcases Nat.lt_or_ge cap (len+m) with hlt | hge
  ·obtain ⟨v',w',hr,hrow,hgr⟩:=run_append_arg_grows (P:=P) w ts o.type e inf z sz by_ ht hinf hz hs1 hb1 hzs h0 ⟨g,0,none⟩ len cap old hlen (hown.cells (g:=g) rfl) ad m c news hm hn hlt h63 hsmall
   refine II v' w' hr ?_
   rcases hrow.2 with ⟨rfl,h0'⟩ | ⟨g',cap',cur,rfl,q1,q2,q3,q4,q5,q6⟩
   ·omega
   ·exact last w' g' cap' cur q5 q3 q4 q6 (hw.setNew (⟨hgr.os,hgr.tape,hgr.output,hgr.size,λk hk=>hgr.block k hk (by simp)⟩) (List.getElem?_eq_some_iff.1 hL).1 q1 q2)
  ·obtain ⟨w',hr,hrow,hgr⟩:=run_append_own_spare (P:=P) w 0 ts o.type e inf sz ht hinf hs1 g len cap old hown ad m c news hm hn h1 hge
   refine II _ w' hr ?_
   rcases hrow.2 with ⟨h0',_⟩ | ⟨g',cap',cur,hv,_,q2,q3,q4,q5,q6⟩
   ·cases h0'
   ·cases hv
    exact last w' g cap cur q5 q3 q4 q6 (hw.set hL hgr q2)
theorem Gu (hg:Bf ops n F o=true) (ts e:TypeId) (inf:TypeInfo) (z:Value) (sz by_:Nat) (ht:P.underlying ts=some (.slice e)) (hinf:P.info? e=some inf) (hz:inf.zero=some z) (hs1:inf.size=sz) (hb1:inf.bytes=by_) (hzs:z.cells.size=sz) (h0:0<sz)
  (s x:Operand) (ho:o.op=.call { callee:=.builtin .append,args:=#[s,x],argTypes:=#[ts,ts] }) (hs:evF F s=.slice none 0 0)
  (A:Option Addr) (m c:Nat) (news:List Value) (hx:evF F x=.slice A m c) (hf:From w0 L A news) (hm:news.length=m*sz) (hm0:0<m) (h1:∀ u∈news,u.oneCell'=true) (hsmall:m*by_≤140737488355328) (h63:m≤maxLen)
  (h:∀ (g' cap':Nat) (sp':List Value),sp'.length+m*sz=cap'*sz→m≤cap'→cap'≤maxLen→wpS P w0 n ops Q (BN F o.dst (.slice (some ⟨g',0,none⟩) m cap')) (L++[(g',e,(news++sp').toArray)]) l):wpS P w0 n ops Q F L (o::l):=λa w ha hw=>by
 obtain ⟨k1,_,k3,_⟩:=AN hg
 refine wpList_step λK hK=>?_
 rw [if_pos (ha.wanted k1)]
 rcases hf w hw with rfl | ⟨ad,rfl,hn⟩
 ·have:=Nat.mul_pos hm0 h0
  simp at hm
  omega
 obtain ⟨v',w',hr,hrow,hgr,hnil⟩:=run_append_own (P:=P) w w.heap.size ts o.type e inf z sz by_ ht hinf hz hs1 hb1 hzs h0 (.slice none 0 0) 0 [] (World.ownsRow_nil w _ e sz) ad m c news hm hn h1 om (by rw [Nat.zero_add]; exact hsmall) (Nat.le_refl _)
 rcases hrow.2 with ⟨_,h0'⟩ | ⟨g',cap',cur,rfl,q1,q2,q3,q4,q5,q6⟩
 ·omega
 have q6':cur.toList.take (m*sz)=news:=by simpa using q6
 unfold Oper.wp
 rw [Aj hg ha]
 unfold execOp
 simp only [ho,resolve,invoke,builtin,Sem.run_bind,Sem.run_pure,Result.andThen_ok,List.map_toArray,List.map_cons,List.map_nil,hs,hx,hr]
 have hc:cur=(news++cur.toList.drop (m*sz)).toArray:=by rw [← q6',List.take_append_drop]
 rw [hc] at q2
 rw [Nat.zero_add] at q3 ⊢
 refine hK _ _ (h g' cap' _ ?_ q3 q4 _ _ (ha.put k3 _) (hw.add (⟨hgr.os,hgr.tape,hgr.output,hgr.size,λk hk=>hgr.block k hk (by simp [Value.ownBlock])⟩) q1 q2))
 have h6:=Nat.mul_le_mul_right sz q3
 rw [List.length_drop,Array.length_toList,q5]
 omega
theorem permC {c:Code} {M:AD} (p:L.Perm M) (h:wpC P w0 n Q F M c):wpC P w0 n Q F L c:=λa w ha hw=>h a w ha (hw.perm p)
theorem permS {M:AD} (p:L.Perm M) (h:wpS P w0 n ops Q F M l):wpS P w0 n ops Q F L l:=λa w ha hw=>h a w ha (hw.perm p)
end
end Sy
end
section
namespace Sy
open Go.RowKit
structure Slc where
 v:Value
 bl:AD
structure Slc.Is (r:Slc) (e:TypeId) (sz:Nat) (xs:List (List Value)):Prop where
 len:∀ x∈xs,x.length=sz
 one:∀ x∈xs, ∀ u∈x,u.oneCell'=true
 row:(xs=[]∧r=⟨.slice none 0 0,[]⟩)∨∃ g cap sp,r=⟨.slice (pA g) xs.length cap,[(g,e,(xs.flatten++sp).toArray)]⟩∧sp.length+xs.length*sz=cap*sz∧xs.length≤cap∧cap≤maxLen
theorem Slc.Is.nil (e:TypeId) (sz:Nat):Slc.Is ⟨.slice none 0 0,[]⟩ e sz []:=⟨λ_ h=>(by cases h),λ_ h=>(by cases h),.inl ⟨rfl,rfl⟩⟩
theorem DC {sz:Nat}:∀ {xs:List (List Value)},(∀ x∈xs,x.length=sz)→xs.flatten.length=xs.length*sz
 | [],_=>by simp
 | x::xs,h=>by
  rw [List.flatten_cons,List.length_append,h x (List.mem_cons_self ..),DC λy hy=>h y (List.mem_cons_of_mem _ hy),List.length_cons,Nat.add_mul,Nat.one_mul,Nat.add_comm]
theorem Js {sz:Nat}:∀ {xs:List (List Value)} (sp:List Value),(∀ x∈xs,x.length=sz)→∀ (j:Nat) (x:List Value),xs[j]? = some x→((xs.flatten++sp).drop (j*sz)).take sz=x
 | [],_,_,_,_,h=>by simp at h
 | y::xs,sp,h,0,x,hx=>by
  have hy:=h y (List.mem_cons_self ..)
  simp only [List.getElem?_cons_zero,Option.some.injEq] at hx
  subst hx
  rw [Nat.zero_mul,List.drop_zero,List.flatten_cons,List.append_assoc,List.take_append_of_le_length om,List.take_of_length_le om]
 | y::xs,sp,h,j+1,x,hx=>by
  have hy:=h y (List.mem_cons_self ..)
  rw [List.getElem?_cons_succ] at hx
  have ih:=Js sp (λz hz=>h z (List.mem_cons_of_mem _ hz)) j x hx
  rw [List.flatten_cons,List.append_assoc,List.drop_append,hy,List.drop_of_length_le (by rw [hy,Nat.add_mul,Nat.one_mul]; omega),List.nil_append,Nat.add_mul,Nat.one_mul,Nat.add_sub_cancel]
  exact ih
theorem Slc.Is.out {r:Slc} {e:TypeId} {sz:Nat} {xs:List (List Value)} (h:r.Is e sz xs):∃ A c,r.v=.slice A xs.length c∧xs.length≤c∧c≤maxLen∧∀ {w0:Base} {w:World} {L:AD},St w0 w L→(∀ b∈r.bl,b∈L)→Lst w sz A xs.length (λi=>xs.getD i []):=by
 rcases h.row with ⟨rfl,rfl⟩ | ⟨g,cap,sp,rfl,h1,h2,h3⟩
 ·exact ⟨none,0,rfl,Nat.le_refl _,Nat.zero_le _,λ_ _=>⟨0,0,λhn=>absurd hn (Nat.lt_irrefl _)⟩⟩
 ·refine ⟨some ⟨g,0,none⟩,cap,rfl,h2,h3,λ{w0 w L} hw hb=>⟨g,0,λhn=>?_⟩⟩
  have hbk:=(hw.blk g e _ (hb _ (List.mem_singleton.2 U))).2
  refine ⟨rfl,hbk.lt,λj hj i v hi=>?_⟩
  have hx:xs[j]? = some (xs.getD j []):=by rw [List.getD_eq_getElem?_getD,List.getElem?_eq_getElem hj]; rfl
  have hl:=h.len _ (List.mem_of_getElem? hx)
  have hi':i<sz:=by rw [← hl]; exact (List.getElem?_eq_some_iff.1 hi).1
  refine (hbk.cell _).trans ?_
  have q:=Js sp h.len j _ hx
  have hi:(xs.getD j [])[i]? = some v:=hi
  rw [← q,List.getElem?_take_of_lt hi',List.getElem?_drop] at hi
  rw [Nat.zero_add,List.getElem?_toArray]
  exact hi
section
variable {P:Program} {w0:Base} {n:Nat} {Q:Exit→Act→World→Prop} {F:AM} {pre T:AD} {ops:Array Oper} {o:Oper} {l:List Oper}
theorem Quiet.lenR {L:AD} {r:Slc} {e t:TypeId} {sz m:Nat} {xs:List (List Value)} (hr:r.Is e sz xs) (hm:xs.length=m) (x:Operand) {e':TypeId} (ht:P.underlying t=some (.slice e')) (ho:o.op=.call { callee:=.builtin .len,args:=#[x],argTypes:=#[t] }) (hx:evF F x=r.v):Quiet P w0 F L o (.int .i64 (m:Int)):=Quiet.pure λw=>by
 subst hm
 rcases hr.row with ⟨rfl,rfl⟩ | ⟨g,cap,sp,rfl,_⟩ <;>
 ·unfold execOp
  simp only [ho,resolve,invoke,builtin,Sem.run_bind,Sem.run_pure,Result.andThen_ok,List.map_toArray,List.map_cons,List.map_nil,hx]
  simp [Builtin.len_,run_underlying ht,goInt,Result.andThen]
theorem appendR (hg:Bf ops n F o=true) (ts e:TypeId) (inf:TypeInfo) (z:Value) (sz by_:Nat) (ht:P.underlying ts=some (.slice e)) (hinf:P.info? e=some inf) (hz:inf.zero=some z) (hs1:inf.size=sz) (hb1:inf.bytes=by_) (hzs:z.cells.size=sz) (h0:0<sz)
  (s x:Operand) (ho:o.op=.call { callee:=.builtin .append,args:=#[s,x],argTypes:=#[ts,ts] })
  {r:Slc} {xs:List (List Value)} (hr:r.Is e sz xs) (hs:evF F s=r.v) (y:List Value) (hy:y.length=sz) (hy1:∀ u∈y,u.oneCell'=true)
  (j gx:Nat) (tx:TypeId) (hx:evF F x=.slice (pA gx) 1 1) (hLx:(pre++(r.bl++T))[j]? = some (gx,tx,y.toArray)) (hsmall:(xs.length+1)*by_≤140737488355328) (h63:xs.length+1≤maxLen)
  (h:∀ r':Slc,r'.Is e sz (xs++[y])→wpS P w0 n ops Q (BN F o.dst r'.v) (pre++(r'.bl++T)) l):wpS P w0 n ops Q F (pre++(r.bl++T)) (o::l):=by
 have hfrom:From w0 (pre++(r.bl++T)) (pA gx) y:=From.blk hLx (by simp)
 have hlen:∀ u∈xs++[y],u.length=sz:=λu hu=>by
  rcases List.mem_append.1 hu with hu | hu
  ·exact hr.len u hu
  ·rw [List.mem_singleton.1 hu]; exact hy
 have hone:∀ u∈xs++[y], ∀ v∈u,v.oneCell'=true:=λu hu=>by
  rcases List.mem_append.1 hu with hu | hu
  ·exact hr.one u hu
  ·rw [List.mem_singleton.1 hu]; exact hy1
 rcases hr.row with ⟨rfl,rfl⟩ | ⟨g,cap,sp,rfl,q1,q2,q3⟩
 ·refine Gu hg ts e inf z sz by_ ht hinf hz hs1 hb1 hzs h0 s x ho hs (pA gx) 1 1 y hx hfrom om dZ hy1 (by simpa using hsmall) (by simpa using h63) (λg' cap' sp' h1 h2 h3=>?_)
  have hq:=h ⟨.slice (some ⟨g',0,none⟩) 1 cap',[(g',e,(y++sp').toArray)]⟩ ⟨hlen,hone,.inr ⟨g',cap',sp',by simp,by simpa using h1,by simpa using h2,h3⟩⟩
  exact permS (by
   rw [List.nil_append,List.append_assoc]
   exact (List.perm_append_comm (l₁:=T) (l₂:=[(g',e,(y++sp').toArray)])).append_left pre) hq
 ·have hi:(pre++([(g,e,(xs.flatten++sp).toArray)]++T))[pre.length]? = some (g,e,(xs.flatten++sp).toArray):=by
   rw [List.getElem?_append_right (Nat.le_refl _),Nat.sub_self]
   rfl
  refine Lz hg ts e inf z sz by_ ht hinf hz hs1 hb1 hzs h0 s x ho pre.length g xs.length cap xs.flatten sp hs hi (DC hr.len) q1 q3 (pA gx) 1 1 y hx hfrom om (Nat.le_refl _) hy1 hsmall h63 (λg' cap' sp' h1 h2 h3=>?_)
  have hq:=h ⟨.slice (some ⟨g',0,none⟩) (xs.length+1) cap',[(g',e,(xs.flatten++y++sp').toArray)]⟩ ⟨hlen,hone,.inr ⟨g',cap',sp',by simp,by simpa using h1,by simpa using h2,h3⟩⟩
  have he:(pre++([(g,e,(xs.flatten++sp).toArray)]++T)).set pre.length (g',e,(xs.flatten++y++sp').toArray)=pre++([(g',e,(xs.flatten++y++sp').toArray)]++T):=by
   rw [List.set_append_right _ _ (Nat.le_refl _),Nat.sub_self]
   rfl
  rw [he]
  exact hq
theorem movT {b:Nat×TypeId×Array Value} (h:wpS P w0 n ops Q F ((pre++[b])++T) l):wpS P w0 n ops Q F ((pre++T)++[b]) l :=
 permS (by
  rw [List.append_assoc,List.append_assoc]
  exact (List.perm_append_comm (l₁:=T) (l₂:=[b])).append_left pre) h
theorem setT {i:Nat} {b:Nat×TypeId×Array Value} (h:wpS P w0 n ops Q F ((pre.set i b)++T) l) (hi:Nat.ble (i+1) pre.length=true:=by kernel_rfl):wpS P w0 n ops Q F ((pre++T).set i b) l:=by
 rw [List.set_append_left _ _ (Nat.le_of_ble_eq_true hi)]
 exact h
theorem St.pick {w:World} {M:AD} (is:List Nat) (hn:is.Nodup) (hm:is.map (λi=>pre[i]?)=M.map some) (hw:St w0 w (pre++T)):St w0 w (M++T):=by
 have hsub:∀ b∈M,b∈pre:=λb hb=>by
  have:some b∈M.map some:=List.mem_map.2 ⟨b,hb,rfl⟩
  rw [← hm] at this
  obtain ⟨i,_,hi⟩:=List.mem_map.1 this
  exact List.mem_of_getElem? hi
 have hap:=hw.apart
 rw [List.map_append,List.nodup_append] at hap
 obtain ⟨hp,hT,hd⟩:=hap
 refine ⟨hw.below,λg t cs hb=>hw.blk g t cs (by
  rcases List.mem_append.1 hb with hb | hb
  ·exact List.mem_append.2 (.inl (hsub _ hb))
  ·exact List.mem_append.2 (.inr hb)),?_,hw.size,hw.non⟩
 rw [List.map_append,List.nodup_append]
 refine ⟨?_,hT,λa ha b hb=>hd a (by
  obtain ⟨x,hx,rfl⟩:=List.mem_map.1 ha
  exact List.mem_map.2 ⟨x,hsub x hx,rfl⟩) b hb⟩
 have hlen:is.length=M.length:=by simpa using congrArg List.length hm
 rw [List.Nodup,List.pairwise_map,List.pairwise_iff_getElem]
 intro a b ha hb hab e
 have q:∀ (c:Nat) (hc:c<M.length),pre[is[c]'om]? = some M[c]:=λc hc=>by
  have:=congrArg (λl=>l[c]?) hm
  simp only [List.getElem?_map] at this
  rw [List.getElem?_eq_getElem om,List.getElem?_eq_getElem hc] at this
  simpa using this
 have q1:=List.getElem?_eq_some_iff.1 (q a ha)
 have q2:=List.getElem?_eq_some_iff.1 (q b hb)
 obtain ⟨l1,e1⟩:=q1
 obtain ⟨l2,e2⟩:=q2
 have hne:is[a]'(by omega)≠is[b]'(by omega):=λe3=>by
  have:=List.pairwise_iff_getElem.1 hn a b om om hab
  exact this e3
 have hpw:=List.pairwise_iff_getElem.1 hp
 rcases Nat.lt_or_gt_of_ne hne with hlt | hlt
 ·have:=hpw _ _ (by simpa using l1) (by simpa using l2) hlt
  simp only [List.getElem_map,e1,e2] at this
  exact this e
 ·have:=hpw _ _ (by simpa using l2) (by simpa using l1) hlt
  simp only [List.getElem_map,e1,e2] at this
  exact this e.symm
theorem loopT {L:AD} {Y:Type} {c:Code} (N:Nat) (FF:Nat→Y→AM) (LL:Nat→Y→AD) (H:Nat→Y→Prop) (x0:Y) (h0:H 0 x0) (hF:∀ p∈FF 0 x0,F.lookup p.1=some p.2) (hL:∀ w,St w0 w L→St w0 w (LL 0 x0))
  (hr:∀ k x,k≤N→H k x→wpC P w0 n (Exit.then (L5 w0 n N FF LL H k) Q) (FF k x) (LL k x) c):wpC P w0 n Q F L (.loop c) :=
 Jj N (λk a w=>∃ x,H k x∧Fr w0.ds a n (FF k x)∧St w0 w (LL k x)) (λ_ w ha hw=>⟨x0,h0,ha.all hF,hL w hw⟩)
  λk hk a w ⟨x,hx,ha,hw⟩=>hr k x hk hx a w ha hw
theorem againT {L:AD} {Y:Type} {N:Nat} {FF:Nat→Y→AM} {LL:Nat→Y→AD} {H:Nat→Y→Prop} {k:Nat} {R:Exit→Act→World→Prop} (y:Y) (hk:k<N) (hy:H (k+1) y) (hF:∀ p∈FF (k+1) y,F.lookup p.1=some p.2) (hL:∀ w,St w0 w L→St w0 w (LL (k+1) y)) :
  X w0 n (Exit.then (L5 w0 n N FF LL H k) R) F L .normal:=λ_ w ha hw=>⟨hk,y,hy,ha.all hF,hL w hw⟩
theorem Slc.Is.cells {r:Slc} {e:TypeId} {sz:Nat} {xs:List (List Value)} (h:r.Is e sz xs):r.v.cells=#[r.v]∧r.v.oneCell'=true:=by
 rcases h.row with ⟨rfl,rfl⟩ | ⟨g,cap,sp,rfl,_⟩ <;> exact ⟨rfl,rfl⟩
end
theorem Jo:∀ (c:List Value) (off k:Nat) (cs:Array Value),(c.zipIdx k).foldl (λcs x=>cs.setIfInBounds (off+x.2) x.1) cs=setAll cs (off+k) c
 | [],_,_,_=>rfl
 | v::c,off,k,cs=>by
  rw [List.zipIdx_cons,List.foldl_cons,Jo c off (k+1)]
  rfl
section
variable {P:Program} {w0:Base} {F:AM} {L:AD} {o:Oper}
theorem Mt (t:TypeId) (x hx':Operand) (g f len cap hi s:Nat) (kh:IntKind) (ho:o.op=.slice t x none (some hx') none) (hx:evF F x=.slice (some ⟨g,f,none⟩) len cap) (hh:evF F hx'=.int kh (hi:Int)) (ht:P.underlying t=some (.slice (P.elem t))) (hsz:∀ w,(sizeOf (P.elem t)).run P w=.ok s w) (h1:hi≤cap) (w:World) :
  (execOp (evF F) o).run P w=.ok (.value (.slice (some ⟨g,f,none⟩) hi cap)) w:=by
 have e:(Instr.sliceAt t (.slice (some ⟨g,f,none⟩) len cap) none (some (.int kh (hi:Int))) none).run P w=.ok (.slice (some ⟨g,f,none⟩) hi cap) w:=by
  rw [run_sliceAt_slice w t _ _ _ _ ht]
  simp [Instr.slice,run_underlying ht,Instr.sliceBounds,Instr.sliceBound,asIntOf,h1,hsz,Result.andThen,Addr.add]
 unfold execOp
 simp only [ho,hx,hh,Option.map_some,Option.map_none,e,Sem.run_bind,Sem.run_pure,Result.andThen_ok]
end
theorem Slc.Is.mk' {g nn cap:Nat} {e:TypeId} {sz:Nat} {xs:List (List Value)} {cs:List Value} (hl:∀ x∈xs,x.length=sz) (h1:∀ x∈xs, ∀ u∈x,u.oneCell'=true) (hn:xs.length=nn) (hc:cs.take (nn*sz)=xs.flatten) (hs:cs.length=cap*sz) (hle:nn≤cap) (hm:cap≤maxLen):Slc.Is ⟨.slice (pA g) nn cap,[(g,e,cs.toArray)]⟩ e sz xs:=by
 subst hn
 refine ⟨hl,h1,.inr ⟨g,cap,cs.drop (xs.length*sz),?_,?_,hle,hm⟩⟩
 ·rw [← hc,List.take_append_drop]
 ·have:=Nat.mul_le_mul_right sz hle
  rw [List.length_drop]
  omega
end Sy
end
section
namespace Sy
open Go.RowKit
section
variable {P:Program} {w0:Base} {n:Nat} {Q:Exit→Act→World→Prop} {F:AM} {L M:AD} {ops:Array Oper} {ex:Nat→Bool} {fuel:Nat} {listed:Array Bool} {pre T:AD}
theorem permD (p:L.Perm M) (h:wpD P w0 n ops Q ex F M fuel listed):wpD P w0 n ops Q ex F L fuel listed:=λa w ha hw=>h a w ha (hw.perm p)
theorem N9 {b:Nat×TypeId×Array Value}:((pre++T)++[b]).Perm ((pre++[b])++T):=by
 rw [List.append_assoc,List.append_assoc]
 exact (List.perm_append_comm (l₁:=T) (l₂:=[b])).append_left pre
theorem movTD {b:Nat×TypeId×Array Value} (h:wpD P w0 n ops Q ex F ((pre++[b])++T) fuel listed):wpD P w0 n ops Q ex F ((pre++T)++[b]) fuel listed:=permD N9 h
theorem setTD {i:Nat} {b:Nat×TypeId×Array Value} (h:wpD P w0 n ops Q ex F ((pre.set i b)++T) fuel listed) (hi:Nat.ble (i+1) pre.length=true:=by kernel_rfl):wpD P w0 n ops Q ex F ((pre++T).set i b) fuel listed:=by
 rw [List.set_append_left _ _ (Nat.le_of_ble_eq_true hi)]
 exact h
def QY (Q:Exit→Act→World→Prop) (K:Act→World→Prop):Exit→Act→World→Prop
 | .normal=>K
 | .panic c=>Q (.panic c)
 | _=>λ_ _=>False
theorem Ow {o:Oper} {a:Act} {w:World} {K' K:Act→World→Prop} (h:o.wp P a w K (QY Q K')):o.wp P a w K Q:=by
 unfold Oper.wp at *
 generalize (execOp a.eval o).run P w=r at *
 cases r with
 | ok x w' =>
  cases x <;> simp only [Oper.upon] at h ⊢ <;>
   first
    | exact h
    | exact Calls.mono h (λe w'' he=>by cases e <;> first | exact he | (obtain ⟨_,_,q⟩:=he; exact q.elim))
 | halt x w'=>cases x <;> simp only [Oper.upon] at h ⊢ <;> exact h
theorem soleD (k:Nat) {oi:Oper} (hi0:ops.toList[k]? = some oi) (h:∀ Q',(∀ F' L',wpD P w0 n ops Q ex F' L' fuel (listed.setIfInBounds k true)→wpS P w0 n ops Q' F' L' [])→wpS P w0 n ops Q' F L [oi])
  (hg:CO ops F oi=some true:=by kernel_rfl) (hr:Region.ready .any ops listed=[k]:=by kernel_rfl) (hex:ex k=true:=by rfl):wpD P w0 n ops Q ex F L (fuel+1) listed:=λa w ha hw =>
 wpAnyG_sole k hi0 hr (ha.wanted hg) λw1 h1 K hK=>by
  have q:=h (QY Q K) (λF' L' hd a' w' ha' hw'=>wpList_nil (hK _ _ (λe=>by rw [hex] at e; cases e) (hd a' w' ha' hw'))) a w1 ha (hw.gr h1)
  unfold wpList at q
  rw [if_pos (ha.wanted hg)] at q
  rcases q with q | ⟨_,a',w',q⟩
  ·exact Ow (K':=K) q
  ·exact q.elim
end
def BJ (r:Nat→Slc) (n:Nat):AD:=(List.range n).flatMap λi=>(r i).bl
def Dk (r:Nat→Slc) (n i:Nat):AD:=((List.range n).filter λj=>j != i).flatMap λj=>(r j).bl
def Ct (r:Nat→Slc) (i:Nat) (x:Slc):Nat→Slc:=λj=>if j=i then x else r j
def nilS:Slc:=⟨.slice none 0 0,[]⟩
section
variable {r:Nat→Slc} {n i:Nat} {x:Slc}
theorem D5:Ct r i x i=x:=if_pos U
theorem Fo {j:Nat} (h:j≠i):Ct r i x j=r j:=if_neg h
theorem Hd (r:Nat→Slc) (hi:i<n):(BJ r n).Perm ((r i).bl++Dk r n i):=by
 have h1:(List.range n).Perm (i::(List.range n).erase i):=List.perm_cons_erase (List.mem_range.2 hi)
 rw [List.nodup_range.erase_eq_filter] at h1
 exact h1.flatMap_right _
theorem MN (r:Nat→Slc) (n i:Nat) (x:Slc):Dk (Ct r i x) n i=Dk r n i:=by
 unfold Dk
 rw [List.flatMap_def,List.flatMap_def]
 refine congrArg _ (List.map_congr_left λj hj=>?_)
 have:j≠i:=by simpa using (List.mem_filter.1 hj).2
 rw [Fo this]
theorem MM (hi:i<n):(x.bl++Dk r n i).Perm (BJ (Ct r i x) n):=by
 have h:=(Hd (Ct r i x) hi).symm
 rwa [D5,MN] at h
theorem NX (hi:i<n) {b:Nat×TypeId×Array Value} (hb:b∈(r i).bl):b∈BJ r n:=List.mem_flatMap.2 ⟨i,List.mem_range.2 hi,hb⟩
theorem out_perm {pre T:AD} (r:Nat→Slc) (hi:i<n):(pre++(BJ r n++T)).Perm (pre++((r i).bl++(Dk r n i++T))):=by
 rw [← List.append_assoc (r i).bl]
 exact ((Hd r hi).append_right T).append_left pre
theorem in_perm {pre T:AD} (hi:i<n):(pre++(x.bl++(Dk r n i++T))).Perm (pre++(BJ (Ct r i x) n++T)):=by
 rw [← List.append_assoc x.bl]
 exact ((MM hi).append_right T).append_left pre
def Ai (r:Nat→Slc) (n:Nat):Array Value:=(AQ (λj=>[(r j).v]) n).toArray
theorem Cj (hi:i<n) {o:Nat} (ho:o=0+i*1):(Ai r n)[o]? = some (r i).v:=by
 rw [ho,Nat.zero_add,Nat.mul_one]
 exact Mm (f:=λj=>(r j).v) hi
theorem KS:(Ai r n).size=n:=K0 (f:=λj=>(r j).v)
theorem JT (hi:i<n) {o:Nat} (ho:o=0+i*1):o<(Ai r n).size:=by rw [KS]; omega
theorem He (hi:i<n) {o:Nat} (ho:o=0+i*1) {u:Value} (hu:x.v=u):(Ai r n).setIfInBounds o u=Ai (Ct r i x) n:=by
 rw [ho,Nat.zero_add,Nat.mul_one, ← hu]
 unfold Ai
 rw [Mj (f:=λj=>(r j).v) hi]
 refine congrArg List.toArray (Bg λj _=>?_)
 unfold Ct
 split <;> rfl
def RowsAre (r:Nat→Slc) (e:TypeId) (sz:Nat) (f:Nat→Nat→List Value) (c:Nat→Nat):Prop:=∀ i,(r i).Is e sz ((List.range (c i)).map (f i))
theorem RowsAre.nil (e:TypeId) (sz:Nat) (f:Nat→Nat→List Value):RowsAre (λ_=>nilS) e sz f (λ_=>0):=λ_=>Slc.Is.nil e sz
theorem RowsAre.put {e:TypeId} {sz:Nat} {f:Nat→Nat→List Value} {c c':Nat→Nat} (h:RowsAre r e sz f c) (hx:x.Is e sz ((List.range (c i)).map (f i)++[f i (c i)])) (hc:c' i=c i+1) (hc':∀ j,j≠i→c' j=c j):RowsAre (Ct r i x) e sz f c':=λj=>by
 by_cases hj:j=i
 ·subst hj
  rw [D5,hc,List.range_succ,List.map_append]
  exact hx
 ·rw [Fo hj,hc' j hj]
  exact h j
theorem RowsAre.cnt {e:TypeId} {sz:Nat} {f:Nat→Nat→List Value} {c c':Nat→Nat} (h:RowsAre r e sz f c) (hc:∀ j,c' j=c j):RowsAre r e sz f c':=λj=>by rw [hc]; exact h j
def Bz (n:Nat→Nat) (k j:Nat) (i:Nat):Nat:=if i<k then n i else if i=k then j else 0
theorem H6 (n:Nat→Nat) (i:Nat):Bz n 0 0 i=0:=by unfold Bz; simp
theorem DW (n:Nat→Nat) (k j:Nat):Bz n k j k=j:=by unfold Bz; simp
theorem QC {n:Nat→Nat} {k j i:Nat} (h:i≠k):Bz n k (j+1) i=Bz n k j i:=by unfold Bz; simp [h]
theorem H7 (n:Nat→Nat) (k i:Nat):Bz n (k+1) 0 i=Bz n k (n k) i:=by
 unfold Bz
 by_cases h1:i<k
 ·simp [h1,Nat.lt_succ_of_lt h1]
 ·by_cases h2:i=k
  ·subst h2; simp
  ·have:¬ i<k+1:=om
   simp [h1,h2,this]
theorem Cr {n:Nat→Nat} {k i:Nat} (h:i<k):Bz n k 0 i=n i:=by unfold Bz; simp [h]
theorem RowsAre.put' {e:TypeId} {sz:Nat} {f:Nat→Nat→List Value} {c:Nat→Nat} {k j:Nat} {y:List Value} (h:RowsAre r e sz f (Bz c k j)) (hx:x.Is e sz ((List.range (Bz c k j k)).map (f k)++[y])) (hy:y=f k j):RowsAre (Ct r k x) e sz f (Bz c k (j+1)) :=
 h.put (by rw [hy] at hx; rwa [show f k (Bz c k j k)=f k j by rw [DW]]) (by rw [DW,DW]) (λi hi=>QC hi)
theorem Hf:BJ (λ_=>nilS) n=[]:=by simp [BJ,nilS]
def EG (eo e:TypeId) (sz:Nat) (f:Nat→Nat→List Value) (c:Nat→Nat) (N:Nat) (v:Value) (M:AD):Prop:=∃ g r,v=.slice (pA g) N N∧M=(g,eo,Ai r N)::BJ r N∧RowsAre r e sz f c
theorem RowsAre.lst {e:TypeId} {sz m N:Nat} {f:Nat→Nat→List Value} {c:Nat→Nat} (h:RowsAre r e sz f c) {i:Nat} (hm:c i=m) (hi:i<N):∃ A k,(r i).v=.slice A m k∧m≤k∧k≤maxLen∧∀ {w0:Base} {w:World} {L:AD},St w0 w L→(∀ b∈BJ r N,b∈L)→Lst w sz A m (f i):=by
 subst hm
 obtain ⟨A,k,h1,h2,h3,h4⟩:=(h i).out
 rw [List.length_map,List.length_range] at h1 h2 h4
 refine ⟨A,k,h1,h2,h3,λ{w0 w L} hw hb=>?_⟩
 obtain ⟨g,o,q⟩:=h4 hw (λb hm=>hb b (NX hi hm))
 refine ⟨g,o,λhn=>?_⟩
 obtain ⟨q1,q2,q3⟩:=q hn
 refine ⟨q1,q2,λj hj=>?_⟩
 have q4:w.rangeAt g (o+j*sz) ((List.map (f i) (List.range (c i))).getD j []):=q3 j hj
 rw [List.getD_eq_getElem?_getD,List.getElem?_map,List.getElem?_range hj] at q4
 exact q4
end
section
variable {w0:Base} {w:World} {pre a T M N:AD}
theorem St.pick2 (is:List Nat) (hn:is.Nodup) (hm:is.map (λi=>pre[i]?)=(M++N).map some) (hw:St w0 w (pre++(a++T))):St w0 w (M++(a++(T++N))):=by
 refine (St.pick is hn hm hw).perm ?_
 rw [List.append_assoc, ← List.append_assoc a]
 exact (List.perm_append_comm (l₁:=N) (l₂:=a++T)).append_left M
end
theorem Mp {place:Nat→Option (Nat×Nat)} {cs:Array Value} {v:Value} {c:List Value} {n:Nat} (hv:v.cells=#[v]) (hp0:place 0=some (0,1)) (hp1:place 1=some (1,n)) (hc:c.length=n) (hs:cs.size=n+1):Instr.fill place cs [(0,v),(1,.agg c.toArray)]=some (v::c).toArray:=by
 unfold Instr.fill
 rw [hp0]
 simp only [hv,List.size_toArray,List.length_singleton,hs,Nat.zero_add,ne_eq,not_true_eq_false,decide_false,Bool.false_or]
 rw [if_neg (by simp)]
 unfold Instr.fill
 rw [hp1]
 have hz:(#[v].zipIdx).foldl (λcs (x:Value×Nat)=>cs.setIfInBounds x.2 x.1) cs=cs.setIfInBounds 0 v:=rfl
 simp only [Value.cells,List.size_toArray,hc,ne_eq,not_true_eq_false,decide_false,Bool.false_or]
 have hcs:(cs.setIfInBounds 0 v).size=n+1:=by rw [Array.size_setIfInBounds,hs]
 rw [hz,if_neg (by rw [hcs]; simp; omega)]
 unfold Instr.fill
 have h1:c.toArray.zipIdx.foldl (λcs (x:Value×Nat)=>cs.setIfInBounds (1+x.2) x.1) (cs.setIfInBounds 0 v)=setAll (cs.setIfInBounds 0 v) (1+0) c:=by
  rw [← Jo c 1 0, ← Array.foldl_toList,Array.toList_zipIdx]
 have h2:=Cu.setAll_all c 1 (cs.setIfInBounds 0 v) (by rw [hcs]; omega)
 rw [h1,Nat.add_zero,h2,Array.toList_setIfInBounds]
 obtain ⟨a,r,e⟩:∃ a r,cs.toList=a::r:=by
  cases h:cs.toList with
  | nil=>rw [← Array.length_toList,h] at hs; simp at hs
  | cons a r=>exact ⟨a,r,rfl⟩
 rw [e]
 rfl
section
variable {P:Program} {w0:Base} {F:AM} {L:AD} {o:Oper}
theorem Quiet.build2V (t:TypeId) (fs:Array Field) (it:TypeInfo) (zv:Value) (x y:Operand) (v:Value) (c:List Value) (n:Nat) (ho:o.op=.build t #[(0,x),(1,y)]) (hx:evF F x=v) (hv:v.cells=#[v]) (hy:evF F y=.agg c.toArray) (hu:P.underlying t=some (.struct fs)) (hit:P.info? t=some it) (hz:it.zero=some zv) (hzs:zv.cells.size=n+1)
  (hpl:fs.toList.mapM (λf=>(P.info? f.type).map λi=>(f.offset,i.size))=some [(0,1),(1,n)]) (hc:c.length=n):Quiet P w0 F L o (.agg (v::c).toArray):=Quiet.pure λw=>by
 have hb:P.built t #[(0,v),(1,.agg c.toArray)].toList=some (v::c).toArray:=by
  unfold Program.built
  rw [hit,hu]
  simp only [hz,hpl]
  exact Mp hv U U hc hzs
 have hr:=run_build (P:=P) w t #[(0,v),(1,.agg c.toArray)] _ hb
 unfold execOp
 simp only [ho,Sem.run_bind,List.map_toArray,List.map_cons,List.map_nil,hx,hy,hr,Result.andThen_ok,Sem.run_pure]
end
end Sy
end
section
namespace Cu
open Go.RowKit Sy
structure TxsIs (w0:Base) (e:TypeId) (y:Slc) (T:AD) (ts:List Sh.Tx):Prop where
 row:y.Is e 1 (ts.map λt=>[t.val])
 ok:∀ (w:World) (L:AD),St w0 w L→(∀ b∈T,b∈L)→∀ t∈ts,t.ok w
section
variable {w0:Base} {e:TypeId} {y:Slc} {T:AD} {ts:List Sh.Tx}
theorem TxsIs.nil (w0:Base) (e:TypeId):TxsIs w0 e nilS [] []:=⟨Slc.Is.nil _ _,λ_ _ _ _ _ h=>(by cases h)⟩
theorem TxsIs.start {g:Nat} {A:Option Addr} {m:List UInt8} {n c:Nat} (hn:m.length=n) (hok:∀ w L,St w0 w L→(Sh.Tx.mk A m c).ok w):TxsIs w0 e ⟨.slice (pA g) 1 1,[(g,e,#[.slice A n c])]⟩ [] [⟨A,m,c⟩]:=by
 subst hn
 refine ⟨Slc.Is.mk' (cs:=[.slice A m.length c]) (λx hx=>?_) (λx hx u hu=>?_) rfl U U (Nat.le_refl _) dZ,λw L hw _ t ht=>?_⟩
 ·rw [List.mem_singleton.1 hx]; rfl
 ·rw [List.mem_singleton.1 hx] at hu
  rw [List.mem_singleton.1 hu]; rfl
 ·rw [List.mem_singleton.1 ht]; exact hok w L hw
theorem TxsIs.texts (h:TxsIs w0 e y T ts):∃ A c,y.v=.slice A ts.length c∧ts.length≤c∧c≤maxLen∧∀ {w:World} {L:AD},St w0 w L→(∀ b∈y.bl,b∈L)→(∀ b∈T,b∈L)→Sh.Texts w A ts:=by
 obtain ⟨A,c,h1,h2,h3,h4⟩:=h.row.out
 rw [List.length_map] at h1 h2 h4
 refine ⟨A,c,h1,h2,h3,λ{w L} hw hy hT hne=>?_⟩
 obtain ⟨g,o,q⟩:=h4 hw hy
 obtain ⟨q1,q2,q3⟩:=q (List.length_pos_iff.2 hne)
 refine ⟨g,o,q1,q2,λj x hx=>⟨?_,h.ok w L hw hT x (List.mem_of_getElem? hx)⟩⟩
 have hj:=(List.getElem?_eq_some_iff.1 hx).1
 have q4:w.rangeAt g (o+j*1) ((ts.map λt=>[t.val]).getD j []):=q3 j hj
 rw [List.getD_eq_getElem?_getD,List.getElem?_map,hx] at q4
 have q5:=AV q4 0 U
 rwa [Nat.mul_one,Nat.add_zero] at q5
theorem TxsIs.add (h:TxsIs w0 e y T ts) {y':Slc} {v:Value} (t:Sh.Tx) (T':AD) (hy:y'.Is e 1 (ts.map (λt=>[t.val])++[[v]])) (hv:t.val=v) (hok:∀ w L,St w0 w L→(∀ b∈T',b∈L)→t.ok w):TxsIs w0 e y' (T++T') (ts++[t]) :=
 ⟨by rw [List.map_append]; subst hv; exact hy,λw L hw hT x hx=>(List.mem_append.1 hx).elim (λh1=>h.ok w L hw (λb hb=>hT b (List.mem_append.2 (.inl hb))) x h1) (λh1=>by rw [List.mem_singleton.1 h1]; exact hok w L hw (λb hb=>hT b (List.mem_append.2 (.inr hb))))⟩
theorem Fx (ts:List Sh.Tx) (t:Sh.Tx):Sh.cat (ts++[t])=Sh.cat ts++t.l:=by unfold Sh.cat; rw [List.flatMap_append]; simp
theorem Kj {g:Nat} {t:TypeId} {l:List UInt8} {c:Nat} (hl:l.length≤c) (hc:c≤9223372036854775807):∀ w L,St w0 w L→(∀ b∈[(g,t,(l.map bv).toArray)],b∈L)→(Sh.Tx.mk (pA g) l c).ok w:=λw L hw hT=>⟨Sh.Src.of_blk (hw.blk g t _ (hT _ (List.mem_singleton.2 U))).2,hl,hc⟩
theorem Ox {g c n:Nat} {l:List UInt8} (hl:l.length=n):(Sh.Tx.mk (pA g) l c).val=.slice (pA g) n c:=by
 unfold Sh.Tx.val
 rw [hl]
end
end Cu
end
section
namespace Cu
open Go.RowKit Sy
noncomputable def OH:TypeInfo:=(Tryz.prog.info? 79).getD default
theorem OG:Tryz.prog.info? 79=some OH:=kZ
noncomputable def SF:TypeInfo:=(Tryz.prog.info? 24).getD default
theorem D_:Tryz.prog.info? 24=some SF:=kZ
theorem Id (A:Option Addr) (n c:Nat):∀ u∈[Value.slice A n c],u.oneCell'=true:=λu hu=>by rw [List.mem_singleton.1 hu]; rfl
theorem Gq (R:Option Addr) (n c:Nat) {l:List UInt8} (h:l.length=32):(Ag R n c l).length=33:=by simp [Ag,h]
theorem KC (R:Option Addr) (n c:Nat) (l:List UInt8):∀ u∈Ag R n c l,u.oneCell'=true:=λu hu=>by
 rcases List.mem_cons.1 hu with rfl | hu
 ·rfl
 ·obtain ⟨x,_,rfl⟩:=List.mem_map.1 hu; rfl
def EJ (X Y:Nat→Nat) (I:Nat→Bool):Nat→List UInt8
 | 0=>[]
 | k+1=>EJ X Y I k++A3 (dec (X k) (Y k) (I k))
def BQ (n:Nat→Nat) (X Y:Nat→Nat→Nat) (I:Nat→Nat→Bool):Nat→List UInt8
 | 0=>[]
 | k+1=>BQ n X Y I k++(UInt8.ofNat (n k)::EJ (X k) (Y k) (I k) (n k))
theorem Ck (X Y:Nat→Nat) (I:Nat→Bool):∀ k,(EJ X Y I k).length=33*k
 | 0=>rfl
 | k+1=>by
  show (EJ X Y I k++_).length=_
  rw [List.length_append,Ck X Y I k,A5]
  omega
theorem B2 {n:Nat→Nat} {N:Nat} (h:∀ i,i<N→n i≤64) (X Y:Nat→Nat→Nat) (I:Nat→Nat→Bool):∀ k,k≤N→(BQ n X Y I k).length≤2113*k
 | 0,_=>Nat.le_refl _
 | k+1,hk=>by
  show (BQ n X Y I k++(_::_)).length≤_
  have:=B2 h X Y I k om
  have:=h k om
  rw [List.length_append,List.length_cons,Ck]
  omega
def rgM (m:List UInt8) (N:Nat) (n:Nat→Nat) (X Y:Nat→Nat→Nat) (I:Nat→Nat→Bool):List UInt8:=Sh.taggedS rgRing.data.toList (m++BQ n X Y I N)
theorem D2 (m:List UInt8) (N:Nat) (n:Nat→Nat) (X Y:Nat→Nat→Nat) (I:Nat→Nat→Bool):(rgM m N n X Y I).length=32:=B8 _ _
theorem Gs (w:World) (R:Option Addr) (NR cR:Nat) (a:Nat→Option Addr) (nk ck:Nat→Nat) (X Y:Nat→Nat→Nat) (I:Nat→Nat→Bool) (hX:∀ i k,X i k<K4) (hY:∀ i k,Y i k<K4) (hNR:NR≤4611686018427387904) (hnk:∀ i,nk i≤4611686018427387904) (hlr:Lst w 1 R NR (λi=>[.slice (a i) (nk i) (ck i)])) (hlk:∀ i,i<NR→Lst w 9 (a i) (nk i) (λk=>pml (X i k) (Y i k) (I i k))) (hN32:NR≤32) (hn64:∀ i,i<NR→nk i≤64) (A:Option Addr) (m:List UInt8) (n c:Nat) (hm:m.length=n) (hm9:n≤999000000) (hc:n≤c) (hc2:c≤9223372036854775807) (hs0:Sh.Src w A m) (ht:Sh.TabAt w 1):Calls Tryz.prog 38 #[.slice A n c,.slice R NR cR] w (Gets w (Aw R NR cR (rgM m NR nk X Y I))):=by
 have hlr0:=hlr
 obtain ⟨gR,oR,hR⟩:=hlr
 refine Sy.enter (args:=[.slice A n c,.slice R NR cR]) Tryz.func38 U kL<|sC<|sM 79 (Ag none 0 0 (List.replicate 32 (0:UInt8))).toArray (λg0=>?_)
 refine sA<|sP (.slice A n c)<|Sy.make kR 24 #[.slice A n c] (λg=>.slice (pA g) 1 1) kF (λg1=>?_)
 refine sP (.slice (pA g1) 1 1)<|sG<|Sy.seq<|sC<|sP (.slice R NR cR)<|sP (iZ NR)<|sP (.int .i64 0)<|sG<|Sy.block<|Sy.loopT (Y:=Slc×AD×List Sh.Tx) NR (λk1 y1=>[(1,.slice R NR cR),(4,pT g0 0),(5,y1.1.v),(12,.slice R NR cR),(13,iZ NR),(14,iZ k1)]) (λk1 y1=>[(g0,79,(Ag none 0 0 (List.replicate 32 (0:UInt8))).toArray)]++(y1.1.bl++y1.2.1)) (λk1 y1=>TxsIs (Base.of w) 24 y1.1 y1.2.1 y1.2.2∧Sh.cat y1.2.2=m++BQ nk X Y I k1∧y1.2.2.length≤1+65*k1) (⟨.slice (pA g1) 1 1,[(g1,24,#[.slice A n c])]⟩,[],[(⟨A,m,c⟩:Sh.Tx)]) ⟨TxsIs.start hm (λ_ _ hw=>⟨hs0.below hw.below,by show m.length≤c; omega,hc2⟩),by simp [Sh.cat,BQ],by simp⟩ ac6 (λw hw=>hw) (λk1 y1 hk1 hh1=>?_)
 refine sC ?_
 obtain ⟨b1,hb1⟩:=xE (decide (k1<NR))
 refine sS (.bool b1) (qls U U U hb1)<|sG<|Sy.seq ?_
 cases b1
 ·have lb1:=dN hb1
  refine sU<|Sy.exit<|Sy.then_exit<|Sy.then_exit ?_
  obtain rfl:NR=k1:=om
  refine Sy.in_exit<|sB<|sP (.slice R NR cR)<|sP (y1.1.v) ?_
  obtain ⟨bM,hbM⟩:=xE (rgM m NR nk X Y I)
  have hbl:bM.length=32:=by rw [hbM]; exact D2 _ _ _ _ _ _
  refine sS (.agg (bM.map bv).toArray) (qG 95 #[.string rgRing,y1.1.v] (λw hw=>by obtain ⟨Q,d,hv,_,_,htx⟩:=hh1.1.texts; rw [hv,hbM]; have hq:=B2 hn64 X Y I NR (Nat.le_refl _); have q:=Sh.tagged_any w rgRing Q y1.2.2 d (htx hw (λb hb=>List.mem_append.2 (.inr (List.mem_append.2 (.inl hb)))) (λb hb=>List.mem_append.2 (.inr (List.mem_append.2 (.inr hb))))) (ht.below hw.below ht.lt) dZ (by rw [hh1.2.1,List.length_append]; omega) (by omega); rw [hh1.2.1] at q; exact q))<|sS (Aw R NR cR bM) (Quiet.build2V 79 _ OH _ _ _ _ _ 32 U U U kR DF OG U U kR ((List.length_map ..).trans hbl))<|sW 0 g0 79 (Ag none 0 0 (List.replicate 32 (0:UInt8))).toArray (Ag R NR cR bM).toArray (Writes.row 79 (Ag R NR cR bM) 33 _ _ U kR kR kR (Gq _ _ _ hbl) kR (KC _ _ _ _))<|Sy.setT<|sG<|Sy.ret ?_
  rw [← hbM]
  exact Sy.ret1 U (v:=Aw R NR cR bM) (.inl (Res.cell (ty':=79) g0 0 (Ag R NR cR bM).toArray _ kR kR DF U (by rw [List.size_toArray,Gq _ _ _ hbl]; kernel_rfl) rfl))
 ·have lb1:=dY hb1
  have hnk1:=hn64 k1 lb1
  obtain ⟨gK,oK,hT⟩:=hlk k1 lb1
  refine sT<|Sy.skip<|Sy.then_<|Sy.seq<|Sy.block<|sC<|sS (.pointer (some ⟨gR,oR+k1*1,none⟩)) (Quiet.pure (AJ 25 _ _ _ R gR oR NR cR k1 1 .i64 (hR om).1 U U U Bl kF om))<|sS (.slice (a k1) (nk k1) (ck k1)) (Quiet.thereOne gR (oR+k1*1) 45 _ _ U kR (hR om).2.1 _ (AV ((hR om).2.2 k1 om) 0 U) CJ U)<|sP (.slice (a k1) (nk k1) (ck k1))<|sA<|sP (y1.1.v)<|sP (.slice (a k1) (nk k1) (ck k1))<|sP (iZ ((nk k1)))<|sS (bv (UInt8.ofNat (nk k1))) (Quiet.pure (λw=>CF w _ _ _ (nk k1) om U U))<|Sy.make kR 5 #[bv (UInt8.ofNat (nk k1))] (λg=>.slice (pA g) 1 1) kF (λg2=>?_)
  refine Sy.movT<|Sy.make kR 24 #[.slice (pA g2) 1 1] (λg=>.slice (pA g) 1 1) kF (λg3=>?_)
  refine Sy.movT<|Sy.appendR kR 88 24 _ _ 1 24 Fd D_ U U U U dZ _ _ U hh1.1.row kR [.slice (pA g2) 1 1] rfl (Id _ _ _) 2 g3 24 kR kR (by (rw [List.length_map]); omega) (by (rw [List.length_map]); simp only [maxLen]; omega) (λr1 hr1=>?_)
  refine sP (r1.v)<|sA<|sP (.slice (a k1) (nk k1) (ck k1))<|sP (iZ ((nk k1)))<|sP (.int .i64 0)<|sG<|Sy.block<|Sy.loopT (Y:=Slc×AD×List Sh.Tx) (nk k1) (λk2 y2=>[(1,.slice R NR cR),(4,pT g0 0),(5,y2.1.v),(7,.slice (a k1) (nk k1) (ck k1)),(12,.slice R NR cR),(13,iZ NR),(14,iZ k1),(25,.slice (a k1) (nk k1) (ck k1)),(26,iZ ((nk k1))),(27,iZ k2)]) (λk2 y2=>[(g0,79,(Ag none 0 0 (List.replicate 32 (0:UInt8))).toArray)]++(y2.1.bl++y2.2.1)) (λk2 y2=>TxsIs (Base.of w) 24 y2.1 y2.2.1 y2.2.2∧Sh.cat y2.2.2=m++(BQ nk X Y I k1++(UInt8.ofNat (nk k1)::EJ (X k1) (Y k1) (I k1) k2))∧y2.2.2.length≤2+65*k1+k2) (r1,y1.2.1++[(g2,5,([UInt8.ofNat (nk k1)].map bv).toArray)],y1.2.2++[(⟨some ⟨g2,0,none⟩,[UInt8.ofNat (nk k1)],1⟩:Sh.Tx)]) ⟨hh1.1.add _ _ hr1 U (Kj (Nat.le_refl 1) dZ),by rw [Fx,hh1.2.1,List.append_assoc]; rfl,by rw [List.length_append,List.length_singleton]; omega⟩ Rg (λw hw=>Sy.St.pick2 (pre:=[(g0,79,(Ag none 0 0 (List.replicate 32 (0:UInt8))).toArray),(g2,5,#[bv (UInt8.ofNat (nk k1))]),(g3,24,#[.slice (pA g2) 1 1])]) (M:=[(g0,79,(Ag none 0 0 (List.replicate 32 (0:UInt8))).toArray)]) (N:=[(g2,5,([UInt8.ofNat (nk k1)].map bv).toArray)]) [0,1] dZ kR hw) (λk2 y2 hk2 hh2=>?_)
  refine sC ?_
  obtain ⟨b2,hb2⟩:=xE (decide (k2<(nk k1)))
  refine sS (.bool b2) (qls U U U hb2)<|sG<|Sy.seq ?_
  cases b2
  ·have lb2:=dN hb2
   refine sU<|Sy.exit<|Sy.then_exit<|Sy.then_exit ?_
   obtain rfl:k2=nk k1:=om
   refine Sy.in_exit<|Sy.in_<|Sy.then_<|Sy.region<|sS (iZ (k1+1)) (qad U U U)<|sP (iZ (k1+1))<|Sy.nil ?_
   exact Sy.againT (y2) om (⟨hh2.1,by rw [hh2.2.1]; rfl,by omega⟩) ac6 (λw hw=>hw)
  ·have lb2:=dY hb2
   refine sT<|Sy.skip<|Sy.then_<|Sy.seq<|Sy.block<|sC<|sS (.pointer (some ⟨gK,oK+k2*9,none⟩)) (Quiet.pure (AJ 45 _ _ _ (a k1) gK oK (nk k1) (ck k1) k2 9 .i64 (hT om).1 U U U CJ kF om))<|sS (pv (X k1 k2) (Y k1 k2) (I k1 k2)) (Quiet.there gK (oK+k2*9) 9 48 (pml (X k1 k2) (Y k1 k2) (I k1 k2)) _ _ U kR (hT om).2.1 ((hT om).2.2 k2 om) An U kR U _ U)<|sM 48 (pcs 0 0 false) (λg4=>?_)
   refine Sy.movT<|sW 1 g4 48 (pcs 0 0 false) (pcs (X k1 k2) (Y k1 k2) (I k1 k2)) (wS 0 48 (pcs (X k1 k2) (Y k1 k2) (I k1 k2)) U)<|Sy.setT<|sG<|Sy.region<|sP (y2.1.v)<|sS (pv (X k1 k2) (Y k1 k2) (I k1 k2)) (qL 1 g4 0 9 48 48 (pcs (X k1 k2) (Y k1 k2) (I k1 k2)) U An)<|Sy.callN kR 94 #[pv (X k1 k2) (Y k1 k2) (I k1 k2)] kF ((Dw (dec (X k1 k2) (Y k1 k2) (I k1 k2)))) (λw hw=>Gl w _ _ _ (hX _ _) (hY _ _)) (λvq Mq hR0=>?_)
   obtain ⟨q7,rfl,rfl⟩:=hR0
   refine Sy.movT<|Sy.make kR 24 #[.slice (pA q7) 33 33] (λg=>.slice (pA g) 1 1) kF (λg5=>?_)
   refine Sy.movT<|Sy.appendR kR 88 24 _ _ 1 24 Fd D_ U U U U dZ _ _ U hh2.1.row kR [.slice (pA q7) 33 33] rfl (Id _ _ _) 3 g5 24 kR kR (by (rw [List.length_map]); omega) (by (rw [List.length_map]); simp only [maxLen]; omega) (λr2 hr2=>?_)
   refine sP (r2.v)<|Sy.nil<|Sy.in_<|Sy.then_<|Sy.region<|sS (iZ (k2+1)) (qad U U U)<|sP (iZ (k2+1))<|Sy.nil ?_
   exact Sy.againT ((r2,y2.2.1++[(q7,174,((A3 (dec (X k1 k2) (Y k1 k2) (I k1 k2))).map bv).toArray)],y2.2.2++[(⟨some ⟨q7,0,none⟩,A3 (dec (X k1 k2) (Y k1 k2) (I k1 k2)),33⟩:Sh.Tx)])) om (⟨hh2.1.add _ _ hr2 (Ox (A5 _)) (Kj (by rw [A5]; decide) dZ),by rw [Fx,hh2.2.1,List.append_assoc,List.append_assoc,List.cons_append]; rfl,by rw [List.length_append,List.length_singleton]; omega⟩) Rg (λw hw=>Sy.St.pick2 (pre:=[(g0,79,(Ag none 0 0 (List.replicate 32 (0:UInt8))).toArray),(g4,48,(pcs (X k1 k2) (Y k1 k2) (I k1 k2))),(q7,174,((A3 (dec (X k1 k2) (Y k1 k2) (I k1 k2))).map bv).toArray),(g5,24,#[.slice (pA q7) 33 33])]) (M:=[(g0,79,(Ag none 0 0 (List.replicate 32 (0:UInt8))).toArray)]) (N:=[(q7,174,((A3 (dec (X k1 k2) (Y k1 k2) (I k1 k2))).map bv).toArray)]) [0,2] dZ kR hw)
end Cu
end
section
namespace Sy
open Go.RowKit
section
variable {P:Program} {w0:Base} {n:Nat} {Q:Exit→Act→World→Prop} {F:AM} {L pre T:AD} {ops:Array Oper} {o:Oper} {l:List Oper}
theorem appendZ (hg:Bf ops n F o=true) (ts tn e:TypeId) (inf:TypeInfo) (z:Value) (sz by_:Nat) (ht:P.underlying ts=some (.slice e)) (htn:P.underlying tn=some (.int .i64)) (hinf:P.info? e=some inf) (hz:inf.zero=some z) (hs1:inf.size=sz) (hb1:inf.bytes=by_) (hzs:z.cells.size=sz) (h0:0<sz)
  (s x:Operand) (ho:o.op=.call { callee:=.builtin .append,args:=#[s,x],argTypes:=#[ts,tn] }) (hs:evF F s=.slice none 0 0) (m:Nat) (hm0:0<m) (hx:evF F x=.int .i64 (m:Int)) (hsmall:m*by_≤140737488355328) (h63:m≤maxLen)
  (h:∀ (g cap:Nat) (cs:List Value),cs.length=cap*sz→m≤cap→cap≤maxLen→wpS P w0 n ops Q (BN F o.dst (.slice (pA g) m cap)) (L++[(g,e,cs.toArray)]) l):wpS P w0 n ops Q F L (o::l):=λa w ha hw=>by
 obtain ⟨k1,_,k3,_⟩:=AN hg
 refine wpList_step λK hK=>?_
 rw [if_pos (ha.wanted k1)]
 have h63':(m:Int)≤9223372036854775807:=by simp only [maxLen] at h63; omega
 have hr:=Lib.run_append_nil_zeros (P:=P) w ts tn o.type e inf z .i64 .i64 ht htn hinf hz m hm0 om h63' (by rw [hb1]; omega)
 have hc1:=grownCap_ge w m 0 e
 have hc2:=grownCap_le_maxLen w m 0 e h63
 unfold Oper.wp
 rw [Aj hg ha]
 unfold execOp
 simp only [ho,resolve,invoke,builtin,Sem.run_bind,Sem.run_pure,Result.andThen_ok,List.map_toArray,List.map_cons,List.map_nil,hs,hx,hr]
 have hgr:Gr w (w.drew.alloc (.cells (Builtin.zeroCells z.cells m++Builtin.zeroCells z.cells (grownCap w m 0 e - m)) e)):=(show Gr w w.drew from (Below.refl _ _).drew).trans (gr_alloc _ _)
 exact hK _ _ (h w.heap.size (grownCap w m 0 e) (Builtin.zeroCells z.cells m++Builtin.zeroCells z.cells (grownCap w m 0 e - m)).toList (by
  rw [Array.length_toList,Array.size_append,size_zeroCells,size_zeroCells,hzs, ← Nat.add_mul]
  congr 1
  omega) hc1 hc2 _ _ (ha.put k3 _) (hw.add hgr (Nat.le_refl _) (Blk.new w.drew e _)))
theorem appendM (hg:Bf ops n F o=true) (ts e:TypeId) (inf:TypeInfo) (z:Value) (sz by_:Nat) (ht:P.underlying ts=some (.slice e)) (hinf:P.info? e=some inf) (hz:inf.zero=some z) (hs1:inf.size=sz) (hb1:inf.bytes=by_) (hzs:z.cells.size=sz) (h0:0<sz)
  (s x:Operand) (ho:o.op=.call { callee:=.builtin .append,args:=#[s,x],argTypes:=#[ts,ts] })
  {r:Slc} {xs ys:List (List Value)} (hr:r.Is e sz xs) (hs:evF F s=r.v) (hy:∀ y∈ys,y.length=sz) (hy1:∀ y∈ys, ∀ u∈y,u.oneCell'=true)
  (A:Option Addr) (m c:Nat) (hm:ys.length=m) (hmc:m≤c) (hx:evF F x=.slice A m c) (hf:∀ r:Slc,From w0 (pre++(r.bl++T)) A ys.flatten) (hsmall:(xs.length+m)*by_≤140737488355328) (h63:xs.length+m≤maxLen)
  (h:∀ r':Slc,r'.Is e sz (xs++ys)→wpS P w0 n ops Q (BN F o.dst r'.v) (pre++(r'.bl++T)) l):wpS P w0 n ops Q F (pre++(r.bl++T)) (o::l):=by
 have hlen:∀ u∈xs++ys,u.length=sz:=λu hu=>(List.mem_append.1 hu).elim (hr.len u) (hy u)
 have hone:∀ u∈xs++ys, ∀ v∈u,v.oneCell'=true:=λu hu=>(List.mem_append.1 hu).elim (hr.one u) (hy1 u)
 have hyl:ys.flatten.length=m*sz:=by rw [DC hy,hm]
 have hyo:∀ u∈ys.flatten,u.oneCell'=true:=λu hu=>by
  obtain ⟨y,h1,h2⟩:=List.mem_flatten.1 hu
  exact hy1 y h1 u h2
 rcases hr.row with ⟨rfl,rfl⟩ | ⟨g,cap,sp,rfl,q1,q2,q3⟩
 ·rcases Nat.eq_zero_or_pos m with rfl | hm0
  ·obtain rfl:ys=[]:=List.eq_nil_of_length_eq_zero hm
   intro a w ha hw
   obtain ⟨k1,_,k3,_⟩:=AN hg
   refine wpList_step λK hK=>?_
   rw [if_pos (ha.wanted k1)]
   have hfc:(Builtin.firstCells inf.size 0 (.slice A 0 c)).run P w=.ok #[] w:=by
    cases A with
    | none=>simp [Builtin.firstCells,Sem.run_pure]
    | some a=>simpa using run_firstCells_some (P:=P) w inf.size 0 a 0 c [] (by simp) (λj u hj=>by cases hj)
   have hrn:(Builtin.append_ #[ts,ts] o.type #[.slice none 0 0,.slice A 0 c]).run P w=.ok (.slice none 0 0) w:=by
    simp [Builtin.append_,run_underlying ht,sizeOf,typeInfo,hinf,Builtin.lenOf,hfc]
   unfold Oper.wp
   rw [Aj hg ha]
   unfold execOp
   simp only [ho,resolve,invoke,builtin,Sem.run_bind,Sem.run_pure,Result.andThen_ok,List.map_toArray,List.map_cons,List.map_nil,hs,hx,hrn]
   exact hK _ _ (h nilS (Slc.Is.nil e sz) _ _ (ha.put k3 _) hw)
  ·refine Gu hg ts e inf z sz by_ ht hinf hz hs1 hb1 hzs h0 s x ho hs A m c ys.flatten hx (hf _) hyl hm0 hyo (by simpa using hsmall) (by simpa using h63) (λg' cap' sp' h1 h2 h3=>?_)
   have hq:=h ⟨.slice (some ⟨g',0,none⟩) m cap',[(g',e,(ys.flatten++sp').toArray)]⟩ ⟨hlen,hone,.inr ⟨g',cap',sp',by simp [hm],by simpa [hm] using h1,by simpa [hm] using h2,h3⟩⟩
   exact permS (by
    rw [List.nil_append,List.append_assoc]
    exact (List.perm_append_comm (l₁:=T) (l₂:=[(g',e,(ys.flatten++sp').toArray)])).append_left pre) hq
 ·have hi:(pre++([(g,e,(xs.flatten++sp).toArray)]++T))[pre.length]? = some (g,e,(xs.flatten++sp).toArray):=by
   rw [List.getElem?_append_right (Nat.le_refl _),Nat.sub_self]
   rfl
  refine Lz hg ts e inf z sz by_ ht hinf hz hs1 hb1 hzs h0 s x ho pre.length g xs.length cap xs.flatten sp hs hi (DC hr.len) q1 q3 A m c ys.flatten hx (hf ⟨.slice none 0 0,[(g,e,(xs.flatten++sp).toArray)]⟩) hyl hmc hyo hsmall h63 (λg' cap' sp' h1 h2 h3=>?_)
  have hq:=h ⟨.slice (some ⟨g',0,none⟩) (xs.length+m) cap',[(g',e,(xs.flatten++ys.flatten++sp').toArray)]⟩ ⟨hlen,hone,.inr ⟨g',cap',sp',by simp [hm],by simpa [hm] using h1,by simpa [hm] using h2,h3⟩⟩
  have he:(pre++([(g,e,(xs.flatten++sp).toArray)]++T)).set pre.length (g',e,(xs.flatten++ys.flatten++sp').toArray)=pre++([(g',e,(xs.flatten++ys.flatten++sp').toArray)]++T):=by
   rw [List.set_append_right _ _ (Nat.le_refl _),Nat.sub_self]
   rfl
  rw [he]
  exact hq
end
theorem From.lst {w0:Base} {L:AD} {s m:Nat} {A:Option Addr} {f:Nat→List Value} (hl:Lst w0.world s A m f) (hf:∀ k,(f k).length=s):From w0 L A ((List.range m).map f).flatten:=λw hw=>by
 rcases Nat.eq_zero_or_pos m with rfl | hm
 ·exact .inl U
 obtain ⟨g,o,q⟩:=hl
 obtain ⟨rfl,h2,h3⟩:=q hm
 refine .inr ⟨_,rfl,λj u hj=>?_⟩
 rw [CG]
 refine (hw.below.cell (p:=⟨g,o+j,none⟩) h2).trans ?_
 clear q
 induction m with
 | zero=>simp at hj
 | succ k ih =>
  rw [List.range_succ,List.map_append,List.flatten_append,List.map_singleton,List.flatten_singleton] at hj
  have hlen:((List.range k).map f).flatten.length=k*s:=by
   rw [DC (sz:=s) (λx hx=>by obtain ⟨i,_,rfl⟩:=List.mem_map.1 hx; exact hf i),List.length_map,List.length_range]
  by_cases hjk:j<k*s
  ·rw [List.getElem?_append_left om] at hj
   exact ih (Nat.pos_of_ne_zero λh=>by subst h; simp at hjk) (λi hi=>h3 i om) hj
  ·rw [List.getElem?_append_right om,hlen] at hj
   have:=h3 k om (j - k*s) u hj
   rwa [show o+k*s+(j - k*s)=o+j by omega] at this
theorem JU {P:Program} {w1:World} {n:Nat} {F:AM} {L:AD} {fn:Func} {r:ResultVar} {v:Value} {R:Value→AD→Prop} (M:AD) (hr:fn.results=#[r]) (h:Has P F L r v) (hM:∀ w,St (Base.of w1) w L→St (Base.of w1) w M) (hR:R v M):X (Base.of w1) n (bodyPost P fn (GetsN w1 R)) F L .ret:=λa w ha hw=>by
 refine bodyPost_ret (v:=v) ?_ ha.1 ⟨v,M,rfl,hR,hw.below,λg t cs hm=>(hM w hw).blk g t cs hm,(hM w hw).apart⟩
 rcases Res.run h ha hw with ⟨t,rfl,e1⟩ | ⟨t,ty,ad,rfl,e1,e2⟩ <;> simp [results,Result.andThen, *]
def Dv (e:TypeId) (sz:Nat) (xs:List (List Value)) (v:Value) (M:AD):Prop:=∃ y:Slc,y.Is e sz xs∧v=y.v∧M=y.bl
end Sy
end
section
namespace Cu
open Go.RowKit Sy
def DI (n:Nat→Nat):Nat→Nat
 | 0=>0
 | k+1=>DI n k+n k
theorem E6 (n:Nat→Nat):∀ {k m:Nat},k≤m→DI n k≤DI n m
 | k,0,h=>by rw [Nat.le_zero.1 h]; exact Nat.le_refl _
 | k,m+1,h=>by
  rcases Nat.lt_or_eq_of_le h with h1 | h1
  ·exact Nat.le_trans (E6 n (Nat.le_of_lt_succ h1)) (Nat.le_add_right _ _)
  ·rw [h1]; exact Nat.le_refl _
def M5 (n:Nat→Nat) (f:Nat→Nat→List Value):Nat→List (List Value)
 | 0=>[]
 | k+1=>M5 n f k++(List.range (n k)).map (f k)
theorem Gm (n:Nat→Nat) (f:Nat→Nat→List Value):∀ k,(M5 n f k).length=DI n k
 | 0=>rfl
 | k+1=>by
  show (M5 n f k++_).length=DI n k+n k
  rw [List.length_append,Gm n f k,List.length_map,List.length_range]
theorem Mh (w:World) (q:Nat) (hq:q≤1000000):Calls Tryz.prog 215 #[.slice none 0 0,iZ q] w (GetsN w (Dv 24 1 [])):=by
 refine Sy.enter (args:=[.slice none 0 0,iZ q]) Tryz.func215 U kL<|sC<|sP (.slice none 0 0)<|sG<|Sy.seq<|sC<|sP (iZ q) ?_
 obtain ⟨b1,hb1⟩:=xE (decide (q<0))
 refine sS (.bool b1) (qls U U U hb1)<|sG ?_
 cases b1
 ·have lb1:=dN hb1
  refine sU<|Sy.skip<|Sy.then_<|Sy.seq<|sC<|sP (iZ q)<|sP (.slice none 0 0)<|sP (.int .i64 0)<|sP (.slice none 0 0)<|sP (.int .i64 0)<|sP (.int .i64 0)<|sS (iZ q) (qsb U U U)<|sP (iZ q)<|sA<|sP (iZ q) ?_
  obtain ⟨b2,hb2⟩:=xE (decide (q>0))
  refine sS (.bool b2) (qgt U U U hb2)<|sG ?_
  cases b2
  ·have lb2:=dN hb2
   refine sU<|Sy.skip<|sB<|sP (.slice none 0 0)<|sP (.slice none 0 0)<|sG<|Sy.ret ?_
   exact JU [] rfl (v:=.slice none 0 0) (.inl (show _=_ by kernel_rfl)) (λ_ hw=>hw) ⟨nilS,Slc.Is.nil _ _,rfl,rfl⟩
  ·have lb2:=dY hb2
   refine sT<|Sy.region<|sP (.slice none 0 0)<|sP (.slice none 0 0)<|sP (.int .i64 0)<|sP (.slice none 0 0)<|sP (iZ q)<|Sy.appendZ kR 88 3 24 _ _ 1 24 Fd uy3 D_ U U U U dZ _ _ U U q om U om (by simp only [maxLen]; omega) (λgz cz zs hz1 hz2 hz3=>?_)
   refine sP (.slice none 0 0)<|sP (.int .i64 0)<|sS (.slice (pA gz) 0 cz) (Quiet.pure (Mt 88 _ _ gz 0 q cz 0 1 .i64 U U U Fd kF (Nat.zero_le _)))<|sP (.slice (pA gz) 0 cz)<|sA<|sP (.slice (pA gz) 0 cz)<|sP (.slice (pA gz) 0 cz)<|sG<|Sy.ret ?_
   exact JU [(gz,24,zs.toArray)] rfl (v:=.slice (pA gz) 0 cz) (.inl (show _=_ by kernel_rfl)) (λ_ hw=>hw) ⟨⟨.slice (pA gz) 0 cz,[(gz,24,zs.toArray)]⟩,Slc.Is.mk' (by simp) (by simp) rfl (by simp) hz1 (Nat.zero_le _) hz3,rfl,rfl⟩
 ·have lb1:=dY hb1
  exact absurd lb1 om
theorem J4 (w:World) (T:Option Addr) (N d:Nat) (a:Nat→Option Addr) (n c:Nat→Nat) (f:Nat→Nat→List Value) (hf1:∀ i k,(f i k).length=1) (hf2:∀ i k, ∀ u∈f i k,u.oneCell'=true) (hN:N≤1000000) (hs:DI n N≤1000000) (hnc:∀ i,i<N→n i≤c i) (hlt:Lst w 1 T N (λi=>[.slice (a i) (n i) (c i)])) (hl:∀ i,i<N→Lst w 1 (a i) (n i) (f i)):Calls Tryz.prog 164 #[.slice T N d] w (GetsN w (Dv 24 1 (M5 n f N))):=by
 obtain ⟨gT,oT,hT⟩:=hlt
 refine Sy.enter (args:=[.slice T N d]) Tryz.func164 U kL<|sC<|sP (.slice none 0 0)<|sA<|sP (.int .i64 0)<|sG<|Sy.seq<|sC<|sP (.slice T N d)<|sP (iZ N)<|sP (.int .i64 0)<|sG<|Sy.block<|Sy.loopK N (λk1=>[(0,.slice T N d),(3,iZ ((DI n k1))),(9,.slice T N d),(10,iZ N),(11,iZ k1)]) (λk1=>[]) [] (M:=[]) ac5 kR U (λk1 hk1=>?_)
 refine sC ?_
 obtain ⟨b1,hb1⟩:=xE (decide (k1<N))
 refine sS (.bool b1) (qls U U U hb1)<|sG<|Sy.seq ?_
 cases b1
 ·have lb1:=dN hb1
  refine sU<|Sy.exit<|Sy.then_exit<|Sy.then_exit ?_
  obtain rfl:N=k1:=om
  refine Sy.in_exit<|sB<|sP (iZ ((DI n N)))<|Sy.callN kR 215 #[.slice none 0 0,iZ ((DI n N))] kF (Dv 24 1 []) (λw hw=>Mh w _ om) (λvq Mq hR0=>?_)
  obtain ⟨y0,hy0,rfl,rfl⟩:=hR0
  refine sP (y0.v)<|sG<|Sy.seq<|sC<|sP (.slice T N d)<|sP (iZ N)<|sP (.int .i64 0)<|sG<|Sy.block<|Sy.loopT (Y:=Slc) N (λk1 y1=>[(0,.slice T N d),(6,y1.v),(25,.slice T N d),(26,iZ N),(27,iZ k1)]) (λk1 y1=>[]++(y1.bl++[])) (λk1 y1=>y1.Is 24 1 (M5 n f k1)) y0 hy0 ac5 (λw hw=>by simpa using hw) (λk1 y1 hk1 hh1=>?_)
  refine sC ?_
  obtain ⟨b2,hb2⟩:=xE (decide (k1<N))
  refine sS (.bool b2) (qls U U U hb2)<|sG<|Sy.seq ?_
  cases b2
  ·have lb2:=dN hb2
   refine sU<|Sy.exit<|Sy.then_exit<|Sy.then_exit ?_
   obtain rfl:N=k1:=om
   refine Sy.in_exit<|sB<|sP (y1.v)<|sP (y1.v)<|sG<|Sy.ret ?_
   exact JU (y1.bl) rfl (v:=y1.v) (.inl (show _=_ by kernel_rfl)) (λ_ hw=>by simpa using hw) ⟨y1,hh1,rfl,rfl⟩
  ·have lb2:=dY hb2
   have hsk:DI n k1+n k1≤DI n N:=E6 n (show k1+1≤N by omega)
   refine sT<|Sy.skip<|Sy.then_<|Sy.seq<|Sy.block<|sC<|sS (.pointer (some ⟨gT,oT+k1*1,none⟩)) (Quiet.pure (AJ 256 _ _ _ T gT oT N d k1 1 .i64 (hT om).1 U U U QQ kF om))<|sS (.slice (a k1) (n k1) (c k1)) (Quiet.thereOne gT (oT+k1*1) 88 _ _ U kR (hT om).2.1 _ (AV ((hT om).2.2 k1 om) 0 U) Fd U)<|sP (.slice (a k1) (n k1) (c k1))<|sG<|Sy.region<|sP (y1.v)<|sP (.slice (a k1) (n k1) (c k1))<|Sy.appendM kR 88 24 _ _ 1 24 Fd D_ U U U U dZ _ _ U (ys:=(List.range (n k1)).map (f k1)) hh1 kR (λz hz=>by obtain ⟨i,_,rfl⟩:=List.mem_map.1 hz; exact hf1 _ _) (λz hz=>by obtain ⟨i,_,rfl⟩:=List.mem_map.1 hz; exact hf2 _ _) (a k1) (n k1) (c k1) (by rw [List.length_map,List.length_range]) (hnc k1 om) kR (λ_=>From.lst (hl k1 om) (hf1 k1)) (by rw [Gm]; omega) (by rw [Gm]; simp only [maxLen]; omega) (λr1 hr1=>?_)
   refine sP (r1.v)<|Sy.nil<|Sy.in_<|Sy.then_<|Sy.region<|sS (iZ (k1+1)) (qad U U U)<|sP (iZ (k1+1))<|Sy.nil ?_
   exact Sy.againT (r1) om (hr1) ac5 (λw hw=>hw)
 ·have lb1:=dY hb1
  have hsk:DI n k1+n k1≤DI n N:=E6 n (show k1+1≤N by omega)
  refine sT<|Sy.skip<|Sy.then_<|Sy.seq<|Sy.block<|sC<|sS (.pointer (some ⟨gT,oT+k1*1,none⟩)) (Quiet.pure (AJ 256 _ _ _ T gT oT N d k1 1 .i64 (hT om).1 U U U QQ kF om))<|sS (.slice (a k1) (n k1) (c k1)) (Quiet.thereOne gT (oT+k1*1) 88 _ _ U kR (hT om).2.1 _ (AV ((hT om).2.2 k1 om) 0 U) Fd U)<|sP (.slice (a k1) (n k1) (c k1))<|sA<|sP (iZ ((DI n k1)))<|sP (.slice (a k1) (n k1) (c k1))<|sP (iZ ((n k1)))<|sS (iZ ((DI n k1)+(n k1))) (qad U U U)<|sP (iZ ((DI n k1)+(n k1)))<|sA<|sP (iZ ((DI n k1)+(n k1))) ?_
  obtain ⟨b3,hb3⟩:=xE (decide ((DI n k1)+(n k1)<0))
  refine sS (.bool b3) (qls U U U hb3)<|sG ?_
  cases b3
  ·have lb3:=dN hb3
   refine sU<|Sy.skip<|Sy.in_<|Sy.then_<|Sy.region<|sS (iZ (k1+1)) (qad U U U)<|sP (iZ (k1+1))<|Sy.nil ?_
   exact Sy.againK [] (M:=[]) om ac5 kR U
  ·have lb3:=dY hb3
   exact absurd lb3 om
end Cu
end
section
namespace Cu
open Go.RowKit Sy
theorem Az {R:Option Addr} {NR cR:Nat} {bm:List UInt8} (h:bm.length=32):Value.agg ((((Ag R NR cR bm).toArray).toList.drop 0).take 33).toArray=Aw R NR cR bm:=by
 unfold Aw
 rw [List.drop_zero,List.take_of_length_le (by show (Ag R NR cR bm).length≤33; simp [Ag,h])]
theorem A7 {R:Option Addr} {NR cR:Nat} {bm:List UInt8} (h:bm.length=32):0+33≤((Ag R NR cR bm).toArray).size:=by simp [Ag,h]
def alX (s:Nat→Nat) (bm:List UInt8) (i f:Nat) (X Y:Nat→Nat) (I:Nat→Bool) (x:List UInt8):Nat→List UInt8
 | 0=>x
 | k+1=>A3 (rPt (s (f+k)) (rgC bm (alX s bm i f X Y I x k) i (f+k)) (X (f+k)) (Y (f+k)) (I (f+k)))
theorem F1 {s:Nat→Nat} {bm:List UInt8} {i f k:Nat} {X Y:Nat→Nat} {I:Nat→Bool} {x:List UInt8} (hk:0<k):(alX s bm i f X Y I x k).length=33:=by
 cases k with
 | zero=>exact absurd hk (Nat.lt_irrefl _)
 | succ k=>exact A5 _
def AlS (A:Option Addr) (n c:Nat) (e:TypeId) (l:List UInt8) (k:Nat) (y:Value×AD):Prop:=(k=0∧y=(.slice A n c,[]))∨(0<k∧∃ q,y=(.slice (pA q) 33 33,[(q,e,(l.map bv).toArray)]))
def AlR (A:Option Addr) (n c M:Nat) (l:List UInt8) (v:Value) (L:AD):Prop:=(M=0∧v=.slice A n c∧L=[])∨(0<M∧∃ q,v=.slice (pA q) 33 33∧L=[(q,174,(l.map bv).toArray)])
theorem Rv {w1:World} {n:Nat} {F:AM} {L:AD} {fn:Func} {r:ResultVar} {v:Value} {R:Value→AD→Prop} (hr:fn.results=#[r]) (h:Sy.Has Tryz.prog F L r v) (hR:R v []):Sy.X (Sy.Base.of w1) n (bodyPost Tryz.prog fn (Sy.GetsN w1 R)) F L .ret:=λa w ha hw=>by
 refine bodyPost_ret (v:=v) ?_ ha.1 ⟨v,[],rfl,hR,hw.below,λg t cs hm=>(by cases hm),by simp⟩
 rcases Sy.Res.run h ha hw with ⟨t,rfl,e1⟩ | ⟨t,ty,ad,rfl,e1,e2⟩ <;> simp [results,Result.andThen, *]
theorem Gv (w:World) (R:Option Addr) (NR cR:Nat) (a:Nat→Option Addr) (nk ck:Nat→Nat) (X Y:Nat→Nat→Nat) (I:Nat→Nat→Bool) (hX:∀ i k,X i k<K4) (hY:∀ i k,Y i k<K4) (hNR:NR≤4611686018427387904) (hnk:∀ i,nk i≤4611686018427387904) (hlr:Lst w 1 R NR (λi=>[.slice (a i) (nk i) (ck i)])) (hlk:∀ i,i<NR→Lst w 9 (a i) (nk i) (λk=>pml (X i k) (Y i k) (I i k))) (bm:List UInt8) (hbm:bm.length=32) (A:Option Addr) (x:List UInt8) (n c:Nat) (hx:x.length=n) (hm:n≤999999900) (hc:n≤c) (hc2:c≤9223372036854775807) (hs0:Sh.Src w A x) (W:Option Addr) (NW cW:Nat) (s:Nat→Nat) (hsc:∀ k,s k<K4) (hlw:Lst w 4 W NW (λk=>fws (s k))) (i f M:Nat) (hi:i<NR) (hi2:i<256) (hM:f+M≤256) (hM1:f+M≤NW) (hM2:f+M≤nk i) (ht:Sh.TabAt w 1):Calls Tryz.prog 100 #[Aw R NR cR bm,.slice A n c,.slice W NW cW,iZ i,iZ f,iZ ((f+M))] w (GetsN w (AlR A n c M (alX s bm i f (X i) (Y i) (I i) x M))):=by
 obtain ⟨gR,oR,hR⟩:=hlr
 obtain ⟨gW,oW,hW⟩:=hlw
 obtain ⟨gK,oK,hT⟩:=hlk i hi
 refine Sy.enter (args:=[Aw R NR cR bm,.slice A n c,.slice W NW cW,iZ i,iZ f,iZ ((f+M))]) Tryz.func100 U kL<|sC<|sM 79 (Ag R NR cR bm).toArray (λg0=>?_)
 refine sP (.slice none 0 0)<|sG<|Sy.seq<|sC<|sP (iZ f)<|sP (iZ f)<|sG<|Sy.block<|Sy.loopT (Y:=Value×AD) M (λk1 y1=>[(1,y1.1),(2,.slice W NW cW),(3,iZ i),(5,iZ ((f+M))),(6,pT g0 0),(13,iZ ((f+k1)))]) (λk1 y1=>[(g0,79,(Ag R NR cR bm).toArray)]++y1.2) (λk1 y1=>AlS A n c 174 (alX s bm i f (X i) (Y i) (I i) x k1) k1 y1) (.slice A n c,[]) (.inl ⟨rfl,rfl⟩) ac6 (λw hw=>hw) (λk1 y1 hk1 hh1=>?_)
 obtain ⟨xk,hxk⟩:=xE (alX s bm i f (X i) (Y i) (I i) x k1)
 rw [← hxk] at hh1
 rcases hh1 with ⟨hk0,rfl⟩ | ⟨hk0,q0,rfl⟩
 ·have exk:xk=x:=by rw [hxk,hk0]; rfl
  refine Sy.seq<|sC<|sP (iZ ((f+k1)))<|sP (iZ ((f+M))) ?_
  obtain ⟨b1,hb1⟩:=xE (decide ((f+k1)<(f+M)))
  refine sS (.bool b1) (qls U U U hb1)<|sG ?_
  cases b1
  ·have lb1:=dN hb1
   refine sU<|Sy.exit<|Sy.then_exit<|Sy.then_exit ?_
   obtain rfl:M=k1:=om
   refine Sy.in_exit<|sB<|sP (.slice A n c)<|sP (.slice A n c)<|sG<|Sy.ret ?_
   exact Rv U (v:=.slice A n c) (.inl (show _=_ by kernel_rfl)) (.inl ⟨hk0,rfl,rfl⟩)
  ·have lb1:=dY hb1
   refine sT<|Sy.skip<|Sy.then_<|Sy.seq<|Sy.block<|Sy.regionD (λj=>false) kR<|sZ 0 U (.slice W NW cW)<|sZ 1 U (iZ ((f+k1)))<|sD 2 U (.pointer (some ⟨gW,oW+(f+k1)*4,none⟩)) (Quiet.pure (AJ 51 _ _ _ W gW oW NW cW (f+k1) 4 .i64 (hW om).1 U U U Ca kF om))<|sD 3 U (fv (s ((f+k1)))) (Quiet.there gW (oW+(f+k1)*4) 4 42 (fws (s ((f+k1)))) _ _ U kR (hW om).2.1 ((hW om).2.2 (f+k1) om) Ab U kR U _ U)<|sD 4 U (Aw R NR cR bm) (Quiet.load 0 g0 0 33 79 79 (Ag R NR cR bm).toArray _ _ U kR kR DF U kR _ (Az hbm) (A7 hbm))<|sZ 5 U (.slice A n c)<|sZ 6 U (iZ i)<|sZ 7 U (iZ ((f+k1)))<|sD 8 U (fv (rgC bm xk i (f+k1))) (Quiet.callS 102 #[Aw R NR cR bm,.slice A n c,iZ i,iZ ((f+k1))] kF (λw hw=>by rw [exk]; exact EC w R NR cR bm hbm A x n c hx hm hc hc2 (hs0.below hw.below) i (f+k1) om om (ht.below hw.below ht.lt)))<|sZ 9 U (pT g0 0)<|sD 10 U (.slice R NR cR) (Quiet.cell 0 g0 0 79 25 (Ag R NR cR bm).toArray _ _ U kR kR Bl U _ kR)<|sZ 11 U (iZ i)<|sD 12 U (.pointer (some ⟨gR,oR+i*1,none⟩)) (Quiet.pure (AJ 25 _ _ _ R gR oR NR cR i 1 .i64 (hR om).1 U U U Bl kF om))<|sD 13 U (.slice (a i) (nk i) (ck i)) (Quiet.thereOne gR (oR+i*1) 45 _ _ U kR (hR om).2.1 _ (AV ((hR om).2.2 i om) 0 U) CJ U)<|sZ 14 U (iZ ((f+k1)))<|sD 15 U (.pointer (some ⟨gK,oK+(f+k1)*9,none⟩)) (Quiet.pure (AJ 45 _ _ _ (a i) gK oK (nk i) (ck i) (f+k1) 9 .i64 (hT om).1 U U U CJ kF om))<|sD 16 U (pv (X i (f+k1)) (Y i (f+k1)) (I i (f+k1))) (Quiet.there gK (oK+(f+k1)*9) 9 48 (pml (X i (f+k1)) (Y i (f+k1)) (I i (f+k1))) _ _ U kR (hT om).2.1 ((hT om).2.2 (f+k1) om) An U kR U _ U)<|Sy.callND 17 U kR kR 106 #[fv (s ((f+k1))),fv (rgC bm xk i (f+k1)),pv (X i (f+k1)) (Y i (f+k1)) (I i (f+k1))] kF ((Dw (rPt (s (f+k1)) (rgC bm xk i (f+k1)) (X i (f+k1)) (Y i (f+k1)) (I i (f+k1))))) (λw hw=>Ef w _ _ _ _ _ (hsc _) (EY _ _ _ _) (hX _ _) (hY _ _)) (λvq Mq hR0=>?_)
   obtain ⟨q7,rfl,rfl⟩:=hR0
   refine sZ 18 U (.slice (pA q7) 33 33)<|sE<|Sy.in_<|Sy.then_<|Sy.region<|sP (iZ ((f+k1)))<|sS (iZ ((f+k1)+1)) (qad U U U)<|sP (iZ ((f+k1)+1))<|Sy.nil ?_
   exact Sy.againT (.slice (pA q7) 33 33,[(q7,174,((A3 (rPt (s (f+k1)) (rgC bm xk i (f+k1)) (X i (f+k1)) (Y i (f+k1)) (I i (f+k1)))).map bv).toArray)]) om (.inr ⟨Nat.succ_pos _,q7,by subst hxk; rfl⟩) ac6 (λw hw=>hw)
 ·have hxl:xk.length=33:=by rw [hxk]; exact F1 hk0
  refine Sy.seq<|sC<|sP (iZ ((f+k1)))<|sP (iZ ((f+M))) ?_
  obtain ⟨b2,hb2⟩:=xE (decide ((f+k1)<(f+M)))
  refine sS (.bool b2) (qls U U U hb2)<|sG ?_
  cases b2
  ·have lb2:=dN hb2
   refine sU<|Sy.exit<|Sy.then_exit<|Sy.then_exit ?_
   obtain rfl:M=k1:=om
   refine Sy.in_exit<|sB<|sP (.slice (pA q0) 33 33)<|sP (.slice (pA q0) 33 33)<|sG<|Sy.ret ?_
   exact JV 1 (q0,174,(xk.map bv).toArray) rfl (v:=.slice (pA q0) 33 33) (.inl (show _=_ by kernel_rfl)) kR (.inr ⟨hk0,_,by subst hxk; rfl,by subst hxk; rfl⟩)
  ·have lb2:=dY hb2
   refine sT<|Sy.skip<|Sy.then_<|Sy.seq<|Sy.block<|Sy.regionD (λj=>false) kR<|sZ 0 U (.slice W NW cW)<|sZ 1 U (iZ ((f+k1)))<|sD 2 U (.pointer (some ⟨gW,oW+(f+k1)*4,none⟩)) (Quiet.pure (AJ 51 _ _ _ W gW oW NW cW (f+k1) 4 .i64 (hW om).1 U U U Ca kF om))<|sD 3 U (fv (s ((f+k1)))) (Quiet.there gW (oW+(f+k1)*4) 4 42 (fws (s ((f+k1)))) _ _ U kR (hW om).2.1 ((hW om).2.2 (f+k1) om) Ab U kR U _ U)<|sD 4 U (Aw R NR cR bm) (Quiet.load 0 g0 0 33 79 79 (Ag R NR cR bm).toArray _ _ U kR kR DF U kR _ (Az hbm) (A7 hbm))<|sZ 5 U (.slice (pA q0) 33 33)<|sZ 6 U (iZ i)<|sZ 7 U (iZ ((f+k1)))<|sD 8 U (fv (rgC bm xk i (f+k1))) (Quiet.callS 102 #[Aw R NR cR bm,.slice (pA q0) 33 33,iZ i,iZ ((f+k1))] kF (λw hw=>EC w R NR cR bm hbm (pA q0) xk 33 33 hxl dZ dZ dZ (Sh.Src.of_blk (hw.get (i:=1) rfl)) i (f+k1) om om (ht.below hw.below ht.lt)))<|sZ 9 U (pT g0 0)<|sD 10 U (.slice R NR cR) (Quiet.cell 0 g0 0 79 25 (Ag R NR cR bm).toArray _ _ U kR kR Bl U _ kR)<|sZ 11 U (iZ i)<|sD 12 U (.pointer (some ⟨gR,oR+i*1,none⟩)) (Quiet.pure (AJ 25 _ _ _ R gR oR NR cR i 1 .i64 (hR om).1 U U U Bl kF om))<|sD 13 U (.slice (a i) (nk i) (ck i)) (Quiet.thereOne gR (oR+i*1) 45 _ _ U kR (hR om).2.1 _ (AV ((hR om).2.2 i om) 0 U) CJ U)<|sZ 14 U (iZ ((f+k1)))<|sD 15 U (.pointer (some ⟨gK,oK+(f+k1)*9,none⟩)) (Quiet.pure (AJ 45 _ _ _ (a i) gK oK (nk i) (ck i) (f+k1) 9 .i64 (hT om).1 U U U CJ kF om))<|sD 16 U (pv (X i (f+k1)) (Y i (f+k1)) (I i (f+k1))) (Quiet.there gK (oK+(f+k1)*9) 9 48 (pml (X i (f+k1)) (Y i (f+k1)) (I i (f+k1))) _ _ U kR (hT om).2.1 ((hT om).2.2 (f+k1) om) An U kR U _ U)<|Sy.callND 17 U kR kR 106 #[fv (s ((f+k1))),fv (rgC bm xk i (f+k1)),pv (X i (f+k1)) (Y i (f+k1)) (I i (f+k1))] kF ((Dw (rPt (s (f+k1)) (rgC bm xk i (f+k1)) (X i (f+k1)) (Y i (f+k1)) (I i (f+k1))))) (λw hw=>Ef w _ _ _ _ _ (hsc _) (EY _ _ _ _) (hX _ _) (hY _ _)) (λvq Mq hR0=>?_)
   obtain ⟨q7,rfl,rfl⟩:=hR0
   refine sZ 18 U (.slice (pA q7) 33 33)<|sE<|Sy.in_<|Sy.then_<|Sy.region<|sP (iZ ((f+k1)))<|sS (iZ ((f+k1)+1)) (qad U U U)<|sP (iZ ((f+k1)+1))<|Sy.nil ?_
   exact Sy.againT (.slice (pA q7) 33 33,[(q7,174,((A3 (rPt (s (f+k1)) (rgC bm xk i (f+k1)) (X i (f+k1)) (Y i (f+k1)) (I i (f+k1)))).map bv).toArray)]) om (.inr ⟨Nat.succ_pos _,q7,by subst hxk; rfl⟩) ac6 (λw hw=>(St.pick (T:=[]) (pre:=[(g0,79,(Ag R NR cR bm).toArray),(q0,174,(xk.map bv).toArray),(q7,174,((A3 (rPt (s (f+k1)) (rgC bm xk i (f+k1)) (X i (f+k1)) (Y i (f+k1)) (I i (f+k1)))).map bv).toArray)]) (M:=[(g0,79,(Ag R NR cR bm).toArray),(q7,174,((A3 (rPt (s (f+k1)) (rgC bm xk i (f+k1)) (X i (f+k1)) (Y i (f+k1)) (I i (f+k1)))).map bv).toArray)]) [0,2] dZ kR hw))
end Cu
end
section
namespace Cu
open Go.RowKit Sy
def rgT (bm l:List UInt8):List UInt8:=Sh.taggedS rgFirst.data.toList (bm++l)
theorem IU (bm l:List UInt8):(rgT bm l).length=32:=B8 _ _
theorem QI {w:World} {g3 g2:Nat} {t3 t2:TypeId} {x:Sh.Tx} {xv:Value} {E:Option Addr} {NE cE:Nat} {ts:List Sh.Tx} (hx:x.val=xv) (h3:Blk w g3 t3 #[.slice (pA g2) 1 1,.slice E NE cE]) (h2:Blk w g2 t2 #[xv]) (hT:Sh.Texts w E ts) (hn:ts.length=NE) (hc:NE≤cE) (hN:NE≤100000) :
  Calls Tryz.prog 164 #[.slice (pA g3) 2 2] w (GetsN w (Dv 24 1 ((x::ts).map λt=>[t.val]))):=by
 subst hn
 have q:=J4 w (pA g3) 2 2 (λi=>if i=0 then some ⟨g2,0,none⟩ else E) (λi=>if i=0 then 1 else ts.length) (λi=>if i=0 then 1 else cE) (λi k=>if i=0 then [xv] else [(ts.getD k x).val]) (λi k=>by split <;> rfl) (λi k u hu=>by
  skip
  split at hu
  ·rw [List.mem_singleton.1 hu, ← hx]; rfl
  ·rw [List.mem_singleton.1 hu]; rfl) dZ (by simp [DI]; omega) (λi hi=>by split <;> omega)
  ⟨g3,0,λ_=>⟨rfl,h3.lt,λj hj=>by
   match j,hj with
   | 0,_=>exact Bw h3 U
   | 1,_=>exact Bw h3 U⟩⟩
  (λi hi=>by
   match i,hi with
   | 0,_=>exact ⟨g2,0,λ_=>⟨rfl,h2.lt,λj hj=>by
     obtain rfl:j=0:=by simpa using hj
     exact Bw h2 U⟩⟩
   | 1,_ =>
    by_cases h0:ts=[]
    ·subst h0
     exact ⟨0,0,λh=>absurd h (by simp)⟩
    ·obtain ⟨b,o,e,hlt,hc⟩:=hT h0
     refine ⟨b,o,λ_=>⟨e,hlt,λj hj=>?_⟩⟩
     have hj':j<ts.length:=by simpa using hj
     intro k v hk
     cases k with
     | succ k=>simp at hk
     | zero =>
      have hv:(ts.getD j x).val=v:=by simpa using hk
      rw [← hv,Nat.mul_one,Nat.add_zero]
      exact (hc j _ (by rw [List.getD_eq_getElem?_getD,List.getElem?_eq_getElem hj']; rfl)).1)
 have e:M5 (λi=>if i=0 then 1 else ts.length) (λi k=>if i=0 then [xv] else [(ts.getD k x).val]) 2=(x::ts).map λt=>[t.val]:=by
  show ([]++[[xv]])++(List.range ts.length).map (λk=>[(ts.getD k x).val])=_
  rw [List.map_cons,hx,List.nil_append,List.singleton_append]
  refine congrArg _ (List.ext_getElem (by simp) λi h1 h2=>?_)
  have h3:i<ts.length:=by simpa using h1
  rw [List.getElem_map,List.getElem_map,List.getElem_range,List.getD_eq_getElem?_getD,List.getElem?_eq_getElem h3]
  rfl
 rw [e] at q
 exact q
theorem Gh (w:World) (R:Option Addr) (NR cR:Nat) (bm:List UInt8) (hbm:bm.length=32) (E:Option Addr) (NE cE:Nat) (ts:List Sh.Tx) (hT:Sh.Texts w E ts) (hok:∀ t∈ts,t.ok w) (hn:ts.length=NE) (hc:NE≤cE) (hN:NE≤100000) (hl9:(Sh.cat ts).length≤999999000) (ht:Sh.TabAt w 1):Calls Tryz.prog 101 #[Aw R NR cR bm,.slice E NE cE] w (Gets w (.agg ((rgT bm (Sh.cat ts)).map bv).toArray)):=by
 refine Sy.enter (args:=[Aw R NR cR bm,.slice E NE cE]) Tryz.func101 U kL<|sC<|sM 79 (Ag R NR cR bm).toArray (λg0=>?_)
 refine sM 23 (Zl 32).toArray (λg1=>?_)
 refine sA<|sP (pT g0 1)<|sP (.slice (some ⟨g0,1,none⟩) 32 32)<|Sy.make kR 24 #[.slice (some ⟨g0,1,none⟩) 32 32] (λg=>.slice (pA g) 1 1) kF (λg2=>?_)
 refine sP (.slice E NE cE)<|Sy.make kR 88 #[.slice (pA g2) 1 1,.slice E NE cE] (λg=>.slice (pA g) 2 2) kF (λg3=>?_)
 refine Sy.callN kR 164 #[.slice (pA g3) 2 2] kF (Dv 24 1 (((⟨some ⟨g0,1,none⟩,bm,32⟩:Sh.Tx)::ts).map λt=>[t.val])) (λw hw=>QI (by unfold Sh.Tx.val; rw [hbm]) (hw.get (i:=3) rfl) (hw.get (i:=2) rfl) (hT.below hw.below) hn hc hN) (λvq Mq hR0=>?_)
 obtain ⟨y0,hy0,rfl,rfl⟩:=hR0
 obtain ⟨d0,hd0⟩:=xE (rgT bm (Sh.cat ts))
 have hd1:d0.length=32:=by rw [hd0]; exact IU _ _
 have hx:TxsIs (Base.of w) 24 y0 [(g0,79,(Ag R NR cR bm).toArray)] ((⟨some ⟨g0,1,none⟩,bm,32⟩:Sh.Tx)::ts):=⟨hy0,λv L hv hb t ht=>by
  rcases List.mem_cons.1 ht with rfl | ht
  ·exact ⟨GD (v:=.slice R NR cR) (hv.blk _ _ _ (hb _ (List.mem_singleton.2 U))).2,by show bm.length≤32; omega,by show 32≤9223372036854775807; decide⟩
  ·exact (hok t ht).below hv.below⟩
 refine sS (.agg (d0.map bv).toArray) (qG 95 #[.string rgFirst,y0.v] (λw hw=>by obtain ⟨Q,d,hv,_,_,htx⟩:=hx.texts; rw [hv,hd0]; have q:=Sh.tagged_any w rgFirst Q _ d (htx hw (λb hb=>List.mem_append.2 (.inr hb)) (λb hb=>List.mem_append.2 (.inl (by rw [List.mem_singleton.1 hb]; exact List.mem_of_getElem? (i:=0) rfl)))) (ht.below hw.below ht.lt) dZ (by show (bm++Sh.cat ts).length≤_; rw [List.length_append]; omega) (by rw [List.length_cons]; omega); exact q))<|sW 1 g1 23 (Zl 32).toArray (d0.map bv).toArray (Writes.store 0 23 (d0.map bv).toArray _ _ U kR kR (by rw [Eb d0 hd1]; kernel_rfl) (by rw [Eb d0 hd1]; exact Nat.le_of_ble_eq_true kR) (Ij _) (Ll _ _ (by rw [hd1]; kernel_rfl)))<|Sy.setT<|sG<|Sy.ret ?_
 rw [show (.agg ((rgT bm (Sh.cat ts)).map bv).toArray:Value)=.agg (d0.map bv).toArray from by rw [← hd0]]
 exact Sy.ret1 (v:=.agg (d0.map bv).toArray) rfl (.inl (Res.cell (ty':=23) g1 1 (d0.map bv).toArray _ kR kR C8 U (by rw [Eb d0 hd1]; kernel_rfl) kR))
end Cu
end
section
namespace Cu
open Go.RowKit Sy
noncomputable def SG:TypeInfo:=(Tryz.prog.info? 42).getD default
theorem Io:Tryz.prog.info? 42=some SG:=kZ
noncomputable def RO:TypeInfo:=(Tryz.prog.info? 51).getD default
theorem Jm:Tryz.prog.info? 51=some RO:=kZ
theorem DT (k:Nat):∀ u∈fws k,u.oneCell'=true:=I0 _ kR
def fkF (bm sd:List UInt8) (i j:Nat):List Value:=fws (rgF bm sd i j)
theorem K5 (w:World) (R:Option Addr) (NR cR:Nat) (a:Nat→Option Addr) (nk ck:Nat→Nat) (X Y:Nat→Nat→Nat) (I:Nat→Nat→Bool) (hX:∀ i k,X i k<K4) (hY:∀ i k,Y i k<K4) (hNR:NR≤4611686018427387904) (hnk:∀ i,nk i≤4611686018427387904) (hlr:Lst w 1 R NR (λi=>[.slice (a i) (nk i) (ck i)])) (hlk:∀ i,i<NR→Lst w 9 (a i) (nk i) (λk=>pml (X i k) (Y i k) (I i k))) (hN32:NR≤32) (hn64:∀ i,i<NR→nk i≤64) (bm:List UInt8) (hbm:bm.length=32) (sd:List UInt8) (hsd:sd.length=32) (ht:Sh.TabAt w 1):Calls Tryz.prog 96 #[Aw R NR cR bm,.agg (sd.map bv).toArray] w (GetsN w (EG 51 42 4 (fkF bm sd) (Bz nk NR 0) NR)):=by
 have hlr0:=hlr
 obtain ⟨gR,oR,hR⟩:=hlr
 refine Sy.enter (args:=[Aw R NR cR bm,.agg (sd.map bv).toArray]) Tryz.func96 U kL<|sC<|sM 79 (Ag R NR cR bm).toArray (λg0=>?_)
 refine sM 23 (sd.map bv).toArray (λg1=>?_)
 refine sP (.slice none 0 0)<|sA<|sP (pT g0 0)<|sS (.slice R NR cR) (Quiet.cell 0 g0 0 79 25 (Ag R NR cR bm).toArray _ _ U kR kR Bl U _ kR)<|sP (iZ NR)<|Sy.make kR 51 (AQ (λ_=>[.slice none 0 0]) NR).toArray (λg=>.slice (pA g) NR NR) (Makes.slice 29 51 _ (.slice none 0 0) 1 24 _ _ .i64 .i64 NR [.slice none 0 0] rfl U U CK Jm kR kR dZ kR kR kR om om) (λg2=>?_)
 refine sP (.slice (pA g2) NR NR)<|sG<|Sy.seq<|sC<|sP (pT g0 0)<|sS (.slice R NR cR) (Quiet.cell 0 g0 0 79 25 (Ag R NR cR bm).toArray _ _ U kR kR Bl U _ kR)<|sP (iZ NR)<|sP (.int .i64 0)<|sG<|Sy.block<|Sy.loopT (Y:=Nat→Slc) NR (λk1 y1=>[(2,pT g0 0),(3,pT g1 0),(5,.slice (pA g2) NR NR),(14,.slice R NR cR),(15,iZ NR),(16,iZ k1)]) (λk1 y1=>[(g0,79,(Ag R NR cR bm).toArray),(g1,23,(sd.map bv).toArray),(g2,51,(Ai y1 NR))]++(BJ y1 NR++[])) (λk1 y1=>RowsAre y1 42 4 (fkF bm sd) (Bz nk k1 0)) (λ_=>nilS) ((RowsAre.nil _ _ _).cnt (H6 nk)) ac6 (λw hw=>by rw [Hf]; exact hw) (λk1 y1 hk1 hh1=>?_)
 refine sC ?_
 obtain ⟨b1,hb1⟩:=xE (decide (k1<NR))
 refine sS (.bool b1) (qls U U U hb1)<|sG<|Sy.seq ?_
 cases b1
 ·have lb1:=dN hb1
  refine sU<|Sy.exit<|Sy.then_exit<|Sy.then_exit ?_
  obtain rfl:NR=k1:=om
  refine Sy.in_exit<|sB<|sP (.slice (pA g2) NR NR)<|sP (.slice (pA g2) NR NR)<|sG<|Sy.ret ?_
  exact JU ((g2,51,Ai y1 NR)::BJ y1 NR) rfl (v:=.slice (pA g2) NR NR) (.inl (show _=_ by kernel_rfl)) (λw hw=>by simpa using St.pick (pre:=[(g0,79,(Ag R NR cR bm).toArray),(g1,23,(sd.map bv).toArray),(g2,51,(Ai y1 NR))]) (M:=[(g2,51,Ai y1 NR)]) [2] dZ kR hw) ⟨_,y1,rfl,rfl,hh1⟩
 ·have lb1:=dY hb1
  have hnk1:=hn64 k1 lb1
  refine sT<|Sy.skip<|Sy.then_<|Sy.seq<|Sy.block<|sC<|sP (iZ k1)<|sS (.pointer (some ⟨gR,oR+k1*1,none⟩)) (Quiet.pure (AJ 25 _ _ _ R gR oR NR cR k1 1 .i64 (hR om).1 U U U Bl kF om))<|sS (.slice (a k1) (nk k1) (ck k1)) (Quiet.thereOne gR (oR+k1*1) 45 _ _ U kR (hR om).2.1 _ (AV ((hR om).2.2 k1 om) 0 U) CJ U)<|sP (iZ k1)<|sP (.slice (a k1) (nk k1) (ck k1))<|sA<|sP (.slice (a k1) (nk k1) (ck k1))<|sP (iZ ((nk k1)))<|sP (.int .i64 0)<|sG<|Sy.block<|Sy.loopT (Y:=Nat→Slc) (nk k1) (λk2 y2=>[(2,pT g0 0),(3,pT g1 0),(5,.slice (pA g2) NR NR),(6,iZ k1),(7,.slice (a k1) (nk k1) (ck k1)),(14,.slice R NR cR),(15,iZ NR),(16,iZ k1),(21,.slice (a k1) (nk k1) (ck k1)),(22,iZ ((nk k1))),(23,iZ k2)]) (λk2 y2=>[(g0,79,(Ag R NR cR bm).toArray),(g1,23,(sd.map bv).toArray),(g2,51,(Ai y2 NR))]++(BJ y2 NR++[])) (λk2 y2=>RowsAre y2 42 4 (fkF bm sd) (Bz nk k1 k2)) y1 hh1 Rf (λw hw=>hw) (λk2 y2 hk2 hh2=>?_)
  refine sC ?_
  obtain ⟨b2,hb2⟩:=xE (decide (k2<(nk k1)))
  refine sS (.bool b2) (qls U U U hb2)<|sG<|Sy.seq ?_
  cases b2
  ·have lb2:=dN hb2
   refine sU<|Sy.exit<|Sy.then_exit<|Sy.then_exit ?_
   obtain rfl:k2=nk k1:=om
   refine Sy.in_exit<|Sy.in_<|Sy.then_<|Sy.region<|sS (iZ (k1+1)) (qad U U U)<|sP (iZ (k1+1))<|Sy.nil ?_
   exact Sy.againT (y2) om (hh2.cnt (H7 nk k1)) ac6 (λw hw=>hw)
  ·have lb2:=dY hb2
   refine sT<|Sy.skip<|Sy.then_<|Sy.seq<|Sy.block<|sC<|sP (iZ k2)<|sP (iZ k2)<|sG<|Sy.regionD (λj=>j == 12 || j == 14) kR<|Sy.stepDA 0 U kR (λ_ _ _ _ h=>h) kR (.slice (pA g2) NR NR) kF<|Sy.stepDA 1 U kR (λ_ _ _ _ h=>h) kR (iZ k1) kF<|Sy.stepDB 2 [4,5,12,13,14] rfl kR (λ_ _ _ _ h=>h) kR (.slice (pA g2) NR NR) qP<|Sy.stepDB 3 [4,5,12,13,14] rfl kR (λ_ _ _ _ h=>h) kR (iZ k1) qP<|Sy.stepDB 4 [5,12,13,14] rfl kR (λ_ _ _ _ h=>h) kR (.pointer (some ⟨g2,0+k1*1,none⟩)) (Quiet.pure (Bv 29 _ _ _ g2 0 NR NR k1 1 .i64 U U U CK kF om))<|sD 5 U ((y2 k1).v) (Quiet.cell 2 g2 (0+k1*1) 51 51 (Ai y2 NR) _ _ U kR kR Ca U _ (Cj om U))<|Sy.stepDB 6 [10,11,12,13,14] rfl kR (λ_ _ _ _ h=>h) kR (Aw R NR cR bm) (Quiet.load 0 g0 0 33 79 79 (Ag R NR cR bm).toArray _ _ U kR kR DF U kR _ (Az hbm) (A7 hbm)) ?_
   refine Sy.stepDB 7 [10,11,12,13,14] rfl kR (λ_ _ _ _ h=>h) kR (.agg (sd.map bv).toArray) (Quiet.load 1 g1 0 32 23 23 (sd.map bv).toArray _ _ U kR kR C8 U kR _ (BK sd hsd) (Bj sd hsd))<|Sy.stepDB 8 [10,11,12,13,14] rfl kR (λ_ _ _ _ h=>h) kR (iZ k1) qP<|Sy.stepDB 9 [10,11,12,13,14] rfl kR (λ_ _ _ _ h=>h) kR (iZ k2) qP<|sD 10 U (fv (rgF bm sd k1 k2)) (Quiet.callS 163 #[Aw R NR cR bm,.agg (sd.map bv).toArray,iZ k1,iZ k2] kF (λw hw=>Hy w R NR cR bm hbm sd hsd k1 k2 om om (ht.below hw.below ht.lt)))<|Sy.makeD 11 U kR kR 42 (fcs (rgF bm sd k1 k2)) (λg=>.slice (pA g) 1 1) kF (λg3=>?_)
   refine Sy.movTD<|Sy.soleD 12 U (λQ1 hq1=>?_)
   refine Sy.permS (Sy.out_perm y2 (i:=k1) om)<|Sy.appendR kR 51 42 _ _ 4 32 Ca Io U U U U dZ _ _ U (hh2 k1) kR (fws (rgF bm sd k1 k2)) U (DT _) 3 g3 42 kR kR (by rw [List.length_map,List.length_range,DW]; omega) (by rw [List.length_map,List.length_range,DW]; simp only [maxLen]; omega) (λr1 hr1=>?_)
   refine hq1 _ _<|Sy.anyOf [13] kR dZ (Sy.each1 ?_)
   refine Sy.oneQuiet U kR (.pointer (some ⟨g2,0+k1*1,none⟩)) (Quiet.pure (Bv 29 _ _ _ g2 0 NR NR k1 1 .i64 U U U CK kF om))<|Sy.writeD 14 U kR (by rfl) kR 2 g2 51 (Ai y2 NR) (Ai (Ct y2 k1 r1) NR) kR (Writes.one (0+k1*1) 51 (r1.v) _ _ U kR kR kR hr1.cells.1 hr1.cells.2 (JT om U) (He om U U))<|Sy.setTD<|Sy.permD (Sy.in_perm om)<|sE<|Sy.in_<|Sy.then_<|Sy.region<|sS (iZ (k2+1)) (qad U U U)<|sP (iZ (k2+1))<|Sy.nil ?_
   exact Sy.againT (Ct y2 k1 r1) om (hh2.put' hr1 U) Rf (λw hw=>St.pick (pre:=[(g0,79,(Ag R NR cR bm).toArray),(g1,23,(sd.map bv).toArray),(g2,51,(Ai (Ct y2 k1 r1) NR)),(g3,42,(fcs (rgF bm sd k1 k2)))]) (M:=[(g0,79,(Ag R NR cR bm).toArray),(g1,23,(sd.map bv).toArray),(g2,51,(Ai (Ct y2 k1 r1) NR))]) [0,1,2] dZ kR hw)
end Cu
end
section
namespace Sy
open Go.RowKit
section
variable {P:Program} {w0:Base} {n:Nat} {Q:Exit→Act→World→Prop} {F:AM} {L:AD}
theorem scope {c:Code} (h:wpC P w0 n (Exit.noGoto Q) F L c) (hf:w0.fence=Fence.wide:=by rfl):wpC P w0 n Q F L (.scope c):=λa w ha hw=>by
 have q:=h a w ha hw
 rw [hf] at q ⊢
 exact wpIn_wide.2 (wp_scope_straight (wpIn_wide.1 q))
theorem sc_r (h:X w0 n Q F L .ret):X w0 n (Exit.noGoto Q) F L .ret:=h
theorem label {i:Nat} (h:X w0 n Q F L .normal):wpC P w0 n Q F L (.label i):=λa w ha hw=>wpIn_label (h a w ha hw)
theorem CA {w1:World} {fn:Func} {r s:ResultVar} {v u:Value} {R:Value→AD→Prop} (M:AD) (hr:fn.results=#[r,s]) (h:Has P F L r v) (k:Has P F L s u) (hM:∀ w,St (Base.of w1) w L→St (Base.of w1) w M) (hR:R (.tuple #[v,u]) M):X (Base.of w1) n (bodyPost P fn (GetsN w1 R)) F L .ret:=λa w ha hw=>by
 refine bodyPost_ret (v:=.tuple #[v,u]) ?_ ha.1 ⟨_,M,rfl,hR,hw.below,λg t cs hm=>(hM w hw).blk g t cs hm,(hM w hw).apart⟩
 rcases Res.run h ha hw with ⟨t,rfl,e1⟩ | ⟨t,ty,ad,rfl,e1,e2⟩ <;> rcases Res.run k ha hw with ⟨t',rfl,f1⟩ | ⟨t',ty',ad',rfl,f1,f2⟩ <;> simp [results,Result.andThen, *]
theorem St.none {w:World} (h:St w0 w L):St w0 w []:=h.less (List.nil_sublist _)
end
section
variable {pre A B C D M N:AD}
theorem rot_perm:(pre++(A++(B++C))).Perm (pre++(B++(C++A))):=by
 rw [← List.append_assoc B]
 exact List.perm_append_comm.append_left pre
theorem tor_perm:(pre++(B++(C++A))).Perm (pre++(A++(B++C))):=rot_perm.symm
theorem St.pick3 {w0:Base} {w:World} (is:List Nat) (hn:is.Nodup) (hm:is.map (λi=>pre[i]?)=(M++N).map some) (hw:St w0 w (pre++(A++(B++(C++D))))):St w0 w (M++(A++(B++(C++N)))):=by
 have h1:(pre++((A++B)++C)).Sublist (pre++(A++(B++(C++D)))):=by
  rw [List.append_assoc]
  exact (List.Sublist.refl pre).append ((List.Sublist.refl A).append ((List.Sublist.refl B).append (List.sublist_append_left C D)))
 have h2:=St.pick2 (a:=A++B) (T:=C) is hn hm (hw.less h1)
 rwa [List.append_assoc] at h2
end
end Sy
end
section
namespace Cu
open Go.RowKit Sy
def AZ (d:List UInt8) (W:Option Addr) (NW cW:Nat):List Value:=d.map bv++[.slice W NW cW]
abbrev zS33:=(AZ (List.replicate 32 (0:UInt8)) none 0 0)
def A4 (d:List UInt8) (W:Option Addr) (NW cW:Nat):Value:=.agg (AZ d W NW cW).toArray
section
variable {d:List UInt8} {W:Option Addr} {NW cW:Nat}
theorem BD (h:d.length=32):(AZ d W NW cW).length=33:=by simp [AZ,h]
theorem EU:∀ u∈AZ d W NW cW,u.oneCell'=true:=λu hu=>by
 rcases List.mem_append.1 hu with hu | hu
 ·obtain ⟨x,_,rfl⟩:=List.mem_map.1 hu; rfl
 ·rw [List.mem_singleton.1 hu]; rfl
theorem Db (h:d.length=32):(AZ d W NW cW).toArray[32]? = some (.slice W NW cW):=by
 rw [List.getElem?_toArray]
 unfold AZ
 rw [List.getElem?_append_right (by rw [List.length_map,h]; exact Nat.le_refl _),List.length_map,h]
 rfl
theorem JM (h:d.length=32):Value.agg (((AZ d W NW cW).toArray.toList.drop 0).take 32).toArray=.agg (d.map bv).toArray:=by
 show Value.agg ((((AZ d W NW cW)).drop 0).take 32).toArray=_
 rw [List.drop_zero]
 unfold AZ
 rw [List.take_left' (by rw [List.length_map,h])]
theorem LV (h:d.length=32):0+32≤(AZ d W NW cW).toArray.size:=by rw [List.size_toArray,BD h]; decide
theorem C_ (h:d.length=32):Value.agg (((AZ d W NW cW).toArray.toList.drop 0).take 33).toArray=A4 d W NW cW:=by
 show Value.agg ((((AZ d W NW cW)).drop 0).take 33).toArray=_
 rw [List.drop_zero,List.take_of_length_le (by rw [BD h]; exact Nat.le_refl _)]
 rfl
theorem E7 (h:d.length=32):0+33≤(AZ d W NW cW).toArray.size:=by rw [List.size_toArray,BD h]; decide
theorem KP {w:World} {g:Nat} {t:TypeId} (hb:Blk w g t (AZ d W NW cW).toArray):Sh.Src w (pA g) d:=λ_=>⟨g,0,rfl,hb.lt,λj u hj=>by
 refine (hb.cell (0+j)).trans ?_
 have hl:=(List.getElem?_eq_some_iff.1 hj).1
 rw [Nat.zero_add,List.getElem?_toArray]
 unfold AZ
 rw [List.getElem?_append_left (by simpa using hl),List.getElem?_map,hj]
 rfl⟩
end
section
variable (s:Nat→Nat→Nat) (bm:List UInt8) (X Y:Nat→Nat→Nat) (I:Nat→Nat→Bool) (d:List UInt8)
def eE (i j:Nat):Nat:=rgC bm (alX (s i) bm i 0 (X i) (Y i) (I i) d j) i j
def eF (i j:Nat):List Value:=fws (eE s bm X Y I d i j)
def EK (nk:Nat→Nat):Nat→List UInt8
 | 0=>[]
 | k+1=>EK nk k++alX (s k) bm k 0 (X k) (Y k) (I k) d (nk k)
def DA (sn nk:Nat→Nat) (i:Nat):Bool:=decide (sn i=nk i) && (List.range (sn i)).all λj=>decide (s i j%Sc.pM=s i j)
def chB (NW NR:Nat) (sn nk:Nat→Nat):Bool:=decide (NW=NR) && ((List.range NR).all (DA s sn nk) && decide (rgT bm (EK s bm X Y I d nk NR)=d))
end
section
variable {s:Nat→Nat→Nat} {bm:List UInt8} {X Y:Nat→Nat→Nat} {I:Nat→Nat→Bool} {d:List UInt8} {NW NR:Nat} {sn nk:Nat→Nat}
theorem Qd (i j:Nat):eE s bm X Y I d i j<K4:=EY _ _ _ _
theorem ED (s:Nat→Nat) (bm:List UInt8) (i:Nat) (X Y:Nat→Nat) (I:Nat→Bool) (x:List UInt8) (k:Nat):alX s bm i 0 X Y I x (k+1)=A3 (rPt (s k) (rgC bm (alX s bm i 0 X Y I x k) i k) (X k) (Y k) (I k)):=by
 show A3 (rPt (s (0+k)) (rgC bm (alX s bm i 0 X Y I x k) i (0+k)) (X (0+k)) (Y (0+k)) (I (0+k)))=_
 rw [Nat.zero_add]
theorem H5 (h:d.length=32):∀ k,(EK s bm X Y I d nk k).length≤33*k
 | 0=>Nat.le_refl _
 | k+1=>by
  show (EK s bm X Y I d nk k++_).length≤_
  have h1:=H5 h k
  have h2:(alX (s k) bm k 0 (X k) (Y k) (I k) d (nk k)).length≤33:=by
   rcases Nat.eq_zero_or_pos (nk k) with h0 | h0
   ·rw [h0]; show d.length≤33; omega
   ·rw [F1 h0]; exact Nat.le_refl _
  rw [List.length_append]
  omega
theorem MQ {i:Nat} (h:sn i≠nk i):DA s sn nk i=false:=by unfold DA; rw [decide_eq_false h]; rfl
theorem MP {i j:Nat} (hj:j<sn i) (h:s i j%Sc.pM≠s i j):DA s sn nk i=false:=by
 unfold DA
 rw [show ((List.range (sn i)).all λj=>decide (s i j%Sc.pM=s i j))=false from List.all_eq_false.2 ⟨j,List.mem_range.2 hj,by rw [decide_eq_false h]; decide⟩,Bool.and_false]
theorem Hg {i:Nat} (h1:sn i=nk i) (h2:∀ j,j<sn i→s i j%Sc.pM=s i j):DA s sn nk i=true:=by
 unfold DA
 rw [decide_eq_true h1,List.all_eq_true.2 λj hj=>decide_eq_true (h2 j (List.mem_range.1 hj))]
 rfl
theorem rowOk_iff {i:Nat}:DA s sn nk i=true↔sn i=nk i∧∀ j,j<sn i→s i j%Sc.pM=s i j:=by
 unfold DA
 rw [Bool.and_eq_true,decide_eq_true_iff,List.all_eq_true]
 exact ⟨λh=>⟨h.1,λj hj=>of_decide_eq_true (h.2 j (List.mem_range.2 hj))⟩,λh=>⟨h.1,λj hj=>decide_eq_true (h.2 j (List.mem_range.1 hj))⟩⟩
theorem QG (h:NW≠NR):chB s bm X Y I d NW NR sn nk=false:=by unfold chB; rw [decide_eq_false h]; rfl
theorem Lx {k:Nat} (hk:k<NR) (h:DA s sn nk k=false):chB s bm X Y I d NW NR sn nk=false:=by
 unfold chB
 rw [show (List.range NR).all (DA s sn nk)=false from List.all_eq_false.2 ⟨k,List.mem_range.2 hk,by rw [h]; decide⟩,Bool.false_and,Bool.and_false]
theorem QH (h:rgT bm (EK s bm X Y I d nk NR)≠d):chB s bm X Y I d NW NR sn nk=false:=by
 unfold chB
 rw [decide_eq_false h,Bool.and_false,Bool.and_false]
theorem Lw (h0:NW=NR) (h1:∀ i,i<NR→DA s sn nk i=true) (h:rgT bm (EK s bm X Y I d nk NR)=d):chB s bm X Y I d NW NR sn nk=true:=by
 unfold chB
 rw [decide_eq_true h0,decide_eq_true h,List.all_eq_true.2 λi hi=>h1 i (List.mem_range.1 hi)]
 rfl
end
def CT:Nat→Nat
 | 0=>32
 | _+1=>33
def XtIs (g:Nat) (d l:List UInt8) (j:Nat) (xt:Sh.Tx) (xb:AD):Prop:=(j=0∧xt=⟨some ⟨g,0,none⟩,d,32⟩∧xb=[]∧l=d)∨(0<j∧l.length=33∧∃ q,xt=⟨some ⟨q,0,none⟩,l,33⟩∧xb=[(q,174,(l.map bv).toArray)])
section
variable {g j:Nat} {d l:List UInt8} {xt:Sh.Tx} {xb:AD} {w0:Base} {w:World} {L:AD}
theorem XtIs.li (h:XtIs g d l j xt xb):xt.l=l:=by
 rcases h with ⟨_,rfl,_,rfl⟩ | ⟨_,_,q,rfl,_⟩ <;> rfl
theorem XtIs.xl (h:XtIs g d l j xt xb) (hd:d.length=32):xt.l.length=CT j:=by
 rcases h with ⟨rfl,rfl,_,rfl⟩ | ⟨hj,hl,q,rfl,_⟩
 ·exact hd
 ·cases j with
  | zero=>omega
  | succ j=>exact hl
theorem XtIs.val (h:XtIs g d l j xt xb) (hd:d.length=32):xt.val=.slice xt.A (CT j) xt.c:=by
 unfold Sh.Tx.val
 rw [h.xl hd]
theorem XtIs.len (h:XtIs g d l j xt xb) (hd:d.length=32):xt.l.length≤33∧xt.l.length≤xt.c∧xt.c≤33:=by
 rcases h with ⟨_,rfl,_,rfl⟩ | ⟨_,hl,q,rfl,_⟩
 ·show l.length≤33∧l.length≤32∧32≤33; omega
 ·show l.length≤33∧l.length≤33∧33≤33; omega
theorem XtIs.src (h:XtIs g d l j xt xb) {t:TypeId} {W:Option Addr} {NW cW:Nat} (hw:St w0 w L) (hg:(g,t,(AZ d W NW cW).toArray)∈L) (hb:∀ b∈xb,b∈L):Sh.Src w xt.A xt.l:=by
 rcases h with ⟨_,rfl,_,rfl⟩ | ⟨_,_,q,rfl,rfl⟩
 ·exact KP (hw.blk _ _ _ hg).2
 ·exact Sh.Src.of_blk (hw.blk _ _ _ (hb _ (List.mem_singleton.2 U))).2
theorem XtIs.ok (h:XtIs g d l j xt xb) (hj:0<j):∀ w L,St w0 w L→(∀ b∈xb,b∈L)→xt.ok w:=by
 rcases h with ⟨h0,_⟩ | ⟨_,hl,q,rfl,rfl⟩
 ·omega
 ·exact Kj om dZ
end
def ChR (b:Bool) (f:Nat→Nat→List Value) (nk:Nat→Nat) (NR:Nat) (v:Value) (M:AD):Prop:=(b=false∧v=.tuple #[.slice none 0 0,.bool false]∧M=[])∨(b=true∧∃ u,v=.tuple #[u,.bool true]∧EG 51 42 4 f (Bz nk NR 0) NR u M)
theorem Dc (w:World) (R:Option Addr) (NR cR:Nat) (a:Nat→Option Addr) (nk ck:Nat→Nat) (X Y:Nat→Nat→Nat) (I:Nat→Nat→Bool) (hX:∀ i k,X i k<K4) (hY:∀ i k,Y i k<K4) (hNR:NR≤4611686018427387904) (hnk:∀ i,nk i≤4611686018427387904) (hlr:Lst w 1 R NR (λi=>[.slice (a i) (nk i) (ck i)])) (hlk:∀ i,i<NR→Lst w 9 (a i) (nk i) (λk=>pml (X i k) (Y i k) (I i k))) (hN32:NR≤32) (hn64:∀ i,i<NR→nk i≤64) (hn1:∀ i,i<NR→1≤nk i) (bm:List UInt8) (hbm:bm.length=32) (d:List UInt8) (hd:d.length=32) (W:Option Addr) (NW cW:Nat) (sa:Nat→Option Addr) (sn sc:Nat→Nat) (s:Nat→Nat→Nat) (hsc:∀ i k,s i k<K4) (hNW:NW≤4611686018427387904) (hsn9:∀ i,i<NW→sn i≤4611686018427387904) (hlw:Lst w 1 W NW (λi=>[.slice (sa i) (sn i) (sc i)])) (hls:∀ i,i<NW→Lst w 4 (sa i) (sn i) (λk=>fws (s i k))) (ht:Sh.TabAt w 1):Calls Tryz.prog 40 #[Aw R NR cR bm,A4 d W NW cW] w (GetsN w (ChR (chB s bm X Y I d NW NR sn nk) (eF s bm X Y I d) nk NR)):=by
 have hlr0:=hlr
 obtain ⟨gR,oR,hR⟩:=hlr
 obtain ⟨gW,oW,hW⟩:=hlw
 refine Sy.enter (args:=[Aw R NR cR bm,A4 d W NW cW]) Tryz.func40 U kL<|sC<|sM 79 (Ag R NR cR bm).toArray (λg0=>?_)
 refine sM 31 (AZ d W NW cW).toArray (λg1=>?_)
 refine sP (.slice none 0 0)<|sP (.bool false)<|sG<|Sy.scope<|Sy.seq<|sC<|sP (pT g1 32)<|sS (.slice W NW cW) (Quiet.cell 1 g1 32 31 29 (AZ d W NW cW).toArray _ _ U kR kR CK U _ (Db hd))<|sP (iZ NW)<|sP (pT g0 0)<|sS (.slice R NR cR) (Quiet.cell 0 g0 0 79 25 (Ag R NR cR bm).toArray _ _ U kR kR Bl U _ kR)<|sP (iZ NR) ?_
 obtain ⟨b1,hb1⟩:=xE (decide (NW≠NR))
 refine sS (.bool b1) (qne U U U hb1)<|sG ?_
 cases b1
 ·have lb1:=dN hb1
  obtain rfl:NR=NW:=om
  refine sU<|Sy.skip<|sB<|sP (pT g0 0)<|sS (.slice R NR cR) (Quiet.cell 0 g0 0 79 25 (Ag R NR cR bm).toArray _ _ U kR kR Bl U _ kR)<|sP (iZ NR)<|Sy.make kR 51 (AQ (λ_=>[.slice none 0 0]) NR).toArray (λg=>.slice (pA g) NR NR) (Makes.slice 29 51 _ (.slice none 0 0) 1 24 _ _ .i64 .i64 NR [.slice none 0 0] rfl U U CK Jm kR kR dZ kR kR kR om om) (λg2=>?_)
  refine sP (.slice (pA g2) NR NR)<|sA<|sP (.slice none 0 0)<|sG<|Sy.seq<|Sy.label<|Sy.then_<|Sy.seq<|sC<|sP (pT g1 32)<|sS (.slice W NR cW) (Quiet.cell 1 g1 32 31 29 (AZ d W NR cW).toArray _ _ U kR kR CK U _ (Db hd))<|sP (iZ NR)<|sP (.int .i64 0)<|sG<|Sy.block<|Sy.loopT (Y:=(Nat→Slc)×Slc×AD×List Sh.Tx) NR (λk1 y1=>[(2,pT g0 0),(3,pT g1 0),(6,.slice (pA g2) NR NR),(7,y1.2.1.v),(26,.slice W NR cW),(27,iZ NR),(28,iZ k1)]) (λk1 y1=>[(g0,79,(Ag R NR cR bm).toArray),(g1,31,(AZ d W NR cW).toArray),(g2,51,(Ai y1.1 NR))]++(BJ y1.1 NR++(y1.2.1.bl++y1.2.2.1))) (λk1 y1=>RowsAre y1.1 42 4 (eF s bm X Y I d) (Bz nk k1 0)∧TxsIs (Base.of w) 24 y1.2.1 y1.2.2.1 y1.2.2.2∧Sh.cat y1.2.2.2=EK s bm X Y I d nk k1∧y1.2.2.2.length=k1∧∀ i,i<k1→DA s sn nk i=true) (λ_=>nilS,nilS,[],[]) ⟨(RowsAre.nil _ _ _).cnt (H6 nk),TxsIs.nil _ _,rfl,rfl,λi hi=>absurd hi (Nat.not_lt_zero _)⟩ ac7 (λw hw=>by rw [Hf]; exact hw) (λk1 y1 hk1 hh1=>?_)
  refine sC ?_
  obtain ⟨b2,hb2⟩:=xE (decide (k1<NR))
  refine sS (.bool b2) (qls U U U hb2)<|sG<|Sy.seq ?_
  cases b2
  ·have lb2:=dN hb2
   refine sU<|Sy.exit<|Sy.then_exit<|Sy.then_exit ?_
   obtain rfl:NR=k1:=om
   refine Sy.in_exit<|Sy.then_<|Sy.seq<|Sy.seq<|Sy.regionD (λj=>false) kR<|sZ 0 U (y1.2.1.v)<|sD 1 U (iZ NR) (Quiet.lenR hh1.2.1.row (by rw [List.length_map]; exact hh1.2.2.2.1) _ Fd U U)<|sZ 2 U (pT g0 0)<|sD 3 U (.slice R NR cR) (Quiet.cell 0 g0 0 79 25 (Ag R NR cR bm).toArray _ _ U kR kR Bl U _ kR)<|sZ 4 U (iZ NR) ?_
   obtain ⟨b3,hb3⟩:=xE (decide (NR≠NR))
   refine sD 5 U (.bool b3) (qne U U U hb3)<|sZ 6 U (.bool b3) ?_
   cases b3
   ·have lb3:=dN hb3
    refine sD 7 U (Aw R NR cR bm) (Quiet.load 0 g0 0 33 79 79 (Ag R NR cR bm).toArray _ _ U kR kR DF U kR _ (Az hbm) (A7 hbm))<|sZ 8 U (y1.2.1.v) ?_
    obtain ⟨d0,hd0⟩:=xE (rgT bm (EK s bm X Y I d nk NR))
    have hd1:d0.length=32:=by rw [hd0]; exact IU _ _
    refine sD 9 U (.agg (d0.map bv).toArray) (Quiet.callS 101 #[Aw R NR cR bm,y1.2.1.v] kF (λw hw=>by obtain ⟨Q,dd,hv,hc9,_,htx⟩:=hh1.2.1.texts; rw [hv,hd0, ← hh1.2.2.1]; have hel:=H5 (s:=s) (bm:=bm) (X:=X) (Y:=Y) (I:=I) (nk:=nk) hd NR; exact Gh w R NR cR bm hbm Q _ dd y1.2.2.2 (htx hw (λb hb=>List.mem_append.2 (.inr (List.mem_append.2 (.inr (List.mem_append.2 (.inl hb)))))) (λb hb=>List.mem_append.2 (.inr (List.mem_append.2 (.inr (List.mem_append.2 (.inr hb))))))) (hh1.2.1.ok w _ hw (λb hb=>List.mem_append.2 (.inr (List.mem_append.2 (.inr (List.mem_append.2 (.inr hb))))))) U hc9 om (by rw [hh1.2.2.1]; omega) (ht.below hw.below ht.lt)))<|sZ 10 U (pT g1 0)<|sD 11 U (.agg (d.map bv).toArray) (Quiet.load 1 g1 0 32 31 23 (AZ d W NR cW).toArray _ _ U kR kR C8 U kR _ (JM hd) (LV hd)) ?_
    obtain ⟨b4,hb4⟩:=xE (decide (d0≠d))
    refine sD 12 U (.bool b4) (Quiet.pure (λw=>by rw [hb4]; exact Ko w _ _ _ _ d0 d hd1 hd U U U))<|sZ 13 U (.bool b4)<|sI ?_
    cases b4
    ·have lb4:=dN hb4
     refine sU<|Sy.skip<|sB<|sP (.slice (pA g2) NR NR)<|sP (.slice (pA g2) NR NR)<|sP (.bool true)<|sG<|Sy.ret<|Sy.sc_r ?_
     exact CA ((g2,51,Ai y1.1 NR)::BJ y1.1 NR) rfl (v:=.slice (pA g2) NR NR) (u:=.bool true) (.inl (show _=_ by kernel_rfl)) (.inl (show _=_ by kernel_rfl)) (λw hw=>(St.pick (pre:=[(g0,79,(Ag R NR cR bm).toArray),(g1,31,(AZ d W NR cW).toArray),(g2,51,(Ai y1.1 NR))]) (M:=[(g2,51,Ai y1.1 NR)]) [2] dZ kR hw).less (by rw [← List.append_assoc]; exact List.sublist_append_left _ _)) (.inr ⟨Lw U hh1.2.2.2.2 (by rw [← hd0]; exact Decidable.of_not_not lb4),_,rfl,_,y1.1,rfl,rfl,hh1.1⟩)
    ·have lb4:=dY hb4
     refine sT<|sC<|sP (.slice none 0 0)<|sP (.bool false)<|sG<|Sy.ret<|Sy.then_ret<|Sy.sc_r ?_
     exact CA [] rfl (v:=.slice none 0 0) (u:=.bool false) (.inl (show _=_ by kernel_rfl)) (.inl (show _=_ by kernel_rfl)) (λ_ hw=>hw.none) (.inl ⟨QH (by rw [← hd0]; exact lb4),rfl,rfl⟩)
   ·have lb3:=dY hb3
    exact absurd U lb3
  ·have lb2:=dY hb2
   have hnk1:=hn64 k1 lb2
   have hnk0:=hn1 k1 lb2
   obtain ⟨gK,oK,hT⟩:=hlk k1 lb2
   obtain ⟨gS,oS,hS⟩:=hls k1 lb2
   have hsn8:=hsn9 k1 lb2
   refine sT<|Sy.skip<|Sy.then_<|Sy.seq<|Sy.block<|sC<|sP (iZ k1)<|sS (.pointer (some ⟨gW,oW+k1*1,none⟩)) (Quiet.pure (AJ 29 _ _ _ W gW oW NR cW k1 1 .i64 (hW om).1 U U U CK kF om))<|sS (.slice (sa k1) (sn k1) (sc k1)) (Quiet.thereOne gW (oW+k1*1) 51 _ _ U kR (hW om).2.1 _ (AV ((hW om).2.2 k1 om) 0 U) Ca U)<|sP (iZ k1)<|sP (.slice (sa k1) (sn k1) (sc k1))<|sG<|Sy.seq<|sC<|sP (.slice (sa k1) (sn k1) (sc k1))<|sP (iZ ((sn k1)))<|sP (pT g0 0)<|sS (.slice R NR cR) (Quiet.cell 0 g0 0 79 25 (Ag R NR cR bm).toArray _ _ U kR kR Bl U _ kR)<|sP (iZ k1)<|sS (.pointer (some ⟨gR,oR+k1*1,none⟩)) (Quiet.pure (AJ 25 _ _ _ R gR oR NR cR k1 1 .i64 (hR om).1 U U U Bl kF om))<|sS (.slice (a k1) (nk k1) (ck k1)) (Quiet.thereOne gR (oR+k1*1) 45 _ _ U kR (hR om).2.1 _ (AV ((hR om).2.2 k1 om) 0 U) CJ U)<|sP (iZ ((nk k1))) ?_
   obtain ⟨b5,hb5⟩:=xE (decide ((sn k1)≠(nk k1)))
   refine sS (.bool b5) (qne U U U hb5)<|sG ?_
   cases b5
   ·have lb5:=dN hb5
    have hsn:sn k1=nk k1:=om
    refine sU<|Sy.skip<|sB<|sP (pT g1 0)<|sP (.slice (pA g1) 32 32)<|sP (.slice (pA g1) 32 32)<|sG<|Sy.seq<|sC<|sP (.slice (sa k1) (sn k1) (sc k1))<|sP (iZ ((sn k1)))<|sP (.int .i64 0)<|sG<|Sy.block<|Sy.loopT (Y:=(Nat→Slc)×Sh.Tx×AD) (sn k1) (λk2 y2=>[(2,pT g0 0),(3,pT g1 0),(6,.slice (pA g2) NR NR),(7,y1.2.1.v),(8,iZ k1),(9,.slice (sa k1) (sn k1) (sc k1)),(10,.slice y2.2.1.A (CT k2) y2.2.1.c),(26,.slice W NR cW),(27,iZ NR),(28,iZ k1),(44,.slice (sa k1) (sn k1) (sc k1)),(45,iZ ((sn k1))),(46,iZ k2)]) (λk2 y2=>[(g0,79,(Ag R NR cR bm).toArray),(g1,31,(AZ d W NR cW).toArray),(g2,51,(Ai y2.1 NR))]++(BJ y2.1 NR++(y1.2.1.bl++(y1.2.2.1++y2.2.2)))) (λk2 y2=>RowsAre y2.1 42 4 (eF s bm X Y I d) (Bz nk k1 k2)∧XtIs g1 d (alX (s k1) bm k1 0 (X k1) (Y k1) (I k1) d k2) k2 y2.2.1 y2.2.2∧∀ i,i<k2→s k1 i%Sc.pM=s k1 i) (y1.1,⟨some ⟨g1,0,none⟩,d,32⟩,[]) ⟨hh1.1,.inl ⟨rfl,rfl,rfl,rfl⟩,λi hi=>absurd hi (Nat.not_lt_zero _)⟩ ST (λw hw=>by rw [List.append_nil]; exact hw) (λk2 y2 hk2 hh2=>?_)
    refine sC ?_
    obtain ⟨b6,hb6⟩:=xE (decide (k2<(sn k1)))
    refine sS (.bool b6) (qls U U U hb6)<|sG<|Sy.seq ?_
    cases b6
    ·have lb6:=dN hb6
     refine sU<|Sy.exit<|Sy.then_exit<|Sy.then_exit ?_
     obtain rfl:k2=sn k1:=om
     refine Sy.in_exit<|Sy.then_<|Sy.region<|sP (y1.2.1.v)<|sP (.slice y2.2.1.A (CT (sn k1)) y2.2.1.c)<|Sy.make kR 24 #[.slice y2.2.1.A (CT (sn k1)) y2.2.1.c] (λg=>.slice (pA g) 1 1) kF (λg3=>?_)
     refine Sy.movT<|Sy.permS Sy.rot_perm<|Sy.appendR kR 88 24 _ _ 1 24 Fd D_ U U U U dZ _ _ U hh1.2.1.row kR [.slice y2.2.1.A (CT (sn k1)) y2.2.1.c] rfl (Id _ _ _) 3 g3 24 kR kR (by rw [List.length_map,hh1.2.2.2.1]; omega) (by rw [List.length_map,hh1.2.2.2.1]; simp only [maxLen]; omega) (λr1 hr1=>?_)
     refine Sy.permS Sy.tor_perm<|sP (r1.v)<|Sy.nil<|Sy.in_<|Sy.then_<|Sy.region<|sS (iZ (k1+1)) (qad U U U)<|sP (iZ (k1+1))<|Sy.nil ?_
     exact Sy.againT ((y2.1,r1,y1.2.2.1++y2.2.2,y1.2.2.2++[y2.2.1])) om (⟨hh2.1.cnt (λi=>by rw [hsn]; exact H7 nk k1 i),hh1.2.1.add y2.2.1 y2.2.2 hr1 (hh2.2.1.val hd) (hh2.2.1.ok om),by rw [Fx,hh1.2.2.1,hh2.2.1.li,hsn]; rfl,by rw [List.length_append,hh1.2.2.2.1]; rfl,λi hi=>(Nat.lt_succ_iff_lt_or_eq.1 hi).elim (hh1.2.2.2.2 i) (λh=>by rw [h]; exact Hg hsn hh2.2.2)⟩) ac7 (λw hw=>St.pick (pre:=[(g0,79,(Ag R NR cR bm).toArray),(g1,31,(AZ d W NR cW).toArray),(g2,51,(Ai y2.1 NR)),(g3,24,#[.slice y2.2.1.A (CT (sn k1)) y2.2.1.c])]) (M:=[(g0,79,(Ag R NR cR bm).toArray),(g1,31,(AZ d W NR cW).toArray),(g2,51,(Ai y2.1 NR))]) [0,1,2] dZ kR hw)
    ·have lb6:=dY hb6
     refine sT<|Sy.skip<|Sy.then_<|Sy.seq<|Sy.block<|sC<|sP (iZ k2)<|sS (.pointer (some ⟨gS,oS+k2*4,none⟩)) (Quiet.pure (AJ 51 _ _ _ (sa k1) gS oS (sn k1) (sc k1) k2 4 .i64 (hS om).1 U U U Ca kF om))<|sS (fv (s k1 k2)) (Quiet.there gS (oS+k2*4) 4 42 (fws (s k1 k2)) _ _ U kR (hS om).2.1 ((hS om).2.2 k2 om) Ab U kR U _ U)<|sM 42 (fcs 0) (λg4=>?_)
     refine Sy.movT<|sP (iZ k2)<|sW 3 g4 42 (fcs 0) (fcs (s k1 k2)) (wS 0 42 (fcs (s k1 k2)) U)<|Sy.setT<|sG<|Sy.seq<|Sy.seq<|Sy.regionD (λj=>false) kR<|sD 0 U (fv (s k1 k2)) (qL 3 g4 0 4 42 42 (fcs (s k1 k2)) U Ab)<|sD 1 U (fv (s k1 k2%Sc.pM)) (qF 105 #[fv (s k1 k2)] (λw=>Sc.norm_any w (s k1 k2) (hsc k1 k2)))<|sD 2 U (fv (s k1 k2)) (qL 3 g4 0 4 42 42 (fcs (s k1 k2)) U Ab) ?_
     obtain ⟨b7,hb7⟩:=xE (decide ((s k1 k2%Sc.pM)≠(s k1 k2)))
     refine sD 3 U (.bool b7) (Quiet.pure (λw=>by rw [hb7,decide_not]; exact N5 w _ _ _ _ _ _ U U U (by first | exact hsc _ _ | exact Sc.mod_lt _ | exact EY _ _ _ _ | exact C6 _ _ _ _ | assumption) (by first | exact hsc _ _ | exact Sc.mod_lt _ | exact EY _ _ _ _ | exact C6 _ _ _ _ | assumption)))<|sI ?_
     cases b7
     ·have lb7:=dN hb7
      have hnorm:s k1 k2%Sc.pM=s k1 k2:=Decidable.of_not_not lb7
      refine sU<|Sy.skip<|sB<|sS (Aw R NR cR bm) (Quiet.load 0 g0 0 33 79 79 (Ag R NR cR bm).toArray _ _ U kR kR DF U kR _ (Az hbm) (A7 hbm))<|sP (.slice y2.2.1.A (CT k2) y2.2.1.c)<|sP (iZ k1)<|sP (iZ k2)<|sS (fv (eE s bm X Y I d k1 k2)) (Quiet.callS 102 #[Aw R NR cR bm,.slice y2.2.1.A (CT k2) y2.2.1.c,iZ k1,iZ k2] kF (λw hw=>by have hl:=hh2.2.1.len hd; have hx:=hh2.2.1.xl hd; have q:=EC w R NR cR bm hbm y2.2.1.A y2.2.1.l (CT k2) y2.2.1.c hx om om om (hh2.2.1.src hw (List.mem_append.2 (.inl (List.mem_of_getElem? (i:=1) rfl))) (λb hb=>List.mem_append.2 (.inr (List.mem_append.2 (.inr (List.mem_append.2 (.inr (List.mem_append.2 (.inr hb))))))))) k1 k2 om om (ht.below hw.below ht.lt); rwa [show rgC bm y2.2.1.l k1 k2=eE s bm X Y I d k1 k2 by rw [hh2.2.1.li]; rfl] at q))<|sM 42 (fcs 0) (λg5=>?_)
      refine Sy.movT<|sW 4 g5 42 (fcs 0) (fcs (eE s bm X Y I d k1 k2)) (wS 0 42 (fcs (eE s bm X Y I d k1 k2)) U)<|Sy.setT<|sH (λj=>j == 8 || j == 10)<|Sy.stepDA 0 U kR (λ_ _ _ _ h=>h) kR (.slice (pA g2) NR NR) kF<|Sy.stepDA 1 U kR (λ_ _ _ _ h=>h) kR (iZ k1) kF<|Sy.stepDB 2 [4,5,8,9,10] rfl kR (λ_ _ _ _ h=>h) kR (.slice (pA g2) NR NR) qP<|Sy.stepDB 3 [4,5,8,9,10] rfl kR (λ_ _ _ _ h=>h) kR (iZ k1) qP<|Sy.stepDB 4 [5,8,9,10] rfl kR (λ_ _ _ _ h=>h) kR (.pointer (some ⟨g2,0+k1*1,none⟩)) (Quiet.pure (Bv 29 _ _ _ g2 0 NR NR k1 1 .i64 U U U CK kF om))<|sD 5 U ((y2.1 k1).v) (Quiet.cell 2 g2 (0+k1*1) 51 51 (Ai y2.1 NR) _ _ U kR kR Ca U _ (Cj om U))<|Sy.stepDB 6 [7,8,9,10] rfl kR (λ_ _ _ _ h=>h) kR (fv (eE s bm X Y I d k1 k2)) (qL 4 g5 0 4 42 42 (fcs (eE s bm X Y I d k1 k2)) U Ab) ?_
      refine Sy.makeD 7 U kR kR 42 (fcs (eE s bm X Y I d k1 k2)) (λg=>.slice (pA g) 1 1) kF (λg6=>?_)
      refine Sy.movTD<|Sy.soleD 8 U (λQ2 hq2=>?_)
      refine Sy.permS (Sy.out_perm y2.1 (i:=k1) om)<|Sy.appendR kR 51 42 _ _ 4 32 Ca Io U U U U dZ _ _ U (hh2.1 k1) kR (fws (eE s bm X Y I d k1 k2)) U (DT _) 5 g6 42 kR kR (by rw [List.length_map,List.length_range,DW]; omega) (by rw [List.length_map,List.length_range,DW]; simp only [maxLen]; omega) (λr2 hr2=>?_)
      refine hq2 _ _<|Sy.anyOf [9] kR dZ (Sy.each1 ?_)
      refine Sy.oneQuiet U kR (.pointer (some ⟨g2,0+k1*1,none⟩)) (Quiet.pure (Bv 29 _ _ _ g2 0 NR NR k1 1 .i64 U U U CK kF om))<|Sy.writeD 10 U kR (by rfl) kR 2 g2 51 (Ai y2.1 NR) (Ai (Ct y2.1 k1 r2) NR) kR (Writes.one (0+k1*1) 51 (r2.v) _ _ U kR kR kR hr2.cells.1 hr2.cells.2 (JT om U) (He om U U))<|Sy.setTD<|Sy.permD (Sy.in_perm om)<|sI<|Sy.regionD (λj=>false) kR<|sD 0 U (fv (s k1 k2)) (qL 3 g4 0 4 42 42 (fcs (s k1 k2)) U Ab)<|sD 1 U (fv (eE s bm X Y I d k1 k2)) (qL 4 g5 0 4 42 42 (fcs (eE s bm X Y I d k1 k2)) U Ab)<|sZ 2 U (pT g0 0)<|sD 3 U (.slice R NR cR) (Quiet.cell 0 g0 0 79 25 (Ag R NR cR bm).toArray _ _ U kR kR Bl U _ kR)<|sZ 4 U (iZ k1)<|sD 5 U (.pointer (some ⟨gR,oR+k1*1,none⟩)) (Quiet.pure (AJ 25 _ _ _ R gR oR NR cR k1 1 .i64 (hR om).1 U U U Bl kF om))<|sD 6 U (.slice (a k1) (nk k1) (ck k1)) (Quiet.thereOne gR (oR+k1*1) 45 _ _ U kR (hR om).2.1 _ (AV ((hR om).2.2 k1 om) 0 U) CJ U)<|sZ 7 U (iZ k2)<|sD 8 U (.pointer (some ⟨gK,oK+k2*9,none⟩)) (Quiet.pure (AJ 45 _ _ _ (a k1) gK oK (nk k1) (ck k1) k2 9 .i64 (hT om).1 U U U CJ kF om))<|sD 9 U (pv (X k1 k2) (Y k1 k2) (I k1 k2)) (Quiet.there gK (oK+k2*9) 9 48 (pml (X k1 k2) (Y k1 k2) (I k1 k2)) _ _ U kR (hT om).2.1 ((hT om).2.2 k2 om) An U kR U _ U)<|Sy.callND 10 U kR kR 106 #[fv (s k1 k2),fv (eE s bm X Y I d k1 k2),pv (X k1 k2) (Y k1 k2) (I k1 k2)] kF ((Dw (rPt (s k1 k2) (eE s bm X Y I d k1 k2) (X k1 k2) (Y k1 k2) (I k1 k2)))) (λw hw=>Ef w _ _ _ _ _ (hsc _ _) (Qd _ _) (hX _ _) (hY _ _)) (λvq Mq hR0=>?_)
      obtain ⟨q7,rfl,rfl⟩:=hR0
      refine Sy.movTD<|sZ 11 U (.slice (pA q7) 33 33)<|sE<|Sy.in_<|Sy.then_<|Sy.region<|sS (iZ (k2+1)) (qad U U U)<|sP (iZ (k2+1))<|Sy.nil ?_
      exact Sy.againT ((Ct y2.1 k1 r2,(⟨some ⟨q7,0,none⟩,A3 (rPt (s k1 k2) (eE s bm X Y I d k1 k2) (X k1 k2) (Y k1 k2) (I k1 k2)),33⟩:Sh.Tx),[(q7,174,((A3 (rPt (s k1 k2) (eE s bm X Y I d k1 k2) (X k1 k2) (Y k1 k2) (I k1 k2))).map bv).toArray)])) om (⟨hh2.1.put' hr2 U,by rw [ED]; exact .inr ⟨Nat.succ_pos _,A5 _,q7,rfl,rfl⟩,λi hi=>(Nat.lt_succ_iff_lt_or_eq.1 hi).elim (hh2.2.2 i) (λh=>by rw [h]; exact hnorm)⟩) ST (λw hw=>St.pick3 (pre:=[(g0,79,(Ag R NR cR bm).toArray),(g1,31,(AZ d W NR cW).toArray),(g2,51,(Ai (Ct y2.1 k1 r2) NR)),(g4,42,(fcs (s k1 k2))),(g5,42,(fcs (eE s bm X Y I d k1 k2))),(g6,42,(fcs (eE s bm X Y I d k1 k2))),(q7,174,((A3 (rPt (s k1 k2) (eE s bm X Y I d k1 k2) (X k1 k2) (Y k1 k2) (I k1 k2))).map bv).toArray)]) (M:=[(g0,79,(Ag R NR cR bm).toArray),(g1,31,(AZ d W NR cW).toArray),(g2,51,(Ai (Ct y2.1 k1 r2) NR))]) (N:=[(q7,174,((A3 (rPt (s k1 k2) (eE s bm X Y I d k1 k2) (X k1 k2) (Y k1 k2) (I k1 k2))).map bv).toArray)]) [0,1,2,6] dZ kR hw)
     ·have lb7:=dY hb7
      refine sT<|Sy.exit<|Sy.then_exit<|Sy.in_pass (by decide)<|Sy.then_exit<|Sy.then_exit<|Sy.in_pass (by decide)<|Sy.then_exit<|Sy.in_pass (by decide)<|Sy.then_exit<|Sy.then_exit<|Sy.in_exit<|Sy.then_<|Sy.seq<|Sy.seq<|Sy.regionD (λj=>false) kR<|sZ 0 U (y1.2.1.v)<|sD 1 U (iZ k1) (Quiet.lenR hh1.2.1.row (by rw [List.length_map]; exact hh1.2.2.2.1) _ Fd U U)<|sZ 2 U (pT g0 0)<|sD 3 U (.slice R NR cR) (Quiet.cell 0 g0 0 79 25 (Ag R NR cR bm).toArray _ _ U kR kR Bl U _ kR)<|sZ 4 U (iZ NR) ?_
      obtain ⟨b8,hb8⟩:=xE (decide (k1≠NR))
      refine sD 5 U (.bool b8) (qne U U U hb8)<|sZ 6 U (.bool b8) ?_
      cases b8
      ·have lb8:=dN hb8
       exact absurd (show k1≠NR by omega) lb8
      ·have lb8:=dY hb8
       refine sQ 7 U<|sQ 8 U<|sQ 9 U<|sQ 10 U<|sQ 11 U<|sQ 12 U<|sZ 13 U (.bool true)<|sI<|sT<|sC<|sP (.slice none 0 0)<|sP (.bool false)<|sG<|Sy.ret<|Sy.then_ret<|Sy.sc_r ?_
       exact CA [] rfl (v:=.slice none 0 0) (u:=.bool false) (.inl (show _=_ by kernel_rfl)) (.inl (show _=_ by kernel_rfl)) (λ_ hw=>hw.none) (.inl ⟨Lx (by assumption) (MP (by assumption) lb7),rfl,rfl⟩)
   ·have lb5:=dY hb5
    refine sT<|Sy.exit<|Sy.then_exit<|Sy.in_pass (by decide)<|Sy.then_exit<|Sy.then_exit<|Sy.in_exit<|Sy.then_<|Sy.seq<|Sy.seq<|Sy.regionD (λj=>false) kR<|sZ 0 U (y1.2.1.v)<|sD 1 U (iZ k1) (Quiet.lenR hh1.2.1.row (by rw [List.length_map]; exact hh1.2.2.2.1) _ Fd U U)<|sZ 2 U (pT g0 0)<|sD 3 U (.slice R NR cR) (Quiet.cell 0 g0 0 79 25 (Ag R NR cR bm).toArray _ _ U kR kR Bl U _ kR)<|sZ 4 U (iZ NR) ?_
    obtain ⟨b9,hb9⟩:=xE (decide (k1≠NR))
    refine sD 5 U (.bool b9) (qne U U U hb9)<|sZ 6 U (.bool b9) ?_
    cases b9
    ·have lb9:=dN hb9
     exact absurd (show k1≠NR by omega) lb9
    ·have lb9:=dY hb9
     refine sQ 7 U<|sQ 8 U<|sQ 9 U<|sQ 10 U<|sQ 11 U<|sQ 12 U<|sZ 13 U (.bool true)<|sI<|sT<|sC<|sP (.slice none 0 0)<|sP (.bool false)<|sG<|Sy.ret<|Sy.then_ret<|Sy.sc_r ?_
     exact CA [] rfl (v:=.slice none 0 0) (u:=.bool false) (.inl (show _=_ by kernel_rfl)) (.inl (show _=_ by kernel_rfl)) (λ_ hw=>hw.none) (.inl ⟨Lx (by assumption) (MQ lb5),rfl,rfl⟩)
 ·have lb1:=dY hb1
  refine sT<|sC<|sP (.slice none 0 0)<|sP (.bool false)<|sG<|Sy.ret<|Sy.then_ret<|Sy.sc_r ?_
  exact CA [] rfl (v:=.slice none 0 0) (u:=.bool false) (.inl (show _=_ by kernel_rfl)) (.inl (show _=_ by kernel_rfl)) (λ_ hw=>hw.none) (.inl ⟨QG lb1,rfl,rfl⟩)
end Cu
end
end Go.Proofs.YtbjmjcpdonochaaGreatDoor
