/-
  Texts of ours, put together: SurA, RingW, RingY, ScInv, ScRefPow, RingX, RingZ, RingAA, RingAB, RingAC, RingAD, RingAE, RingAF, RingAG, RingAH, SymG2, RingAI, RingAJ, RingAK, RingAM, StrZ, RingOnlyL, SurB, SurC, SurD, PLift10.
-/
import Derived.Test.YtmennpefjofhjaaGreatDoorBD5
set_option linter.unusedVariables false
set_option linter.unusedSimpArgs false
namespace Go.Proofs.YtmennpefjofhjaaGreatDoor
section
namespace Cu
open Go.RowKit Sy
set_option maxRecDepth 100000
set_option maxHeartbeats 4000000
def alwB (n:Nat):Bool:=decide (1≤n) && decide (n≤64)
theorem alw_iff {n:Nat}:alwB n=true↔1≤n∧n≤64:=by unfold alwB; rw [Bool.and_eq_true,decide_eq_true_iff,decide_eq_true_iff]
theorem allow10_any (w:World) (n:Nat) (hn:n≤9223372036854775807):Calls Tryz.prog 98 #[.int .i64 ((n:Nat):Int)] w (Gets w (.bool (alwB n))):=by
 refine Sy.enter (args:=[.int .i64 ((n:Nat):Int)]) Tryz.func98 rfl kL ?_
 refine sC ?_
 refine sP (.bool false) ?_
 refine sA ?_
 obtain ⟨b1,hb1⟩:∃ z:Bool,z=decide (n ≥ 1):=⟨_,rfl⟩
 refine sP (.int .i64 ((n:Nat):Int))<|sS (.bool b1) (Quiet.pure (exec_int .geq _ _ _ .i64 _ _ _ rfl rfl rfl (int_geq _ _ _ _ _ (by rw [hb1]; exact decide_eq_decide.2 (by omega)))))<|sP (.bool b1) ?_
 cases b1
 ·refine sN<|sN<|sP (.bool false)<|sP (.bool false) ?_
  refine sG<|Sy.ret ?_
  rw [show alwB n=false from by unfold alwB; rw [show decide (1≤n)=false from hb1.symm]; rfl]
  exact rV (.bool false) rfl
 ·obtain ⟨b2,hb2⟩:∃ z:Bool,z=decide (n≤64):=⟨_,rfl⟩
  refine sP (.int .i64 ((n:Nat):Int))<|sS (.bool b2) (Quiet.pure (exec_int .leq _ _ _ .i64 _ _ _ rfl rfl rfl (int_leq _ _ _ _ _ (by rw [hb2]; exact decide_eq_decide.2 (by omega)))))<|sP (.bool b2)<|sP (.bool b2) ?_
  refine sG<|Sy.ret ?_
  rw [show alwB n=b2 from by unfold alwB; rw [show decide (1≤n)=true from hb1.symm,hb2]; rfl]
  exact rV (.bool b2) rfl
theorem text10_any (w:World) (px py:Nat) (pi:Bool) (hpx:px<K4) (hpy:py<K4):Calls Tryz.prog 99 #[pv px py pi] w (GetsN w (CodeIs (dec px py pi))):=by
 refine Sy.enter (args:=[pv px py pi]) Tryz.func99 rfl kL ?_
 refine sC ?_
 refine sM 48 (pcs px py pi) (λg0=>?_)
 refine sP (.slice none 0 0) ?_
 refine sA ?_
 refine sS (pv px py pi) (qL 0 g0 0 9 48 48 (pcs px py pi) rfl Tryz.underlying48)<|sS (.agg ((encS (dec px py pi)).map bv).toArray) (qF 162 #[pv px py pi] (λw=>enc_any w px py pi hpx hpy)) ?_
 refine Sy.make kR 191 (Zl 33).toArray ptr kF (λg1=>?_)
 refine Sy.write kR 1 g1 191 (Zl 33).toArray ((encS (dec px py pi)).map bv).toArray kR (Writes.store 0 191 ((encS (dec px py pi)).map bv).toArray _ _ rfl kR kR (by rw [key_sz (encS (dec px py pi)) (encS_length _)]; kernel_rfl) (by rw [key_sz (encS (dec px py pi)) (encS_length _)]; exact Nat.le_of_ble_eq_true kR) (key_one _) (key_set _ _ (by rw [(encS_length _)]; kernel_rfl))) ?_
 refine sA ?_
 refine sP (.slice (some ⟨g1,0,none⟩) 33 33)<|sP (.slice (some ⟨g1,0,none⟩) 33 33) ?_
 refine sG<|Sy.ret ?_
 exact retG 1 (g1,191,((encS (dec px py pi)).map bv).toArray) rfl (v:=.slice (some ⟨g1,0,none⟩) 33 33) (.inl (show _=_ by kernel_rfl)) kR ⟨_,rfl,rfl⟩
def lessP (ax ay:Nat) (ai:Bool) (x y:Nat) (i:Bool):Pt:=Ec.add finv (dec ax ay ai) (Ec.neg (dec x y i))
def RgsR (f:Nat→List Value) (n:Nat) (v:Value) (M:Blocks):Prop:=∃ g1 g2,v=.slice (some ⟨g2,0,none⟩) 1 1∧M=[(g1,193,(flat (upto n f (pml 0 0 false)) 64).toArray),(g2,45,#[.slice (some ⟨g1,0,none⟩) n n])]
theorem exec_arr3 {P:Program} {F:Slots} {o:Oper} (t:TypeId) (x hx' mx':Operand) (g f hi s:Nat) (kh km:IntKind) (ho:o.op=.slice t x none (some hx') (some mx')) (hx:evF F x=.pointer (some ⟨g,f,none⟩)) (hh:evF F hx'=.int kh (hi:Int)) (hm:evF F mx'=.int km (hi:Int)) (ht:P.underlying t=some (.array (P.arrayLen t) (P.elem t))) (hsz:∀ w,(sizeOf (P.elem t)).run P w=.ok s w) (hle:hi≤P.arrayLen t) (w:World):(execOp (evF F) o).run P w=.ok (.value (.slice (some ⟨g,f,none⟩) hi hi)) w:=by
 have e:(Instr.sliceAt t (.pointer (some ⟨g,f,none⟩)) none (some (.int kh (hi:Int))) (some (.int km (hi:Int)))).run P w=.ok (.slice (some ⟨g,f,none⟩) hi hi) w:=by
  rw [run_sliceAt_array_hm w t ⟨g,f,none⟩ ht kh km (hi:Int) (hi:Int) (by omega) (by omega) (by omega)]
  simp [hsz,slicedAt,Result.andThen,Addr.add]
 unfold execOp
 simp only [ho,hx,hh,hm,Option.map_some,Option.map_none,e,Sem.run_bind,Sem.run_pure,Result.andThen_ok]
theorem rings10_any (w:World) (A:Option Addr) (n c:Nat) (X Y:Nat→Nat) (I:Nat→Bool) (hX:∀ k,X k<K4) (hY:∀ k,Y k<K4) (ax ay:Nat) (ai:Bool) (hax:ax<K4) (hay:ay<K4) (hn:n≤64) (hlk:Lst w 9 A n (λk=>pml (X k) (Y k) (I k))) :
  Calls Tryz.prog 100 #[.slice A n c,pv ax ay ai] w (GetsN w (RgsR (λj=>pml (pX (lessP ax ay ai (X j) (Y j) (I j))) (pY (lessP ax ay ai (X j) (Y j) (I j))) (pI (lessP ax ay ai (X j) (Y j) (I j)))) n)):=by
 obtain ⟨gK,oK,hT⟩:=hlk
 obtain ⟨fK,hfK⟩:∃ f:Nat→List Value,f=(λj=>pml (pX (lessP ax ay ai (X j) (Y j) (I j))) (pY (lessP ax ay ai (X j) (Y j) (I j))) (pI (lessP ax ay ai (X j) (Y j) (I j)))):=⟨_,rfl⟩
 rw [← hfK]
 have hf9:∀ j,(fK j).length=9:=λj=>by rw [hfK]; rfl
 refine Sy.enter (args:=[.slice A n c,pv ax ay ai]) Tryz.func100 rfl kL ?_
 refine sC ?_
 refine sM 48 (pcs ax ay ai) (λg0=>?_)
 refine sP (.slice none 0 0) ?_
 refine sG<|sC ?_
 refine sM 193 (flat (λ_=>pml 0 0 false) 64).toArray (λg1=>?_)
 refine sG<|Sy.seq<|sC ?_
 refine sP (.slice A n c)<|sP (.int .i64 ((n:Nat):Int))<|sP (.int .i64 0) ?_
 refine sG<|Sy.block ?_
 refine Sy.loopK n (λk1=>[(0,.slice A n c),(3,ptr g0),(5,ptr g1),(9,.slice A n c),(10,.int .i64 ((n:Nat):Int)),(11,.int .i64 ((k1:Nat):Int))]) (λk1=>[(g0,48,(pcs ax ay ai)),(g1,193,(flat (upto k1 fK (pml 0 0 false)) 64).toArray)]) [true,true] (M:=[(g0,48,(pcs ax ay ai)),(g1,193,(flat (λ_=>pml 0 0 false) 64).toArray)]) (all_cons kR (all_cons kR (all_cons kR (all_cons kR (all_cons kR (all_cons kR all_nil)))))) kR (bcons rfl (bcons (beq upto_zero) rfl)) (λk1 hk1=>?_)
 refine sC ?_
 obtain ⟨b1,hb1⟩:∃ z:Bool,z=decide (k1<n):=⟨_,rfl⟩
 refine sS (.bool b1) (Quiet.pure (exec_int .lss _ _ _ .i64 _ _ _ rfl rfl rfl (int_lss _ _ _ _ _ (by rw [hb1]; exact decide_eq_decide.2 (by omega))))) ?_
 refine sG<|Sy.seq ?_
 cases b1
 ·have lb1:¬ (k1<n):=of_decide_eq_false hb1.symm
  obtain rfl:n=k1:=by omega
  refine sU<|Sy.exit<|Sy.then_exit<|Sy.then_exit<|Sy.in_exit<|sB ?_
  refine sP (.slice A n c)<|sP (.int .i64 ((n:Nat):Int))<|sP (.int .i64 ((n:Nat):Int)) ?_
  refine sA ?_
  refine sP (.int .i64 ((n:Nat):Int))<|sP (.int .i64 ((n:Nat):Int))<|sS (.slice (some ⟨g1,0,none⟩) n n) (Quiet.pure (exec_arr3 193 _ _ _ g1 0 n 9 .i64 .i64 rfl rfl rfl rfl Tryz.underlying193 kF hn)) ?_
  refine Sy.make kR 45 #[.slice (some ⟨g1,0,none⟩) n n] (λg=>.slice (some ⟨g,0,none⟩) 1 1) (λ_=>kR) (λg2=>?_)
  refine sP (.slice (some ⟨g2,0,none⟩) 1 1) ?_
  refine sG<|Sy.ret ?_
  exact retGM [(g1,193,(flat (upto n fK (pml 0 0 false)) 64).toArray),(g2,45,#[.slice (some ⟨g1,0,none⟩) n n])] rfl (v:=.slice (some ⟨g2,0,none⟩) 1 1) (.inl (show _=_ by kernel_rfl)) (λw hw=>St.less hw (by simp)) ⟨g1,g2,rfl,rfl⟩
 ·have lb1:k1<n:=of_decide_eq_true hb1.symm
  refine sT<|Sy.skip<|Sy.then_<|Sy.seq<|Sy.block<|sC ?_
  refine sP (.int .i64 ((k1:Nat):Int))<|sS (.pointer (some ⟨gK,oK+k1*9,none⟩)) (Quiet.pure (exec_atO 45 _ _ _ A gK oK n c k1 9 .i64 (hT (by omega)).1 rfl rfl rfl Tryz.underlying45 kF (by omega)))<|sS (pv (X k1) (Y k1) (I k1)) (Quiet.there gK (oK+k1*9) 9 48 (pml (X k1) (Y k1) (I k1)) _ _ rfl kR (hT (by omega)).2.1 ((hT (by omega)).2.2 k1 (by omega)) Tryz.underlying48 rfl kR rfl _ rfl)<|sM 48 (pcs 0 0 false) (λg7=>?_)
  refine sP (.int .i64 ((k1:Nat):Int))<|sW 2 g7 48 (pcs 0 0 false) (pcs (X k1) (Y k1) (I k1)) (wS 0 48 (pcs (X k1) (Y k1) (I k1)) rfl) ?_
  obtain ⟨Q,hQ⟩:∃ Q,Q=Ec.neg (dec (X k1) (Y k1) (I k1)):=⟨_,rfl⟩
  have hQo:Ec.On Q:=by rw [hQ]; exact Ec.On.neg (dec_on _ _ _)
  obtain ⟨S,hS⟩:∃ S,S=(lessP ax ay ai (X k1) (Y k1) (I k1)):=⟨_,rfl⟩
  have hSe:Ec.add finv (dec ax ay ai) (dec (pX Q) (pY Q) (pI Q))=S:=by rw [dec_parts hQo,hQ,hS]; rfl
  refine sG ?_
  refine Sy.regionD (λj=>j == 6) kR ?_
  refine sZ 0 rfl (.int .i64 ((k1:Nat):Int))<|sD 1 rfl (pv ax ay ai) (qL 0 g0 0 9 48 48 (pcs ax ay ai) rfl Tryz.underlying48)<|sD 2 rfl (pv (X k1) (Y k1) (I k1)) (qL 2 g7 0 9 48 48 (pcs (X k1) (Y k1) (I k1)) rfl Tryz.underlying48) <|
   sD 3 rfl (pv (pX Q) (pY Q) (pI Q)) (qF 152 #[pv (X k1) (Y k1) (I k1)] (λw=>by rw [← ptv_parts,hQ]; exact neg_any w _ _ _ (hX _) (hY _))) <|
   sD 4 rfl (pv (pX S) (pY S) (pI S)) (qF 151 #[pv ax ay ai,pv (pX Q) (pY Q) (pI Q)] (λw=>by have q:=add_any w ax ay ai (pX Q) (pY Q) (pI Q) hax hay (pX_lt _) (pY_lt _); rw [hSe,ptv_parts] at q; exact q)) <|
   sD 5 rfl (.pointer (some ⟨g1,0+k1*9,none⟩)) (Quiet.pure (exec_atA 193 _ _ _ g1 0 _ k1 9 .i64 rfl rfl rfl Tryz.underlying193 kF (by omega))) <|
   sX 6 rfl 1 g1 193 (flat (upto k1 fK (pml 0 0 false)) 64).toArray (flat (upto (k1+1) fK (pml 0 0 false)) 64).toArray (Writes.store (0+k1*9) 48 (pcs (pX S) (pY S) (pI S)) _ _ rfl kR kR kR (flat_fit (upto_len hf9 rfl _) (k:=k1) (by omega) (by omega)) kR (upto_set (v:=(pcs (pX S) (pY S) (pI S)).toList) hf9 rfl (by rw [hfK,hS]; rfl) (by omega) (by omega))) ?_
  refine sE ?_
  refine Sy.in_<|Sy.then_<|Sy.region ?_
  refine sS (.int .i64 ((k1+1:Nat):Int)) (Quiet.pure (exec_int .add _ _ _ .i64 _ _ _ rfl rfl rfl (int_add _ _ _ _ _ ((wrap_i64 (by omega) (by omega)).trans (by omega)))))<|sP (.int .i64 ((k1+1:Nat):Int)) ?_
  refine Sy.nil ?_
  exact Sy.againK [true,true] (M:=[(g0,48,(pcs ax ay ai)),(g1,193,(flat (upto (k1+1) fK (pml 0 0 false)) 64).toArray)]) (by omega) (all_cons kR (all_cons kR (all_cons kR (all_cons kR (all_cons kR (all_cons kR all_nil)))))) kR (bcons rfl (bcons rfl rfl))
end Cu
end
section
namespace Cu
open Go.RowKit Sy
end Cu
end
section
namespace Cu
open Go.RowKit Sy
section
variable {At Bt:Nat→Int} {sx sy:Nat→Nat} {NS NT:Nat}
end
end Cu
end
section
namespace Sc
open Go.RowKit Go.Lib
end Sc
end
section
namespace Sc
open Go.RowKit Go.Lib
end Sc
end
section
namespace Cu
open Go.RowKit Sy
end Cu
end
section
namespace Cu
open Go.RowKit Sy
section
variable (bm sd:List UInt8) (i:Nat) (s:Nat→Nat)
end
section
variable {bm sd:List UInt8} {i n a:Nat} {s e:Nat→Nat} {X Y:Nat→Nat} {I:Nat→Bool}
end
end Cu
end
section
namespace Cu
open Go.RowKit Sy
section
variable (bm sd:List UInt8) (nk:Nat→Nat) (s e:Nat→Nat→Nat) (X Y:Nat→Nat→Nat) (I:Nat→Nat→Bool)
end
section
variable {bm sd:List UInt8} {nk:Nat→Nat} {s e:Nat→Nat→Nat} {X Y:Nat→Nat→Nat} {I:Nat→Nat→Bool} {NR:Nat}
end
end Cu
end
section
namespace Cu
open Go.RowKit Sy
end Cu
end
section
namespace Cu
open Go.RowKit Sy
section
variable {bm sd:List UInt8} {i n k p:Nat} {s:Nat→Nat}
end
end Cu
end
section
namespace Cu
open Go.RowKit Sy
def rowE (s:Nat→Nat):Nat→List UInt8
 | 0=>[]
 | k+1=>rowE s k++bytesS (s k%Sc.pM)
def rowsE (s:Nat→Nat→Nat) (sn:Nat→Nat):Nat→List UInt8
 | 0=>[]
 | k+1=>rowsE s sn k++rowE (s k) (sn k)
theorem rowE_len (s:Nat→Nat):∀ k,(rowE s k).length=32*k
 | 0=>rfl
 | k+1=>by
  show (rowE s k++bytesS _).length=_
  rw [List.length_append,rowE_len s k,bytesS_length]
  omega
end Cu
end
section
namespace Cu
open Go.RowKit Sy
set_option maxRecDepth 100000
set_option maxHeartbeats 4000000
theorem cloneB_any (w:World) (gA oA:Nat) (m:List UInt8) (n c:Nat) (hm:m.length=n) (hm9:n≤999000000) (hc:n≤c) (hc2:c≤9223372036854775807) (hs0:Sh.Src w (some ⟨gA,oA,none⟩) m):Calls Tryz.prog 73 #[.slice (some ⟨gA,oA,none⟩) n c] w (GetsN w ((λvq Mq=>∃ y:Slc,vq=y.v∧Mq=y.bl∧y.Is 5 1 (bytesR m)))):=by
 refine Sy.enter (args:=[.slice (some ⟨gA,oA,none⟩) n c]) Tryz.func73 rfl kL ?_
 refine sC ?_
 refine sP (.slice none 0 0) ?_
 refine sG<|Sy.seq<|sC ?_
 refine sP (.slice (some ⟨gA,oA,none⟩) n c)<|sP (.bool false) ?_
 refine sG<|sU<|Sy.skip<|sB ?_
 refine Sy.make kR 5 #[] (λg=>.slice (some ⟨g,0,none⟩) 0 0) kF (λg0=>?_)
 refine sP (.slice (some ⟨gA,oA,none⟩) n c) ?_
 refine Sy.permS (M:=[]++((⟨.slice (some ⟨g0,0,none⟩) 0 0,[(g0,5,#[])]⟩:Slc).bl++[])) (by exact List.Perm.refl _) ?_
 refine Sy.appendM kR 24 5 _ _ 1 1 Tryz.underlying24 info_b8 rfl rfl rfl rfl (by decide) _ _ rfl (ys:=bytesR m) bytesR_start kR (bytesR_one _) (bytesR_cell _) (some ⟨gA,oA,none⟩) n c (by rw [bytesR_len]; exact hm) hc kR (λ_=>From.src hs0) (by simp [bytesR]; omega) (by simp [bytesR,maxLen]; omega) (λr1 hr1=>?_)
 refine sP (r1.v) ?_
 refine sG<|Sy.ret ?_
 exact retGM r1.bl rfl (v:=r1.v) (.inl (show _=_ by kernel_rfl)) (λw hw=>by simpa using hw) ⟨r1,rfl,rfl,by have q:=hr1; simpa [bytesR] using q⟩
theorem growS_any (w:World) (q:Nat) (hq:q≤2000000):Calls Tryz.prog 136 #[.slice none 0 0,.int .i64 ((q:Nat):Int)] w (GetsN w (GivesRow 42 4 [])):=by
 refine Sy.enter (args:=[.slice none 0 0,.int .i64 ((q:Nat):Int)]) Tryz.func136 rfl kL ?_
 refine sC ?_
 refine sP (.slice none 0 0) ?_
 refine sG<|Sy.seq<|sC ?_
 refine sP (.int .i64 ((q:Nat):Int)) ?_
 obtain ⟨b1,hb1⟩:∃ z:Bool,z=decide (q<0):=⟨_,rfl⟩
 refine sS (.bool b1) (Quiet.pure (exec_int .lss _ _ _ .i64 _ _ _ rfl rfl rfl (int_lss _ _ _ _ _ (by rw [hb1]; exact decide_eq_decide.2 (by omega))))) ?_
 refine sG ?_
 cases b1
 ·have lb1:¬ (q<0):=of_decide_eq_false hb1.symm
  refine sU<|Sy.skip<|Sy.then_<|Sy.seq<|sC ?_
  refine sP (.int .i64 ((q:Nat):Int))<|sP (.slice none 0 0)<|sP (.int .i64 0)<|sP (.slice none 0 0)<|sP (.int .i64 0)<|sP (.int .i64 0)<|sS (.int .i64 ((q:Nat):Int)) (Quiet.pure (exec_int .sub _ _ _ .i64 _ _ _ rfl rfl rfl (int_sub _ _ _ _ _ ((wrap_i64 (by omega) (by omega)).trans (by omega)))))<|sP (.int .i64 ((q:Nat):Int)) ?_
  refine sA ?_
  refine sP (.int .i64 ((q:Nat):Int)) ?_
  obtain ⟨b2,hb2⟩:∃ z:Bool,z=decide (q>0):=⟨_,rfl⟩
  refine sS (.bool b2) (Quiet.pure (exec_int .gtr _ _ _ .i64 _ _ _ rfl rfl rfl (int_gtr _ _ _ _ _ (by rw [hb2]; exact decide_eq_decide.2 (by omega))))) ?_
  refine sG ?_
  cases b2
  ·have lb2:¬ (q>0):=of_decide_eq_false hb2.symm
   refine sU<|Sy.skip<|sB ?_
   refine sP (.slice none 0 0)<|sP (.slice none 0 0) ?_
   refine sG<|Sy.ret ?_
   exact retGM [] rfl (v:=.slice none 0 0) (.inl (show _=_ by kernel_rfl)) (λ_ hw=>hw) ⟨nilS,Slc.Is.nil _ _,rfl,rfl⟩
  ·have lb2:q>0:=of_decide_eq_true hb2.symm
   refine sT<|Sy.region ?_
   refine sP (.slice none 0 0)<|sP (.slice none 0 0)<|sP (.int .i64 0)<|sP (.slice none 0 0)<|sP (.int .i64 ((q:Nat):Int)) ?_
   refine Sy.appendZ kR 51 3 42 _ _ 4 32 Tryz.underlying51 Tryz.underlying3 info_sc rfl rfl rfl rfl (by decide) _ _ rfl rfl q (by omega) rfl (by omega) (by simp only [maxLen]; omega) (λgz cz zs hz1 hz2 hz3=>?_)
   refine sP (.slice none 0 0)<|sP (.int .i64 0)<|sS (.slice (some ⟨gz,0,none⟩) 0 cz) (Quiet.pure (exec_upto 51 _ _ gz 0 q cz 0 4 .i64 rfl rfl rfl Tryz.underlying51 kF (Nat.zero_le _)))<|sP (.slice (some ⟨gz,0,none⟩) 0 cz) ?_
   refine sA ?_
   refine sP (.slice (some ⟨gz,0,none⟩) 0 cz)<|sP (.slice (some ⟨gz,0,none⟩) 0 cz) ?_
   refine sG<|Sy.ret ?_
   exact retGM [(gz,42,zs.toArray)] rfl (v:=.slice (some ⟨gz,0,none⟩) 0 cz) (.inl (show _=_ by kernel_rfl)) (λ_ hw=>hw) ⟨⟨.slice (some ⟨gz,0,none⟩) 0 cz,[(gz,42,zs.toArray)]⟩,Slc.Is.mk' (by simp) (by simp) rfl (by simp) hz1 (Nat.zero_le _) hz3,rfl,rfl⟩
 ·have lb1:q<0:=of_decide_eq_true hb1.symm
  exact absurd lb1 (by omega)
theorem concatS_any (w:World) (T:Option Addr) (N d:Nat) (a:Nat→Option Addr) (n c:Nat→Nat) (f:Nat→Nat→List Value) (hf1:∀ i k,(f i k).length=4) (hf2:∀ i k, ∀ u∈f i k,u.oneCell'=true) (hN:N≤2000000) (hs:sumN n N≤2000000) (hnc:∀ i,i<N→n i≤c i) (hlt:Lst w 1 T N (λi=>[.slice (a i) (n i) (c i)])) (hl:∀ i,i<N→Lst w 4 (a i) (n i) (f i)):Calls Tryz.prog 74 #[.slice T N d] w (GetsN w (GivesRow 42 4 (catR n f N))):=by
 obtain ⟨gT,oT,hT⟩:=hlt
 refine Sy.enter (args:=[.slice T N d]) Tryz.func74 rfl kL ?_
 refine sC ?_
 refine sP (.slice none 0 0) ?_
 refine sA ?_
 refine sP (.int .i64 0) ?_
 refine sG<|Sy.seq<|sC ?_
 refine sP (.slice T N d)<|sP (.int .i64 ((N:Nat):Int))<|sP (.int .i64 0) ?_
 refine sG<|Sy.block ?_
 refine Sy.loopK N (λk1=>[(0,.slice T N d),(3,.int .i64 (((sumN n k1):Nat):Int)),(9,.slice T N d),(10,.int .i64 ((N:Nat):Int)),(11,.int .i64 ((k1:Nat):Int))]) (λk1=>[]) [] (M:=[]) (all_cons kR (all_cons kR (all_cons kR (all_cons kR (all_cons kR all_nil))))) kR rfl (λk1 hk1=>?_)
 refine sC ?_
 obtain ⟨b1,hb1⟩:∃ z:Bool,z=decide (k1<N):=⟨_,rfl⟩
 refine sS (.bool b1) (Quiet.pure (exec_int .lss _ _ _ .i64 _ _ _ rfl rfl rfl (int_lss _ _ _ _ _ (by rw [hb1]; exact decide_eq_decide.2 (by omega))))) ?_
 refine sG<|Sy.seq ?_
 cases b1
 ·have lb1:¬ (k1<N):=of_decide_eq_false hb1.symm
  refine sU<|Sy.exit<|Sy.then_exit<|Sy.then_exit ?_
  obtain rfl:N=k1:=by omega
  refine Sy.in_exit<|sB ?_
  refine sP (.int .i64 (((sumN n N):Nat):Int)) ?_
  refine Sy.callN kR 136 #[.slice none 0 0,.int .i64 (((sumN n N):Nat):Int)] kF (GivesRow 42 4 []) (λw hw=>growS_any w _ (by omega)) (λvq Mq hR0=>?_)
  obtain ⟨y0,hy0,rfl,rfl⟩:=hR0
  refine sP (y0.v) ?_
  refine sG<|Sy.seq<|sC ?_
  refine sP (.slice T N d)<|sP (.int .i64 ((N:Nat):Int))<|sP (.int .i64 0) ?_
  refine sG<|Sy.block ?_
  refine Sy.loopT (Y:=Slc) N (λk1 y1=>[(0,.slice T N d),(6,y1.v),(25,.slice T N d),(26,.int .i64 ((N:Nat):Int)),(27,.int .i64 ((k1:Nat):Int))]) (λk1 y1=>[]++(y1.bl++[])) (λk1 y1=>y1.Is 42 4 (catR n f k1)) y0 hy0 (all_cons kR (all_cons kR (all_cons kR (all_cons kR (all_cons kR all_nil))))) (λw hw=>by simpa using hw) (λk1 y1 hk1 hh1=>?_)
  refine sC ?_
  obtain ⟨b2,hb2⟩:∃ z:Bool,z=decide (k1<N):=⟨_,rfl⟩
  refine sS (.bool b2) (Quiet.pure (exec_int .lss _ _ _ .i64 _ _ _ rfl rfl rfl (int_lss _ _ _ _ _ (by rw [hb2]; exact decide_eq_decide.2 (by omega))))) ?_
  refine sG<|Sy.seq ?_
  cases b2
  ·have lb2:¬ (k1<N):=of_decide_eq_false hb2.symm
   refine sU<|Sy.exit<|Sy.then_exit<|Sy.then_exit ?_
   obtain rfl:N=k1:=by omega
   refine Sy.in_exit<|sB ?_
   refine sP (y1.v)<|sP (y1.v) ?_
   refine sG<|Sy.ret ?_
   exact retGM (y1.bl) rfl (v:=y1.v) (.inl (show _=_ by kernel_rfl)) (λ_ hw=>by simpa using hw) ⟨y1,hh1,rfl,rfl⟩
  ·have lb2:k1<N:=of_decide_eq_true hb2.symm
   have hsk:sumN n k1+n k1≤sumN n N:=sumN_mono n (show k1+1≤N by omega)
   refine sT<|Sy.skip<|Sy.then_<|Sy.seq<|Sy.block<|sC ?_
   refine sS (.pointer (some ⟨gT,oT+k1*1,none⟩)) (Quiet.pure (exec_atO 29 _ _ _ T gT oT N d k1 1 .i64 (hT (by omega)).1 rfl rfl rfl Tryz.underlying29 kF (by omega)))<|sS (.slice (a k1) (n k1) (c k1)) (Quiet.thereOne gT (oT+k1*1) 51 _ _ rfl kR (hT (by omega)).2.1 _ (range_one ((hT (by omega)).2.2 k1 (by omega)) 0 rfl) Tryz.underlying51 rfl)<|sP (.slice (a k1) (n k1) (c k1)) ?_
   refine sG<|Sy.region ?_
   refine sP (y1.v)<|sP (.slice (a k1) (n k1) (c k1)) ?_
   refine Sy.appendM kR 51 42 _ _ 4 32 Tryz.underlying51 info_sc rfl rfl rfl rfl (by decide) _ _ rfl (ys:=(List.range (n k1)).map (f k1)) hh1 kR (λz hz=>by obtain ⟨i,_,rfl⟩:=List.mem_map.1 hz; exact hf1 _ _) (λz hz=>by obtain ⟨i,_,rfl⟩:=List.mem_map.1 hz; exact hf2 _ _) (a k1) (n k1) (c k1) (by rw [List.length_map,List.length_range]) (hnc k1 (by omega)) kR (λ_=>From.lst (hl k1 (by omega)) (hf1 k1)) (by rw [catR_len]; omega) (by rw [catR_len]; simp only [maxLen]; omega) (λr1 hr1=>?_)
   refine sP (r1.v) ?_
   refine Sy.nil<|Sy.in_<|Sy.then_<|Sy.region ?_
   refine sS (.int .i64 ((k1+1:Nat):Int)) (Quiet.pure (exec_int .add _ _ _ .i64 _ _ _ rfl rfl rfl (int_add _ _ _ _ _ ((wrap_i64 (by omega) (by omega)).trans (by omega)))))<|sP (.int .i64 ((k1+1:Nat):Int)) ?_
   refine Sy.nil ?_
   exact Sy.againT (r1) (by omega) (hr1) (all_cons kR (all_cons kR (all_cons kR (all_cons kR (all_cons kR all_nil))))) (λw hw=>hw)
 ·have lb1:k1<N:=of_decide_eq_true hb1.symm
  have hsk:sumN n k1+n k1≤sumN n N:=sumN_mono n (show k1+1≤N by omega)
  refine sT<|Sy.skip<|Sy.then_<|Sy.seq<|Sy.block<|sC ?_
  refine sS (.pointer (some ⟨gT,oT+k1*1,none⟩)) (Quiet.pure (exec_atO 29 _ _ _ T gT oT N d k1 1 .i64 (hT (by omega)).1 rfl rfl rfl Tryz.underlying29 kF (by omega)))<|sS (.slice (a k1) (n k1) (c k1)) (Quiet.thereOne gT (oT+k1*1) 51 _ _ rfl kR (hT (by omega)).2.1 _ (range_one ((hT (by omega)).2.2 k1 (by omega)) 0 rfl) Tryz.underlying51 rfl)<|sP (.slice (a k1) (n k1) (c k1)) ?_
  refine sA ?_
  refine sP (.int .i64 (((sumN n k1):Nat):Int))<|sP (.slice (a k1) (n k1) (c k1))<|sP (.int .i64 (((n k1):Nat):Int))<|sS (.int .i64 (((sumN n k1)+(n k1):Nat):Int)) (Quiet.pure (exec_int .add _ _ _ .i64 _ _ _ rfl rfl rfl (int_add _ _ _ _ _ ((wrap_i64 (by omega) (by omega)).trans (by omega)))))<|sP (.int .i64 (((sumN n k1)+(n k1):Nat):Int)) ?_
  refine sA ?_
  refine sP (.int .i64 (((sumN n k1)+(n k1):Nat):Int)) ?_
  obtain ⟨b3,hb3⟩:∃ z:Bool,z=decide ((sumN n k1)+(n k1)<0):=⟨_,rfl⟩
  refine sS (.bool b3) (Quiet.pure (exec_int .lss _ _ _ .i64 _ _ _ rfl rfl rfl (int_lss _ _ _ _ _ (by rw [hb3]; exact decide_eq_decide.2 (by omega))))) ?_
  refine sG ?_
  cases b3
  ·have lb3:¬ ((sumN n k1)+(n k1)<0):=of_decide_eq_false hb3.symm
   refine sU<|Sy.skip<|Sy.in_<|Sy.then_<|Sy.region ?_
   refine sS (.int .i64 ((k1+1:Nat):Int)) (Quiet.pure (exec_int .add _ _ _ .i64 _ _ _ rfl rfl rfl (int_add _ _ _ _ _ ((wrap_i64 (by omega) (by omega)).trans (by omega)))))<|sP (.int .i64 ((k1+1:Nat):Int)) ?_
   refine Sy.nil ?_
   exact Sy.againK [] (M:=[]) (by omega) (all_cons kR (all_cons kR (all_cons kR (all_cons kR (all_cons kR all_nil))))) kR rfl
  ·have lb3:(sumN n k1)+(n k1)<0:=of_decide_eq_true hb3.symm
   exact absurd lb3 (by omega)
end Cu
end
section
namespace Cu
open Go.RowKit Sy
def lenS (D:Nat→Nat):Nat→Nat
 | 0=>32
 | k+1=>lenS D k+D k*32
set_option maxHeartbeats 4000000 in
set_option maxRecDepth 100000 in
theorem length_any (w:World) (Z:Option Addr) (N zc:Nat) (D:Nat→Nat) (hN:N≤32) (hD:∀ i,i<N→D i≤64) (hlz:Lst w 1 Z N (λk=>[.int .i64 ((D k:Nat):Int)])):Calls Tryz.prog 70 #[.slice Z N zc] w (Gets w (.int .i64 ((lenS D N:Nat):Int))):=by
 obtain ⟨gZ,oZ,hZ⟩:=hlz
 refine Sy.enter (args:=[.slice Z N zc]) Tryz.func70 rfl kL ?_
 refine sC ?_
 refine sP (.int .i64 0) ?_
 refine sA ?_
 refine sP (.int .i64 32) ?_
 refine sG<|Sy.seq<|sC ?_
 refine sP (.slice Z N zc)<|sP (.int .i64 ((N:Nat):Int))<|sP (.int .i64 0) ?_
 refine sG<|Sy.block ?_
 refine Sy.loopH N (λk1=>lenS D k1≤32+2048*k1) (λk1=>[(0,.slice Z N zc),(3,.int .i64 (((lenS D k1):Nat):Int)),(6,.slice Z N zc),(7,.int .i64 ((N:Nat):Int)),(8,.int .i64 ((k1:Nat):Int))]) (λk1=>[]) [] (M:=[]) (Nat.le_refl _) (all_cons kR (all_cons kR (all_cons kR (all_cons kR (all_cons kR all_nil))))) kR rfl (λk1 hk1 hh=>?_)
 have hh1:=hh
 refine sC ?_
 obtain ⟨b1,hb1⟩:∃ z:Bool,z=decide (k1<N):=⟨_,rfl⟩
 refine sS (.bool b1) (Quiet.pure (exec_int .lss _ _ _ .i64 _ _ _ rfl rfl rfl (int_lss _ _ _ _ _ (by rw [hb1]; exact decide_eq_decide.2 (by omega))))) ?_
 refine sG<|Sy.seq ?_
 cases b1
 ·have lb1:¬ (k1<N):=of_decide_eq_false hb1.symm
  refine sU<|Sy.exit<|Sy.then_exit<|Sy.then_exit ?_
  obtain rfl:N=k1:=by omega
  refine Sy.in_exit<|sB ?_
  refine sP (.int .i64 (((lenS D N):Nat):Int))<|sP (.int .i64 (((lenS D N):Nat):Int)) ?_
  refine sG<|Sy.ret ?_
  exact rV (.int .i64 (((lenS D N):Nat):Int)) rfl
 ·have lb1:k1<N:=of_decide_eq_true hb1.symm
  have hD1:=hD k1 lb1
  refine sT<|Sy.skip<|Sy.then_<|Sy.seq<|Sy.block<|sC ?_
  refine sS (.pointer (some ⟨gZ,oZ+k1*1,none⟩)) (Quiet.pure (exec_atO 57 _ _ _ Z gZ oZ N zc k1 1 .i64 (hZ (by omega)).1 rfl rfl rfl Tryz.underlying57 kF (by omega)))<|sS (.int .i64 (((D k1):Nat):Int)) (Quiet.thereOne gZ (oZ+k1*1) 3 _ _ rfl kR (hZ (by omega)).2.1 _ (range_one ((hZ (by omega)).2.2 k1 (by omega)) 0 rfl) Tryz.underlying3 rfl)<|sP (.int .i64 (((D k1):Nat):Int)) ?_
  refine sG<|Sy.region ?_
  refine sP (.int .i64 (((lenS D k1):Nat):Int))<|sP (.int .i64 (((D k1):Nat):Int))<|sS (.int .i64 (((D k1)*32:Nat):Int)) (Quiet.pure (exec_int .mul _ _ _ .i64 _ _ _ rfl rfl rfl (int_mul _ _ _ _ _ ((wrap_i64 (by omega) (by omega)).trans (by omega)))))<|sS (.int .i64 (((lenS D k1)+((D k1)*32):Nat):Int)) (Quiet.pure (exec_int .add _ _ _ .i64 _ _ _ rfl rfl rfl (int_add _ _ _ _ _ ((wrap_i64 (by omega) (by omega)).trans (by omega)))))<|sP (.int .i64 (((lenS D k1)+((D k1)*32):Nat):Int)) ?_
  refine Sy.nil<|Sy.in_<|Sy.then_<|Sy.region ?_
  refine sS (.int .i64 ((k1+1:Nat):Int)) (Quiet.pure (exec_int .add _ _ _ .i64 _ _ _ rfl rfl rfl (int_add _ _ _ _ _ ((wrap_i64 (by omega) (by omega)).trans (by omega)))))<|sP (.int .i64 ((k1+1:Nat):Int)) ?_
  refine Sy.nil ?_
  exact Sy.againH [] (M:=[]) (by omega) (by show lenS D k1+D k1*32≤_; have:=hD k1 (by omega); omega) (all_cons kR (all_cons kR (all_cons kR (all_cons kR (all_cons kR all_nil))))) kR rfl
end Cu
end
section
namespace Cu
open Go.RowKit Sy
def catNm (s:Nat→Nat→Nat) (sn:Nat→Nat):Nat→List Nat
 | 0=>[]
 | k+1=>catNm s sn k++(List.range (sn k)).map (s k)
theorem catNm_len (s:Nat→Nat→Nat) (sn:Nat→Nat):∀ k,(catNm s sn k).length=sumN sn k
 | 0=>rfl
 | k+1=>by
  show (catNm s sn k++_).length=sumN sn k+sn k
  rw [List.length_append,catNm_len s sn k,List.length_map,List.length_range]
theorem catNm_lt {s:Nat→Nat→Nat} {sn:Nat→Nat} (h:∀ i k,s i k<K4):∀ k, ∀ x∈catNm s sn k,x<K4
 | 0,x,hx=>by cases hx
 | k+1,x,hx=>by
  rcases List.mem_append.1 hx with hx | hx
  ·exact catNm_lt h k x hx
  ·obtain ⟨i,_,rfl⟩:=List.mem_map.1 hx
   exact h _ _
theorem catR_map (s:Nat→Nat→Nat) (sn:Nat→Nat):∀ k,catR sn (λi j=>fws (s i j)) k=(catNm s sn k).map fws
 | 0=>rfl
 | k+1=>by
  show catR sn _ k++_=(catNm s sn k++_).map fws
  rw [List.map_append,catR_map s sn k,List.map_map]
  rfl
theorem rowE_congr {f g:Nat→Nat}:∀ k,(∀ j,j<k→f j=g j)→rowE f k=rowE g k
 | 0,_=>rfl
 | k+1,h=>by
  show rowE f k++_=rowE g k++_
  rw [rowE_congr k (λj hj=>h j (by omega)),h k (Nat.lt_succ_self k)]
theorem rowE_split (f:Nat→Nat) (a:Nat):∀ b,rowE f (a+b)=rowE f a++rowE (λj=>f (a+j)) b
 | 0=>(List.append_nil _).symm
 | b+1=>by
  show rowE f (a+b)++_=_++(rowE _ b++_)
  rw [rowE_split f a b,List.append_assoc]
  rfl
def atL (l:List Nat) (j:Nat):Nat:=l.getD j 0
theorem atL_left {a b:List Nat} {j:Nat} (h:j<a.length):atL (a++b) j=atL a j:=by unfold atL; rw [List.getD_eq_getElem?_getD,List.getD_eq_getElem?_getD,List.getElem?_append_left h]
theorem atL_right {a b:List Nat} {j:Nat}:atL (a++b) (a.length+j)=atL b j:=by unfold atL; rw [List.getD_eq_getElem?_getD,List.getD_eq_getElem?_getD,List.getElem?_append_right (Nat.le_add_right _ _),Nat.add_sub_cancel_left]
theorem atL_range {f:Nat→Nat} {n j:Nat} (h:j<n):atL ((List.range n).map f) j=f j:=by unfold atL; rw [List.getD_eq_getElem?_getD,List.getElem?_map,List.getElem?_range h]; rfl
theorem rowE_cat (s:Nat→Nat→Nat) (sn:Nat→Nat):∀ k,rowE (atL (catNm s sn k)) (sumN sn k)=rowsE s sn k
 | 0=>rfl
 | k+1=>by
  show rowE (atL (catNm s sn k++(List.range (sn k)).map (s k))) (sumN sn k+sn k)=rowsE s sn k++rowE (s k) (sn k)
  rw [rowE_split,rowE_congr (g:=atL (catNm s sn k)) _ (λj hj=>atL_left (by rw [catNm_len]; exact hj)),rowE_cat s sn k,rowE_congr (g:=s k) _ (λj hj=>by
   rw [← catNm_len s sn k,atL_right,atL_range hj])]
theorem map_atL (l:List Nat):l.map fws=(List.range l.length).map (λj=>fws (atL l j)):=by
 apply List.ext_getElem
 ·rw [List.length_map,List.length_map,List.length_range]
 ·intro j h1 h2
  rw [List.getElem_map,List.getElem_map,List.getElem_range]
  unfold atL
  rw [List.getD_eq_getElem?_getD,List.getElem?_eq_getElem (by simpa using h1)]
  rfl
theorem atL_lt {l:List Nat} (h:∀ x∈l,x<K4) (j:Nat):atL l j<K4:=by
 unfold atL
 rw [List.getD_eq_getElem?_getD]
 cases hx:l[j]? with
 | none=>exact K4_pos
 | some x=>exact h x (List.mem_of_getElem? hx)
set_option maxHeartbeats 4000000 in
set_option maxRecDepth 100000 in
theorem encG_any (w:World) (d:List UInt8) (hd:d.length=32) (W:Option Addr) (NW cW:Nat) (sa:Nat→Option Addr) (sn sc:Nat→Nat) (s:Nat→Nat→Nat) (hsc:∀ i k,s i k<K4) (hNW:NW≤4611686018427387904) (hsn9:∀ i,i<NW→sn i≤4611686018427387904) (hlw:Lst w 1 W NW (λi=>[.slice (sa i) (sn i) (sc i)])) (hls:∀ i,i<NW→Lst w 4 (sa i) (sn i) (λk=>fws (s i k))) (hW9:NW≤2000000) (hsum:sumN sn NW≤2000000) (hsc9:∀ i,i<NW→sn i≤sc i):Calls Tryz.prog 25 #[sgv33 d W NW cW] w (GetsN w ((λvq Mq=>∃ y:Slc,vq=y.v∧Mq=y.bl∧y.Is 5 1 (bytesR (d++rowsE s sn NW))))):=by
 have hlw0:=hlw
 obtain ⟨gW,oW,hW⟩:=hlw
 refine Sy.enter (args:=[sgv33 d W NW cW]) Tryz.func25 rfl kL ?_
 refine sC ?_
 refine sM 31 (sgc33 d W NW cW).toArray (λg0=>?_)
 refine sP (.slice none 0 0) ?_
 refine sA ?_
 refine sP (.pointer (some ⟨g0,0,none⟩))<|sP (.slice (some ⟨g0,0,none⟩) 32 32) ?_
 refine Sy.callN kR 73 #[.slice (some ⟨g0,0,none⟩) 32 32] kF ((λvq Mq=>∃ y:Slc,vq=y.v∧Mq=y.bl∧y.Is 5 1 (bytesR d))) (λw hw=>cloneB_any w g0 0 d 32 32 hd (by decide) (Nat.le_refl _) (by decide) (sg_src (hw.get (i:=0) rfl))) (λvq Mq hR0=>?_)
 obtain ⟨yC,rfl,rfl,hyC⟩:=hR0
 refine Sy.permS (M:=[(g0,31,(sgc33 d W NW cW).toArray)]++(yC.bl++([]))) (by rw [List.append_nil]; exact List.Perm.refl _) ?_
 refine sP (yC.v) ?_
 refine sG<|Sy.seq<|sC ?_
 refine sP (.pointer (some ⟨g0,32,none⟩))<|sS (.slice W NW cW) (Quiet.cell 0 g0 32 31 29 (sgc33 d W NW cW).toArray _ _ rfl kR kR Tryz.underlying29 rfl _ (sg_at hd)) ?_
 refine Sy.callN kR 74 #[.slice W NW cW] kF (GivesRow 42 4 (catR sn (λi j=>fws (s i j)) NW)) (λw hw=>concatS_any w W NW cW sa sn sc (λi j=>fws (s i j)) (λ_ _=>rfl) (λ_ _=>fws_one _) hW9 hsum hsc9 (hlw0.below hw.below) (λi hi=>(hls i hi).below hw.below)) (λvq Mq hR0=>?_)
 obtain ⟨y0,hy0,rfl,rfl⟩:=hR0
 obtain ⟨lN,hlN⟩:∃ l,l=catNm s sn NW:=⟨_,rfl⟩
 obtain ⟨T,hT⟩:∃ k,k=sumN sn NW:=⟨_,rfl⟩
 have hTl:lN.length=T:=by rw [hlN,hT]; exact catNm_len _ _ _
 have hT9:T≤2000000:=by rw [hT]; exact hsum
 have hN4:∀ j,atL lN j<K4:=atL_lt (by rw [hlN]; exact catNm_lt hsc _)
 rw [catR_map, ← hlN,map_atL,hTl] at hy0
 refine Sy.permS Sy.end_front ?_
 refine sS (.int .i64 ((T:Nat):Int)) (Quiet.lenR hy0 (by rw [List.length_map,List.length_range]) _ Tryz.underlying51 rfl rfl)<|sP (.int .i64 0) ?_
 refine sG<|Sy.block ?_
 refine Sy.loopT (Y:=Slc) T (λk1 y1=>[(1,.pointer (some ⟨g0,0,none⟩)),(3,y1.v),(12,y0.v),(13,.int .i64 ((T:Nat):Int)),(14,.int .i64 ((k1:Nat):Int))]) (λk1 y1=>[(g0,31,(sgc33 d W NW cW).toArray)]++(y0.bl++(y1.bl++([])))) (λk1 y1=>y1.Is 5 1 (bytesR (d++rowE (atL lN) k1))) yC (by rw [show d++rowE (atL lN) 0=d from List.append_nil d]; exact hyC) (all_cons kR (all_cons kR (all_cons kR (all_cons kR (all_cons kR all_nil))))) (λw hw=>hw) (λk1 y1 hk1 hh1=>?_)
 refine sC ?_
 obtain ⟨b1,hb1⟩:∃ z:Bool,z=decide (k1<T):=⟨_,rfl⟩
 refine sS (.bool b1) (Quiet.pure (exec_int .lss _ _ _ .i64 _ _ _ rfl rfl rfl (int_lss _ _ _ _ _ (by rw [hb1]; exact decide_eq_decide.2 (by omega))))) ?_
 refine sG<|Sy.seq ?_
 cases b1
 ·have lb1:¬ (k1<T):=of_decide_eq_false hb1.symm
  refine sU<|Sy.exit<|Sy.then_exit<|Sy.then_exit ?_
  obtain rfl:T=k1:=by omega
  refine Sy.in_exit<|sB ?_
  refine sP (y1.v)<|sP (y1.v) ?_
  refine sG<|Sy.ret ?_
  exact retGM y1.bl rfl (v:=y1.v) (.inl (show _=_ by kernel_rfl)) (λw hw=>St.parts (ls:=[[(g0,31,(sgc33 d W NW cW).toArray)],y0.bl,y1.bl]) (ms:=[y1.bl]) [[(g0,31,(sgc33 d W NW cW).toArray)],y0.bl] [2,0,1] kR (by rfl) (by rfl) (by simp) hw) ⟨y1,rfl,rfl,by rw [← rowE_cat, ← hlN, ← hT]; exact hh1⟩
 ·have lb1:k1<T:=of_decide_eq_true hb1.symm
  obtain ⟨gR,cR2,spR,hv0,hb0,hk1s,hk2s,hk3s⟩:=hy0.open (by omega)
  obtain ⟨fL,hfL⟩:∃ f:Nat→List Value,f=λj=>fws (atL lN j):=⟨_,rfl⟩
  rw [← hfL] at hb0
  have hf4:∀ j,(fL j).length=4:=λj=>by rw [hfL]; rfl
  obtain ⟨yv,yb⟩:=y0
  obtain rfl:yv=_:=hv0
  obtain rfl:yb=_:=hb0
  refine Sy.permC (M:=[(g0,31,(sgc33 d W NW cW).toArray),(gR,42,(flat fL T++spR).toArray)]++(y1.bl++([]))) (by exact List.Perm.refl _) ?_
  refine sT<|Sy.skip<|Sy.then_<|Sy.seq<|Sy.block<|sC ?_
  refine sS (.pointer (some ⟨gR,0+k1*4,none⟩)) (Quiet.pure (exec_at 51 _ _ _ gR 0 T cR2 k1 4 .i64 rfl rfl rfl Tryz.underlying51 kF (by omega)))<|sS (fv (atL lN k1)) (Quiet.load 1 gR (0+k1*4) 4 42 42 (flat fL T++spR).toArray _ _ rfl kR kR Tryz.underlying42 rfl kR _ ((flat_load_sp (k:=k1) hf4 (by omega) rfl).trans (by rw [hfL]; rfl)) (flat_fit1 (k:=k1) hf4 (by omega) rfl)) ?_
  refine sM 42 (fcs 0) (λg1=>?_)
  refine Sy.movT ?_
  refine sW 2 g1 42 (fcs 0) (fcs (atL lN k1)) (wS 0 42 (fcs (atL lN k1)) rfl) ?_
  refine Sy.setT ?_
  refine sA ?_
  refine sS (fv (atL lN k1)) (qL 2 g1 0 4 42 42 (fcs (atL lN k1)) rfl Tryz.underlying42)<|sS (.agg ((bytesS ((atL lN k1)%Sc.pM)).map bv).toArray) (qF 75 #[fv (atL lN k1)] (λw=>Sc.bytes_any w _ (hN4 _))) ?_
  refine Sy.make kR 22 (Zl 32).toArray ptr kF (λg2=>?_)
  refine Sy.movT ?_
  refine Sy.write kR 3 g2 22 (Zl 32).toArray ((bytesS ((atL lN k1)%Sc.pM)).map bv).toArray kR (Writes.store 0 22 ((bytesS ((atL lN k1)%Sc.pM)).map bv).toArray _ _ rfl kR kR (by rw [key_sz (bytesS ((atL lN k1)%Sc.pM)) (bytesS_length _)]; kernel_rfl) (by rw [key_sz (bytesS ((atL lN k1)%Sc.pM)) (bytesS_length _)]; exact Nat.le_of_ble_eq_true kR) (key_one _) (key_set _ _ (by rw [(bytesS_length _)]; kernel_rfl))) ?_
  refine Sy.setT ?_
  refine sG<|Sy.region ?_
  refine sP (y1.v)<|sP (.slice (some ⟨g2,0,none⟩) 32 32) ?_
  refine Sy.appendM kR 24 5 _ _ 1 1 Tryz.underlying24 info_b8 rfl rfl rfl rfl (by decide) _ _ rfl (ys:=bytesR (bytesS ((atL lN k1)%Sc.pM))) hh1 kR (bytesR_one _) (bytesR_cell _) (some ⟨g2,0,none⟩) 32 32 (by rw [bytesR_len]; exact (bytesS_length _)) (Nat.le_refl _) kR (λ_=>From.arr (i:=3) (t:=22) (l:=(bytesS ((atL lN k1)%Sc.pM))) kR) (by simp only [bytesR_len,List.length_append,rowE_len]; omega) (by simp only [bytesR_len,List.length_append,rowE_len,maxLen]; omega) (λr1 hr1=>?_)
  refine sP (r1.v) ?_
  refine Sy.nil<|Sy.in_<|Sy.then_<|Sy.region ?_
  refine sS (.int .i64 ((k1+1:Nat):Int)) (Quiet.pure (exec_int .add _ _ _ .i64 _ _ _ rfl rfl rfl (int_add _ _ _ _ _ ((wrap_i64 (by omega) (by omega)).trans (by omega)))))<|sP (.int .i64 ((k1+1:Nat):Int)) ?_
  refine Sy.nil ?_
  exact Sy.againT (r1) (by omega) (by rw [show d++rowE (atL lN) (k1+1)=(d++rowE (atL lN) k1)++bytesS (atL lN k1%Sc.pM) from (List.append_assoc ..).symm,bytesR_add]; exact hr1) (all_cons kR (all_cons kR (all_cons kR (all_cons kR (all_cons kR all_nil))))) (λw hw=>St.parts (ls:=[[(g0,31,(sgc33 d W NW cW).toArray)],[(gR,42,(flat fL T++spR).toArray)],[(g1,42,(fcs (atL lN k1)))],[(g2,22,((bytesS ((atL lN k1)%Sc.pM)).map bv).toArray)],r1.bl]) (ms:=[[(g0,31,(sgc33 d W NW cW).toArray)],[(gR,42,(flat fL T++spR).toArray)],r1.bl]) [[(g1,42,(fcs (atL lN k1)))],[(g2,22,((bytesS ((atL lN k1)%Sc.pM)).map bv).toArray)]] [0,1,4,2,3] kR (by rfl) (by rfl) (by rfl) hw)
end Cu
end
section
namespace Cu
open Go.RowKit Sy
set_option maxRecDepth 100000
set_option maxHeartbeats 4000000
def mnZ (D:Nat→Int):Nat→Int
 | 0=>D 0
 | k+1=>min (mnZ D k) (D (k+1))
def mxZ (D:Nat→Int):Nat→Int
 | 0=>D 0
 | k+1=>max (mxZ D k) (D (k+1))
theorem mnZ_ge (D:Nat→Int) (a:Int) (k:Nat):a≤mnZ D k↔∀ j,j≤k→a≤D j:=by
 induction k with
 | zero=>exact ⟨λh j hj=>by rw [Nat.le_zero.1 hj]; exact h,λh=>h 0 (Nat.le_refl _)⟩
 | succ k ih =>
  show a≤min (mnZ D k) (D (k+1))↔_
  rw [Int.le_min,ih]
  exact ⟨λh j hj=>(Nat.lt_or_eq_of_le hj).elim (λq=>h.1 j (by omega)) (λq=>by rw [q]; exact h.2),λh=>⟨λj hj=>h j (by omega),h _ (Nat.le_refl _)⟩⟩
theorem mxZ_le (D:Nat→Int) (a:Int) (k:Nat):mxZ D k≤a↔∀ j,j≤k→D j≤a:=by
 induction k with
 | zero=>exact ⟨λh j hj=>by rw [Nat.le_zero.1 hj]; exact h,λh=>h 0 (Nat.le_refl _)⟩
 | succ k ih =>
  show max (mxZ D k) (D (k+1))≤a↔_
  rw [Int.max_le,ih]
  exact ⟨λh j hj=>(Nat.lt_or_eq_of_le hj).elim (λq=>h.1 j (by omega)) (λq=>by rw [q]; exact h.2),λh=>⟨λj hj=>h j (by omega),h _ (Nat.le_refl _)⟩⟩
section
variable {F:Slots} {o:Oper}
theorem exec_minZ (x y:Operand) {ts:Array TypeId} (k:IntKind) (a b c:Int) (ho:o.op=.call { callee:=.builtin .min,args:=#[x,y],argTypes:=ts }) (hx:evF F x=.int k a) (hy:evF F y=.int k b) (h:min a b=c) (w:World):(execOp (evF F) o).run Tryz.prog w=.ok (.value (.int k c)) w:=by
 have e:(if b<a then b else a)=c:=by split <;> omega
 unfold execOp
 simp [ho,hx,hy,resolve,invoke,builtin,Builtin.min_,Builtin.min2,Sem.run_bind,Result.andThen]
 omega
theorem exec_maxZ (x y:Operand) {ts:Array TypeId} (k:IntKind) (a b c:Int) (ho:o.op=.call { callee:=.builtin .max,args:=#[x,y],argTypes:=ts }) (hx:evF F x=.int k a) (hy:evF F y=.int k b) (h:max a b=c) (w:World):(execOp (evF F) o).run Tryz.prog w=.ok (.value (.int k c)) w:=by
 have e:(if a<b then b else a)=c:=by split <;> omega
 unfold execOp
 simp [ho,hx,hy,resolve,invoke,builtin,Builtin.max_,Builtin.max2]
 omega
end
theorem minZ_any (w:World) (A:Option Addr) (M c:Nat) (D:Nat→Int) (hN:M+1≤4611686018427387904) (hlk:Lst w 1 A (M+1) (λk=>[.int .i64 (D k)])):Calls Tryz.prog 130 #[.slice A (M+1) c] w (Gets w (.int .i64 (mnZ D M))):=by
 obtain ⟨gK,oK,hT⟩:=hlk
 refine Sy.enter (args:=[.slice A (M+1) c]) Tryz.func130 rfl kL ?_
 refine sC ?_
 refine sP (.int .i64 0) ?_
 refine sG<|Sy.seq<|sC ?_
 refine sP (.slice A (M+1) c)<|sP (.int .i64 (((M+1):Nat):Int)) ?_
 obtain ⟨b1,hb1⟩:∃ z:Bool,z=decide ((M+1)<1):=⟨_,rfl⟩
 refine sS (.bool b1) (Quiet.pure (exec_int .lss _ _ _ .i64 _ _ _ rfl rfl rfl (int_lss _ _ _ _ _ (by rw [hb1]; exact decide_eq_decide.2 (by omega))))) ?_
 refine sG ?_
 cases b1
 ·have lb1:¬ ((M+1)<1):=of_decide_eq_false hb1.symm
  refine sU<|Sy.skip<|sB ?_
  refine sP (.slice A (M+1) c)<|sS (.pointer (some ⟨gK,oK+0*1,none⟩)) (Quiet.pure (exec_atO 57 _ _ _ A gK oK (M+1) c 0 1 .i64 (hT (by omega)).1 rfl rfl rfl Tryz.underlying57 kF (by omega)))<|sS (.int .i64 (D 0)) (Quiet.thereOne gK (oK+0*1) 3 _ _ rfl kR (hT (by omega)).2.1 _ (range_one ((hT (by omega)).2.2 0 (by omega)) 0 rfl) Tryz.underlying3 rfl)<|sP (.int .i64 (D 0)) ?_
  refine sG<|Sy.seq<|sC ?_
  refine sP (.int .i64 1) ?_
  refine sG<|Sy.block ?_
  refine Sy.loopK M (λk1=>[(0,.slice A (M+1) c),(3,.int .i64 (mnZ D k1)),(4,.int .i64 ((k1+1:Nat):Int))]) (λk1=>[]) [] (M:=[]) (all_cons kR (all_cons kR (all_cons kR all_nil))) kR rfl (λk1 hk1=>?_)
  refine Sy.seq<|sC ?_
  refine sP (.int .i64 ((k1+1:Nat):Int))<|sP (.slice A (M+1) c)<|sP (.int .i64 (((M+1):Nat):Int)) ?_
  obtain ⟨b2,hb2⟩:∃ z:Bool,z=decide (k1+1<(M+1)):=⟨_,rfl⟩
  refine sS (.bool b2) (Quiet.pure (exec_int .lss _ _ _ .i64 _ _ _ rfl rfl rfl (int_lss _ _ _ _ _ (by rw [hb2]; exact decide_eq_decide.2 (by omega))))) ?_
  refine sG ?_
  cases b2
  ·have lb2:¬ (k1+1<(M+1)):=of_decide_eq_false hb2.symm
   refine sU<|Sy.exit<|Sy.then_exit<|Sy.then_exit ?_
   obtain rfl:M=k1:=by omega
   refine Sy.in_exit<|sB ?_
   refine sP (.int .i64 (mnZ D M))<|sP (.int .i64 (mnZ D M)) ?_
   refine sG<|Sy.ret ?_
   rw [show (.int .i64 (mnZ D M):Value)=.int .i64 (mnZ D M) from rfl]
   exact rV (.int .i64 (mnZ D M)) rfl
  ·have lb2:k1+1<(M+1):=of_decide_eq_true hb2.symm
   refine sT<|Sy.skip<|Sy.then_<|Sy.seq<|Sy.block<|Sy.region ?_
   refine sP (.int .i64 (mnZ D k1))<|sP (.slice A (M+1) c)<|sP (.int .i64 ((k1+1:Nat):Int))<|sS (.pointer (some ⟨gK,oK+(k1+1)*1,none⟩)) (Quiet.pure (exec_atO 57 _ _ _ A gK oK (M+1) c (k1+1) 1 .i64 (hT (by omega)).1 rfl rfl rfl Tryz.underlying57 kF (by omega)))<|sS (.int .i64 (D (k1+1))) (Quiet.thereOne gK (oK+(k1+1)*1) 3 _ _ rfl kR (hT (by omega)).2.1 _ (range_one ((hT (by omega)).2.2 (k1+1) (by omega)) 0 rfl) Tryz.underlying3 rfl)<|sS (.int .i64 (mnZ D (k1+1))) (Quiet.pure (exec_minZ _ _ .i64 (mnZ D k1) (D (k1+1)) (mnZ D (k1+1)) rfl rfl rfl rfl))<|sP (.int .i64 (mnZ D (k1+1))) ?_
   refine Sy.nil<|Sy.in_<|Sy.then_<|Sy.region ?_
   refine sP (.int .i64 ((k1+1:Nat):Int))<|sS (.int .i64 (((k1+1)+1:Nat):Int)) (Quiet.pure (exec_int .add _ _ _ .i64 _ _ _ rfl rfl rfl (int_add _ _ _ _ _ ((wrap_i64 (by omega) (by omega)).trans (by omega)))))<|sP (.int .i64 (((k1+1)+1:Nat):Int)) ?_
   refine Sy.nil ?_
   exact Sy.againK [] (M:=[]) (by omega) (all_cons kR (all_cons kR (all_cons kR all_nil))) kR rfl
 ·have lb1:(M+1)<1:=of_decide_eq_true hb1.symm
  exact absurd lb1 (by omega)
theorem maxZ_any (w:World) (A:Option Addr) (M c:Nat) (D:Nat→Int) (hN:M+1≤4611686018427387904) (hlk:Lst w 1 A (M+1) (λk=>[.int .i64 (D k)])):Calls Tryz.prog 131 #[.slice A (M+1) c] w (Gets w (.int .i64 (mxZ D M))):=by
 obtain ⟨gK,oK,hT⟩:=hlk
 refine Sy.enter (args:=[.slice A (M+1) c]) Tryz.func131 rfl kL ?_
 refine sC ?_
 refine sP (.int .i64 0) ?_
 refine sG<|Sy.seq<|sC ?_
 refine sP (.slice A (M+1) c)<|sP (.int .i64 (((M+1):Nat):Int)) ?_
 obtain ⟨b1,hb1⟩:∃ z:Bool,z=decide ((M+1)<1):=⟨_,rfl⟩
 refine sS (.bool b1) (Quiet.pure (exec_int .lss _ _ _ .i64 _ _ _ rfl rfl rfl (int_lss _ _ _ _ _ (by rw [hb1]; exact decide_eq_decide.2 (by omega))))) ?_
 refine sG ?_
 cases b1
 ·have lb1:¬ ((M+1)<1):=of_decide_eq_false hb1.symm
  refine sU<|Sy.skip<|sB ?_
  refine sP (.slice A (M+1) c)<|sS (.pointer (some ⟨gK,oK+0*1,none⟩)) (Quiet.pure (exec_atO 57 _ _ _ A gK oK (M+1) c 0 1 .i64 (hT (by omega)).1 rfl rfl rfl Tryz.underlying57 kF (by omega)))<|sS (.int .i64 (D 0)) (Quiet.thereOne gK (oK+0*1) 3 _ _ rfl kR (hT (by omega)).2.1 _ (range_one ((hT (by omega)).2.2 0 (by omega)) 0 rfl) Tryz.underlying3 rfl)<|sP (.int .i64 (D 0)) ?_
  refine sG<|Sy.seq<|sC ?_
  refine sP (.int .i64 1) ?_
  refine sG<|Sy.block ?_
  refine Sy.loopK M (λk1=>[(0,.slice A (M+1) c),(3,.int .i64 (mxZ D k1)),(4,.int .i64 ((k1+1:Nat):Int))]) (λk1=>[]) [] (M:=[]) (all_cons kR (all_cons kR (all_cons kR all_nil))) kR rfl (λk1 hk1=>?_)
  refine Sy.seq<|sC ?_
  refine sP (.int .i64 ((k1+1:Nat):Int))<|sP (.slice A (M+1) c)<|sP (.int .i64 (((M+1):Nat):Int)) ?_
  obtain ⟨b2,hb2⟩:∃ z:Bool,z=decide (k1+1<(M+1)):=⟨_,rfl⟩
  refine sS (.bool b2) (Quiet.pure (exec_int .lss _ _ _ .i64 _ _ _ rfl rfl rfl (int_lss _ _ _ _ _ (by rw [hb2]; exact decide_eq_decide.2 (by omega))))) ?_
  refine sG ?_
  cases b2
  ·have lb2:¬ (k1+1<(M+1)):=of_decide_eq_false hb2.symm
   refine sU<|Sy.exit<|Sy.then_exit<|Sy.then_exit ?_
   obtain rfl:M=k1:=by omega
   refine Sy.in_exit<|sB ?_
   refine sP (.int .i64 (mxZ D M))<|sP (.int .i64 (mxZ D M)) ?_
   refine sG<|Sy.ret ?_
   rw [show (.int .i64 (mxZ D M):Value)=.int .i64 (mxZ D M) from rfl]
   exact rV (.int .i64 (mxZ D M)) rfl
  ·have lb2:k1+1<(M+1):=of_decide_eq_true hb2.symm
   refine sT<|Sy.skip<|Sy.then_<|Sy.seq<|Sy.block<|Sy.region ?_
   refine sP (.int .i64 (mxZ D k1))<|sP (.slice A (M+1) c)<|sP (.int .i64 ((k1+1:Nat):Int))<|sS (.pointer (some ⟨gK,oK+(k1+1)*1,none⟩)) (Quiet.pure (exec_atO 57 _ _ _ A gK oK (M+1) c (k1+1) 1 .i64 (hT (by omega)).1 rfl rfl rfl Tryz.underlying57 kF (by omega)))<|sS (.int .i64 (D (k1+1))) (Quiet.thereOne gK (oK+(k1+1)*1) 3 _ _ rfl kR (hT (by omega)).2.1 _ (range_one ((hT (by omega)).2.2 (k1+1) (by omega)) 0 rfl) Tryz.underlying3 rfl)<|sS (.int .i64 (mxZ D (k1+1))) (Quiet.pure (exec_maxZ _ _ .i64 (mxZ D k1) (D (k1+1)) (mxZ D (k1+1)) rfl rfl rfl rfl))<|sP (.int .i64 (mxZ D (k1+1))) ?_
   refine Sy.nil<|Sy.in_<|Sy.then_<|Sy.region ?_
   refine sP (.int .i64 ((k1+1:Nat):Int))<|sS (.int .i64 (((k1+1)+1:Nat):Int)) (Quiet.pure (exec_int .add _ _ _ .i64 _ _ _ rfl rfl rfl (int_add _ _ _ _ _ ((wrap_i64 (by omega) (by omega)).trans (by omega)))))<|sP (.int .i64 (((k1+1)+1:Nat):Int)) ?_
   refine Sy.nil ?_
   exact Sy.againK [] (M:=[]) (by omega) (all_cons kR (all_cons kR (all_cons kR all_nil))) kR rfl
 ·have lb1:(M+1)<1:=of_decide_eq_true hb1.symm
  exact absurd lb1 (by omega)
def szZ (N:Nat) (D:Nat→Int):Bool:=decide (1≤N) && (decide (N≤32) && (decide (mnZ D (N - 1) ≥ 1) && decide (mxZ D (N - 1)≤64)))
theorem szZ_iff (N:Nat) (D:Nat→Int):szZ N D=true↔1≤N∧N≤32∧∀ j,j<N→1≤D j∧D j≤64:=by
 unfold szZ
 simp only [Bool.and_eq_true,decide_eq_true_eq,ge_iff_le,mnZ_ge,mxZ_le]
 exact ⟨λ⟨a,b,c,d⟩=>⟨a,b,λj hj=>⟨c j (by omega),d j (by omega)⟩⟩,λ⟨a,b,c⟩=>⟨a,b,λj hj=>(c j (by omega)).1,λj hj=>(c j (by omega)).2⟩⟩
theorem szZ_1 {N:Nat} {D:Nat→Int} (h:N<1):szZ N D=false:=by unfold szZ; rw [decide_eq_false (by omega:¬ 1≤N)]; rfl
theorem szZ_2 {N:Nat} {D:Nat→Int} (h:N>32):szZ N D=false:=by unfold szZ; rw [decide_eq_false (by omega:¬ N≤32),Bool.false_and,Bool.and_false]
theorem szZ_3 {N:Nat} {D:Nat→Int} (h:¬ (mnZ D (N - 1) ≥ 1)):szZ N D=false:=by unfold szZ; rw [decide_eq_false h,Bool.false_and,Bool.and_false,Bool.and_false]
theorem szZ_4 {N:Nat} {D:Nat→Int} (h1:¬ N<1) (h2:¬ N>32) (h3:mnZ D (N - 1) ≥ 1):szZ N D=decide (mxZ D (N - 1)≤64):=by
 unfold szZ
 rw [decide_eq_true (by omega:1≤N),decide_eq_true (by omega:N≤32),decide_eq_true h3,Bool.true_and,Bool.true_and,Bool.true_and]
theorem minZ_anyN (w:World) (A:Option Addr) (N c:Nat) (D:Nat→Int) (h1:1≤N) (hN:N≤4611686018427387904) (hlk:Lst w 1 A N (λk=>[.int .i64 (D k)])):Calls Tryz.prog 130 #[.slice A N c] w (Gets w (.int .i64 (mnZ D (N - 1)))):=by
 have e:N - 1+1=N:=by omega
 have q:=minZ_any w A (N - 1) c D (by omega) (by rw [e]; exact hlk)
 rwa [e] at q
theorem maxZ_anyN (w:World) (A:Option Addr) (N c:Nat) (D:Nat→Int) (h1:1≤N) (hN:N≤4611686018427387904) (hlk:Lst w 1 A N (λk=>[.int .i64 (D k)])):Calls Tryz.prog 131 #[.slice A N c] w (Gets w (.int .i64 (mxZ D (N - 1)))):=by
 have e:N - 1+1=N:=by omega
 have q:=maxZ_any w A (N - 1) c D (by omega) (by rw [e]; exact hlk)
 rwa [e] at q
theorem allowedZ_any (w:World) (A:Option Addr) (N c:Nat) (D:Nat→Int) (hN:N≤4611686018427387904) (hlk:Lst w 1 A N (λk=>[.int .i64 (D k)])):Calls Tryz.prog 69 #[.slice A N c] w (Gets w (.bool (szZ N D))):=by
 have hlk0:=hlk
 obtain ⟨gK,oK,hT⟩:=hlk
 refine Sy.enter (args:=[.slice A N c]) Tryz.func69 rfl kL ?_
 refine sC ?_
 refine sP (.bool false) ?_
 refine sG<|Sy.seq<|sC ?_
 refine sP (.slice A N c)<|sP (.int .i64 ((N:Nat):Int)) ?_
 obtain ⟨b1,hb1⟩:∃ z:Bool,z=decide (N<1):=⟨_,rfl⟩
 refine sS (.bool b1) (Quiet.pure (exec_int .lss _ _ _ .i64 _ _ _ rfl rfl rfl (int_lss _ _ _ _ _ (by rw [hb1]; exact decide_eq_decide.2 (by omega)))))<|sP (.bool b1) ?_
 cases b1
 ·have lb1:¬ (N<1):=of_decide_eq_false hb1.symm
  refine sP (.slice A N c)<|sP (.int .i64 ((N:Nat):Int)) ?_
  obtain ⟨b2,hb2⟩:∃ z:Bool,z=decide (N>32):=⟨_,rfl⟩
  refine sS (.bool b2) (Quiet.pure (exec_int .gtr _ _ _ .i64 _ _ _ rfl rfl rfl (int_gtr _ _ _ _ _ (by rw [hb2]; exact decide_eq_decide.2 (by omega)))))<|sP (.bool b2) ?_
  refine sG ?_
  cases b2
  ·have lb2:¬ (N>32):=of_decide_eq_false hb2.symm
   refine sU<|Sy.skip<|sB ?_
   refine sP (.slice A N c)<|sS (.int .i64 (mnZ D (N - 1))) (Quiet.callS 130 #[.slice A N c] kF (λw hw=>minZ_anyN w A N c D (by omega) hN (hlk0.below hw.below))) ?_
   obtain ⟨b3,hb3⟩:∃ z:Bool,z=decide ((mnZ D (N - 1)) ≥ 1):=⟨_,rfl⟩
   refine sS (.bool b3) (Quiet.pure (exec_int .geq _ _ _ .i64 _ _ _ rfl rfl rfl (int_geq _ _ _ _ _ hb3.symm)))<|sP (.bool b3) ?_
   cases b3
   ·have lb3:¬ ((mnZ D (N - 1)) ≥ 1):=of_decide_eq_false hb3.symm
    refine sN<|sN<|sN ?_
    refine sP (.bool false)<|sP (.bool false) ?_
    refine sG<|Sy.ret ?_
    rw [show (.bool (szZ N D):Value)=.bool false from by rw [szZ_3 lb3]]
    exact rV (.bool false) rfl
   ·have lb3:(mnZ D (N - 1)) ≥ 1:=of_decide_eq_true hb3.symm
    refine sP (.slice A N c)<|sS (.int .i64 (mxZ D (N - 1))) (Quiet.callS 131 #[.slice A N c] kF (λw hw=>maxZ_anyN w A N c D (by omega) hN (hlk0.below hw.below))) ?_
    obtain ⟨b4,hb4⟩:∃ z:Bool,z=decide ((mxZ D (N - 1))≤64):=⟨_,rfl⟩
    refine sS (.bool b4) (Quiet.pure (exec_int .leq _ _ _ .i64 _ _ _ rfl rfl rfl (int_leq _ _ _ _ _ hb4.symm)))<|sP (.bool b4)<|sP (.bool b4) ?_
    refine sG<|Sy.ret ?_
    rw [show (.bool (szZ N D):Value)=.bool b4 from by rw [szZ_4 lb1 lb2 lb3, ← hb4]]
    exact rV (.bool b4) rfl
  ·have lb2:N>32:=of_decide_eq_true hb2.symm
   refine sT<|sC ?_
   refine sP (.bool false) ?_
   refine sG<|Sy.ret<|Sy.then_ret ?_
   rw [show (.bool (szZ N D):Value)=.bool false from by rw [szZ_2 lb2]]
   exact rV (.bool false) rfl
 ·have lb1:N<1:=of_decide_eq_true hb1.symm
  refine sN<|sN<|sN ?_
  refine sP (.bool true) ?_
  refine sG<|sT<|sC ?_
  refine sP (.bool false) ?_
  refine sG<|Sy.ret<|Sy.then_ret ?_
  rw [show (.bool (szZ N D):Value)=.bool false from by rw [szZ_1 lb1]]
  exact rV (.bool false) rfl
end Cu
end
section
namespace Sy
open Go.RowKit
section
variable {P:Program} {w0 fz0:World} {n:Nat} {Q:Exit→Act→World→Prop} {F:Slots} {L:Blocks}
def BPY {α Y:Type} (w0 fz:World) (l:Nat) (HI:List α→Y→Prop) (LL:List α→Y→Blocks) (XR:List α→Y→Blocks) (HX:List α→Y→Prop) (pre:List α):Exit→Act→World→Prop
 | .normal,_,w=>∃ y,HI pre y∧St (rb w0 fz l) w (LL pre y)
 | .ret,_,w=>∃ y,HX pre y∧St (rb w0 fz l) w (XR pre y)
 | _,_,_=>False
def APY (w0 fz:World) (l n:Nat) (FA:Slots) (LP:Blocks):Exit→Act→World→Prop
 | .normal,a,w=>Fr [] a n FA∧St (rb w0 fz l) w LP
 | _,_,_=>False
theorem rangeY {α Y:Type} {g:Operand} {ps:Array Tmp} {assign body:Code} (gf:Nat) (lb:Array Value) (hgi:inF F g=true) (hg:evF F g=.func (.func gf) #[] lb) (eg:∀ args w,(callFunc gf args).run P w=.ok (.enter gf args) w)
  (encs:α→Array Value) (kl:Blocks) (S Sp:List α→Prop) (N:Nat) (hps:∀ x,(encs x).size=ps.size) (hpn:∀ p∈ps.toList,p<n)
  (HI:List α→Y→Prop) (LL XR:List α→Y→Blocks) (HX:List α→Y→Prop) (y0:Y) (hI0:HI [] y0) (h0:∀ w,St ⟨w0,fz0,[],Fence.wide,9⟩ w L→St ⟨w0,fz0,[],Fence.wide,9⟩ w (LL [] y0))
  (hseq:∀ w,St ⟨w0,fz0,[],Fence.wide,9⟩ w L→∃ wk,Below wk.heap.size wk w∧SeqStopsK Fence.wide 8 P gf lb encs (KpL w0.heap.size kl) S Sp N wk)
  (hkl:∀ p∈kl, ∀ pre y,p∈LL pre y) (FA:α→Slots)
  (hassign:∀ l fz pre y x,wpC P (rb w0 fz l) n (APY w0 fz l n (FA x) (LL pre y)) (roundF F ps (encs x)) (LL pre y) assign)
  (hbody:∀ l fz pre y x,pre.length<N→HI pre y→wpC P (rb w0 fz l) n (BPY w0 fz l HI LL XR HX (pre++[x])) (FA x) (LL pre y) body)
  (hdone:∀ D fz xs y,S xs→HI xs y→w0.heap.size≤D→fz.heap[D]? = some (.deferred (some []))→X (ab w0 fz D) n Q F (LL xs y) .normal)
  (hstop:∀ D fz pre y,Sp pre→HX pre y→w0.heap.size≤D→fz.heap[D]? = some (.deferred (some []))→X (ab w0 fz D) n Q F (XR pre y) .ret) :
  wpC P ⟨w0,fz0,[],Fence.wide,9⟩ n Q F L (.rangeFunc g ps assign body):=by
 intro a w ha hw
 obtain ⟨wk,hbk,hsq⟩:=hseq w hw
 have hsz:fz0.heap.size≤w.heap.size:=hw.size
 have hsz0:w0.heap.size≤w.heap.size:=hw.below.size
 have had:a.defers=[]:=ha.1
 have hK:∀ {W W':World} {L0 L1:Blocks} {pre':List α} {y':Y} {l:Nat},St ⟨w0,fz0,[],Fence.wide,9⟩ W L0→St (rb w0 W l) W' L1→(LL pre' y').Sublist L1→KpL w0.heap.size kl W W':=λ{W W' L0 L1 pre' y' l} h1 h2 hs =>
  ⟨h1.between h2,λp hp _=>by
   exact (h2.blk _ _ _ (hs.subset (hkl p hp pre' y'))).2⟩
 have hKX:∀ {W W':World} {L0 L1:Blocks} {l:Nat},St ⟨w0,fz0,[],Fence.wide,9⟩ W L0→St (rb w0 W l) W' L1→(∀ p∈kl,p∈L1)→KpL w0.heap.size kl W W':=λ{W W' L0 L1 l} h1 h2 hs =>
  ⟨h1.between h2,λp hp _=>by
   exact (h2.blk _ _ _ (hs p hp)).2⟩
 refine wpIn_rangeFunc_ownH (F:=Fence.wide) (n:=9) rfl (by omega) (gf:=gf) (lb:=lb) ((ha.eval hgi).trans hg) trivial eg (encs:=encs) (Kp:=KpL w0.heap.size kl) (S:=S) (Sp:=Sp) (N:=N) (w0:=wk) hsq KpL.trans
  (λW l o o' hl ho hc _=>KpL.put (by omega) ho hc) hbk hps
  (λpre W=>∃ y,HI pre y∧St ⟨w0,fz0,[],Fence.wide,9⟩ W (LL pre y)) (λc pre W=>c=.ret∧∃ y,HX pre y∧St ⟨w0,fz0,[],Fence.wide,9⟩ W (XR pre y))
  (λpre X Y row ⟨y,hi,hs⟩ hg hr=>⟨y,hi,St.own hs hsz hsz0 hg hr⟩) (λc pre X Y row ⟨hc,y,hi,hs⟩ hg hr=>⟨hc,y,hi,St.own hs hsz hsz0 hg hr⟩) ⟨y0,hI0,h0 w hw⟩
  (λx a' W=>Fr [] a' n (FA x))
  (λx a' _ X Y row hs hg hr=>hs) ?_ ?_ ?_ ?_
 ·-- the loop variables
  intro l pre x W K ⟨y,hH,hI⟩ hk
  have hfr:Fr [] { tmps:=(ps.zip (encs x)).foldl (λt (p,v)=>t.setIfInBounds p v) a.tmps,defers:=[] } n (roundF F ps (encs x)):=by
   have h1:Fr [] { tmps:=a.tmps,defers:=[] } n F:=⟨rfl,ha.2.1,ha.2.2⟩
   have h2:=Fr.round (ps.toList.zip (encs x).toList) (λy hy=>hpn y.1 (List.of_mem_zip hy).1) h1
   have e:(ps.zip (encs x)).foldl (λt (p,v)=>t.setIfInBounds p v) a.tmps=(ps.toList.zip (encs x).toList).foldl (λt x=>t.setIfInBounds x.1 x.2) a.tmps:=by
    rw [← Array.foldl_toList,Array.toList_zip]
   rw [e]
   exact h2
  refine wpIn_mono (hassign l W pre y x _ W hfr (hI.refix _ _ _)) λe a' W' hq=>?_
  cases e with
  | normal =>
   obtain ⟨h1,h2⟩:=hq
   exact hk a' W' (hI.keeps h2 hsz0) (hK hI h2 (List.Sublist.refl _)) ⟨y,hH,hI.back h2 _ _ _⟩ h1
  | _=>exact hq.elim
 ·-- the body
  intro l pre x a' W hl _ ⟨y,hH,hI⟩ h1 hlen
  refine wpIn_mono (hbody l W pre y x hlen hH a' W h1 (hI.refix _ _ _)) λe a3 W3 hq=>?_
  cases e with
  | normal =>
   obtain ⟨y',hH',hs'⟩:=hq
   exact ⟨hI.keeps hs' hsz0,hK hI hs' (List.Sublist.refl _),y',hH',hI.back hs' _ _ _⟩
  | ret =>
   obtain ⟨y',hH',hs'⟩:=hq
   exact ⟨hI.keeps hs' hsz0,rfl,y',hH',hI.back hs' _ _ _⟩
  | _=>exact hq.elim
 ·intro D xs W hD hS ⟨y,hH,hI⟩ hd
  exact hdone D W xs y hS hH (Nat.le_trans hsz0 hD) hd _ W ⟨by simp [had],ha.2.1,ha.2.2⟩ (hI.refix _ _ _)
 ·rintro D c pre W hD hS ⟨rfl,y,hx,hI⟩ hd
  exact wpIn_ret (hstop D W pre y hS hx (Nat.le_trans hsz0 hD) hd _ W ⟨by simp [had],ha.2.1,ha.2.2⟩ (hI.refix _ _ _))
theorem bpY {α Y:Type} {l:Nat} {HI:List α→Y→Prop} {LL XR:List α→Y→Blocks} {HX:List α→Y→Prop} {pre:List α} (y:Y) (hi:HI pre y) (hL:∀ w,St (rb w0 fz0 l) w L→St (rb w0 fz0 l) w (LL pre y)):X (rb w0 fz0 l) n (BPY w0 fz0 l HI LL XR HX pre) F L .normal:=λ_ w _ hw=>⟨y,hi,hL w hw⟩
theorem bpYR {α Y:Type} {l:Nat} {HI:List α→Y→Prop} {LL XR:List α→Y→Blocks} {HX:List α→Y→Prop} {pre:List α} (y:Y) (hi:HX pre y) (hL:∀ w,St (rb w0 fz0 l) w L→St (rb w0 fz0 l) w (XR pre y)):X (rb w0 fz0 l) n (BPY w0 fz0 l HI LL XR HX pre) F L .ret:=λ_ w _ hw=>⟨y,hi,hL w hw⟩
theorem apY {l:Nat} {FA:Slots} {LP:Blocks} (hF:∀ p∈FA,F.lookup p.1=some p.2) (hL:∀ w,St (rb w0 fz0 l) w L→St (rb w0 fz0 l) w LP):X (rb w0 fz0 l) n (APY w0 fz0 l n FA LP) F L .normal:=λ_ w ha hw=>⟨ha.all hF,hL w hw⟩
theorem retMG2 {w1 fz:World} {D:Nat} {fn:Func} {r s:ResultVar} {v u:Value} {R:Value→Blocks→Prop} (M:Blocks) (hr:fn.results=#[r,s]) (h:Has P F L r v) (k:Has P F L s u) (hM:∀ w,St (Base.of w1) w L→St (Base.of w1) w M) (hR:R (.tuple #[v,u]) M) (hD:w1.heap.size≤D) (hm:fz.heap[D]? = some (.deferred (some []))):X (ab w1 fz D) n (bodyPostM Fence.wide 9 P fn (GetsN w1 R)) F L .ret:=λa w ha hw=>by
 obtain ⟨e1,e2⟩:=St.unmark (P:=P) hw hD hm
 have hd:a.defers=[mark D]:=ha.1
 show LeavesInM Fence.wide 9 P fn a.tmps (GetsN w1 R) a.defers .returning w
 rw [hd]
 refine ⟨by simp,.inl ⟨D,_,rfl,e1,?_⟩⟩
 refine ⟨.tuple #[v,u],?_,_,M,rfl,hR,e2.below,λg t cs hm=>(hM _ e2).blk g t cs hm,(hM _ e2).apart⟩
 rcases Res.run h ha e2 with ⟨t,rfl,f1⟩ | ⟨t,ty,ad,rfl,f1,f2⟩ <;> rcases Res.run k ha e2 with ⟨t',rfl,g1⟩ | ⟨t',ty',ad',rfl,g1,g2⟩ <;> simp [results,Result.andThen, *]
theorem hasC {t:Tmp} {ty:TypeId} {v:Value} {d:TypeDesc} (g i:Nat) (cs:Array Value) (h3:P.underlying ty=some d) (h1:F.lookup t=some (.pointer (some ⟨g,0,none⟩)):=by kernel_rfl) (h2:L[i]? = some (g,ty,cs):=by kernel_rfl) (h4:d.isRow=false:=by rfl) (h5:cs[0]? = some v:=by kernel_rfl):Has P F L (.cell t ty) v:=.inr ⟨t,ty,rfl,g,i,ty,cs,d,h1,h2,h3,h4,h5⟩
end
end Sy
end
section
namespace Cu
open Go.RowKit Sy
set_option maxRecDepth 100000
set_option maxHeartbeats 4000000
def chVB (b off m c:Nat):Value:=.slice (some ⟨b,off+32*c*1,none⟩) (szC m c) (szC m c)
def chEB (b off m:Nat) {N:Nat} (x:Fin N):Array Value:=#[chVB b off m x.val]
set_option maxHeartbeats 1000000 in
theorem chunkB_any (w : World) (A : Option Addr) (m cap : Nat) :
    Calls Tryz.prog 132 #[.slice A m cap,.int .i64 32] w (GetsN w λv M=>∃ g1 g2,v=.func (.func 185) #[] #[.pointer (some ⟨g1,0,none⟩),.pointer (some ⟨g2,0,none⟩)]∧M=[(g1,24,#[.slice A m cap]),(g2,3,#[.int .i64 32])]):=by
  go_enter Tryz.func132,Tryz.ntmps132
  go_wp2
  go_ret
  refine ⟨_,_,rfl,⟨_,_,rfl,rfl⟩,below_alloc2 w _ _,λg t cs hm=>?_,?_⟩
  · simp only [List.mem_cons,List.not_mem_nil,or_false,Prod.mk.injEq] at hm
    rcases hm with ⟨rfl,rfl,rfl⟩ | ⟨rfl,rfl,rfl⟩
    · exact ⟨Nat.le_refl _,(Blk.new w _ _).alloc _⟩
    · exact ⟨by omega,blk_new2 w _ _ _⟩
  · simp
theorem chunkB1_in (n l Bs Bn n₀ b off m cap N : Nat) (hN0 : N = (m + 31) / 32) (hm : m ≤ cap) (hm2 : m ≤ 4611686018427387904) (J Jx : List (Fin N) → World → Prop) (W : World) (hJ : AbidesFrom W.heap.size J) (hJx : AbidesFrom W.heap.size Jx)
    (hY:∀ pre x W1,J pre W1→pre.length<N→YieldAt Fence.wide (n - 1) Tryz.prog l (chEB b off m x) W1 λe W'=>(e=.returned (.bool true)∧J (pre++[x]) W'∧KpL n₀ [(Bs,24,#[.slice (some ⟨b,off,none⟩) m cap]),(Bn,3,#[.int .i64 32])] W1 W')∨(e=.returned (.bool false)∧Jx (pre++[x]) W'))
    (hS:Blk W Bs 24 #[.slice (some ⟨b,off,none⟩) m cap]) (hN:Blk W Bn 3 #[.int .i64 32]) (h0:J [] W) :
    CallsIn Fence.wide n Tryz.prog 185 #[.func (.yield l) #[] #[],.pointer (some ⟨Bs,0,none⟩),.pointer (some ⟨Bn,0,none⟩)] W λe W'=>(∃ v,e=.returned v)∧((∃ ys:List (Fin N),ys.map (·.1)=List.range N∧J ys W')∨(∃ pre:List (Fin N),(∃ k,k≤N∧pre.map (·.1)=List.range k)∧Jx pre W')):=by
  refine Sy.enterP (args:=[.func (.yield l) #[] #[],.pointer (some ⟨Bs,0,none⟩),.pointer (some ⟨Bn,0,none⟩)]) Tryz.func185 rfl kL ?_
  refine sC ?_
  refine sP (.int .i64 0) ?_
  refine sG<|Sy.block ?_
  refine Sy.loopP N (λk1=>[(0,.func (.yield l) #[] #[]),(1,.pointer (some ⟨Bs,0,none⟩)),(2,.pointer (some ⟨Bn,0,none⟩)),(4,.int .i64 ((32*k1:Nat):Int))]) (λk1 w=>∃ pre:List (Fin N),pre.map (·.1)=List.range k1∧J pre w∧Blk w Bs 24 #[.slice (some ⟨b,off,none⟩) m cap]∧Blk w Bn 3 #[.int .i64 32]) (all_cons kR (all_cons kR (all_cons kR (all_cons kR all_nil)))) (λw hg=>⟨[],rfl,abides_gr hJ h0 hg,hg.blk hS,hg.blk hN⟩) (λk1 wr hk1 hz=>?_)
  clear hS hN
  obtain ⟨pre,hpre,hj,hS,hN⟩:=hz
  have hlen:pre.length=k1:=by have:=congrArg List.length hpre; rwa [List.length_map,List.length_range] at this
  refine Sy.seq<|sC ?_
  refine sP (.int .i64 ((32*k1:Nat):Int))<|sS (.slice (some ⟨b,off,none⟩) m cap) (Quiet.thereOne Bs 0 24 _ _ rfl kR hS.lt _ (hS.cell 0) Tryz.underlying24 rfl)<|sP (.int .i64 ((m:Nat):Int)) ?_
  obtain ⟨b1,hb1⟩:∃ z:Bool,z=decide (32*k1<m):=⟨_,rfl⟩
  refine sS (.bool b1) (Quiet.pure (exec_int .lss _ _ _ .i64 _ _ _ rfl rfl rfl (int_lss _ _ _ _ _ (by rw [hb1]; exact decide_eq_decide.2 (by omega))))) ?_
  refine sG ?_
  cases b1
  · have lb1:¬ (32*k1<m):=of_decide_eq_false hb1.symm
    refine sU<|Sy.exit<|Sy.then_exit<|Sy.then_exit ?_
    obtain rfl:N=k1:=by omega
    refine Sy.in_exit ?_
    exact Sy.retP rfl (λv w3 hg=>⟨⟨_,rfl⟩,.inl ⟨pre,hpre,abides_gr hJ hj hg⟩⟩) (.inr rfl)
  · have lb1 : 32 * k1 < m := of_decide_eq_true hb1.symm
    refine sT<|Sy.skip<|Sy.then_<|Sy.seq<|Sy.block<|Sy.seq ?_
    refine Sy.regionD (λj=>false) kR ?_
    refine sD 0 rfl (.int .i64 ((32:Nat):Int)) (Quiet.thereOne Bn 0 3 _ _ rfl kR hN.lt _ (hN.cell 0) Tryz.underlying3 rfl)<|sD 1 rfl (.slice (some ⟨b,off,none⟩) m cap) (Quiet.thereOne Bs 0 24 _ _ rfl kR hS.lt _ (hS.cell 0) Tryz.underlying24 rfl)<|sZ 2 rfl (.int .i64 ((32*k1:Nat):Int))<|sD 3 rfl (.slice (some ⟨b,off+(32*k1)*1,none⟩) (m - (32*k1)) (cap - (32*k1))) (Quiet.pure (exec_sl1 _ _ _ b off m cap (32*k1) 1 .i64 rfl rfl rfl kR kF (by omega) (by omega)))<|sZ 4 rfl (.int .i64 (((m - (32*k1)):Nat):Int)) ?_
    obtain ⟨sz,hsz⟩:∃ z,z=szC m k1:=⟨_,rfl⟩
    have hs:0<sz∧32*k1+sz≤m:=by rw [hsz]; unfold szC; omega
    refine sD 5 rfl (.int .i64 ((sz:Nat):Int)) (Quiet.pure (exec_min _ _ .i64 32 (m - (32*k1)) sz rfl rfl rfl (by rw [hsz]; unfold szC; omega)))<|sZ 6 rfl (.int .i64 ((sz:Nat):Int)) ?_
    refine sI ?_
    refine Sy.seq ?_
    have hx:k1<N:=by omega
    refine Sy.regionY 10 (by rintro ⟨_,_,⟨_,hv⟩,_⟩; cases hv) kR ?_
    refine sP (.func (.yield l) #[] #[])<|sS (.slice (some ⟨b,off,none⟩) m cap) (Quiet.thereOne Bs 0 24 _ _ rfl kR hS.lt _ (hS.cell 0) Tryz.underlying24 rfl)<|sP (.int .i64 ((32*k1:Nat):Int))<|sP (.int .i64 ((32*k1:Nat):Int))<|sP (.int .i64 ((sz:Nat):Int))<|sS (.int .i64 (((32*k1)+sz:Nat):Int)) (Quiet.pure (exec_int .add _ _ _ .i64 _ _ _ rfl rfl rfl (int_add _ _ _ _ _ ((wrap_i64 (by omega) (by omega)).trans (by omega)))))<|sP (.int .i64 ((32*k1:Nat):Int))<|sP (.int .i64 ((sz:Nat):Int)) ?_
    refine sS (.int .i64 (((32*k1)+sz:Nat):Int)) (Quiet.pure (exec_int .add _ _ _ .i64 _ _ _ rfl rfl rfl (int_add _ _ _ _ _ ((wrap_i64 (by omega) (by omega)).trans (by omega)))))<|sS (.slice (some ⟨b,off+(32*k1)*1,none⟩) (((32*k1)+sz) - (32*k1)) (((32*k1)+sz) - (32*k1))) (Quiet.pure (exec_sl3 _ _ _ _ _ b off m cap (32*k1) ((32*k1)+sz) ((32*k1)+sz) 1 .i64 .i64 .i64 rfl rfl rfl rfl rfl kR kF (by have:=hs; omega) (by have:=hs; omega) (by have:=hs; omega) (by have:=hs; omega))) ?_
    refine Sy.nil ?_
    refine Sy.yieldX (ro := none) rfl (by rintro ⟨_, _, ⟨_, hv⟩, _⟩; cases hv) kR kR l #[.slice (some ⟨b, off + (32 * k1) * 1, none⟩) (((32 * k1) + sz) - (32 * k1)) (((32 * k1) + sz) - (32 * k1))] kF (fun e W' => (e = .returned (.bool true) ∧ J (pre ++ [⟨k1, hx⟩]) W' ∧ Blk W' Bs 24 #[.slice (some ⟨b, off, none⟩) m cap] ∧ Blk W' Bn 3 #[.int .i64 32]) ∨ (e = .returned (.bool false) ∧ Jx (pre ++ [⟨k1, hx⟩]) W')) (fun w hg => by
            have e:chEB b off m ⟨k1,hx⟩=#[.slice (some ⟨b,off+32*k1*1,none⟩) (32*k1+sz - 32*k1) (32*k1+sz - 32*k1)]:=by unfold chEB chVB; rw [← hsz,Nat.add_sub_cancel_left]
            have y:=hY pre ⟨k1,hx⟩ w (abides_gr hJ hj hg) (by omega)
            rw [e] at y
            exact yield_mono y (λe w' q=>q.imp (λq=>⟨q.1,q.2.1,q.2.2.2 (Bs,24,_) (by simp) (hg.blk hS),q.2.2.2 (Bn,3,_) (by simp) (hg.blk hN)⟩) id)) (λe w' q=>q.elim (λq=>⟨_,q.1⟩) (λq=>⟨_,q.1⟩)) rfl (λw2 b hr=>?_)
    cases b
    · have hx2:=hr.elim (λq=>by cases q.1) (λq=>q.2)
      refine sP (.bool true) ?_
      refine sG<|sT<|Sy.ret<|Sy.in_ret<|Sy.then_ret<|Sy.then_ret<|Sy.in_ret ?_
      exact Sy.retP rfl (λv w3 hg=>⟨⟨_,rfl⟩,.inr ⟨pre++[⟨k1,hx⟩],⟨k1+1,by omega,by rw [List.map_append,hpre,List.range_succ]; rfl⟩,abides_gr hJx hx2 hg⟩⟩) (.inl rfl)
    · clear hS hN hj
      obtain ⟨hj,hS,hN⟩:=hr.elim (λq=>q.2) (λq=>by cases q.1)
      refine sP (.bool false) ?_
      refine sG<|sU<|Sy.skip<|Sy.in_<|Sy.then_<|Sy.region ?_
      refine sP (.int .i64 ((32*k1:Nat):Int))<|sS (.int .i64 ((32:Nat):Int)) (Quiet.thereOne Bn 0 3 _ _ rfl kR hN.lt _ (hN.cell 0) Tryz.underlying3 rfl)<|sS (.int .i64 (((32*k1)+32:Nat):Int)) (Quiet.pure (exec_int .add _ _ _ .i64 _ _ _ rfl rfl rfl (int_add _ _ _ _ _ ((wrap_i64 (by omega) (by omega)).trans (by omega)))))<|sP (.int .i64 (((32*k1)+32:Nat):Int)) ?_
      refine Sy.nil ?_
      exact Sy.againP (by omega) (all_cons kR (all_cons kR (all_cons kR (all_cons kR all_nil)))) (λw3 hg=>⟨pre++[⟨k1,hx⟩],by rw [List.map_append,hpre,List.range_succ]; rfl,abides_gr hJ hj hg,hg.blk hS,hg.blk hN⟩)
theorem chunkB0_in (n l Bs Bn cap : Nat) (A : Option Addr) (J Jx : List (Fin 0) → World → Prop) (W : World) (hJ : AbidesFrom W.heap.size J)
    (hS:Blk W Bs 24 #[.slice A 0 cap]) (hN:Blk W Bn 3 #[.int .i64 32]) (h0:J [] W) :
    CallsIn Fence.wide n Tryz.prog 185 #[.func (.yield l) #[] #[],.pointer (some ⟨Bs,0,none⟩),.pointer (some ⟨Bn,0,none⟩)] W λe W'=>(∃ v,e=.returned v)∧((∃ ys:List (Fin 0),ys.map (·.1)=List.range 0∧J ys W')∨(∃ pre:List (Fin 0),(∃ k,k≤0∧pre.map (·.1)=List.range k)∧Jx pre W')):=by
  refine Sy.enterP (args:=[.func (.yield l) #[] #[],.pointer (some ⟨Bs,0,none⟩),.pointer (some ⟨Bn,0,none⟩)]) Tryz.func185 rfl kL ?_
  refine sC ?_
  refine sP (.int .i64 0) ?_
  refine sG<|Sy.block ?_
  refine Sy.loopP 0 (λk1=>[(0,.func (.yield l) #[] #[]),(1,.pointer (some ⟨Bs,0,none⟩)),(2,.pointer (some ⟨Bn,0,none⟩)),(4,.int .i64 ((32*k1:Nat):Int))]) (λk1 w=>J [] w∧Blk w Bs 24 #[.slice A 0 cap]∧Blk w Bn 3 #[.int .i64 32]) (all_cons kR (all_cons kR (all_cons kR (all_cons kR all_nil)))) (λw hg=>⟨abides_gr hJ h0 hg,hg.blk hS,hg.blk hN⟩) (λk1 wr hk1 hz=>?_)
  clear hS hN
  obtain ⟨hj,hS,hN⟩:=hz
  refine Sy.seq<|sC ?_
  refine sP (.int .i64 ((32*k1:Nat):Int))<|sS (.slice A 0 cap) (Quiet.thereOne Bs 0 24 _ _ rfl kR hS.lt _ (hS.cell 0) Tryz.underlying24 rfl)<|sP (.int .i64 ((0:Nat):Int)) ?_
  obtain ⟨b1,hb1⟩:∃ z:Bool,z=decide (32*k1<0):=⟨_,rfl⟩
  refine sS (.bool b1) (Quiet.pure (exec_int .lss _ _ _ .i64 _ _ _ rfl rfl rfl (int_lss _ _ _ _ _ (by rw [hb1]; exact decide_eq_decide.2 (by omega))))) ?_
  refine sG ?_
  cases b1
  · have lb1:¬ (32*k1<0):=of_decide_eq_false hb1.symm
    refine sU<|Sy.exit<|Sy.then_exit<|Sy.then_exit ?_
    obtain rfl:k1=0:=by omega
    refine Sy.in_exit ?_
    exact Sy.retP rfl (λv w3 hg=>⟨⟨_,rfl⟩,.inl ⟨[],rfl,abides_gr hJ hj hg⟩⟩) (.inr rfl)
  · have lb1:32*k1<0:=of_decide_eq_true hb1.symm
    refine sT<|Sy.skip<|Sy.then_<|Sy.seq ?_
    exact absurd lb1 (by omega)
theorem chunkB_stops (n Bs Bn n₀ b off m cap N : Nat) (A : Option Addr) (hN0 : N = (m + 31) / 32) (hm : m ≤ cap) (hm2 : m ≤ 4611686018427387904) (hA : 0 < m → A = some ⟨b, off, none⟩) (w : World) (hS : Blk w Bs 24 #[.slice A m cap]) (hN : Blk w Bn 3 #[.int .i64 32]) :
    SeqStopsK Fence.wide n Tryz.prog 185 #[.pointer (some ⟨Bs,0,none⟩),.pointer (some ⟨Bn,0,none⟩)] (chEB b off m (N:=N)) (KpL n₀ [(Bs,24,#[.slice A m cap]),(Bn,3,#[.int .i64 32])]) (λys=>ys.map (·.1)=List.range N) (λpre=>∃ k,k≤N∧pre.map (·.1)=List.range k) N w:=λl J Jx W hW hJ hJx hY h0=>by
  have hS':=hS.below hW hS.lt
  have hN':=hN.below hW hN.lt
  rcases Nat.eq_zero_or_pos m with h | h
  · subst h
    obtain rfl:N=0:=hN0
    exact chunkB0_in n l Bs Bn cap A J Jx W hJ hS' hN' h0
  · obtain rfl:=hA h
    exact chunkB1_in n l Bs Bn n₀ b off m cap N hN0 hm hm2 J Jx W hJ hJx hY hS' hN' h0
end Cu
end
section
namespace Cu
open Go.RowKit Sy
set_option maxRecDepth 100000
set_option maxHeartbeats 4000000
def b32 (m:List UInt8) (k:Nat):List UInt8:=(m.drop (32*k)).take 32
def nmB (m:List UInt8) (k:Nat):Nat:=valB (b32 m k)
theorem b32_len {m:List UInt8} {D k:Nat} (h:m.length=32*D) (hk:k<D):(b32 m k).length=32:=by
 unfold b32
 rw [List.length_take,List.length_drop]
 omega
def nmsB (m:List UInt8) (D:Nat):Bool:=(List.range D).all λj=>decide (nmB m j<Sc.pM)
theorem nms_yes {m:List UInt8} {D:Nat} (h:∀ j,j<D→nmB m j<Sc.pM):nmsB m D=true:=List.all_eq_true.2 λj hj=>decide_eq_true (h j (List.mem_range.1 hj))
theorem nms_no {m:List UInt8} {D j:Nat} (hj:j<D) (h:¬ nmB m j<Sc.pM):nmsB m D=false:=List.all_eq_false.2 ⟨j,List.mem_range.2 hj,by rw [decide_eq_false h]; decide⟩
def ScsR (b:Bool) (f:Nat→Nat) (D:Nat) (v:Value) (M:Blocks):Prop:=(b=false∧v=.tuple #[.slice none 0 0,.bool false]∧M=[])∨(b=true∧∃ y:Slc,v=.tuple #[y.v,.bool true]∧M=y.bl∧y.Is 42 4 ((List.range D).map λj=>fws (f j)))
theorem src_b32 {w:World} {g o D k:Nat} {m:List UInt8} (hm:m.length=32*D) (hk:k<D) (hs:Sh.Src w (some ⟨g,o,none⟩) m):g<w.heap.size∧w.rangeAt g (o+32*k*1) ((b32 m k).map bv):=by
 have hne:m≠[]:=λe=>by rw [e] at hm; simp at hm; omega
 obtain ⟨b,o',e,h2,h3⟩:=hs hne
 cases e
 refine ⟨h2,λj v hj=>?_⟩
 rw [List.getElem?_map] at hj
 cases hx:(b32 m k)[j]? with
 | none=>rw [hx] at hj; cases hj
 | some u =>
  rw [hx] at hj
  injection hj with hj
  rw [← hj]
  have hl:=(List.getElem?_eq_some_iff.1 hx).1
  rw [b32_len hm hk] at hl
  unfold b32 at hx
  rw [List.getElem?_take_of_lt hl,List.getElem?_drop] at hx
  have:=h3 _ u hx
  rw [show o+32*k*1+j=o+(32*k+j) by omega]
  exact this
theorem scalars_any (w:World) (g o D c:Nat) (m:List UInt8) (hm:m.length=32*D) (h1:1≤D) (hD:D≤1000000) (hc:32*D≤c) (hc2:c≤9223372036854775807) (hs:Sh.Src w (some ⟨g,o,none⟩) m):Calls Tryz.prog 71 #[.slice (some ⟨g,o,none⟩) (32*D) c] w (GetsN w (ScsR (nmsB m D) (nmB m) D)):=by
 refine Sy.enterM (args:=[.slice (some ⟨g,o,none⟩) (32*D) c]) Tryz.func71 rfl kL ?_
 refine sC ?_
 refine sM 51 #[.slice none 0 0] (λg0=>?_)
 refine sM 4 #[.bool false] (λg1=>?_)
 refine sG<|sC ?_
 refine sM 51 #[.slice none 0 0] (λg2=>?_)
 refine sG<|Sy.seq<|sC ?_
 refine sP (.slice (some ⟨g,o,none⟩) (32*D) c) ?_
 refine Sy.callN kR 132 #[.slice (some ⟨g,o,none⟩) (32*D) c,.int .i64 32] kF _ (λw _=>chunkB_any w _ _ _) (λv M hR0=>?_)
 obtain ⟨u1,u2,rfl,rfl⟩:=hR0
 refine sG<|Sy.block ?_
 have hg:g<w.heap.size:=(src_b32 hm h1 hs).1
 refine Sy.rangeY (α:=Fin D) (Y:=Slc) 185 #[.pointer (some ⟨u1,0,none⟩),.pointer (some ⟨u2,0,none⟩)] kR kR (enters_of Tryz.func185 kR rfl) (chEB g o (32*D)) [(u1,24,#[.slice (some ⟨g,o,none⟩) (32*D) c]),(u2,3,#[.int .i64 32])] (λys=>ys.map (·.1)=List.range D) (λpre=>∃ k,k≤D∧pre.map (·.1)=List.range k) D (λ_=>rfl) (by decide)
  (λpre y=>y.Is 42 4 (pre.map λx=>fws (nmB m x.val))∧pre.length≤D∧∀ x∈pre,nmB m x.val<Sc.pM)
  (λ_ y=>[(g0,51,#[.slice none 0 0]),(g1,4,#[.bool false]),(g2,51,#[y.v]),(u1,24,#[.slice (some ⟨g,o,none⟩) (32*D) c]),(u2,3,#[.int .i64 32])]++(y.bl++[]))
  (λ_ _=>[(g0,51,#[.slice none 0 0]),(g1,4,#[.bool false]),(u1,24,#[.slice (some ⟨g,o,none⟩) (32*D) c]),(u2,3,#[.int .i64 32])]++[])
  (λpre _=>∃ x∈pre, ¬ nmB m x.val<Sc.pM) nilS ⟨Slc.Is.nil _ _,Nat.zero_le _,λx hx=>by cases hx⟩ (λw hw=>hw) (λw hw=>?_) (λp hp pre y=>?_) (λx=>[(2,ptr g0),(3,ptr g1),(4,ptr g2),(5,chVB g o (32*D) x.val)]) ?_ ?_ ?_ ?_
 ·exact ⟨w,Below.refl _ _,chunkB_stops 8 u1 u2 _ g o (32*D) c D _ (by omega) hc (by omega) (λ_=>rfl) w (hw.get (i:=3) rfl) (hw.get (i:=4) rfl)⟩
 ·simp only [List.mem_cons,List.not_mem_nil,or_false] at hp
  rcases hp with rfl | rfl <;> simp
 ·intro l fz pre y x
  refine Sy.regionR (by rintro ⟨_,_,h⟩; exact h) kR ⟨_,rfl⟩ ?_
  refine sP (chVB g o (32*D) x.val) ?_
  refine Sy.nil ?_
  exact Sy.apY (all_cons kR (all_cons kR (all_cons kR (all_cons kR all_nil)))) (λw hw=>hw)
 ·intro l fz pre y x hlen ⟨hy,hpl,hok⟩
  have hxN:=x.isLt
  have hz:szC (32*D) x.val=32:=by unfold szC; omega
  obtain ⟨bl,hbl⟩:∃ l,l=b32 m x.val:=⟨_,rfl⟩
  have hl32:bl.length=32:=by rw [hbl]; exact b32_len hm hxN
  obtain ⟨kx,hkx⟩:∃ k,k=(Sc.readS bl).1:=⟨_,rfl⟩
  obtain ⟨b1,hb1⟩:∃ b,b=(Sc.readS bl).2:=⟨_,rfl⟩
  refine Sy.block<|Sy.seq ?_
  refine Sy.regionR (by rintro ⟨_,_,h⟩; exact h) kR ⟨_,rfl⟩ ?_
  refine sP (chVB g o (32*D) x.val) ?_
  refine sS (.pointer (some ⟨g,o+32*x.val*1,none⟩)) (Quiet.pure (λw=>exec_array 22 _ _ (some ⟨g,o+32*x.val*1,none⟩) 32 (szC (32*D) x.val) (szC (32*D) x.val) rfl kR Tryz.underlying22 (by rw [hz]; decide) w)) ?_
  refine sS (.agg (bl.map bv).toArray) (Quiet.there g (o+32*x.val*1) 32 22 (bl.map bv) _ _ rfl kR hg (by rw [hbl]; exact (src_b32 hm hxN hs).2) Tryz.underlying22 rfl kR ((List.length_map ..).trans hl32) _ rfl) ?_
  refine sS (.tuple #[fv kx,.bool b1]) (qF 133 #[.agg (bl.map bv).toArray] (λw=>by rw [hkx,hb1]; exact Sc.read_any w bl hl32))<|sP (.tuple #[fv kx,.bool b1])<|sP (fv kx)<|sP (.bool b1) ?_
  refine sM 42 (fcs 0) (λg6=>?_)
  refine Sy.movT ?_
  refine sW 5 g6 42 (fcs 0) (fcs kx) (wS 0 42 (fcs kx) rfl) ?_
  refine Sy.setT ?_
  refine sP (.bool b1) ?_
  refine sG<|Sy.seq<|Sy.seq ?_
  refine Sy.regionR (by rintro ⟨_,_,h⟩; exact h) kR ⟨_,rfl⟩ ?_
  refine sP (.bool b1) ?_
  cases b1
  ·have hno:¬ nmB m x.val<Sc.pM:=λh=>by
    unfold Sc.readS at hb1
    rw [show valB bl=nmB m x.val from by rw [hbl]; rfl,if_pos h] at hb1
    cases hb1
   refine sP (.bool true) ?_
   refine sG<|sT<|Sy.seq ?_
   refine Sy.regionR (by rintro ⟨_,_,h⟩; exact h) kR ⟨_,rfl⟩ ?_
   refine sW 0 g0 51 #[.slice none 0 0] #[.slice none 0 0] (wO 0 51 (.slice none 0 0) rfl) ?_
   refine Sy.setT ?_
   refine sW 1 g1 4 #[.bool false] #[.bool false] (wO 0 4 (.bool false) rfl) ?_
   refine Sy.setT ?_
   refine sG<|Sy.ret<|Sy.then_ret<|Sy.in_ret ?_
   exact Sy.bpYR nilS ⟨x,List.mem_append.2 (.inr (List.mem_singleton.2 rfl)),hno⟩ (λw hw=>St.pick (T:=[]) [0,1,3,4] (by decide) (by kernel_rfl) (St.less hw (List.Sublist.append (List.Sublist.refl _) (List.nil_sublist _))))
  ·obtain ⟨hlt,hkv⟩:nmB m x.val<Sc.pM∧kx=nmB m x.val:=by
    unfold Sc.readS at hb1 hkx
    rw [show valB bl=nmB m x.val from by rw [hbl]; rfl] at hb1 hkx
    by_cases h:nmB m x.val<Sc.pM
    ·rw [if_pos h] at hkx; exact ⟨h,hkx⟩
    ·rw [if_neg h] at hb1; cases hb1
   refine sP (.bool false) ?_
   refine sG<|sU<|Sy.skip<|Sy.then_ ?_
   refine Sy.regionR (by rintro ⟨_,_,h⟩; exact h) kR ⟨_,rfl⟩ ?_
   refine sS y.v (qC 2 g2 0 51 51 #[y.v] rfl Tryz.underlying51)<|sS (fv kx) (qL 5 g6 0 4 42 42 (fcs kx) rfl Tryz.underlying42) ?_
   refine Sy.make kR 42 (fcs kx) (λg=>.slice (some ⟨g,0,none⟩) 1 1) (λ_=>kR) (λg7=>?_)
   refine Sy.movT ?_
   refine Sy.appendR kR 51 42 _ _ 4 32 Tryz.underlying51 info_sc rfl rfl rfl rfl (by decide) _ _ rfl hy kR (fws kx) rfl (fws_one _) 6 g7 42 kR kR (by rw [List.length_map]; omega) (by rw [List.length_map]; simp only [maxLen]; omega) (λr hr=>?_)
   refine sW 2 g2 51 #[y.v] #[r.v] (Writes.one 0 51 r.v _ _ rfl kR kR kR hr.cells.1 hr.cells.2 (Nat.lt_succ_self 0) rfl) ?_
   refine Sy.setT ?_
   refine Sy.nil<|Sy.in_ ?_
   exact Sy.bpY r ⟨by rw [List.map_append,List.map_singleton, ← hkv]; exact hr,by rw [List.length_append,List.length_singleton]; omega,λz hz=>(List.mem_append.1 hz).elim (hok z) (λh=>by rw [List.mem_singleton.1 h]; exact hlt)⟩ (λw hw=>St.pick [0,1,2,3,4] (by decide) (by kernel_rfl) hw)
 ·intro D' fz xs y hS ⟨hy,hpl,hok⟩ hD' hm'
  have hS0:xs.map (·.1)=List.range D:=hS
  refine Sy.in_<|sB ?_
  refine sS y.v (qC 2 g2 0 51 51 #[y.v] rfl Tryz.underlying51) ?_
  refine sW 0 g0 51 #[.slice none 0 0] #[y.v] (Writes.one 0 51 y.v _ _ rfl kR kR kR hy.cells.1 hy.cells.2 (Nat.lt_succ_self 0) rfl) ?_
  refine Sy.setT ?_
  refine sW 1 g1 4 #[.bool false] #[.bool true] (wO 0 4 (.bool true) rfl) ?_
  refine Sy.setT ?_
  refine sG<|Sy.ret ?_
  have hall:nmsB m D=true:=nms_yes λj hj=>by
   have:j∈xs.map (·.1):=by rw [hS0]; exact List.mem_range.2 hj
   obtain ⟨x,hx,rfl⟩:=List.mem_map.1 this
   exact hok x hx
  refine Sy.retMG2 y.bl rfl (Sy.hasC g0 0 #[y.v] Tryz.underlying51) (Sy.hasC (v:=.bool true) g1 1 #[.bool true] Tryz.underlying4) (λw hw=>?_) (.inr ⟨hall,y,rfl,rfl,?_⟩) hD' hm'
  ·exact St.less hw (by rw [List.append_nil]; exact List.sublist_append_right _ _)
  ·rw [← hS0,List.map_map]; exact hy
 ·intro D' fz pre y hS ⟨x,hx,hno⟩ hD' hm'
  refine Sy.in_ret<|Sy.then_ret ?_
  exact Sy.retMG2 [] rfl (Sy.hasC g0 0 #[.slice none 0 0] Tryz.underlying51) (Sy.hasC (v:=.bool false) g1 1 #[.bool false] Tryz.underlying4) (λw hw=>hw.none) (.inl ⟨nms_no x.isLt hno,rfl,rfl⟩) hD' hm'
end Cu
end
section
namespace Cu
open Go.RowKit Sy
set_option maxRecDepth 100000
set_option maxHeartbeats 4000000
theorem lenS_is (E:Nat→Nat):∀ k,lenS E k=32*(1+sumN E k)
 | 0=>rfl
 | k+1=>by
  show lenS E k+E k*32=32*(1+(sumN E k+E k))
  rw [lenS_is E k]
  omega
def nmD (m:List UInt8) (E:Nat→Nat) (i j:Nat):Nat:=nmB m (1+sumN E i+j)
def dcOk (m:List UInt8) (E:Nat→Nat) (i:Nat):Bool:=(List.range (E i)).all λj=>decide (nmD m E i j<Sc.pM)
def dcsOk (m:List UInt8) (E:Nat→Nat) (N:Nat):Bool:=(List.range N).all (dcOk m E)
theorem dcsOk_yes {m:List UInt8} {E:Nat→Nat} {N:Nat} (h:∀ i,i<N→dcOk m E i=true):dcsOk m E N=true:=List.all_eq_true.2 λi hi=>h i (List.mem_range.1 hi)
theorem dcsOk_no {m:List UInt8} {E:Nat→Nat} {N i:Nat} (hi:i<N) (h:dcOk m E i=false):dcsOk m E N=false:=List.all_eq_false.2 ⟨i,List.mem_range.2 hi,by rw [h]; decide⟩
def decB (m:List UInt8) (D:Nat→Int) (N:Nat):Bool:=szZ N D && (decide (m.length=lenS (λi=>(D i).toNat) N) && dcsOk m (λi=>(D i).toNat) N)
def DecR (b:Bool) (d:List UInt8) (f:Nat→Nat→Nat) (nk:Nat→Nat) (NR:Nat) (v:Value) (M:Blocks):Prop :=
 (b=false∧v=.tuple #[sgv33 (List.replicate 32 0) none 0 0,.bool false]∧M=[])∨(b=true∧∃ u,v=.tuple #[u,.bool true]∧SgGives8 d (λi j=>fws (f i j)) nk NR u M)
def cutB (m:List UInt8) (E:Nat→Nat) (k:Nat):List UInt8:=(m.drop (lenS E k)).take (32*E k)
theorem lenS_le (E:Nat→Nat) {k N:Nat} (h:k<N):lenS E k+32*E k≤lenS E N:=by
 have h1:sumN E (k+1)≤sumN E N:=sumN_mono E h
 rw [lenS_is,lenS_is]
 have h2:sumN E (k+1)=sumN E k+E k:=rfl
 omega
theorem cutB_len {m:List UInt8} {E:Nat→Nat} {k N:Nat} (hm:m.length=lenS E N) (hk:k<N):(cutB m E k).length=32*E k:=by
 have:=lenS_le E hk
 unfold cutB
 rw [List.length_take,List.length_drop]
 omega
theorem cutB_nm {m:List UInt8} {E:Nat→Nat} {k j:Nat} (hj:j<E k):nmB (cutB m E k) j=nmD m E k j:=by
 unfold nmD nmB b32 cutB
 rw [lenS_is,List.drop_take,List.take_take,List.drop_drop]
 congr 3
 ·omega
 ·omega
theorem cutB_ok {m:List UInt8} {E:Nat→Nat} {k:Nat}:nmsB (cutB m E k) (E k)=dcOk m E k:=by
 unfold nmsB dcOk
 refine Bool.eq_iff_iff.2 ?_
 rw [List.all_eq_true,List.all_eq_true]
 exact ⟨λh x hx=>by have:=h x hx; rwa [cutB_nm (List.mem_range.1 hx)] at this,λh x hx=>by have:=h x hx; rwa [cutB_nm (List.mem_range.1 hx)]⟩
theorem src_cut {w:World} {g o N k:Nat} {m:List UInt8} {E:Nat→Nat} (hm:m.length=lenS E N) (hk:k<N) (hs:Sh.Src w (some ⟨g,o,none⟩) m):Sh.Src w (some ⟨g,o+lenS E k,none⟩) (cutB m E k):=λhne=>by
 have hl:=lenS_le E hk
 obtain ⟨b,o',e,h2,h3⟩:=hs (λe=>by rw [e] at hm; have:=lenS_is E N; simp at hm; omega)
 cases e
 refine ⟨_,_,rfl,h2,λj u hj=>?_⟩
 have hjl:=(List.getElem?_eq_some_iff.1 hj).1
 rw [cutB_len hm hk] at hjl
 unfold cutB at hj
 rw [List.getElem?_take_of_lt hjl,List.getElem?_drop] at hj
 rw [Nat.add_assoc]
 exact h3 _ u hj
section
variable {P:Program} {w0:Base} {F:Slots} {L:Blocks} {o:Oper}
theorem exec_sl1A (t:TypeId) (x lx:Operand) (g f len cap lo s:Nat) (kl:IntKind) (ho:o.op=.slice t x (some lx) none none) (hx:evF F x=.slice (some ⟨g,f,none⟩) len cap) (hl:evF F lx=.int kl (lo:Int)) (ht:P.underlying t=some (.slice (P.elem t))) (hsz:∀ w,(sizeOf (P.elem t)).run P w=.ok s w) (h1:lo≤len) (w:World) :
  (execOp (evF F) o).run P w=.ok (.value (.slice (some ⟨g,if cap=lo then f else f+lo*s,none⟩) (len - lo) (cap - lo))) w:=by
 have e:(Instr.sliceAt t (.slice (some ⟨g,f,none⟩) len cap) (some (.int kl (lo:Int))) none none).run P w=.ok (.slice (some ⟨g,if cap=lo then f else f+lo*s,none⟩) (len - lo) (cap - lo)) w:=by
  rw [run_sliceAt_slice w t _ _ _ _ ht,run_slice_l w t (some ⟨g,f,none⟩) len cap ht kl lo (by omega) (by omega)]
  by_cases h:cap=lo <;> simp [hsz,sliced,h,addr_off,Result.andThen]
 unfold execOp
 simp only [ho,hx,hl,Option.map_some,Option.map_none,e,Sem.run_bind,Sem.run_pure,Result.andThen_ok]
end
theorem src_take {w:World} {g o:Nat} {m:List UInt8} {k:Nat} (h:∀ j u,m[j]? = some u→w.cell? ⟨g,o+j,none⟩=some (bv u)):w.rangeAt g o ((m.take k).map bv):=λj v hj=>by
 rw [List.getElem?_map] at hj
 cases hx:(m.take k)[j]? with
 | none=>rw [hx] at hj; cases hj
 | some u =>
  rw [hx] at hj
  injection hj with hj
  rw [← hj]
  have hl:=(List.getElem?_eq_some_iff.1 hx).1
  rw [List.length_take] at hl
  rw [List.getElem?_take_of_lt (by omega)] at hx
  exact h j u hx
theorem fill_first {place:Nat→Option (Nat×Nat)} {z c:List Value} {u:Value} {n:Nat} (hp:place 0=some (0,n)) (hc:c.length=n) (hz:z.length=n):Instr.fill place (z++[u]).toArray [(0,.agg c.toArray)]=some (c++[u]).toArray:=by
 unfold Instr.fill
 rw [hp]
 simp only [Value.cells,List.size_toArray,hc,Nat.zero_add,ne_eq,not_true_eq_false,decide_false,Bool.false_or]
 rw [if_neg (by simp [hz])]
 unfold Instr.fill
 have h1:c.toArray.zipIdx.foldl (λcs (x:Value×Nat)=>cs.setIfInBounds (0+x.2) x.1) (z++[u]).toArray=setAll (z++[u]).toArray (0+0) c:=by
  rw [← fold_all c 0 0, ← Array.foldl_toList,Array.toList_zipIdx]
 simp only [Nat.zero_add] at h1
 rw [h1]
 have h2:=setAll_is c 0 (z++[u]).toArray (by rw [List.size_toArray,List.length_append,hz,hc]; simp)
 rw [h2]
 simp only [List.take_zero,List.nil_append,Nat.zero_add]
 rw [List.drop_left' (by rw [hz,hc])]
theorem Quiet.build1F {P:Program} {w0:Base} {F:Slots} {L:Blocks} {o:Oper} (t:TypeId) (fs:Array Field) (it:TypeInfo) (z c:List Value) (u:Value) (x:Operand) (n:Nat) (ho:o.op=.build t #[(0,x)]) (hx:evF F x=.agg c.toArray) (hu:P.underlying t=some (.struct fs)) (hit:P.info? t=some it) (hz:it.zero=some (.agg (z++[u]).toArray))
  (hpl:fs.toList.mapM (λf=>(P.info? f.type).map λi=>(f.offset,i.size))=some [(0,n),(n,1)]) (hc:c.length=n) (hzl:z.length=n):Quiet P w0 F L o (.agg (c++[u]).toArray):=Quiet.pure λw=>by
 have hb:P.built t #[(0,.agg c.toArray)].toList=some (c++[u]).toArray:=by
  unfold Program.built
  rw [hit,hu]
  simp only [hz,hpl]
  exact fill_first rfl hc hzl
 have hr:=run_build (P:=P) w t #[(0,.agg c.toArray)] _ hb
 unfold execOp
 simp only [ho,Sem.run_bind,List.map_toArray,List.map_cons,List.map_nil,hx,hr,Result.andThen_ok,Sem.run_pure]
noncomputable def infRS:TypeInfo:=(Tryz.prog.info? 31).getD default
theorem info_rs:Tryz.prog.info? 31=some infRS:=by kernel_rfl
theorem zero_rs:infRS.zero=some (.agg (List.replicate 32 (Value.int .u8 0)++[Value.slice none 0 0]).toArray):=by kernel_rfl
theorem buildSig {w0:Base} {F:Slots} {L:Blocks} {o:Oper} {x:Operand} (d:List UInt8) (hd:d.length=32) (ho:o.op=.build 31 #[(0,x)]) (hx:evF F x=.agg (d.map bv).toArray):Quiet Tryz.prog w0 F L o (sgv33 d none 0 0) :=
 Quiet.build1F 31 _ infRS _ _ _ x 32 ho hx Tryz.underlying31 info_rs zero_rs (by kernel_rfl) ((List.length_map ..).trans hd) List.length_replicate
theorem decG_any (w:World) (A:Option Addr) (m:List UInt8) (n c:Nat) (hm:m.length=n) (hc:n≤c) (hc2:c≤9223372036854775807) (hs:Sh.Src w A m) (Z:Option Addr) (N zc:Nat) (D:Nat→Int) (hN:N≤4611686018427387904) (hlz:Lst w 1 Z N (λk=>[.int .i64 (D k)])) :
  Calls Tryz.prog 23 #[.slice A n c,.slice Z N zc] w (GetsN w (DecR (decB m D N) (m.take 32) (nmD m λi=>(D i).toNat) (λi=>(D i).toNat) N)):=by
 have hlz0:=hlz
 obtain ⟨E,hE⟩:∃ E:Nat→Nat,E=λi=>(D i).toNat:=⟨_,rfl⟩
 rw [show decB m D N=(szZ N D && (decide (m.length=lenS E N) && dcsOk m E N)) by rw [hE]; rfl, ← hE]
 refine Sy.enter (args:=[.slice A n c,.slice Z N zc]) Tryz.func23 rfl kL ?_
 refine sC ?_
 refine sM 31 (sgc33 (List.replicate 32 0) none 0 0).toArray (λg0=>?_)
 refine sP (.bool false) ?_
 refine sG<|Sy.seq<|sC ?_
 obtain ⟨b1,hb1⟩:∃ b,b=szZ N D:=⟨_,rfl⟩
 refine sP (.slice Z N zc)<|sS (.bool b1) (qG 69 #[.slice Z N zc] (λw hw=>by rw [hb1]; exact allowedZ_any w Z N zc D hN (hlz0.below hw.below))) ?_
 cases b1
 ·rw [← hb1,Bool.false_and]
  refine sP (.bool true)<|sP (.bool true)<|sN<|sN<|sN<|sN<|sN<|sP (.bool true) ?_
  refine sG<|sT<|sC ?_
  refine sP (sgv33 (List.replicate 32 (0:UInt8)) none 0 0)<|sW 0 g0 31 (sgc33 (List.replicate 32 (0:UInt8)) none 0 0).toArray (sgc33 (List.replicate 32 (0:UInt8)) none 0 0).toArray (Writes.row 31 (sgc33 (List.replicate 32 (0:UInt8)) none 0 0) 33 _ _ rfl kR kR kR (sg_len List.length_replicate) (by rw [List.size_toArray,sg_len List.length_replicate]) sg_one)<|sP (.bool false) ?_
  refine sG<|Sy.ret<|Sy.then_ret ?_
  exact retGM2 [] rfl (v:=sgv33 (List.replicate 32 (0:UInt8)) none 0 0) (u:=.bool false) (.inl (Res.cell (ty':=31) g0 0 (sgc33 (List.replicate 32 (0:UInt8)) none 0 0).toArray _ kR kR Tryz.underlying31 rfl (by rw [List.size_toArray,sg_len List.length_replicate]; kernel_rfl) rfl)) (.inl (show _=_ by kernel_rfl)) (λ_ hw=>hw.none) (.inl ⟨rfl,rfl,rfl⟩)
 ·have hsz:=(szZ_iff N D).1 hb1.symm
  have hDE:∀ i,i<N→D i=((E i:Nat):Int)∧1≤E i∧E i≤64:=λi hi=>by
   have:=hsz.2.2 i hi
   rw [hE]
   show D i=(((D i).toNat:Nat):Int)∧1≤(D i).toNat∧(D i).toNat≤64
   omega
  have hlzE:Lst w 1 Z N (λk=>[.int .i64 ((E k:Nat):Int)]):=Lst_ext hlz0 (λi hi=>by rw [(hDE i hi).1])
  obtain ⟨tl,htl⟩:∃ k,k=lenS E N:=⟨_,rfl⟩
  obtain ⟨b2,hb2⟩:∃ b,b=decide (n≠tl):=⟨_,rfl⟩
  refine sP (.bool false)<|sP (.bool false)<|sP (.slice A n c)<|sP (.int .i64 ((n:Nat):Int))<|sP (.slice Z N zc)<|sS (.int .i64 ((tl:Nat):Int)) (qG 70 #[.slice Z N zc] (λw hw=>by rw [htl]; exact length_any w Z N zc E (by omega) (λi hi=>(hDE i hi).2.2) (hlzE.below hw.below))) <|
   sS (.bool b2) (Quiet.pure (exec_int .neq _ _ _ .i64 _ _ _ rfl rfl rfl (int_neq _ _ _ _ _ (by rw [hb2]; exact decide_eq_decide.2 (by omega)))))<|sP (.bool b2) ?_
  refine sG ?_
  cases b2
  ·have hn:n=tl:=Decidable.of_not_not (of_decide_eq_false hb2.symm)
   have hml:m.length=lenS E N:=by rw [hm,hn,htl]
   have hP:∀ k,k<N→lenS E k+32*E k≤n:=λk hk=>by rw [hn,htl]; exact lenS_le E hk
   have hL32:∀ k,32≤lenS E k:=λk=>by rw [lenS_is]; omega
   obtain ⟨gz,oz,hZ⟩:=hlzE
   have h0N:0<N:=by omega
   have hne:m≠[]:=λe=>by
    have h1:=hP 0 h0N
    have h2:=hL32 0
    rw [e] at hm
    have:n=0:=hm.symm
    omega
   have hA:=hs hne
   obtain ⟨g,o,rfl,hg,hcl⟩:=hA
   obtain ⟨d,hd⟩:∃ d,d=m.take 32:=⟨_,rfl⟩
   have hn32:32≤n:=by have:=hP 0 h0N; have:=hL32 0; omega
   have hdl:d.length=32:=by rw [hd,List.length_take]; omega
   refine sU<|Sy.skip<|Sy.then_<|sC ?_
   refine sP (.slice (some ⟨g,o,none⟩) n c)<|sS (.slice (some ⟨g,o,none⟩) 32 c) (Quiet.pure (exec_upto _ _ _ g o n c 32 1 .i64 rfl rfl rfl Tryz.underlying24 kF (by omega))) <|
    sS (.pointer (some ⟨g,o,none⟩)) (Quiet.pure (λw=>exec_array 23 _ _ (some ⟨g,o,none⟩) 32 32 c rfl kR Tryz.underlying23 (by decide) w)) <|
    sS (.agg (d.map bv).toArray) (Quiet.there g o 32 23 (d.map bv) _ _ rfl kR hg (by rw [hd]; exact src_take hcl) Tryz.underlying23 rfl kR ((List.length_map ..).trans hdl) _ rfl) ?_
   refine sS (sgv33 d none 0 0) (buildSig d hdl rfl rfl) ?_
   refine sM 31 (sgc33 (List.replicate 32 (0:UInt8)) none 0 0).toArray (λg1=>?_)
   refine sW 1 g1 31 (sgc33 (List.replicate 32 (0:UInt8)) none 0 0).toArray (sgx d (.slice none 0 0)).toArray (Writes.row 31 (sgx d (.slice none 0 0)) 33 _ _ rfl kR kR kR (sgx_len hdl) (by rw [List.size_toArray,sg_len List.length_replicate]) sg_one) ?_
   refine sA ?_
   have hE0:=(hDE 0 h0N).2.1
   have hP0:=hP 0 h0N
   have hL0:lenS E 0=32:=rfl
   refine sP (.slice (some ⟨g,o,none⟩) n c)<|sS (.slice (some ⟨g,o+lenS E 0,none⟩) (n - lenS E 0) (c - lenS E 0)) (Quiet.pure (exec_sl1 _ _ _ g o n c 32 1 .i64 rfl rfl rfl Tryz.underlying24 kF (by omega) (by omega)))<|sP (.slice (some ⟨g,o+lenS E 0,none⟩) (n - lenS E 0) (c - lenS E 0)) ?_
   refine sG<|Sy.seq<|sC ?_
   refine sP (.slice Z N zc)<|sP (.int .i64 ((N:Nat):Int))<|sP (.int .i64 0) ?_
   refine sG<|Sy.block ?_
   refine Sy.loopT (Y:=(Nat→Slc)×Slc×Value) N (λk1 y1=>[(0,y1.2.2),(4,ptr g0),(6,ptr g1),(29,.slice Z N zc),(30,.int .i64 ((N:Nat):Int)),(31,.int .i64 ((k1:Nat):Int))]) (λk1 y1=>[(g0,31,(sgc33 (List.replicate 32 (0:UInt8)) none 0 0).toArray),(g1,31,(sgx d y1.2.1.v).toArray)]++(rowsB y1.1 N++(y1.2.1.bl++[])))
    (λk1 y1=>RowsAre y1.1 42 4 (λi j=>fws (nmD m E i j)) (cntR E k1 0)∧y1.2.1.Is 51 1 ((List.range k1).map λi=>[(y1.1 i).v])∧(∀ i,k1≤i→y1.1 i=nilS)∧(k1<N→y1.2.2=.slice (some ⟨g,o+lenS E k1,none⟩) (n - lenS E k1) (c - lenS E k1))∧∀ i,i<k1→dcOk m E i=true)
    (λ_=>nilS,nilS,.slice (some ⟨g,o+lenS E 0,none⟩) (n - lenS E 0) (c - lenS E 0)) ⟨(RowsAre.nil _ _ _).cnt (cntR_zero E),Slc.Is.nil _ _,λ_ _=>rfl,λ_=>rfl,λi hi=>absurd hi (Nat.not_lt_zero _)⟩
    (all_cons kR (all_cons kR (all_cons kR (all_cons kR (all_cons kR (all_cons kR all_nil)))))) (λw hw=>by rw [rowsB_nil]; exact hw) (λk1 y1 hk1 hh1=>?_)
   obtain ⟨q1,O1,v1⟩:=y1
   dsimp only at hh1 ⊢
   obtain ⟨hr1,hO1,hn1,hv1,hk1ok⟩:=hh1
   refine sC ?_
   obtain ⟨b3,hb3⟩:∃ z:Bool,z=decide (k1<N):=⟨_,rfl⟩
   refine sS (.bool b3) (Quiet.pure (exec_int .lss _ _ _ .i64 _ _ _ rfl rfl rfl (int_lss _ _ _ _ _ (by rw [hb3]; exact decide_eq_decide.2 (by omega))))) ?_
   refine sG<|Sy.seq ?_
   cases b3
   ·have lb3:¬ (k1<N):=of_decide_eq_false hb3.symm
    obtain rfl:N=k1:=by omega
    obtain ⟨gO,cO,spO,hOv,hOb,hO2,hcO,hO3⟩:=hO1.open h0N
    obtain ⟨ov,ob⟩:=O1
    obtain rfl:ov=_:=hOv
    obtain rfl:ob=_:=hOb
    refine sU<|Sy.exit<|Sy.then_exit<|Sy.then_exit<|Sy.in_exit<|sB ?_
    refine sS (sgv33 d (some ⟨gO,0,none⟩) N cO) (Quiet.load 1 g1 0 33 31 31 (sgc33 d (some ⟨gO,0,none⟩) N cO).toArray _ _ rfl kR kR Tryz.underlying31 rfl kR _ (sg_whole hdl) (sg_fit hdl)) ?_
    refine sW 0 g0 31 (sgc33 (List.replicate 32 (0:UInt8)) none 0 0).toArray (sgc33 d (some ⟨gO,0,none⟩) N cO).toArray (Writes.row 31 (sgc33 d (some ⟨gO,0,none⟩) N cO) 33 _ _ rfl kR kR kR (sg_len hdl) (by rw [List.size_toArray,sg_len List.length_replicate]) sg_one) ?_
    refine Sy.setT ?_
    refine sP (.bool true) ?_
    refine sG<|Sy.ret ?_
    exact retGM2 ((gO,51,(flat (λj=>[(q1 j).v]) N++spO).toArray)::rowsB q1 N) rfl (v:=sgv33 d (some ⟨gO,0,none⟩) N cO) (u:=.bool true) (.inl (Res.cell (ty':=31) g0 0 (sgc33 d (some ⟨gO,0,none⟩) N cO).toArray _ kR kR Tryz.underlying31 rfl (by rw [List.size_toArray,sg_len hdl]; kernel_rfl) rfl)) (.inl (show _=_ by kernel_rfl))
     (λw hw=>St.parts (ls:=[[(g0,31,(sgc33 d (some ⟨gO,0,none⟩) N cO).toArray)],[(g1,31,(sgc33 d (some ⟨gO,0,none⟩) N cO).toArray)],rowsB q1 N,[(gO,51,(flat (λj=>[(q1 j).v]) N++spO).toArray)]]) (ms:=[[(gO,51,(flat (λj=>[(q1 j).v]) N++spO).toArray)],rowsB q1 N]) [[(g0,31,(sgc33 d (some ⟨gO,0,none⟩) N cO).toArray)],[(g1,31,(sgc33 d (some ⟨gO,0,none⟩) N cO).toArray)]] [3,2,0,1] kR (by rfl) (by rfl) (by simp) hw)
     (.inr ⟨by rw [← hb1,decide_eq_true hml,dcsOk_yes hk1ok]; rfl,_,rfl,gO,cO,spO,q1,by rw [← hd],hcO,rfl,hr1⟩)
   ·have lb3:k1<N:=of_decide_eq_true hb3.symm
    obtain rfl:v1=_:=hv1 lb3
    have hEk:=hDE k1 lb3
    have hPk:=hP k1 lb3
    have hLk:=hL32 k1
    refine sT<|Sy.skip<|Sy.then_<|Sy.seq<|Sy.block<|sC ?_
    refine sS (.pointer (some ⟨gz,oz+k1*1,none⟩)) (Quiet.pure (exec_atO 57 _ _ _ Z gz oz N zc k1 1 .i64 (hZ (by omega)).1 rfl rfl rfl Tryz.underlying57 kF (by omega)))<|sS (.int .i64 ((E k1:Nat):Int)) (Quiet.thereOne gz (oz+k1*1) 3 _ _ rfl kR (hZ (by omega)).2.1 _ (range_one ((hZ (by omega)).2.2 k1 (by omega)) 0 rfl) Tryz.underlying3 rfl)<|sP (.int .i64 ((E k1:Nat):Int)) ?_
    refine sA ?_
    refine sP (.slice (some ⟨g,o+lenS E k1,none⟩) (n - lenS E k1) (c - lenS E k1))<|sP (.int .i64 ((E k1:Nat):Int))<|sS (.int .i64 ((32*E k1:Nat):Int)) (Quiet.pure (exec_int .mul _ _ _ .i64 _ _ _ rfl rfl rfl (int_mul _ _ _ _ _ ((wrap_i64 (by omega) (by omega)).trans (by omega))))) <|
     sS (.slice (some ⟨g,o+lenS E k1,none⟩) (32*E k1) (c - lenS E k1)) (Quiet.pure (exec_upto _ _ _ g (o+lenS E k1) (n - lenS E k1) (c - lenS E k1) (32*E k1) 1 .i64 rfl rfl rfl Tryz.underlying24 kF (by omega))) ?_
    refine Sy.callN kR 71 #[.slice (some ⟨g,o+lenS E k1,none⟩) (32*E k1) (c - lenS E k1)] kF _ (λw hw=>scalars_any w g (o+lenS E k1) (E k1) (c - lenS E k1) (cutB m E k1) (cutB_len hml lb3) hEk.2.1 (by omega) (by omega) (by omega) ((src_cut hml lb3 hs).below hw.below)) (λv M hR0=>?_)
    rcases hR0 with ⟨hb,rfl,rfl⟩ | ⟨hb,r,rfl,rfl,hr⟩
    ·rw [List.append_nil]
     have hno:dcsOk m E N=false:=dcsOk_no lb3 (by rw [← cutB_ok]; exact hb)
     rw [hno,Bool.and_false,Bool.and_false]
     refine sP (.tuple #[.slice none 0 0,.bool false])<|sP (.slice none 0 0)<|sP (.bool false)<|sP (.slice none 0 0)<|sP (.bool false) ?_
     refine sG<|Sy.seq<|sC ?_
     refine sP (.bool false)<|sP (.bool true) ?_
     refine sG<|sT<|sC ?_
     refine sP (sgv33 (List.replicate 32 (0:UInt8)) none 0 0)<|sW 0 g0 31 (sgc33 (List.replicate 32 (0:UInt8)) none 0 0).toArray (sgc33 (List.replicate 32 (0:UInt8)) none 0 0).toArray (Writes.row 31 (sgc33 (List.replicate 32 (0:UInt8)) none 0 0) 33 _ _ rfl kR kR kR (sg_len List.length_replicate) (by rw [List.size_toArray,sg_len List.length_replicate]) sg_one) ?_
     refine Sy.setT ?_
     refine sP (.bool false) ?_
     refine sG<|Sy.ret ?_
     repeat' first | refine Sy.then_ret ?_ | refine Sy.in_ret ?_
     exact retGM2 [] rfl (v:=sgv33 (List.replicate 32 (0:UInt8)) none 0 0) (u:=.bool false) (.inl (Res.cell (ty':=31) g0 0 (sgc33 (List.replicate 32 (0:UInt8)) none 0 0).toArray _ kR kR Tryz.underlying31 rfl (by rw [List.size_toArray,sg_len List.length_replicate]; kernel_rfl) rfl)) (.inl (show _=_ by kernel_rfl)) (λ_ hw=>hw.none) (.inl ⟨rfl,rfl,rfl⟩)
    ·obtain ⟨gk,ck,sp,hkv,hkb,hk1s,hk2s,hk3s⟩:=hr.open (by omega)
     obtain ⟨rv,rb⟩:=r
     obtain rfl:rv=_:=hkv
     obtain rfl:rb=_:=hkb
     obtain ⟨bk,hbk⟩:∃ b:Nat×TypeId×Array Value,b=(gk,42,(flat (λj=>fws (nmB (cutB m E k1) j)) (E k1)++sp).toArray):=⟨_,rfl⟩
     refine sP (.tuple #[.slice (some ⟨gk,0,none⟩) (E k1) ck,.bool true])<|sP (.slice (some ⟨gk,0,none⟩) (E k1) ck)<|sP (.bool true)<|sP (.slice (some ⟨gk,0,none⟩) (E k1) ck)<|sP (.bool true) ?_
     refine sG<|Sy.seq<|sC ?_
     refine sP (.bool true)<|sP (.bool false) ?_
     refine sG<|sU<|Sy.skip<|sB ?_
     rw [← hbk] at hr ⊢
     refine Sy.permS (M:=[(g0,31,(sgc33 (List.replicate 32 (0:UInt8)) none 0 0).toArray),(g1,31,(sgx d O1.v).toArray)]++(O1.bl++([bk]++(rowsB q1 N++[])))) (Sy.flat_perm (ls:=[[(g0,31,(sgc33 (List.replicate 32 (0:UInt8)) none 0 0).toArray),(g1,31,(sgx d O1.v).toArray)],rowsB q1 N,O1.bl,[bk]]) (ms:=[[(g0,31,(sgc33 (List.replicate 32 (0:UInt8)) none 0 0).toArray),(g1,31,(sgx d O1.v).toArray)],O1.bl,[bk],rowsB q1 N]) [0,2,3,1] (by kernel_rfl) (by rfl) (by simp) (by simp)) ?_
     refine sP (.pointer (some ⟨g1,32,none⟩))<|sS O1.v (Quiet.cell 1 g1 32 31 29 (sgx d O1.v).toArray _ _ rfl kR kR Tryz.underlying29 rfl _ (sgx_at hdl))<|sP (.slice (some ⟨gk,0,none⟩) (E k1) ck) ?_
     refine Sy.make kR 51 #[.slice (some ⟨gk,0,none⟩) (E k1) ck] (λg=>.slice (some ⟨g,0,none⟩) 1 1) (λ_=>kR) (λg7=>?_)
     refine Sy.movT ?_
     refine Sy.appendR kR 29 51 _ _ 1 24 Tryz.underlying29 info_scs rfl rfl rfl rfl (by decide) _ _ rfl hO1 kR [.slice (some ⟨gk,0,none⟩) (E k1) ck] rfl (one_sl _ _ _) 2 g7 51 kR kR (by rw [List.length_map,List.length_range]; omega) (by rw [List.length_map,List.length_range]; simp only [maxLen]; omega) (λr1 hr1'=>?_)
     refine sP (.pointer (some ⟨g1,32,none⟩))<|sW 1 g1 31 (sgx d O1.v).toArray (sgx d r1.v).toArray (Writes.one 32 29 r1.v _ _ rfl kR kR kR hr1'.cells.1 hr1'.cells.2 (sgx_lt hdl) (sgx_set hdl)) ?_
     refine Sy.setT ?_
     refine sG<|Sy.region ?_
     obtain ⟨v2,hv2⟩:∃ v,v=Value.slice (some ⟨g,if c - lenS E k1=32*E k1 then o+lenS E k1 else o+lenS E k1+32*E k1*1,none⟩) (n - lenS E k1 - 32*E k1) (c - lenS E k1 - 32*E k1):=⟨_,rfl⟩
     refine sP (.slice (some ⟨g,o+lenS E k1,none⟩) (n - lenS E k1) (c - lenS E k1))<|sP (.int .i64 ((E k1:Nat):Int))<|sS (.int .i64 ((32*E k1:Nat):Int)) (Quiet.pure (exec_int .mul _ _ _ .i64 _ _ _ rfl rfl rfl (int_mul _ _ _ _ _ ((wrap_i64 (by omega) (by omega)).trans (by omega))))) <|
      sS v2 (Quiet.pure (λw=>by rw [hv2]; exact exec_sl1A _ _ _ g (o+lenS E k1) (n - lenS E k1) (c - lenS E k1) (32*E k1) 1 .i64 rfl rfl rfl Tryz.underlying24 kF (by omega) w))<|sP v2 ?_
     refine Sy.nil<|Sy.in_<|Sy.then_<|Sy.region ?_
     refine sS (.int .i64 ((k1+1:Nat):Int)) (Quiet.pure (exec_int .add _ _ _ .i64 _ _ _ rfl rfl rfl (int_add _ _ _ _ _ ((wrap_i64 (by omega) (by omega)).trans (by omega)))))<|sP (.int .i64 ((k1+1:Nat):Int)) ?_
     refine Sy.nil ?_
     have hrD:(List.range (E k1)).map (λj=>fws (nmB (cutB m E k1) j))=(List.range (E k1)).map (λj=>fws (nmD m E k1 j)):=List.map_congr_left λj hj=>by rw [cutB_nm (List.mem_range.1 hj)]
     rw [hrD] at hr
     have eL:lenS E (k1+1)=lenS E k1+E k1*32:=rfl
     exact Sy.againT (putR q1 k1 ⟨.slice (some ⟨gk,0,none⟩) (E k1) ck,[bk]⟩,r1,v2) (by omega)
      ⟨RowsAre.full hr1 hr,by rw [List.range_succ,List.map_append,map_putR]; show Slc.Is _ _ _ (_++[[(putR q1 k1 _ k1).v]]); rw [putR_self]; exact hr1',λi hi=>by show putR _ _ _ i=nilS; rw [putR_ne (by omega)]; exact hn1 i (by omega),
       λhlt=>by
        have h1:=hP (k1+1) hlt
        have h2:=(hDE (k1+1) hlt).2.1
        rw [hv2,if_neg (by omega),eL,show o+lenS E k1+32*E k1*1=o+(lenS E k1+E k1*32) by omega,show n - lenS E k1 - 32*E k1=n - (lenS E k1+E k1*32) by omega,show c - lenS E k1 - 32*E k1=c - (lenS E k1+E k1*32) by omega],
       λi hi=>(Nat.lt_succ_iff_lt_or_eq.1 hi).elim (hk1ok i) (λh=>by rw [h, ← cutB_ok]; exact hb)⟩
      (all_cons kR (all_cons kR (all_cons kR (all_cons kR (all_cons kR (all_cons kR all_nil))))))
      (λw hw=>by
       have q:=St.row_in (i:=k1) (v:=.slice (some ⟨gk,0,none⟩) (E k1) ck) (M:=[(g0,31,(sgc33 (List.replicate 32 (0:UInt8)) none 0 0).toArray),(g1,31,(sgx d r1.v).toArray)]) (b:=bk) (n:=N) (r:=q1) (R:=r1.bl++[]) lb3 (hn1 k1 (Nat.le_refl _)) (St.parts (ls:=[[(g0,31,(sgc33 (List.replicate 32 (0:UInt8)) none 0 0).toArray)],[(g1,31,(sgx d r1.v).toArray)],[(g7,51,#[.slice (some ⟨gk,0,none⟩) (E k1) ck])],r1.bl,[bk],rowsB q1 N]) (ms:=[[(g0,31,(sgc33 (List.replicate 32 (0:UInt8)) none 0 0).toArray)],[(g1,31,(sgx d r1.v).toArray)],[bk],rowsB q1 N,r1.bl]) [[(g7,51,#[.slice (some ⟨gk,0,none⟩) (E k1) ck])]] [0,1,4,5,3,2] kR (by rfl) (by simp) (by simp) hw)
       exact q)
  ·have hn:n≠tl:=of_decide_eq_true hb2.symm
   rw [show decide (m.length=lenS E N)=false from decide_eq_false (by rw [hm, ← htl]; exact hn),Bool.false_and,Bool.and_false]
   refine sT<|sC ?_
   refine sP (sgv33 (List.replicate 32 (0:UInt8)) none 0 0)<|sW 0 g0 31 (sgc33 (List.replicate 32 (0:UInt8)) none 0 0).toArray (sgc33 (List.replicate 32 (0:UInt8)) none 0 0).toArray (Writes.row 31 (sgc33 (List.replicate 32 (0:UInt8)) none 0 0) 33 _ _ rfl kR kR kR (sg_len List.length_replicate) (by rw [List.size_toArray,sg_len List.length_replicate]) sg_one)<|sP (.bool false) ?_
   refine sG<|Sy.ret<|Sy.then_ret ?_
   exact retGM2 [] rfl (v:=sgv33 (List.replicate 32 (0:UInt8)) none 0 0) (u:=.bool false) (.inl (Res.cell (ty':=31) g0 0 (sgc33 (List.replicate 32 (0:UInt8)) none 0 0).toArray _ kR kR Tryz.underlying31 rfl (by rw [List.size_toArray,sg_len List.length_replicate]; kernel_rfl) rfl)) (.inl (show _=_ by kernel_rfl)) (λ_ hw=>hw.none) (.inl ⟨rfl,rfl,rfl⟩)
end Cu
end
section
namespace Cu
open Go.RowKit Sy
theorem row_at (f:Nat→Nat):∀ (T:Nat) {q:Nat},q<T→((rowE f T).drop (32*q)).take 32=bytesS (f q%Sc.pM)
 | 0,q,h=>absurd h (Nat.not_lt_zero _)
 | T+1,q,h=>by
  show ((rowE f T++bytesS (f T%Sc.pM)).drop (32*q)).take 32=_
  have hl:=rowE_len f T
  rcases Nat.lt_succ_iff_lt_or_eq.1 h with hq | hq
  ·rw [List.drop_append_of_le_length (by omega),List.take_append_of_le_length (by rw [List.length_drop]; omega)]
   exact row_at f T hq
  ·rw [hq,List.drop_left' hl,List.take_of_length_le (by rw [bytesS_length]; exact Nat.le_refl _)]
theorem sum_at (sn:Nat→Nat) {N i j:Nat} (hi:i<N) (hj:j<sn i):sumN sn i+j<sumN sn N:=by
 have h1:sumN sn (i+1)≤sumN sn N:=sumN_mono sn hi
 have h2:sumN sn (i+1)=sumN sn i+sn i:=rfl
 omega
theorem cat_at (s:Nat→Nat→Nat) (sn:Nat→Nat):∀ (N:Nat) {i j:Nat},i<N→j<sn i→atL (catNm s sn N) (sumN sn i+j)=s i j
 | 0,i,j,hi,_=>absurd hi (Nat.not_lt_zero _)
 | k+1,i,j,hi,hj=>by
  show atL (catNm s sn k++(List.range (sn k)).map (s k)) _=_
  have hl:=catNm_len s sn k
  rcases Nat.lt_succ_iff_lt_or_eq.1 hi with h | h
  ·rw [atL_left (by rw [hl]; exact sum_at sn h hj)]
   exact cat_at s sn k h hj
  ·subst h
   rw [← hl,atL_right,atL_range hj]
theorem rowsE_len2 (s:Nat→Nat→Nat) (sn:Nat→Nat) (N:Nat):(rowsE s sn N).length=32*sumN sn N:=by rw [← rowE_cat,rowE_len]
theorem enc_nm {d:List UInt8} {s:Nat→Nat→Nat} {sn:Nat→Nat} {N i j:Nat} (hd:d.length=32) (hi:i<N) (hj:j<sn i):nmD (d++rowsE s sn N) sn i j=s i j%Sc.pM:=by
 have hq:=sum_at sn hi hj
 unfold nmD nmB b32
 rw [show 32*(1+sumN sn i+j)=32+32*(sumN sn i+j) by omega, ← List.drop_drop,List.drop_left' hd, ← rowE_cat,row_at _ _ hq,cat_at s sn N hi hj,valB_bytesS _ (Sc.mod_lt _)]
theorem enc_dec {d:List UInt8} {s:Nat→Nat→Nat} {sn:Nat→Nat} {N:Nat} (hd:d.length=32) (h1:1≤N) (h2:N≤32) (h3:∀ i,i<N→1≤sn i∧sn i≤64):decB (d++rowsE s sn N) (λi=>((sn i:Nat):Int)) N=true:=by
 have hE:(λi=>(((sn i:Nat):Int)).toNat)=sn:=funext λi=>Int.toNat_natCast _
 unfold decB
 rw [hE,(szZ_iff N _).2 ⟨h1,h2,λi hi=>by have:=h3 i hi; omega⟩,decide_eq_true (by rw [List.length_append,hd,rowsE_len2,lenS_is]; omega),dcsOk_yes λi hi=>List.all_eq_true.2 λj hj=>decide_eq_true (by rw [enc_nm hd hi (List.mem_range.1 hj)]; exact Nat.mod_lt _ (by decide))]
 rfl
theorem dec_small {m:List UInt8} {D:Nat→Int} {N:Nat} (h:decB m D N=true):1≤N∧N≤32∧32≤m.length∧∀ i,i<N→1≤(D i).toNat∧(D i).toNat≤64:=by
 unfold decB at h
 rw [Bool.and_eq_true,Bool.and_eq_true] at h
 have hl:m.length=lenS _ N:=of_decide_eq_true h.2.1
 rw [lenS_is] at hl
 have hz:=(szZ_iff N D).1 h.1
 exact ⟨hz.1,hz.2.1,by omega,λi hi=>by have:=hz.2.2 i hi; omega⟩
end Cu
end
section
namespace Cu
open Go.RowKit Sy
end Cu
end
section
namespace Cu
open Go.RowKit Sy
set_option maxRecDepth 100000
set_option maxHeartbeats 4000000
def RwU (w0:Base) (W:Option Addr) (N:Nat) (nk:Nat→Nat) (s:Nat→Nat→Nat) (sa:Nat→Option Addr) (sc:Nat→Nat) (M:Blocks):Prop:=(∀ i,i<N→nk i≤sc i)∧∀ (w:World) (L:Blocks),St w0 w L→(∀ b∈M,b∈L)→Lst w 1 W N (λi=>[.slice (sa i) (nk i) (sc i)])∧∀ i,i<N→Lst w 4 (sa i) (nk i) (λk=>fws (s i k))
theorem RwU.zero (w0:Base) (nk:Nat→Nat) (s:Nat→Nat→Nat) (sa:Nat→Option Addr) (sc:Nat→Nat):RwU w0 none 0 nk s sa sc []:=⟨λi hi=>absurd hi (Nat.not_lt_zero _),λ_ _ _ _=>⟨⟨0,0,λh=>absurd h (Nat.lt_irrefl _)⟩,λi hi=>absurd hi (Nat.not_lt_zero _)⟩⟩
theorem RwU.rows {w0:Base} {NR g:Nat} {nk:Nat→Nat} {s:Nat→Nat→Nat} {r:Nat→Slc} {sp:List Value} {M:Blocks} (hr:RowsAre r 42 4 (λi j=>fws (s i j)) (cntR nk NR 0)) (hM:M=(g,51,(flat (λj=>[(r j).v]) NR++sp).toArray)::rowsB r NR):∃ sa sc,RwU w0 (some ⟨g,0,none⟩) NR nk s sa sc M:=by
 have hv:∀ i,i<NR→(r i).v=.slice (slA (r i).v) (nk i) (slC (r i).v)∧nk i≤slC (r i).v:=λi hi=>by
  obtain ⟨A,k,h1,h2,_⟩:=hr.lst (cntR_all hi) hi
  rw [h1]
  exact ⟨rfl,h2⟩
 refine ⟨λi=>slA (r i).v,λi=>slC (r i).v,λi hi=>(hv i hi).2,λw L hw hb=>⟨?_,λi hi=>?_⟩⟩
 ·exact Lst_ext (row_lst (f:=λj=>[(r j).v]) (λ_=>rfl) hw (hb _ (by rw [hM]; exact List.mem_cons_self ..))) (λi hi=>by rw [← (hv i hi).1])
 ·obtain ⟨A,k,h1,_,_,h2⟩:=hr.lst (cntR_all hi) hi
  have h3:=h2 hw (λb h=>hb b (by rw [hM]; exact List.mem_cons_of_mem _ h))
  show Lst w 4 (slA (r i).v) _ _
  rw [h1]
  exact h3
def PairU (w0:Base) (d:List UInt8) (N:Nat) (nk:Nat→Nat) (s:Nat→Nat→Nat) (u:Value) (v:Value) (M:Blocks):Prop:=∃ (W:Option Addr) (c:Nat) (sa:Nat→Option Addr) (sc:Nat→Nat),v=.tuple #[sgv33 d W N c,u]∧RwU w0 W N nk s sa sc M
theorem DecR.uniC {w0:Base} {b:Bool} {d:List UInt8} {s:Nat→Nat→Nat} {nk:Nat→Nat} {NR:Nat} {v:Value} {M:Blocks} (h:DecR b d s nk NR v M):PairU w0 (uD true b d) (uN true b NR) nk s (.bool b) v M:=by
 rcases h with ⟨rfl,rfl,rfl⟩ | ⟨rfl,u,rfl,g,cap,sp,r,rfl,_,rfl,hr⟩
 ·exact ⟨none,0,λ_=>none,λ_=>0,rfl,RwU.zero ..⟩
 ·obtain ⟨sa,sc,h⟩:=RwU.rows (w0:=w0) hr rfl
  exact ⟨_,cap,sa,sc,rfl,h⟩
theorem SgnR.uniC {w0:Base} {br bf:Bool} {d:List UInt8} {s:Nat→Nat→Nat} {nk:Nat→Nat} {NR:Nat} {v:Value} {M:Blocks} (h:SgnR br bf d (λi j=>fws (s i j)) nk NR v M):PairU w0 (uD br bf d) (uN br bf NR) nk s (.int .i64 (uE br bf)) v M:=by
 rcases h with ⟨rfl,rfl,rfl⟩ | ⟨rfl,rfl,rfl,rfl⟩ | ⟨rfl,rfl,u,rfl,g,r,rfl,rfl,hr⟩
 ·exact ⟨none,0,λ_=>none,λ_=>0,rfl,RwU.zero ..⟩
 ·exact ⟨none,0,λ_=>none,λ_=>0,rfl,RwU.zero ..⟩
 ·obtain ⟨sa,sc,h⟩:=RwU.rows (w0:=w0) (sp:=[]) hr (by rw [List.append_nil])
  exact ⟨_,NR,sa,sc,rfl,h⟩
theorem nmB_lt4 (m:List UInt8) (k:Nat):nmB m k<K4:=by
 unfold nmB
 refine Nat.lt_of_lt_of_le (valB_lt _ _ rfl) (Nat.le_trans (Nat.pow_le_pow_right (by decide) (show (b32 m k).length≤32 by unfold b32; rw [List.length_take]; omega)) (show 256 ^ 32≤K4 by decide +kernel))
end Cu
end
section
namespace Cu
open Go.RowKit Sy
set_option maxRecDepth 100000
set_option maxHeartbeats 4000000
theorem leafQ {P:Program} {w0:Base} {n:Nat} {Q:Exit→Act→World→Prop} {F:Slots} {L:Blocks} {ops:Array Oper} {ex:Nat→Bool} {fuel:Nat} {listed:Array Bool} {T:Type} {FF:T→Slots} {LL:T→Blocks} {H:T→Prop} {li:Array Bool} (h:∀ x,H x→wpD P w0 n ops Q ex (FF x) (LL x) fuel li) (x:T) (hx:H x) (hl:listed=li) (hF:∀ p∈FF x,F.lookup p.1=some p.2) (p:L.Perm (LL x)):wpD P w0 n ops Q ex F L fuel listed:=λa w ha hw=>by
 subst hl
 exact h x hx a w (ha.all hF) (hw.perm p)
section
variable (ax ay:Nat) (ai:Bool) (X Y:Nat→Nat) (I:Nat→Bool)
def sjX (_ j:Nat):Nat:=pX (lessP ax ay ai (X j) (Y j) (I j))
def sjY (_ j:Nat):Nat:=pY (lessP ax ay ai (X j) (Y j) (I j))
def sjI (_ j:Nat):Bool:=pI (lessP ax ay ai (X j) (Y j) (I j))
theorem less_on (ax ay:Nat) (ai:Bool) (x y:Nat) (i:Bool):Ec.On (lessP ax ay ai x y i):=Ec.On.add fld (dec_on _ _ _) (Ec.On.neg (dec_on _ _ _))
theorem sj_right {n:Nat} (h:alwB n=true):rgtB 1 (λ_=>n) (sjX ax ay ai X Y I) (sjY ax ay ai X Y I) (sjI ax ay ai X Y I)=true:=by
 have hn:=alw_iff.1 h
 refine rgt_yes (by decide) (by decide) (λk _=>⟨hn,λj _=>rightB_parts (less_on ..)⟩)
end
def PrvR (al bf:Bool) (l:List UInt8) (v:Value) (M:Blocks):Prop:=(al=false∧v=.tuple #[.slice none 0 0,.int .i64 100]∧M=[])∨(al=true∧bf=false∧v=.tuple #[.slice none 0 0,.int .i64 101]∧M=[])∨(al=true∧bf=true∧∃ y:Slc,v=.tuple #[y.v,.int .i64 0]∧M=y.bl∧y.Is 5 1 (bytesR l))
section
variable (sd:List UInt8) (ax ay:Nat) (ai:Bool) (X Y:Nat→Nat) (I:Nat→Bool) (n:Nat) (z:Int) (kx:Nat)
def sjM:List UInt8:=rgM (encS (dec ax ay ai)) 1 (λ_=>n) (sjX ax ay ai X Y I) (sjY ax ay ai X Y I) (sjI ax ay ai X Y I)
def sjD:List UInt8:=sgD (sjM ax ay ai X Y I n) sd (sjX ax ay ai X Y I) (sjY ax ay ai X Y I) (sjI ax ay ai X Y I) (λ_=>z.toNat) (λ_=>n) 1
def sjS:Nat→Nat→Nat:=sgS (sjM ax ay ai X Y I n) sd (sjX ax ay ai X Y I) (sjY ax ay ai X Y I) (sjI ax ay ai X Y I) (λ_=>z.toNat) (λ_=>kx) (sjD sd ax ay ai X Y I n z)
def sjF:Bool:=fitB (λ_=>z) (λ_=>kx) (λ_=>n) (sjX ax ay ai X Y I) (sjY ax ay ai X Y I) (sjI ax ay ai X Y I) 1 1
def sjL:List UInt8:=UInt8.ofNat n::(sjD sd ax ay ai X Y I n z++rowsE (sjS sd ax ay ai X Y I n z kx) (λ_=>n) 1)
end
theorem From.srcL {w0:Base} {L:Blocks} {A:Option Addr} {l:List UInt8} (hs:∀ w,St w0 w L→Sh.Src w A l):From w0 L A (bytesR l).flatten:=λw hw=>by
 rw [bytesR_flat]
 by_cases h0:l=[]
 ·subst h0; exact .inl rfl
 ·obtain ⟨b,o,e,h2,h3⟩:=hs w hw h0
  refine .inr ⟨_,e,λj u hj=>?_⟩
  rw [addr_off]
  rw [List.getElem?_map] at hj
  cases hx:l[j]? with
  | none=>rw [hx] at hj; cases hj
  | some x =>
   rw [hx] at hj
   injection hj with hj
   rw [← hj]
   exact h3 j x hx
theorem arr_lst {w:World} {g n:Nat} {t:TypeId} {f f':Nat→List Value} (hf:∀ j,(f j).length=9) (hn:n≤64) (hb:Blk w g t (flat (upto n f (pml 0 0 false)) 64).toArray) (he:∀ j,f j=f' j):Lst w 9 (some ⟨g,0,none⟩) n f':=by
 refine ⟨g,0,λ_=>⟨rfl,hb.lt,λj hj i v hi=>?_⟩⟩
 have h1:=flat_at (f:=upto n f (pml 0 0 false)) (upto_len hf rfl _) (n:=64) (k:=j) (o:=0+j*9) (by omega) (by omega)
 have h2:(((flat (upto n f (pml 0 0 false)) 64).drop (0+j*9)).take 9)=f' j:=by
  have:=h1
  rw [← he j, ← upto_lt (k:=n) (A:=f) (z:=pml 0 0 false) hj]
  exact this
 have hl:(f' j).length=9:=by rw [← he]; exact hf j
 rw [← h2] at hi
 have hi9:i<9:=by
  have:=(List.getElem?_eq_some_iff.1 hi).1
  rw [List.length_take] at this
  omega
 rw [List.getElem?_take_of_lt hi9,List.getElem?_drop] at hi
 exact (hb.cell _).trans (by rw [List.getElem?_toArray]; exact hi)
theorem prove10_any (w:World) (sd:List UInt8) (hsd:sd.length=32) (A:Option Addr) (n c:Nat) (X Y:Nat→Nat) (I:Nat→Bool) (hX:∀ k,X k<K4) (hY:∀ k,Y k<K4) (hn:n≤9223372036854775807) (hlk:Lst w 9 A n (λk=>pml (X k) (Y k) (I k))) (ax ay:Nat) (ai:Bool) (hax:ax<K4) (hay:ay<K4) (z:Int) (kx:Nat) (hkx:kx<K4) (ht:Sh.TabAt w 1) :
  Calls Tryz.prog 39 #[.agg (sd.map bv).toArray,.slice A n c,pv ax ay ai,.int .i64 z,fv kx] w (GetsN w (PrvR (alwB n) (sjF ax ay ai X Y I n z kx) (sjL sd ax ay ai X Y I n z kx))):=by
 obtain ⟨b1,hb1⟩:∃ b,b=alwB n:=⟨_,rfl⟩
 rw [← hb1]
 refine Sy.enter (args:=[.agg (sd.map bv).toArray,.slice A n c,pv ax ay ai,.int .i64 z,fv kx]) Tryz.func39 rfl kL ?_
 refine sC ?_
 refine sM 23 (sd.map bv).toArray (λg0=>?_)
 refine sM 48 (pcs ax ay ai) (λg1=>?_)
 refine sM 42 (fcs kx) (λg2=>?_)
 refine sP (.slice none 0 0)<|sP (.int .i64 0) ?_
 refine sG<|Sy.seq<|sC ?_
 refine sP (.slice A n c)<|sP (.int .i64 ((n:Nat):Int))<|sS (.bool b1) (qG 98 #[.int .i64 ((n:Nat):Int)] (λw hw=>by rw [hb1]; exact allow10_any w n hn)) ?_
 cases b1
 ·refine sP (.bool true) ?_
  refine sG<|sT<|sC ?_
  refine sP (.slice none 0 0)<|sP (.int .i64 100) ?_
  refine sG<|Sy.ret<|Sy.then_ret ?_
  exact retGM2 [] rfl (v:=.slice none 0 0) (u:=.int .i64 100) (.inl (show _=_ by kernel_rfl)) (.inl (show _=_ by kernel_rfl)) (λ_ hw=>hw.none) (.inl ⟨rfl,rfl,rfl⟩)
 ·have hn64:n≤64:=(alw_iff.1 hb1.symm).2
  have hn1:1≤n:=(alw_iff.1 hb1.symm).1
  have hn:n≤4611686018427387904:=Nat.le_trans hn64 (by decide)
  obtain ⟨bf,hbf⟩:∃ b,b=sjF ax ay ai X Y I n z kx:=⟨_,rfl⟩
  rw [← hbf]
  obtain ⟨fK,hfK⟩:∃ f:Nat→List Value,f=(λj=>pml (pX (lessP ax ay ai (X j) (Y j) (I j))) (pY (lessP ax ay ai (X j) (Y j) (I j))) (pI (lessP ax ay ai (X j) (Y j) (I j)))):=⟨_,rfl⟩
  have hf9:∀ j,(fK j).length=9:=λj=>by rw [hfK]; rfl
  obtain ⟨dS,hdS⟩:∃ l,l=sjD sd ax ay ai X Y I n z:=⟨_,rfl⟩
  obtain ⟨zS,hzS⟩:∃ f,f=sjS sd ax ay ai X Y I n z kx:=⟨_,rfl⟩
  have hdSl:dS.length=32:=by rw [hdS]; exact sgD_len _
  have hzS4:∀ i k,zS i k<K4:=λi k=>by rw [hzS]; exact sgS_lt _ _
  obtain ⟨dU,hdU⟩:∃ l,l=uD true bf dS:=⟨_,rfl⟩
  obtain ⟨NU,hNU⟩:∃ k,k=uN true bf 1:=⟨_,rfl⟩
  obtain ⟨en,hen⟩:∃ z,z=uE true bf:=⟨_,rfl⟩
  have hdUl:dU.length=32:=by rw [hdU]; exact uD_len hdSl
  have hsign:∀ w',(∀ {L},St (Base.of w) w' L→∀ gt ga gr gs,Blk w' gt 191 ((encS (dec ax ay ai)).map bv).toArray→Blk w' ga 193 (flat (upto n fK (pml 0 0 false)) 64).toArray→Blk w' gr 45 #[.slice (some ⟨ga,0,none⟩) n n]→Blk w' gs 44 (sec5 z kx).toArray →
    Calls Tryz.prog 13 #[.agg (sd.map bv).toArray,.slice (some ⟨gt,0,none⟩) 33 33,.slice (some ⟨gr,0,none⟩) 1 1,.slice (some ⟨gs,0,none⟩) 1 1] w' (GetsN w' (PairU (Base.of w) dU NU (λ_=>n) zS (.int .i64 en)))):=λw' {L} hw gt ga gr gs h1 h2 h3 h4=>by
   have q:=SignG_any w' sd hsd (some ⟨gt,0,none⟩) (encS (dec ax ay ai)) 33 33 (encS_length _) (by decide) (by decide) (by decide) (Sh.Src.of_blk h1) (some ⟨gr,0,none⟩) 1 1 (λ_=>some ⟨ga,0,none⟩) (λ_=>n) (λ_=>n) (sjX ax ay ai X Y I) (sjY ax ay ai X Y I) (sjI ax ay ai X Y I) (λ_ _=>pX_lt _) (λ_ _=>pY_lt _) (by decide) (λ_=>hn) (one_lst h3 rfl) (λi _=>arr_lst hf9 hn64 h2 (λj=>by rw [hfK]; rfl)) (by decide) (some ⟨gs,0,none⟩) 1 1 (λ_=>z) (λ_=>kx) (λ_=>hkx) (by decide) (one_lst h4 rfl) (ht.below hw.below ht.lt)
   rw [sj_right ax ay ai X Y I hb1.symm] at q
   rw [hdU,hNU,hen,hzS,hdS,hbf]
   exact Calls.mono q (λe w' ⟨v,M,q1,q2,q3⟩=>⟨v,M,q1,SgnR.uniC q2,q3⟩)
  refine sP (.bool false) ?_
  refine sG<|sU<|Sy.skip ?_
  refine sR (λj=>j == 15) ?_
  refine sD 0 rfl (.agg (sd.map bv).toArray) (Quiet.load 0 g0 0 32 23 23 (sd.map bv).toArray _ _ rfl kR kR Tryz.underlying23 rfl kR _ (key_whole sd hsd) (key_size sd hsd))<|sD 1 rfl (pv ax ay ai) (qL 1 g1 0 9 48 48 (pcs ax ay ai) rfl Tryz.underlying48)<|sZ 3 rfl (.slice A n c)<|sD 4 rfl (pv ax ay ai) (qL 1 g1 0 9 48 48 (pcs ax ay ai) rfl Tryz.underlying48) <|
   sZ 6 rfl (.int .i64 z)<|sD 7 rfl (fv kx) (qL 2 g2 0 4 42 42 (fcs kx) rfl Tryz.underlying42)<|sZ 8 rfl (.agg (sec5 z kx).toArray) ?_
  refine Sy.joinG (T:=Nat×Nat×Nat×Nat×Nat×Option Addr×Nat×Blocks) (λx=>[(1,.slice A n c),(12,ptr x.2.2.2.2.1),(30,sgv33 dU x.2.2.2.2.2.1 NU x.2.2.2.2.2.2.1),(31,.int .i64 en)]) (λx=>[(g0,23,(sd.map bv).toArray),(g1,48,(pcs ax ay ai)),(g2,42,(fcs kx)),(x.1,191,((encS (dec ax ay ai)).map bv).toArray),(x.2.1,193,(flat (upto n fK (pml 0 0 false)) 64).toArray),(x.2.2.1,45,#[.slice (some ⟨x.2.1,0,none⟩) n n]),(x.2.2.2.1,44,(sec5 z kx).toArray),(x.2.2.2.2.1,31,(sgc33 (List.replicate 32 (0:UInt8)) none 0 0).toArray)]++x.2.2.2.2.2.2.2) (λx=>∃ sa sc,RwU (Base.of w) x.2.2.2.2.2.1 NU (λ_=>n) zS sa sc x.2.2.2.2.2.2.2) 2 #[true,true,true,true,true,true,true,true,true,true,true,true,true,true,true,false,false] (λx hx=>?_) (λfin=>?_)
  ·obtain ⟨gt,ga,gr,gs,g12,W1,c1,M1⟩:=x
   obtain ⟨sa1,sc1,hU1⟩:=hx
   dsimp only
   refine sX 15 rfl 7 g12 31 (sgc33 (List.replicate 32 (0:UInt8)) none 0 0).toArray (sgc33 dU W1 NU c1).toArray (Writes.row 31 (sgc33 dU W1 NU c1) 33 _ _ rfl kR kR kR (sg_len hdUl) (by rw [List.size_toArray,sg_len List.length_replicate]) sg_one) ?_
   refine Sy.setTD ?_
   refine Sy.anyOf [16] (by kernel_rfl) (by decide) (Sy.each1 ?_)
   refine Sy.oneQuiet rfl kR (.int .i64 en) (Quiet.pure kF) ?_
   refine sI ?_
   refine Sy.seq<|sC ?_
   obtain ⟨b4,hb4⟩:∃ z:Bool,z=decide (en≠0):=⟨_,rfl⟩
   refine sP (.int .i64 en)<|sS (.bool b4) (Quiet.pure (exec_int .neq _ _ _ .i64 _ _ _ rfl rfl rfl (int_neq _ _ _ _ _ hb4.symm))) ?_
   refine sG ?_
   cases b4
   ·have he0:en=0:=Decidable.of_not_not (of_decide_eq_false hb4.symm)
    have hbb:bf=true:=by
     rw [hen] at he0
     cases bf <;> first | rfl | cases he0
    subst hbb
    obtain rfl:1=NU:=hNU.symm
    obtain rfl:dU=dS:=hdU
    obtain ⟨l0,hl0⟩:∃ l,l=dU++rowsE zS (λ_=>n) 1:=⟨_,rfl⟩
    have hll:l0.length≤2080:=by
     have e:sumN (λ_=>n) 1=n:=Nat.zero_add n
     rw [hl0,List.length_append,hdUl,rowsE_len2,e]
     omega
    refine sU<|Sy.skip<|sB ?_
    refine sP (.slice A n c)<|sP (.int .i64 ((n:Nat):Int))<|sS (bv (UInt8.ofNat n)) (Quiet.pure (λw=>conv_u8 w _ _ _ n (by omega) rfl rfl)) ?_
    refine Sy.make kR 5 #[bv (UInt8.ofNat n)] (λg=>.slice (some ⟨g,0,none⟩) 1 1) kF (λg7=>?_)
    refine Sy.movT ?_
    refine sS (sgv33 dU W1 1 c1) (Quiet.load 7 g12 0 33 31 31 (sgc33 dU W1 1 c1).toArray _ _ rfl kR kR Tryz.underlying31 rfl kR _ (sg_whole hdUl) (sg_fit hdUl)) ?_
    refine Sy.callN kR 25 #[sgv33 dU W1 1 c1] kF _ (λw hw=>by have u:=hU1.2 w _ hw (λb hb=>List.mem_append.2 (.inr hb)); have q:=encG_any w dU hdUl W1 1 c1 sa1 (λ_=>n) sc1 zS hzS4 (by decide) (λ_ _=>hn) u.1 u.2 (by decide) (by show 0+n≤_; omega) hU1.1; rw [← hl0] at q; exact q) (λv M3 hR0=>?_)
    obtain ⟨y3,rfl,rfl,hy3⟩:=hR0
    obtain ⟨A3,c3,hv3,hl3,hc3,hs3⟩:=row_tx hy3
    have hr7:Slc.Is ⟨.slice (some ⟨g7,0,none⟩) 1 1,[(g7,5,#[bv (UInt8.ofNat n)])]⟩ 5 1 (bytesR [UInt8.ofNat n]):=Slc.Is.mk' (cs:=[bv (UInt8.ofNat n)]) (bytesR_one _) (bytesR_cell _) rfl rfl rfl (Nat.le_refl _) (by decide)
    refine Sy.permS (M:=[(g0,23,(sd.map bv).toArray),(g1,48,(pcs ax ay ai)),(g2,42,(fcs kx)),(gt,191,((encS (dec ax ay ai)).map bv).toArray),(ga,193,(flat (upto n fK (pml 0 0 false)) 64).toArray),(gr,45,#[.slice (some ⟨ga,0,none⟩) n n]),(gs,44,(sec5 z kx).toArray),(g12,31,(sgc33 dU W1 1 c1).toArray)]++([(g7,5,#[bv (UInt8.ofNat n)])]++(M1++(y3.bl++[])))) (by simp only [List.append_assoc,List.append_nil]; exact List.Perm.refl _) ?_
    refine Sy.appendM kR 24 5 _ _ 1 1 Tryz.underlying24 info_b8 rfl rfl rfl rfl (by decide) _ _ rfl (ys:=bytesR l0) hr7 kR (bytesR_one _) (bytesR_cell _) A3 l0.length c3 (bytesR_len _) hl3 (by rw [← hv3]; kernel_rfl) (λr=>From.srcL (λw hw=>hs3 hw (λb hb=>by simp only [List.mem_append]; exact .inr (.inr (.inr (.inl hb)))))) (by rw [bytesR_len]; show (1+l0.length)*1≤_; omega) (by rw [bytesR_len]; show 1+l0.length≤_; simp only [maxLen]; omega) (λr hr=>?_)
    refine sP r.v<|sP (.int .i64 0) ?_
    refine sG<|Sy.ret ?_
    have e1:sjL sd ax ay ai X Y I n z kx=UInt8.ofNat n::l0:=by unfold sjL; rw [← hdS, ← hzS,hl0]
    rw [e1]
    exact retGM2 r.bl rfl (v:=r.v) (u:=.int .i64 0) (.inl (show _=_ by kernel_rfl)) (.inl (show _=_ by kernel_rfl)) (λw hw=>St.less hw ((List.sublist_append_left _ _).trans (List.sublist_append_right _ _))) (.inr (.inr ⟨rfl,rfl,r,rfl,rfl,hr⟩))
   ·have he1:en≠0:=of_decide_eq_true hb4.symm
    have hbb:bf=false:=by
     rw [hen] at he1
     cases bf <;> first | rfl | exact absurd rfl he1
    subst hbb
    refine sT<|sC ?_
    refine sP (.slice none 0 0)<|sP (.int .i64 101) ?_
    refine sG<|Sy.ret<|Sy.then_ret ?_
    exact retGM2 [] rfl (v:=.slice none 0 0) (u:=.int .i64 101) (.inl (show _=_ by kernel_rfl)) (.inl (show _=_ by kernel_rfl)) (λ_ hw=>hw.none) (.inr (.inl ⟨rfl,rfl,rfl,rfl⟩))
  ·refine Sy.anyOf [2,9,14] (by kernel_rfl) (by decide) (Sy.each3 ?_ ?_ ?_)
   ·refine Sy.oneCallN rfl (by kernel_rfl) 99 #[pv ax ay ai] kF (CodeIs (dec ax ay ai)) (λw _=>text10_any w ax ay ai hax hay) (λv M hR0=>?_)
    obtain ⟨gt,rfl,rfl⟩:=hR0
    refine Sy.anyOf [5,9,14] (by kernel_rfl) (by decide) (Sy.each3 ?_ ?_ ?_)
    ·refine Sy.oneCallN rfl (by kernel_rfl) 100 #[.slice A n c,pv ax ay ai] kF (RgsR fK n) (λw hw=>by rw [hfK]; exact rings10_any w A n c X Y I hX hY ax ay ai hax hay hn64 (hlk.below hw.below)) (λv M hR0=>?_)
     obtain ⟨ga,gr,rfl,rfl⟩:=hR0
     refine Sy.anyOf [9,14] (by kernel_rfl) (by decide) (Sy.each2 ?_ ?_)
     ·refine Sy.oneMake rfl (by kernel_rfl) 44 (sec5 z kx).toArray (λg=>.slice (some ⟨g,0,none⟩) 1 1) kF (λgs=>?_)
      refine Sy.anyOf [10,14] (by kernel_rfl) (by decide) (Sy.each2 ?_ ?_)
      ·refine Sy.oneCallN rfl (by kernel_rfl) 13 #[.agg (sd.map bv).toArray,.slice (some ⟨gt,0,none⟩) 33 33,.slice (some ⟨gr,0,none⟩) 1 1,.slice (some ⟨gs,0,none⟩) 1 1] kF (PairU (Base.of w) dU NU (λ_=>n) zS (.int .i64 en)) (λw' hw=>hsign w' hw gt ga gr gs (hw.get (i:=3) rfl) (hw.get (i:=4) rfl) (hw.get (i:=5) rfl) (hw.get (i:=6) rfl)) (λv M1 hR0=>?_)
       obtain ⟨W1,c1,sa1,sc1,rfl,hU1⟩:=hR0
       refine sZ 11 rfl (.tuple #[sgv33 dU W1 NU c1,.int .i64 en])<|sZ 12 rfl (sgv33 dU W1 NU c1) ?_
       refine Sy.stepDA 13 rfl kR (λ_ _ _ _ h=>h) kR (.int .i64 en) kF ?_
       refine Sy.makeD 14 rfl kR kR 31 (sgc33 (List.replicate 32 (0:UInt8)) none 0 0).toArray ptr kF (λg12=>?_)
       exact leafQ fin (gt,ga,gr,gs,g12,W1,c1,M1) ⟨sa1,sc1,hU1⟩ kR (all_cons kR (all_cons kR (all_cons kR (all_cons kR all_nil)))) (Sy.flat_perm (ls:=[[(g0,23,(sd.map bv).toArray),(g1,48,(pcs ax ay ai)),(g2,42,(fcs kx))],[(gt,191,((encS (dec ax ay ai)).map bv).toArray)],[(ga,193,(flat (upto n fK (pml 0 0 false)) 64).toArray)],[(gr,45,#[.slice (some ⟨ga,0,none⟩) n n])],[(gs,44,(sec5 z kx).toArray)],M1,[(g12,31,(sgc33 (List.replicate 32 (0:UInt8)) none 0 0).toArray)]]) (ms:=[[(g0,23,(sd.map bv).toArray),(g1,48,(pcs ax ay ai)),(g2,42,(fcs kx))],[(gt,191,((encS (dec ax ay ai)).map bv).toArray)],[(ga,193,(flat (upto n fK (pml 0 0 false)) 64).toArray)],[(gr,45,#[.slice (some ⟨ga,0,none⟩) n n])],[(gs,44,(sec5 z kx).toArray)],[(g12,31,(sgc33 (List.replicate 32 (0:UInt8)) none 0 0).toArray)],M1]) [0,1,2,3,4,6,5] (by kernel_rfl) (by rfl) (by simp) (by simp))
      ·refine Sy.oneMake rfl (by kernel_rfl) 31 (sgc33 (List.replicate 32 (0:UInt8)) none 0 0).toArray ptr kF (λg12=>?_)
       refine Sy.callND 10 rfl kR kR 13 #[.agg (sd.map bv).toArray,.slice (some ⟨gt,0,none⟩) 33 33,.slice (some ⟨gr,0,none⟩) 1 1,.slice (some ⟨gs,0,none⟩) 1 1] kF (PairU (Base.of w) dU NU (λ_=>n) zS (.int .i64 en)) (λw' hw=>hsign w' hw gt ga gr gs (hw.get (i:=3) rfl) (hw.get (i:=4) rfl) (hw.get (i:=5) rfl) (hw.get (i:=6) rfl)) (λv M1 hR0=>?_)
       obtain ⟨W1,c1,sa1,sc1,rfl,hU1⟩:=hR0
       refine sZ 11 rfl (.tuple #[sgv33 dU W1 NU c1,.int .i64 en])<|sZ 12 rfl (sgv33 dU W1 NU c1) ?_
       refine Sy.stepDA 13 rfl kR (λ_ _ _ _ h=>h) kR (.int .i64 en) kF ?_
       exact leafQ fin (gt,ga,gr,gs,g12,W1,c1,M1) ⟨sa1,sc1,hU1⟩ kR (all_cons kR (all_cons kR (all_cons kR (all_cons kR all_nil)))) (Sy.flat_perm (ls:=[[(g0,23,(sd.map bv).toArray),(g1,48,(pcs ax ay ai)),(g2,42,(fcs kx))],[(gt,191,((encS (dec ax ay ai)).map bv).toArray)],[(ga,193,(flat (upto n fK (pml 0 0 false)) 64).toArray)],[(gr,45,#[.slice (some ⟨ga,0,none⟩) n n])],[(gs,44,(sec5 z kx).toArray)],[(g12,31,(sgc33 (List.replicate 32 (0:UInt8)) none 0 0).toArray)],M1]) (ms:=[[(g0,23,(sd.map bv).toArray),(g1,48,(pcs ax ay ai)),(g2,42,(fcs kx))],[(gt,191,((encS (dec ax ay ai)).map bv).toArray)],[(ga,193,(flat (upto n fK (pml 0 0 false)) 64).toArray)],[(gr,45,#[.slice (some ⟨ga,0,none⟩) n n])],[(gs,44,(sec5 z kx).toArray)],[(g12,31,(sgc33 (List.replicate 32 (0:UInt8)) none 0 0).toArray)],M1]) [0,1,2,3,4,5,6] (by kernel_rfl) (by rfl) (by simp) (by simp))
     ·refine Sy.oneMake rfl (by kernel_rfl) 31 (sgc33 (List.replicate 32 (0:UInt8)) none 0 0).toArray ptr kF (λg12=>?_)
      refine Sy.makeD 9 rfl kR kR 44 (sec5 z kx).toArray (λg=>.slice (some ⟨g,0,none⟩) 1 1) kF (λgs=>?_)
      refine Sy.callND 10 rfl kR kR 13 #[.agg (sd.map bv).toArray,.slice (some ⟨gt,0,none⟩) 33 33,.slice (some ⟨gr,0,none⟩) 1 1,.slice (some ⟨gs,0,none⟩) 1 1] kF (PairU (Base.of w) dU NU (λ_=>n) zS (.int .i64 en)) (λw' hw=>hsign w' hw gt ga gr gs (hw.get (i:=3) rfl) (hw.get (i:=4) rfl) (hw.get (i:=5) rfl) (hw.get (i:=7) rfl)) (λv M1 hR0=>?_)
      obtain ⟨W1,c1,sa1,sc1,rfl,hU1⟩:=hR0
      refine sZ 11 rfl (.tuple #[sgv33 dU W1 NU c1,.int .i64 en])<|sZ 12 rfl (sgv33 dU W1 NU c1) ?_
      refine Sy.stepDA 13 rfl kR (λ_ _ _ _ h=>h) kR (.int .i64 en) kF ?_
      exact leafQ fin (gt,ga,gr,gs,g12,W1,c1,M1) ⟨sa1,sc1,hU1⟩ kR (all_cons kR (all_cons kR (all_cons kR (all_cons kR all_nil)))) (Sy.flat_perm (ls:=[[(g0,23,(sd.map bv).toArray),(g1,48,(pcs ax ay ai)),(g2,42,(fcs kx))],[(gt,191,((encS (dec ax ay ai)).map bv).toArray)],[(ga,193,(flat (upto n fK (pml 0 0 false)) 64).toArray)],[(gr,45,#[.slice (some ⟨ga,0,none⟩) n n])],[(g12,31,(sgc33 (List.replicate 32 (0:UInt8)) none 0 0).toArray)],[(gs,44,(sec5 z kx).toArray)],M1]) (ms:=[[(g0,23,(sd.map bv).toArray),(g1,48,(pcs ax ay ai)),(g2,42,(fcs kx))],[(gt,191,((encS (dec ax ay ai)).map bv).toArray)],[(ga,193,(flat (upto n fK (pml 0 0 false)) 64).toArray)],[(gr,45,#[.slice (some ⟨ga,0,none⟩) n n])],[(gs,44,(sec5 z kx).toArray)],[(g12,31,(sgc33 (List.replicate 32 (0:UInt8)) none 0 0).toArray)],M1]) [0,1,2,3,5,4,6] (by kernel_rfl) (by rfl) (by simp) (by simp))
    ·refine Sy.oneMake rfl (by kernel_rfl) 44 (sec5 z kx).toArray (λg=>.slice (some ⟨g,0,none⟩) 1 1) kF (λgs=>?_)
     refine Sy.anyOf [5,14] (by kernel_rfl) (by decide) (Sy.each2 ?_ ?_)
     ·refine Sy.oneCallN rfl (by kernel_rfl) 100 #[.slice A n c,pv ax ay ai] kF (RgsR fK n) (λw hw=>by rw [hfK]; exact rings10_any w A n c X Y I hX hY ax ay ai hax hay hn64 (hlk.below hw.below)) (λv M hR0=>?_)
      obtain ⟨ga,gr,rfl,rfl⟩:=hR0
      refine Sy.anyOf [10,14] (by kernel_rfl) (by decide) (Sy.each2 ?_ ?_)
      ·refine Sy.oneCallN rfl (by kernel_rfl) 13 #[.agg (sd.map bv).toArray,.slice (some ⟨gt,0,none⟩) 33 33,.slice (some ⟨gr,0,none⟩) 1 1,.slice (some ⟨gs,0,none⟩) 1 1] kF (PairU (Base.of w) dU NU (λ_=>n) zS (.int .i64 en)) (λw' hw=>hsign w' hw gt ga gr gs (hw.get (i:=3) rfl) (hw.get (i:=5) rfl) (hw.get (i:=6) rfl) (hw.get (i:=4) rfl)) (λv M1 hR0=>?_)
       obtain ⟨W1,c1,sa1,sc1,rfl,hU1⟩:=hR0
       refine sZ 11 rfl (.tuple #[sgv33 dU W1 NU c1,.int .i64 en])<|sZ 12 rfl (sgv33 dU W1 NU c1) ?_
       refine Sy.stepDA 13 rfl kR (λ_ _ _ _ h=>h) kR (.int .i64 en) kF ?_
       refine Sy.makeD 14 rfl kR kR 31 (sgc33 (List.replicate 32 (0:UInt8)) none 0 0).toArray ptr kF (λg12=>?_)
       exact leafQ fin (gt,ga,gr,gs,g12,W1,c1,M1) ⟨sa1,sc1,hU1⟩ kR (all_cons kR (all_cons kR (all_cons kR (all_cons kR all_nil)))) (Sy.flat_perm (ls:=[[(g0,23,(sd.map bv).toArray),(g1,48,(pcs ax ay ai)),(g2,42,(fcs kx))],[(gt,191,((encS (dec ax ay ai)).map bv).toArray)],[(gs,44,(sec5 z kx).toArray)],[(ga,193,(flat (upto n fK (pml 0 0 false)) 64).toArray)],[(gr,45,#[.slice (some ⟨ga,0,none⟩) n n])],M1,[(g12,31,(sgc33 (List.replicate 32 (0:UInt8)) none 0 0).toArray)]]) (ms:=[[(g0,23,(sd.map bv).toArray),(g1,48,(pcs ax ay ai)),(g2,42,(fcs kx))],[(gt,191,((encS (dec ax ay ai)).map bv).toArray)],[(ga,193,(flat (upto n fK (pml 0 0 false)) 64).toArray)],[(gr,45,#[.slice (some ⟨ga,0,none⟩) n n])],[(gs,44,(sec5 z kx).toArray)],[(g12,31,(sgc33 (List.replicate 32 (0:UInt8)) none 0 0).toArray)],M1]) [0,1,3,4,2,6,5] (by kernel_rfl) (by rfl) (by simp) (by simp))
      ·refine Sy.oneMake rfl (by kernel_rfl) 31 (sgc33 (List.replicate 32 (0:UInt8)) none 0 0).toArray ptr kF (λg12=>?_)
       refine Sy.callND 10 rfl kR kR 13 #[.agg (sd.map bv).toArray,.slice (some ⟨gt,0,none⟩) 33 33,.slice (some ⟨gr,0,none⟩) 1 1,.slice (some ⟨gs,0,none⟩) 1 1] kF (PairU (Base.of w) dU NU (λ_=>n) zS (.int .i64 en)) (λw' hw=>hsign w' hw gt ga gr gs (hw.get (i:=3) rfl) (hw.get (i:=5) rfl) (hw.get (i:=6) rfl) (hw.get (i:=4) rfl)) (λv M1 hR0=>?_)
       obtain ⟨W1,c1,sa1,sc1,rfl,hU1⟩:=hR0
       refine sZ 11 rfl (.tuple #[sgv33 dU W1 NU c1,.int .i64 en])<|sZ 12 rfl (sgv33 dU W1 NU c1) ?_
       refine Sy.stepDA 13 rfl kR (λ_ _ _ _ h=>h) kR (.int .i64 en) kF ?_
       exact leafQ fin (gt,ga,gr,gs,g12,W1,c1,M1) ⟨sa1,sc1,hU1⟩ kR (all_cons kR (all_cons kR (all_cons kR (all_cons kR all_nil)))) (Sy.flat_perm (ls:=[[(g0,23,(sd.map bv).toArray),(g1,48,(pcs ax ay ai)),(g2,42,(fcs kx))],[(gt,191,((encS (dec ax ay ai)).map bv).toArray)],[(gs,44,(sec5 z kx).toArray)],[(ga,193,(flat (upto n fK (pml 0 0 false)) 64).toArray)],[(gr,45,#[.slice (some ⟨ga,0,none⟩) n n])],[(g12,31,(sgc33 (List.replicate 32 (0:UInt8)) none 0 0).toArray)],M1]) (ms:=[[(g0,23,(sd.map bv).toArray),(g1,48,(pcs ax ay ai)),(g2,42,(fcs kx))],[(gt,191,((encS (dec ax ay ai)).map bv).toArray)],[(ga,193,(flat (upto n fK (pml 0 0 false)) 64).toArray)],[(gr,45,#[.slice (some ⟨ga,0,none⟩) n n])],[(gs,44,(sec5 z kx).toArray)],[(g12,31,(sgc33 (List.replicate 32 (0:UInt8)) none 0 0).toArray)],M1]) [0,1,3,4,2,5,6] (by kernel_rfl) (by rfl) (by simp) (by simp))
     ·refine Sy.oneMake rfl (by kernel_rfl) 31 (sgc33 (List.replicate 32 (0:UInt8)) none 0 0).toArray ptr kF (λg12=>?_)
      refine Sy.callND 5 rfl kR kR 100 #[.slice A n c,pv ax ay ai] kF (RgsR fK n) (λw hw=>by rw [hfK]; exact rings10_any w A n c X Y I hX hY ax ay ai hax hay hn64 (hlk.below hw.below)) (λv M hR0=>?_)
      obtain ⟨ga,gr,rfl,rfl⟩:=hR0
      refine Sy.callND 10 rfl kR kR 13 #[.agg (sd.map bv).toArray,.slice (some ⟨gt,0,none⟩) 33 33,.slice (some ⟨gr,0,none⟩) 1 1,.slice (some ⟨gs,0,none⟩) 1 1] kF (PairU (Base.of w) dU NU (λ_=>n) zS (.int .i64 en)) (λw' hw=>hsign w' hw gt ga gr gs (hw.get (i:=3) rfl) (hw.get (i:=6) rfl) (hw.get (i:=7) rfl) (hw.get (i:=4) rfl)) (λv M1 hR0=>?_)
      obtain ⟨W1,c1,sa1,sc1,rfl,hU1⟩:=hR0
      refine sZ 11 rfl (.tuple #[sgv33 dU W1 NU c1,.int .i64 en])<|sZ 12 rfl (sgv33 dU W1 NU c1) ?_
      refine Sy.stepDA 13 rfl kR (λ_ _ _ _ h=>h) kR (.int .i64 en) kF ?_
      exact leafQ fin (gt,ga,gr,gs,g12,W1,c1,M1) ⟨sa1,sc1,hU1⟩ kR (all_cons kR (all_cons kR (all_cons kR (all_cons kR all_nil)))) (Sy.flat_perm (ls:=[[(g0,23,(sd.map bv).toArray),(g1,48,(pcs ax ay ai)),(g2,42,(fcs kx))],[(gt,191,((encS (dec ax ay ai)).map bv).toArray)],[(gs,44,(sec5 z kx).toArray)],[(g12,31,(sgc33 (List.replicate 32 (0:UInt8)) none 0 0).toArray)],[(ga,193,(flat (upto n fK (pml 0 0 false)) 64).toArray)],[(gr,45,#[.slice (some ⟨ga,0,none⟩) n n])],M1]) (ms:=[[(g0,23,(sd.map bv).toArray),(g1,48,(pcs ax ay ai)),(g2,42,(fcs kx))],[(gt,191,((encS (dec ax ay ai)).map bv).toArray)],[(ga,193,(flat (upto n fK (pml 0 0 false)) 64).toArray)],[(gr,45,#[.slice (some ⟨ga,0,none⟩) n n])],[(gs,44,(sec5 z kx).toArray)],[(g12,31,(sgc33 (List.replicate 32 (0:UInt8)) none 0 0).toArray)],M1]) [0,1,4,5,2,3,6] (by kernel_rfl) (by rfl) (by simp) (by simp))
    ·refine Sy.oneMake rfl (by kernel_rfl) 31 (sgc33 (List.replicate 32 (0:UInt8)) none 0 0).toArray ptr kF (λg12=>?_)
     refine Sy.anyOf [5,9] (by kernel_rfl) (by decide) (Sy.each2 ?_ ?_)
     ·refine Sy.oneCallN rfl (by kernel_rfl) 100 #[.slice A n c,pv ax ay ai] kF (RgsR fK n) (λw hw=>by rw [hfK]; exact rings10_any w A n c X Y I hX hY ax ay ai hax hay hn64 (hlk.below hw.below)) (λv M hR0=>?_)
      obtain ⟨ga,gr,rfl,rfl⟩:=hR0
      refine Sy.makeD 9 rfl kR kR 44 (sec5 z kx).toArray (λg=>.slice (some ⟨g,0,none⟩) 1 1) kF (λgs=>?_)
      refine Sy.callND 10 rfl kR kR 13 #[.agg (sd.map bv).toArray,.slice (some ⟨gt,0,none⟩) 33 33,.slice (some ⟨gr,0,none⟩) 1 1,.slice (some ⟨gs,0,none⟩) 1 1] kF (PairU (Base.of w) dU NU (λ_=>n) zS (.int .i64 en)) (λw' hw=>hsign w' hw gt ga gr gs (hw.get (i:=3) rfl) (hw.get (i:=5) rfl) (hw.get (i:=6) rfl) (hw.get (i:=7) rfl)) (λv M1 hR0=>?_)
      obtain ⟨W1,c1,sa1,sc1,rfl,hU1⟩:=hR0
      refine sZ 11 rfl (.tuple #[sgv33 dU W1 NU c1,.int .i64 en])<|sZ 12 rfl (sgv33 dU W1 NU c1) ?_
      refine Sy.stepDA 13 rfl kR (λ_ _ _ _ h=>h) kR (.int .i64 en) kF ?_
      exact leafQ fin (gt,ga,gr,gs,g12,W1,c1,M1) ⟨sa1,sc1,hU1⟩ kR (all_cons kR (all_cons kR (all_cons kR (all_cons kR all_nil)))) (Sy.flat_perm (ls:=[[(g0,23,(sd.map bv).toArray),(g1,48,(pcs ax ay ai)),(g2,42,(fcs kx))],[(gt,191,((encS (dec ax ay ai)).map bv).toArray)],[(g12,31,(sgc33 (List.replicate 32 (0:UInt8)) none 0 0).toArray)],[(ga,193,(flat (upto n fK (pml 0 0 false)) 64).toArray)],[(gr,45,#[.slice (some ⟨ga,0,none⟩) n n])],[(gs,44,(sec5 z kx).toArray)],M1]) (ms:=[[(g0,23,(sd.map bv).toArray),(g1,48,(pcs ax ay ai)),(g2,42,(fcs kx))],[(gt,191,((encS (dec ax ay ai)).map bv).toArray)],[(ga,193,(flat (upto n fK (pml 0 0 false)) 64).toArray)],[(gr,45,#[.slice (some ⟨ga,0,none⟩) n n])],[(gs,44,(sec5 z kx).toArray)],[(g12,31,(sgc33 (List.replicate 32 (0:UInt8)) none 0 0).toArray)],M1]) [0,1,3,4,5,2,6] (by kernel_rfl) (by rfl) (by simp) (by simp))
     ·refine Sy.oneMake rfl (by kernel_rfl) 44 (sec5 z kx).toArray (λg=>.slice (some ⟨g,0,none⟩) 1 1) kF (λgs=>?_)
      refine Sy.callND 5 rfl kR kR 100 #[.slice A n c,pv ax ay ai] kF (RgsR fK n) (λw hw=>by rw [hfK]; exact rings10_any w A n c X Y I hX hY ax ay ai hax hay hn64 (hlk.below hw.below)) (λv M hR0=>?_)
      obtain ⟨ga,gr,rfl,rfl⟩:=hR0
      refine Sy.callND 10 rfl kR kR 13 #[.agg (sd.map bv).toArray,.slice (some ⟨gt,0,none⟩) 33 33,.slice (some ⟨gr,0,none⟩) 1 1,.slice (some ⟨gs,0,none⟩) 1 1] kF (PairU (Base.of w) dU NU (λ_=>n) zS (.int .i64 en)) (λw' hw=>hsign w' hw gt ga gr gs (hw.get (i:=3) rfl) (hw.get (i:=6) rfl) (hw.get (i:=7) rfl) (hw.get (i:=5) rfl)) (λv M1 hR0=>?_)
      obtain ⟨W1,c1,sa1,sc1,rfl,hU1⟩:=hR0
      refine sZ 11 rfl (.tuple #[sgv33 dU W1 NU c1,.int .i64 en])<|sZ 12 rfl (sgv33 dU W1 NU c1) ?_
      refine Sy.stepDA 13 rfl kR (λ_ _ _ _ h=>h) kR (.int .i64 en) kF ?_
      exact leafQ fin (gt,ga,gr,gs,g12,W1,c1,M1) ⟨sa1,sc1,hU1⟩ kR (all_cons kR (all_cons kR (all_cons kR (all_cons kR all_nil)))) (Sy.flat_perm (ls:=[[(g0,23,(sd.map bv).toArray),(g1,48,(pcs ax ay ai)),(g2,42,(fcs kx))],[(gt,191,((encS (dec ax ay ai)).map bv).toArray)],[(g12,31,(sgc33 (List.replicate 32 (0:UInt8)) none 0 0).toArray)],[(gs,44,(sec5 z kx).toArray)],[(ga,193,(flat (upto n fK (pml 0 0 false)) 64).toArray)],[(gr,45,#[.slice (some ⟨ga,0,none⟩) n n])],M1]) (ms:=[[(g0,23,(sd.map bv).toArray),(g1,48,(pcs ax ay ai)),(g2,42,(fcs kx))],[(gt,191,((encS (dec ax ay ai)).map bv).toArray)],[(ga,193,(flat (upto n fK (pml 0 0 false)) 64).toArray)],[(gr,45,#[.slice (some ⟨ga,0,none⟩) n n])],[(gs,44,(sec5 z kx).toArray)],[(g12,31,(sgc33 (List.replicate 32 (0:UInt8)) none 0 0).toArray)],M1]) [0,1,4,5,3,2,6] (by kernel_rfl) (by rfl) (by simp) (by simp))
   ·refine Sy.oneMake rfl (by kernel_rfl) 44 (sec5 z kx).toArray (λg=>.slice (some ⟨g,0,none⟩) 1 1) kF (λgs=>?_)
    refine Sy.anyOf [2,14] (by kernel_rfl) (by decide) (Sy.each2 ?_ ?_)
    ·refine Sy.oneCallN rfl (by kernel_rfl) 99 #[pv ax ay ai] kF (CodeIs (dec ax ay ai)) (λw _=>text10_any w ax ay ai hax hay) (λv M hR0=>?_)
     obtain ⟨gt,rfl,rfl⟩:=hR0
     refine Sy.anyOf [5,14] (by kernel_rfl) (by decide) (Sy.each2 ?_ ?_)
     ·refine Sy.oneCallN rfl (by kernel_rfl) 100 #[.slice A n c,pv ax ay ai] kF (RgsR fK n) (λw hw=>by rw [hfK]; exact rings10_any w A n c X Y I hX hY ax ay ai hax hay hn64 (hlk.below hw.below)) (λv M hR0=>?_)
      obtain ⟨ga,gr,rfl,rfl⟩:=hR0
      refine Sy.anyOf [10,14] (by kernel_rfl) (by decide) (Sy.each2 ?_ ?_)
      ·refine Sy.oneCallN rfl (by kernel_rfl) 13 #[.agg (sd.map bv).toArray,.slice (some ⟨gt,0,none⟩) 33 33,.slice (some ⟨gr,0,none⟩) 1 1,.slice (some ⟨gs,0,none⟩) 1 1] kF (PairU (Base.of w) dU NU (λ_=>n) zS (.int .i64 en)) (λw' hw=>hsign w' hw gt ga gr gs (hw.get (i:=4) rfl) (hw.get (i:=5) rfl) (hw.get (i:=6) rfl) (hw.get (i:=3) rfl)) (λv M1 hR0=>?_)
       obtain ⟨W1,c1,sa1,sc1,rfl,hU1⟩:=hR0
       refine sZ 11 rfl (.tuple #[sgv33 dU W1 NU c1,.int .i64 en])<|sZ 12 rfl (sgv33 dU W1 NU c1) ?_
       refine Sy.stepDA 13 rfl kR (λ_ _ _ _ h=>h) kR (.int .i64 en) kF ?_
       refine Sy.makeD 14 rfl kR kR 31 (sgc33 (List.replicate 32 (0:UInt8)) none 0 0).toArray ptr kF (λg12=>?_)
       exact leafQ fin (gt,ga,gr,gs,g12,W1,c1,M1) ⟨sa1,sc1,hU1⟩ kR (all_cons kR (all_cons kR (all_cons kR (all_cons kR all_nil)))) (Sy.flat_perm (ls:=[[(g0,23,(sd.map bv).toArray),(g1,48,(pcs ax ay ai)),(g2,42,(fcs kx))],[(gs,44,(sec5 z kx).toArray)],[(gt,191,((encS (dec ax ay ai)).map bv).toArray)],[(ga,193,(flat (upto n fK (pml 0 0 false)) 64).toArray)],[(gr,45,#[.slice (some ⟨ga,0,none⟩) n n])],M1,[(g12,31,(sgc33 (List.replicate 32 (0:UInt8)) none 0 0).toArray)]]) (ms:=[[(g0,23,(sd.map bv).toArray),(g1,48,(pcs ax ay ai)),(g2,42,(fcs kx))],[(gt,191,((encS (dec ax ay ai)).map bv).toArray)],[(ga,193,(flat (upto n fK (pml 0 0 false)) 64).toArray)],[(gr,45,#[.slice (some ⟨ga,0,none⟩) n n])],[(gs,44,(sec5 z kx).toArray)],[(g12,31,(sgc33 (List.replicate 32 (0:UInt8)) none 0 0).toArray)],M1]) [0,2,3,4,1,6,5] (by kernel_rfl) (by rfl) (by simp) (by simp))
      ·refine Sy.oneMake rfl (by kernel_rfl) 31 (sgc33 (List.replicate 32 (0:UInt8)) none 0 0).toArray ptr kF (λg12=>?_)
       refine Sy.callND 10 rfl kR kR 13 #[.agg (sd.map bv).toArray,.slice (some ⟨gt,0,none⟩) 33 33,.slice (some ⟨gr,0,none⟩) 1 1,.slice (some ⟨gs,0,none⟩) 1 1] kF (PairU (Base.of w) dU NU (λ_=>n) zS (.int .i64 en)) (λw' hw=>hsign w' hw gt ga gr gs (hw.get (i:=4) rfl) (hw.get (i:=5) rfl) (hw.get (i:=6) rfl) (hw.get (i:=3) rfl)) (λv M1 hR0=>?_)
       obtain ⟨W1,c1,sa1,sc1,rfl,hU1⟩:=hR0
       refine sZ 11 rfl (.tuple #[sgv33 dU W1 NU c1,.int .i64 en])<|sZ 12 rfl (sgv33 dU W1 NU c1) ?_
       refine Sy.stepDA 13 rfl kR (λ_ _ _ _ h=>h) kR (.int .i64 en) kF ?_
       exact leafQ fin (gt,ga,gr,gs,g12,W1,c1,M1) ⟨sa1,sc1,hU1⟩ kR (all_cons kR (all_cons kR (all_cons kR (all_cons kR all_nil)))) (Sy.flat_perm (ls:=[[(g0,23,(sd.map bv).toArray),(g1,48,(pcs ax ay ai)),(g2,42,(fcs kx))],[(gs,44,(sec5 z kx).toArray)],[(gt,191,((encS (dec ax ay ai)).map bv).toArray)],[(ga,193,(flat (upto n fK (pml 0 0 false)) 64).toArray)],[(gr,45,#[.slice (some ⟨ga,0,none⟩) n n])],[(g12,31,(sgc33 (List.replicate 32 (0:UInt8)) none 0 0).toArray)],M1]) (ms:=[[(g0,23,(sd.map bv).toArray),(g1,48,(pcs ax ay ai)),(g2,42,(fcs kx))],[(gt,191,((encS (dec ax ay ai)).map bv).toArray)],[(ga,193,(flat (upto n fK (pml 0 0 false)) 64).toArray)],[(gr,45,#[.slice (some ⟨ga,0,none⟩) n n])],[(gs,44,(sec5 z kx).toArray)],[(g12,31,(sgc33 (List.replicate 32 (0:UInt8)) none 0 0).toArray)],M1]) [0,2,3,4,1,5,6] (by kernel_rfl) (by rfl) (by simp) (by simp))
     ·refine Sy.oneMake rfl (by kernel_rfl) 31 (sgc33 (List.replicate 32 (0:UInt8)) none 0 0).toArray ptr kF (λg12=>?_)
      refine Sy.callND 5 rfl kR kR 100 #[.slice A n c,pv ax ay ai] kF (RgsR fK n) (λw hw=>by rw [hfK]; exact rings10_any w A n c X Y I hX hY ax ay ai hax hay hn64 (hlk.below hw.below)) (λv M hR0=>?_)
      obtain ⟨ga,gr,rfl,rfl⟩:=hR0
      refine Sy.callND 10 rfl kR kR 13 #[.agg (sd.map bv).toArray,.slice (some ⟨gt,0,none⟩) 33 33,.slice (some ⟨gr,0,none⟩) 1 1,.slice (some ⟨gs,0,none⟩) 1 1] kF (PairU (Base.of w) dU NU (λ_=>n) zS (.int .i64 en)) (λw' hw=>hsign w' hw gt ga gr gs (hw.get (i:=4) rfl) (hw.get (i:=6) rfl) (hw.get (i:=7) rfl) (hw.get (i:=3) rfl)) (λv M1 hR0=>?_)
      obtain ⟨W1,c1,sa1,sc1,rfl,hU1⟩:=hR0
      refine sZ 11 rfl (.tuple #[sgv33 dU W1 NU c1,.int .i64 en])<|sZ 12 rfl (sgv33 dU W1 NU c1) ?_
      refine Sy.stepDA 13 rfl kR (λ_ _ _ _ h=>h) kR (.int .i64 en) kF ?_
      exact leafQ fin (gt,ga,gr,gs,g12,W1,c1,M1) ⟨sa1,sc1,hU1⟩ kR (all_cons kR (all_cons kR (all_cons kR (all_cons kR all_nil)))) (Sy.flat_perm (ls:=[[(g0,23,(sd.map bv).toArray),(g1,48,(pcs ax ay ai)),(g2,42,(fcs kx))],[(gs,44,(sec5 z kx).toArray)],[(gt,191,((encS (dec ax ay ai)).map bv).toArray)],[(g12,31,(sgc33 (List.replicate 32 (0:UInt8)) none 0 0).toArray)],[(ga,193,(flat (upto n fK (pml 0 0 false)) 64).toArray)],[(gr,45,#[.slice (some ⟨ga,0,none⟩) n n])],M1]) (ms:=[[(g0,23,(sd.map bv).toArray),(g1,48,(pcs ax ay ai)),(g2,42,(fcs kx))],[(gt,191,((encS (dec ax ay ai)).map bv).toArray)],[(ga,193,(flat (upto n fK (pml 0 0 false)) 64).toArray)],[(gr,45,#[.slice (some ⟨ga,0,none⟩) n n])],[(gs,44,(sec5 z kx).toArray)],[(g12,31,(sgc33 (List.replicate 32 (0:UInt8)) none 0 0).toArray)],M1]) [0,2,4,5,1,3,6] (by kernel_rfl) (by rfl) (by simp) (by simp))
    ·refine Sy.oneMake rfl (by kernel_rfl) 31 (sgc33 (List.replicate 32 (0:UInt8)) none 0 0).toArray ptr kF (λg12=>?_)
     refine Sy.callND 2 rfl kR kR 99 #[pv ax ay ai] kF (CodeIs (dec ax ay ai)) (λw _=>text10_any w ax ay ai hax hay) (λv M hR0=>?_)
     obtain ⟨gt,rfl,rfl⟩:=hR0
     refine Sy.callND 5 rfl kR kR 100 #[.slice A n c,pv ax ay ai] kF (RgsR fK n) (λw hw=>by rw [hfK]; exact rings10_any w A n c X Y I hX hY ax ay ai hax hay hn64 (hlk.below hw.below)) (λv M hR0=>?_)
     obtain ⟨ga,gr,rfl,rfl⟩:=hR0
     refine Sy.callND 10 rfl kR kR 13 #[.agg (sd.map bv).toArray,.slice (some ⟨gt,0,none⟩) 33 33,.slice (some ⟨gr,0,none⟩) 1 1,.slice (some ⟨gs,0,none⟩) 1 1] kF (PairU (Base.of w) dU NU (λ_=>n) zS (.int .i64 en)) (λw' hw=>hsign w' hw gt ga gr gs (hw.get (i:=5) rfl) (hw.get (i:=6) rfl) (hw.get (i:=7) rfl) (hw.get (i:=3) rfl)) (λv M1 hR0=>?_)
     obtain ⟨W1,c1,sa1,sc1,rfl,hU1⟩:=hR0
     refine sZ 11 rfl (.tuple #[sgv33 dU W1 NU c1,.int .i64 en])<|sZ 12 rfl (sgv33 dU W1 NU c1) ?_
     refine Sy.stepDA 13 rfl kR (λ_ _ _ _ h=>h) kR (.int .i64 en) kF ?_
     exact leafQ fin (gt,ga,gr,gs,g12,W1,c1,M1) ⟨sa1,sc1,hU1⟩ kR (all_cons kR (all_cons kR (all_cons kR (all_cons kR all_nil)))) (Sy.flat_perm (ls:=[[(g0,23,(sd.map bv).toArray),(g1,48,(pcs ax ay ai)),(g2,42,(fcs kx))],[(gs,44,(sec5 z kx).toArray)],[(g12,31,(sgc33 (List.replicate 32 (0:UInt8)) none 0 0).toArray)],[(gt,191,((encS (dec ax ay ai)).map bv).toArray)],[(ga,193,(flat (upto n fK (pml 0 0 false)) 64).toArray)],[(gr,45,#[.slice (some ⟨ga,0,none⟩) n n])],M1]) (ms:=[[(g0,23,(sd.map bv).toArray),(g1,48,(pcs ax ay ai)),(g2,42,(fcs kx))],[(gt,191,((encS (dec ax ay ai)).map bv).toArray)],[(ga,193,(flat (upto n fK (pml 0 0 false)) 64).toArray)],[(gr,45,#[.slice (some ⟨ga,0,none⟩) n n])],[(gs,44,(sec5 z kx).toArray)],[(g12,31,(sgc33 (List.replicate 32 (0:UInt8)) none 0 0).toArray)],M1]) [0,3,4,5,1,2,6] (by kernel_rfl) (by rfl) (by simp) (by simp))
   ·refine Sy.oneMake rfl (by kernel_rfl) 31 (sgc33 (List.replicate 32 (0:UInt8)) none 0 0).toArray ptr kF (λg12=>?_)
    refine Sy.anyOf [2,9] (by kernel_rfl) (by decide) (Sy.each2 ?_ ?_)
    ·refine Sy.oneCallN rfl (by kernel_rfl) 99 #[pv ax ay ai] kF (CodeIs (dec ax ay ai)) (λw _=>text10_any w ax ay ai hax hay) (λv M hR0=>?_)
     obtain ⟨gt,rfl,rfl⟩:=hR0
     refine Sy.anyOf [5,9] (by kernel_rfl) (by decide) (Sy.each2 ?_ ?_)
     ·refine Sy.oneCallN rfl (by kernel_rfl) 100 #[.slice A n c,pv ax ay ai] kF (RgsR fK n) (λw hw=>by rw [hfK]; exact rings10_any w A n c X Y I hX hY ax ay ai hax hay hn64 (hlk.below hw.below)) (λv M hR0=>?_)
      obtain ⟨ga,gr,rfl,rfl⟩:=hR0
      refine Sy.makeD 9 rfl kR kR 44 (sec5 z kx).toArray (λg=>.slice (some ⟨g,0,none⟩) 1 1) kF (λgs=>?_)
      refine Sy.callND 10 rfl kR kR 13 #[.agg (sd.map bv).toArray,.slice (some ⟨gt,0,none⟩) 33 33,.slice (some ⟨gr,0,none⟩) 1 1,.slice (some ⟨gs,0,none⟩) 1 1] kF (PairU (Base.of w) dU NU (λ_=>n) zS (.int .i64 en)) (λw' hw=>hsign w' hw gt ga gr gs (hw.get (i:=4) rfl) (hw.get (i:=5) rfl) (hw.get (i:=6) rfl) (hw.get (i:=7) rfl)) (λv M1 hR0=>?_)
      obtain ⟨W1,c1,sa1,sc1,rfl,hU1⟩:=hR0
      refine sZ 11 rfl (.tuple #[sgv33 dU W1 NU c1,.int .i64 en])<|sZ 12 rfl (sgv33 dU W1 NU c1) ?_
      refine Sy.stepDA 13 rfl kR (λ_ _ _ _ h=>h) kR (.int .i64 en) kF ?_
      exact leafQ fin (gt,ga,gr,gs,g12,W1,c1,M1) ⟨sa1,sc1,hU1⟩ kR (all_cons kR (all_cons kR (all_cons kR (all_cons kR all_nil)))) (Sy.flat_perm (ls:=[[(g0,23,(sd.map bv).toArray),(g1,48,(pcs ax ay ai)),(g2,42,(fcs kx))],[(g12,31,(sgc33 (List.replicate 32 (0:UInt8)) none 0 0).toArray)],[(gt,191,((encS (dec ax ay ai)).map bv).toArray)],[(ga,193,(flat (upto n fK (pml 0 0 false)) 64).toArray)],[(gr,45,#[.slice (some ⟨ga,0,none⟩) n n])],[(gs,44,(sec5 z kx).toArray)],M1]) (ms:=[[(g0,23,(sd.map bv).toArray),(g1,48,(pcs ax ay ai)),(g2,42,(fcs kx))],[(gt,191,((encS (dec ax ay ai)).map bv).toArray)],[(ga,193,(flat (upto n fK (pml 0 0 false)) 64).toArray)],[(gr,45,#[.slice (some ⟨ga,0,none⟩) n n])],[(gs,44,(sec5 z kx).toArray)],[(g12,31,(sgc33 (List.replicate 32 (0:UInt8)) none 0 0).toArray)],M1]) [0,2,3,4,5,1,6] (by kernel_rfl) (by rfl) (by simp) (by simp))
     ·refine Sy.oneMake rfl (by kernel_rfl) 44 (sec5 z kx).toArray (λg=>.slice (some ⟨g,0,none⟩) 1 1) kF (λgs=>?_)
      refine Sy.callND 5 rfl kR kR 100 #[.slice A n c,pv ax ay ai] kF (RgsR fK n) (λw hw=>by rw [hfK]; exact rings10_any w A n c X Y I hX hY ax ay ai hax hay hn64 (hlk.below hw.below)) (λv M hR0=>?_)
      obtain ⟨ga,gr,rfl,rfl⟩:=hR0
      refine Sy.callND 10 rfl kR kR 13 #[.agg (sd.map bv).toArray,.slice (some ⟨gt,0,none⟩) 33 33,.slice (some ⟨gr,0,none⟩) 1 1,.slice (some ⟨gs,0,none⟩) 1 1] kF (PairU (Base.of w) dU NU (λ_=>n) zS (.int .i64 en)) (λw' hw=>hsign w' hw gt ga gr gs (hw.get (i:=4) rfl) (hw.get (i:=6) rfl) (hw.get (i:=7) rfl) (hw.get (i:=5) rfl)) (λv M1 hR0=>?_)
      obtain ⟨W1,c1,sa1,sc1,rfl,hU1⟩:=hR0
      refine sZ 11 rfl (.tuple #[sgv33 dU W1 NU c1,.int .i64 en])<|sZ 12 rfl (sgv33 dU W1 NU c1) ?_
      refine Sy.stepDA 13 rfl kR (λ_ _ _ _ h=>h) kR (.int .i64 en) kF ?_
      exact leafQ fin (gt,ga,gr,gs,g12,W1,c1,M1) ⟨sa1,sc1,hU1⟩ kR (all_cons kR (all_cons kR (all_cons kR (all_cons kR all_nil)))) (Sy.flat_perm (ls:=[[(g0,23,(sd.map bv).toArray),(g1,48,(pcs ax ay ai)),(g2,42,(fcs kx))],[(g12,31,(sgc33 (List.replicate 32 (0:UInt8)) none 0 0).toArray)],[(gt,191,((encS (dec ax ay ai)).map bv).toArray)],[(gs,44,(sec5 z kx).toArray)],[(ga,193,(flat (upto n fK (pml 0 0 false)) 64).toArray)],[(gr,45,#[.slice (some ⟨ga,0,none⟩) n n])],M1]) (ms:=[[(g0,23,(sd.map bv).toArray),(g1,48,(pcs ax ay ai)),(g2,42,(fcs kx))],[(gt,191,((encS (dec ax ay ai)).map bv).toArray)],[(ga,193,(flat (upto n fK (pml 0 0 false)) 64).toArray)],[(gr,45,#[.slice (some ⟨ga,0,none⟩) n n])],[(gs,44,(sec5 z kx).toArray)],[(g12,31,(sgc33 (List.replicate 32 (0:UInt8)) none 0 0).toArray)],M1]) [0,2,4,5,3,1,6] (by kernel_rfl) (by rfl) (by simp) (by simp))
    ·refine Sy.oneMake rfl (by kernel_rfl) 44 (sec5 z kx).toArray (λg=>.slice (some ⟨g,0,none⟩) 1 1) kF (λgs=>?_)
     refine Sy.callND 2 rfl kR kR 99 #[pv ax ay ai] kF (CodeIs (dec ax ay ai)) (λw _=>text10_any w ax ay ai hax hay) (λv M hR0=>?_)
     obtain ⟨gt,rfl,rfl⟩:=hR0
     refine Sy.callND 5 rfl kR kR 100 #[.slice A n c,pv ax ay ai] kF (RgsR fK n) (λw hw=>by rw [hfK]; exact rings10_any w A n c X Y I hX hY ax ay ai hax hay hn64 (hlk.below hw.below)) (λv M hR0=>?_)
     obtain ⟨ga,gr,rfl,rfl⟩:=hR0
     refine Sy.callND 10 rfl kR kR 13 #[.agg (sd.map bv).toArray,.slice (some ⟨gt,0,none⟩) 33 33,.slice (some ⟨gr,0,none⟩) 1 1,.slice (some ⟨gs,0,none⟩) 1 1] kF (PairU (Base.of w) dU NU (λ_=>n) zS (.int .i64 en)) (λw' hw=>hsign w' hw gt ga gr gs (hw.get (i:=5) rfl) (hw.get (i:=6) rfl) (hw.get (i:=7) rfl) (hw.get (i:=4) rfl)) (λv M1 hR0=>?_)
     obtain ⟨W1,c1,sa1,sc1,rfl,hU1⟩:=hR0
     refine sZ 11 rfl (.tuple #[sgv33 dU W1 NU c1,.int .i64 en])<|sZ 12 rfl (sgv33 dU W1 NU c1) ?_
     refine Sy.stepDA 13 rfl kR (λ_ _ _ _ h=>h) kR (.int .i64 en) kF ?_
     exact leafQ fin (gt,ga,gr,gs,g12,W1,c1,M1) ⟨sa1,sc1,hU1⟩ kR (all_cons kR (all_cons kR (all_cons kR (all_cons kR all_nil)))) (Sy.flat_perm (ls:=[[(g0,23,(sd.map bv).toArray),(g1,48,(pcs ax ay ai)),(g2,42,(fcs kx))],[(g12,31,(sgc33 (List.replicate 32 (0:UInt8)) none 0 0).toArray)],[(gs,44,(sec5 z kx).toArray)],[(gt,191,((encS (dec ax ay ai)).map bv).toArray)],[(ga,193,(flat (upto n fK (pml 0 0 false)) 64).toArray)],[(gr,45,#[.slice (some ⟨ga,0,none⟩) n n])],M1]) (ms:=[[(g0,23,(sd.map bv).toArray),(g1,48,(pcs ax ay ai)),(g2,42,(fcs kx))],[(gt,191,((encS (dec ax ay ai)).map bv).toArray)],[(ga,193,(flat (upto n fK (pml 0 0 false)) 64).toArray)],[(gr,45,#[.slice (some ⟨ga,0,none⟩) n n])],[(gs,44,(sec5 z kx).toArray)],[(g12,31,(sgc33 (List.replicate 32 (0:UInt8)) none 0 0).toArray)],M1]) [0,3,4,5,2,1,6] (by kernel_rfl) (by rfl) (by simp) (by simp))
end Cu
end
section
namespace Cu
open Go.RowKit Sy
set_option maxRecDepth 100000
set_option maxHeartbeats 4000000
theorem conv_int (w:World) (F:Slots) (o:Oper) (x:Operand) (u:UInt8) (ho:o.op=.convert 5 3 x) (hx:evF F x=bv u):(execOp (evF F) o).run Tryz.prog w=.ok (.value (.int .i64 ((u.toNat:Nat):Int))) w:=by
 have hu:=u.toNat_lt
 have e:(convert 5 3 (.int .u8 ((u.toNat:Nat):Int))).run Tryz.prog w=.ok (.int .i64 ((u.toNat:Nat):Int)) w:=by
  go_simp
  exact wrap_i64 (by omega) (by omega)
 unfold execOp
 simp only [ho,hx,bv,e,Sem.run_bind,Sem.run_pure,Result.andThen_ok]
section
variable (ax ay:Nat) (ai:Bool) (X Y:Nat→Nat) (I:Nat→Bool) (n:Nat) (m:List UInt8)
def sjV:Bool:=decB (m.drop 1) (λ_=>((n:Nat):Int)) 1 && vfB (encS (dec ax ay ai)) 1 (λ_=>n) (sjX ax ay ai X Y I) (sjY ax ay ai X Y I) (sjI ax ay ai X Y I) (nmD (m.drop 1) λ_=>n) ((m.drop 1).take 32) 1 (λ_=>n)
def sjB:Bool:=alwB n && (!decide (m.length=0) && (!decide ((m.getD 0 0).toNat≠n) && sjV ax ay ai X Y I n m))
end
theorem src_drop1 {w:World} {g o q cp:Nat} {m:List UInt8} (hm:m.length=q) (hq:1≤q) (hcp:q≤cp) (hc:∀ j u,m[j]? = some u→w.cell? ⟨g,o+j,none⟩=some (bv u)) (hg:g<w.heap.size):Sh.Src w (some ⟨g,if cp=1 then o else o+1*1,none⟩) (m.drop 1):=λhne=>by
 have hl:0<(m.drop 1).length:=List.length_pos_iff.2 hne
 rw [List.length_drop] at hl
 refine ⟨g,_,rfl,hg,λj u hj=>?_⟩
 rw [List.getElem?_drop] at hj
 rw [if_neg (by omega),show o+1*1+j=o+(1+j) by omega]
 exact hc _ u hj
theorem verify10_any (w:World) (A:Option Addr) (n c:Nat) (X Y:Nat→Nat) (I:Nat→Bool) (hX:∀ k,X k<K4) (hY:∀ k,Y k<K4) (hn:n≤9223372036854775807) (ax ay:Nat) (ai:Bool) (hax:ax<K4) (hay:ay<K4) (B:Option Addr) (m:List UInt8) (q cp:Nat) (hm:m.length=q) (hq9:q≤999000000) (hcp:q≤cp) (hcp2:cp≤9223372036854775807) (hs:Sh.Src w B m)
  (hlk:(m.getD 0 0).toNat=n→Lst w 9 A n (λk=>pml (X k) (Y k) (I k))) (ht:Sh.TabAt w 1) :
  Calls Tryz.prog 42 #[.slice A n c,pv ax ay ai,.slice B q cp] w (Gets w (.bool (sjB ax ay ai X Y I n m))):=by
 obtain ⟨b1,hb1⟩:∃ b,b=alwB n:=⟨_,rfl⟩
 unfold sjB
 rw [← hb1]
 refine Sy.enter (args:=[.slice A n c,pv ax ay ai,.slice B q cp]) Tryz.func42 rfl kL ?_
 refine sC ?_
 refine sM 48 (pcs ax ay ai) (λg0=>?_)
 refine sP (.bool false) ?_
 refine sG<|Sy.seq<|sC ?_
 refine sP (.slice A n c)<|sP (.int .i64 ((n:Nat):Int))<|sS (.bool b1) (qG 98 #[.int .i64 ((n:Nat):Int)] (λw hw=>by rw [hb1]; exact allow10_any w n hn)) ?_
 cases b1
 ·refine sP (.bool true)<|sP (.bool true)<|sN<|sN<|sN<|sP (.bool true)<|sP (.bool true)<|sN<|sN<|sN<|sN<|sN<|sN<|sN<|sP (.bool true) ?_
  refine sG<|sT<|sC ?_
  refine sP (.bool false) ?_
  refine sG<|Sy.ret<|Sy.then_ret ?_
  exact rV (.bool false) rfl
 ·obtain ⟨b2,hb2⟩:∃ z:Bool,z=decide (q=0):=⟨_,rfl⟩
  have hn64:n≤64:=(alw_iff.1 hb1.symm).2
  have hn1:1≤n:=(alw_iff.1 hb1.symm).1
  have hn:n≤4611686018427387904:=Nat.le_trans hn64 (by decide)
  rw [show decide (m.length=0)=b2 from by rw [hm,hb2]]
  refine sP (.bool false)<|sP (.bool false)<|sP (.slice B q cp)<|sP (.int .i64 ((q:Nat):Int))<|sS (.bool b2) (Quiet.pure (exec_int .eql _ _ _ .i64 _ _ _ rfl rfl rfl (int_eql _ _ _ _ _ (by rw [hb2]; exact decide_eq_decide.2 (by omega)))))<|sP (.bool b2)<|sP (.bool b2) ?_
  cases b2
  ·have hq0:q≠0:=of_decide_eq_false hb2.symm
   have hne:m≠[]:=λe=>by rw [e] at hm; exact hq0 hm.symm
   have hA:=hs hne
   obtain ⟨g,o,rfl,hg,hcl⟩:=hA
   obtain ⟨u0,hu0⟩:∃ u,u=m.getD 0 0:=⟨_,rfl⟩
   have h0:m[0]? = some u0:=by
    rw [hu0,List.getD_eq_getElem?_getD,List.getElem?_eq_getElem (by omega)]
    rfl
   rw [← hu0] at hlk ⊢
   obtain ⟨b3,hb3⟩:∃ z:Bool,z=decide (u0.toNat≠n):=⟨_,rfl⟩
   have hu:=u0.toNat_lt
   rw [← hb3]
   refine sP (.slice (some ⟨g,o,none⟩) q cp)<|sS (.pointer (some ⟨g,o+0*1,none⟩)) (Quiet.pure (exec_at 24 _ _ _ g o q cp 0 1 .i64 rfl rfl rfl Tryz.underlying24 kF (by omega)))<|sS (bv u0) (Quiet.thereOne g (o+0*1) 5 _ _ rfl kR hg _ (hcl 0 u0 h0) Tryz.underlying5 rfl)<|sS (.int .i64 ((u0.toNat:Nat):Int)) (Quiet.pure (λw=>conv_int w _ _ _ u0 rfl rfl)) <|
    sP (.slice A n c)<|sP (.int .i64 ((n:Nat):Int))<|sS (.bool b3) (Quiet.pure (exec_int .neq _ _ _ .i64 _ _ _ rfl rfl rfl (int_neq _ _ _ _ _ (by rw [hb3]; exact decide_eq_decide.2 (by omega)))))<|sP (.bool b3) ?_
   cases b3
   ·have hun:u0.toNat=n:=Decidable.of_not_not (of_decide_eq_false hb3.symm)
    have hlk:=hlk hun
    obtain ⟨E,hE⟩:∃ E:Nat→Nat,E=λ_=>n:=⟨_,rfl⟩
    have hDI:(λ_:Nat=>(((n:Nat):Int)).toNat)=E:=by rw [hE]; exact funext λ_=>Int.toNat_natCast _
    obtain ⟨b4,hb4⟩:∃ b,b=decB (m.drop 1) (λ_=>((n:Nat):Int)) 1:=⟨_,rfl⟩
    obtain ⟨d0,hd0_⟩:∃ l,l=uD true b4 ((m.drop 1).take 32):=⟨_,rfl⟩
    obtain ⟨N0,hN0_⟩:∃ k,k=uN true b4 1:=⟨_,rfl⟩
    obtain ⟨s0,hs0_⟩:∃ f,f=nmD (m.drop 1) E:=⟨_,rfl⟩
    have hN0:N0≤1:=by rw [hN0_]; exact uN_le
    have hd0:d0.length=32:=by
     rw [hd0_]
     unfold uD
     cases b4 with
     | false=>exact List.length_replicate
     | true=>have:=(dec_small hb4.symm).2.2.1; show ((m.drop 1).take 32).length=32; rw [List.length_take]; omega
    obtain ⟨fK,hfK⟩:∃ f:Nat→List Value,f=(λj=>pml (pX (lessP ax ay ai (X j) (Y j) (I j))) (pY (lessP ax ay ai (X j) (Y j) (I j))) (pI (lessP ax ay ai (X j) (Y j) (I j)))):=⟨_,rfl⟩
    have hf9:∀ j,(fK j).length=9:=λj=>by rw [hfK]; rfl
    unfold sjV
    rw [← hb4]
    obtain ⟨A2,hA2⟩:∃ a:Addr,a=⟨g,if cp=1 then o else o+1*1,none⟩:=⟨_,rfl⟩
    have hs2:Sh.Src w (some A2) (m.drop 1):=by rw [hA2]; exact src_drop1 hm (by omega) hcp hcl hg
    refine sG<|sU<|Sy.skip<|sB ?_
    refine sP (.slice (some ⟨g,o,none⟩) q cp)<|sS (.slice (some A2) (q - 1) (cp - 1)) (Quiet.pure (λw=>by rw [hA2]; exact exec_sl1A _ _ _ g o q cp 1 1 .i64 rfl rfl rfl Tryz.underlying24 kF (by omega) w))<|sP (.slice A n c)<|sP (.int .i64 ((n:Nat):Int)) ?_
    refine Sy.make kR 3 #[.int .i64 ((n:Nat):Int)] (λg=>.slice (some ⟨g,0,none⟩) 1 1) kF (λg1=>?_)
    refine Sy.callN kR 23 #[.slice (some A2) (q - 1) (cp - 1),.slice (some ⟨g1,0,none⟩) 1 1] kF (PairU (Base.of w) d0 N0 E s0 (.bool b4)) (λw' hw=>by
     have q0:=decG_any w' (some A2) (m.drop 1) (q - 1) (cp - 1) (by rw [List.length_drop,hm]) (by omega) (by omega) (hs2.below hw.below) (some ⟨g1,0,none⟩) 1 1 (λ_=>((n:Nat):Int)) (by decide) (one_lst (hw.get (i:=1) rfl) rfl)
     rw [hDI, ← hb4] at q0
     rw [hd0_,hN0_,hs0_]
     exact Calls.mono q0 (λe w' ⟨v,M,q1,q2,q3⟩=>⟨v,M,q1,DecR.uniC q2,q3⟩)) (λv M1 hR0=>?_)
    obtain ⟨W1,c1,sa1,sc1,rfl,hU1⟩:=hR0
    refine sP (.tuple #[sgv33 d0 W1 N0 c1,.bool b4])<|sP (sgv33 d0 W1 N0 c1)<|sP (.bool b4)<|sM 31 (sgc33 (List.replicate 32 (0:UInt8)) none 0 0).toArray (λg2=>?_)
    refine Sy.movT ?_
    refine sW 2 g2 31 (sgc33 (List.replicate 32 (0:UInt8)) none 0 0).toArray (sgc33 d0 W1 N0 c1).toArray (Writes.row 31 (sgc33 d0 W1 N0 c1) 33 _ _ rfl kR kR kR (sg_len hd0) (by rw [List.size_toArray,sg_len List.length_replicate]) sg_one) ?_
    refine Sy.setT ?_
    refine sP (.bool b4) ?_
    refine sH (λj=>false) ?_
    refine sZ 0 rfl (.bool b4)<|sZ 1 rfl (.bool b4) ?_
    cases b4
    ·refine sQ 2 rfl<|sQ 3 rfl<|sQ 4 rfl<|sQ 5 rfl<|sQ 6 rfl<|sQ 7 rfl<|sQ 8 rfl<|sZ 9 rfl (.bool false)<|sZ 10 rfl (.bool false) ?_
     refine sI ?_
     refine Sy.ret ?_
     exact rV (.bool false) rfl
    ·obtain rfl:1=N0:=hN0_.symm
     obtain ⟨bV,hbV⟩:∃ b,b=vfB (encS (dec ax ay ai)) 1 (λ_=>n) (sjX ax ay ai X Y I) (sjY ax ay ai X Y I) (sjI ax ay ai X Y I) s0 d0 1 (λ_=>n):=⟨_,rfl⟩
     refine sD 2 rfl (pv ax ay ai) (qL 0 g0 0 9 48 48 (pcs ax ay ai) rfl Tryz.underlying48)<|sZ 4 rfl (.slice A n c)<|sD 5 rfl (pv ax ay ai) (qL 0 g0 0 9 48 48 (pcs ax ay ai) rfl Tryz.underlying48)<|sD 7 rfl (sgv33 d0 W1 1 c1) (Quiet.load 2 g2 0 33 31 31 (sgc33 d0 W1 1 c1).toArray _ _ rfl kR kR Tryz.underlying31 rfl kR _ (sg_whole hd0) (sg_fit hd0)) ?_
     refine Sy.callND 3 rfl kR kR 99 #[pv ax ay ai] kF (CodeIs (dec ax ay ai)) (λw _=>text10_any w ax ay ai hax hay) (λv M hR0=>?_)
     obtain ⟨gt,rfl,rfl⟩:=hR0
     refine Sy.callND 6 rfl kR kR 100 #[.slice A n c,pv ax ay ai] kF (RgsR fK n) (λw hw=>by rw [hfK]; exact rings10_any w A n c X Y I hX hY ax ay ai hax hay hn64 (hlk.below hw.below)) (λv M hR0=>?_)
     obtain ⟨ga,gr,rfl,rfl⟩:=hR0
     refine sD 8 rfl (.bool bV) (qG 15 #[.slice (some ⟨gt,0,none⟩) 33 33,.slice (some ⟨gr,0,none⟩) 1 1,sgv33 d0 W1 1 c1] (λw' hw=>by
      have h1:=(hw.blk gt 191 ((encS (dec ax ay ai)).map bv).toArray (by simp)).2
      have h2:=(hw.blk ga 193 (flat (upto n fK (pml 0 0 false)) 64).toArray (by simp)).2
      have h3:=(hw.blk gr 45 #[.slice (some ⟨ga,0,none⟩) n n] (by simp)).2
      have u:=hU1.2 w' _ hw (λb hb=>by simp only [List.mem_append]; exact .inl (.inl (.inr hb)))
      rw [hE] at u
      have q0:=VerifyG_any w' (some ⟨gt,0,none⟩) (encS (dec ax ay ai)) 33 33 (encS_length _) (by decide) (by decide) (by decide) (Sh.Src.of_blk h1) (some ⟨gr,0,none⟩) 1 1 (λ_=>some ⟨ga,0,none⟩) (λ_=>n) (λ_=>n) (sjX ax ay ai X Y I) (sjY ax ay ai X Y I) (sjI ax ay ai X Y I) (λ_ _=>pX_lt _) (λ_ _=>pY_lt _) (by decide) (λ_=>hn) (one_lst h3 rfl) (λi _=>arr_lst hf9 hn64 h2 (λj=>by rw [hfK]; rfl)) (by decide) d0 hd0 W1 1 c1 sa1 (λ_=>n) sc1 s0 (λi k=>by rw [hs0_]; exact nmB_lt4 _ _) (by decide) (λ_ _=>hn) u.1 u.2 (ht.below hw.below ht.lt)
      rw [hbV]
      exact q0))<|sZ 9 rfl (.bool bV)<|sZ 10 rfl (.bool bV) ?_
     refine sI ?_
     refine Sy.ret ?_
     rw [hs0_,show d0=(m.drop 1).take 32 from hd0_,hE] at hbV
     rw [← hbV]
     exact rV (.bool bV) rfl
   ·refine sG<|sT<|sC ?_
    refine sP (.bool false) ?_
    refine sG<|Sy.ret<|Sy.then_ret ?_
    exact rV (.bool false) rfl
  ·refine sN<|sN<|sN<|sN<|sN<|sN<|sN<|sP (.bool true) ?_
   refine sG<|sT<|sC ?_
   refine sP (.bool false) ?_
   refine sG<|Sy.ret<|Sy.then_ret ?_
   exact rV (.bool false) rfl
end Cu
end
section
namespace Cu
open Go.RowKit Sy
set_option maxRecDepth 100000
set_option maxHeartbeats 4000000
theorem alX_scg {s s':Nat→Nat} {bm:List UInt8} {i K:Nat} {X Y:Nat→Nat} {I:Nat→Bool} {x:List UInt8} (h:∀ j,j<K→s j=s' j):∀ k,k≤K→alX s bm i 0 X Y I x k=alX s' bm i 0 X Y I x k
 | 0,_=>rfl
 | k+1,hk=>by rw [alX0_succ,alX0_succ,alX_scg h k (by omega),h k (by omega)]
section
variable {s s':Nat→Nat→Nat} {bm:List UInt8} {X Y:Nat→Nat→Nat} {I:Nat→Nat→Bool} {d:List UInt8} {N:Nat} {nk:Nat→Nat}
theorem endsT_congr (h:∀ i,i<N→∀ j,j<nk i→s i j=s' i j):∀ k,k≤N→endsT s bm X Y I d nk k=endsT s' bm X Y I d nk k
 | 0,_=>rfl
 | k+1,hk=>by
  show endsT s bm X Y I d nk k++_=endsT s' bm X Y I d nk k++_
  rw [endsT_congr h k (by omega),alX_scg (h k (by omega)) _ (Nat.le_refl _)]
theorem chB_congr (h:∀ i,i<N→∀ j,j<nk i→s i j=s' i j) (hc:chB s bm X Y I d N N nk nk=true):chB s' bm X Y I d N N nk nk=true:=by
 unfold chB at hc
 rw [Bool.and_eq_true,Bool.and_eq_true] at hc
 refine chB_yes rfl (λi hi=>?_) (by rw [← endsT_congr h N (Nat.le_refl _)]; exact of_decide_eq_true hc.2.2)
 have q:=List.all_eq_true.1 hc.2.1 i (List.mem_range.2 hi)
 unfold rowOk at q ⊢
 rw [Bool.and_eq_true] at q ⊢
 refine ⟨q.1,List.all_eq_true.2 λj hj=>?_⟩
 have:=List.all_eq_true.1 q.2 j hj
 rwa [← h i hi j (List.mem_range.1 hj)]
end
section
variable {sd:List UInt8} {ax ay:Nat} {ai:Bool} {X Y:Nat→Nat} {I:Nat→Bool} {n:Nat} {z:Int} {kx:Nat}
theorem sj_first (h:n≤64):((sjL sd ax ay ai X Y I n z kx).getD 0 0).toNat=n:=by
 show (UInt8.ofNat n).toNat=n
 rw [UInt8.toNat_ofNat']
 omega
theorem sj_len:(sjL sd ax ay ai X Y I n z kx).length=33+32*n:=by
 unfold sjL
 rw [List.length_cons,List.length_append,rowsE_len2]
 have e:sumN (λ_=>n) 1=n:=Nat.zero_add n
 rw [e,show (sjD sd ax ay ai X Y I n z).length=32 from sgD_len _]
 omega
theorem sj_back (ha:alwB n=true) (hf:sjF ax ay ai X Y I n z kx=true):sjB ax ay ai X Y I n (sjL sd ax ay ai X Y I n z kx)=true:=by
 have hn:=alw_iff.1 ha
 have hd:(sjD sd ax ay ai X Y I n z).length=32:=sgD_len _
 have hdec:=enc_dec (s:=sjS sd ax ay ai X Y I n z kx) (sn:=λ_=>n) (N:=1) hd (by decide) (by decide) (λ_ _=>hn)
 have hl:(sjL sd ax ay ai X Y I n z kx).drop 1=sjD sd ax ay ai X Y I n z++rowsE (sjS sd ax ay ai X Y I n z kx) (λ_=>n) 1:=rfl
 have hlen:=sj_len (sd:=sd) (ax:=ax) (ay:=ay) (ai:=ai) (X:=X) (Y:=Y) (I:=I) (n:=n) (z:=z) (kx:=kx)
 have hft:=fit_parts (show true=fitB (λ_=>z) (λ_=>kx) (λ_=>n) (sjX ax ay ai X Y I) (sjY ax ay ai X Y I) (sjI ax ay ai X Y I) 1 1 from hf.symm)
 have hch:chB (sjS sd ax ay ai X Y I n z kx) (sjM ax ay ai X Y I n) (sjX ax ay ai X Y I) (sjY ax ay ai X Y I) (sjI ax ay ai X Y I) (sjD sd ax ay ai X Y I n z) 1 1 (λ_=>n) (λ_=>n)=true:=chB_sign (at_:=λ_=>z.toNat) (sx:=λ_=>kx) (λ_ _=>rfl) (λi hi=>⟨(hft.2 i hi).2.1,(hft.2 i hi).2.2⟩)
 have hch2:=chB_congr (s':=nmD ((sjL sd ax ay ai X Y I n z kx).drop 1) λ_=>n) (λi hi j hj=>by rw [hl,enc_nm hd hi hj]; exact (sgS_mod _ _).symm) hch
 unfold sjB sjV
 rw [ha,decide_eq_false (by omega:¬ (sjL sd ax ay ai X Y I n z kx).length=0),sj_first hn.2,decide_eq_false (by simp:¬ n≠n),hl,hdec,List.take_left' hd]
 unfold vfB
 rw [sj_right ax ay ai X Y I ha]
 rw [hl] at hch2
 show (!false && (!false && (true && (true && _))))=true
 simp only [Bool.not_false,Bool.true_and]
 exact hch2
theorem sj_other {X' Y':Nat→Nat} {I':Nat→Bool} (ha:alwB n=true):sjB ax ay ai X' Y' I' (n - 1) (sjL sd ax ay ai X Y I n z kx)=false:=by
 have hn:=alw_iff.1 ha
 unfold sjB
 rw [sj_first hn.2,decide_eq_true (by omega:n≠n - 1)]
 simp
end
theorem cs_load {sd:List UInt8} {us:List Value} (h:sd.length=32) (k n:Nat) {v:Value} (hv:Value.agg ((us.drop k).take n).toArray=v):Value.agg (((csl sd us).toArray.toList.drop (32+k)).take n).toArray=v:=by
 rw [← hv]
 show Value.agg (((csl sd us).drop (32+k)).take n).toArray=_
 unfold csl
 rw [← List.drop_drop,List.drop_left' (by rw [List.length_map,h])]
theorem cs_room {sd:List UInt8} {us:List Value} (h:sd.length=32) (k n:Nat) (hk:k+n≤us.length):32+k+n≤(csl sd us).toArray.size:=by
 rw [List.size_toArray]
 unfold csl
 rw [List.length_append,List.length_map,h]
 omega
theorem less_self {x y:Nat} (h:dec x y false≠none∨True):lessP x y false x y false=none:=by
 unfold lessP
 exact Ec.add_neg _
theorem a_fit10:sjF gx.val gy.val false (λ_=>gx.val) (λ_=>gy.val) (λ_=>false) 1 0 0=true:=by
 unfold sjF
 refine fitB_all rfl λj hj=>?_
 obtain rfl:j=0:=by omega
 have q:=fit_op (At:=λ_=>(0:Int)) (sx:=λ_=>0) (n:=λ_=>1) (X:=sjX gx.val gy.val false (λ_=>gx.val) (λ_=>gy.val) (λ_=>false)) (Y:=sjY gx.val gy.val false (λ_=>gx.val) (λ_=>gy.val) (λ_=>false)) (I:=sjI gx.val gy.val false (λ_=>gx.val) (λ_=>gy.val) (λ_=>false)) (k:=0) (q:=0) (by show ¬ (0:Int)<0; decide) (by show ¬ (0:Int) ≥ ((1:Nat):Int); decide) rfl
 rw [q]
 show openB 0 (pX (lessP gx.val gy.val false gx.val gy.val false)) (pY (lessP gx.val gy.val false gx.val gy.val false)) (pI (lessP gx.val gy.val false gx.val gy.val false))=true
 rw [less_self (.inr trivial)]
 unfold openB
 rw [show evP 0=none from rfl]
 exact sameB_self _ _ _
theorem alive10 (w:World) (ht:Sh.TabAt w 1):Calls Tryz.prog 41 #[] w (Gets w (.bool true)):=by
 refine Sy.enter (args:=[]) Tryz.func41 rfl kL ?_
 refine sC ?_
 refine sP (.bool false) ?_
 refine sA ?_
 refine sS (pv gx.val gy.val false) (qF 19 #[] (baseR_c)) ?_
 refine Sy.make kR 48 (pcs gx.val gy.val false) (λg=>.slice (some ⟨g,0,none⟩) 1 1) kF (λg0=>?_)
 refine sP (.slice (some ⟨g0,0,none⟩) 1 1) ?_
 refine sA ?_
 refine sP (.agg ((List.replicate 32 (0:UInt8)).map bv).toArray)<|sP (.slice (some ⟨g0,0,none⟩) 1 1)<|sP (.slice (some ⟨g0,0,none⟩) 1 1)<|sP (.pointer (some ⟨g0,0,none⟩))<|sS (pv gx.val gy.val false) (qL 0 g0 0 9 48 48 (pcs gx.val gy.val false) rfl Tryz.underlying48)<|sP (fv 0) ?_
 refine Sy.callN kR 39 #[.agg ((List.replicate 32 (0:UInt8)).map bv).toArray,.slice (some ⟨g0,0,none⟩) 1 1,pv gx.val gy.val false,.int .i64 0,fv 0] kF _ (λw' hw=>prove10_any w' (List.replicate 32 0) List.length_replicate (some ⟨g0,0,none⟩) 1 1 (λ_=>gx.val) (λ_=>gy.val) (λ_=>false) (λ_=>lt4 _) (λ_=>lt4 _) (by decide) (one_lst (hw.get (i:=0) rfl) rfl) gx.val gy.val false (lt4 _) (lt4 _) 0 0 (by decide) (ht.below hw.below ht.lt)) (λv M hR0=>?_)
 rcases hR0 with ⟨h,_⟩ | ⟨_,h,_⟩ | ⟨_,_,y,rfl,rfl,hy⟩
 ·cases h
 ·rw [a_fit10] at h; cases h
 obtain ⟨l,hl⟩:∃ l,l=sjL (List.replicate 32 0) gx.val gy.val false (λ_=>gx.val) (λ_=>gy.val) (λ_=>false) 1 0 0:=⟨_,rfl⟩
 have hlen:l.length=65:=by rw [hl]; exact sj_len
 have hback:sjB gx.val gy.val false (λ_=>gx.val) (λ_=>gy.val) (λ_=>false) 1 l=true:=by rw [hl]; exact sj_back rfl a_fit10
 rw [← hl] at hy
 obtain ⟨A3,c3,hv3,hl3,hc3,hs3⟩:=row_tx hy
 refine sP (.tuple #[y.v,.int .i64 0])<|sP y.v<|sP (.int .i64 0)<|sP y.v<|sP (.int .i64 0) ?_
 refine sA ?_
 refine sP (.int .i64 0)<|sP (.bool true)<|sP (.bool true)<|sP y.v<|sS (.int .i64 ((65:Nat):Int)) (Quiet.lenR hy (by rw [bytesR_len]; exact hlen) _ Tryz.underlying24 rfl kR)<|sP (.bool true)<|sP (.bool true)<|sP (.bool true) <|
  sP (.slice (some ⟨g0,0,none⟩) 1 1)<|sP (.slice (some ⟨g0,0,none⟩) 1 1)<|sP (.pointer (some ⟨g0,0,none⟩))<|sS (pv gx.val gy.val false) (qL 0 g0 0 9 48 48 (pcs gx.val gy.val false) rfl Tryz.underlying48)<|sP y.v <|
  sS (.bool true) (qG 42 #[.slice (some ⟨g0,0,none⟩) 1 1,pv gx.val gy.val false,y.v] (λw' hw=>by
   have q:=verify10_any w' (some ⟨g0,0,none⟩) 1 1 (λ_=>gx.val) (λ_=>gy.val) (λ_=>false) (λ_=>lt4 _) (λ_=>lt4 _) (by decide) gx.val gy.val false (lt4 _) (lt4 _) A3 l l.length c3 rfl (by omega) hl3 (Nat.le_trans hc3 (by decide)) (hs3 hw (λb hb=>List.mem_append.2 (.inr hb))) (λ_=>one_lst (hw.get (i:=0) rfl) rfl) (ht.below hw.below ht.lt)
   rw [hback] at q
   rw [hv3]
   exact q))<|sP (.bool true)<|sP (.bool true) ?_
 refine sG<|Sy.ret ?_
 exact rV (.bool true) rfl
def c10 (A:Option Addr) (n c ax ay:Nat) (ai:Bool) (z:Int) (kx:Nat):List Value:=[.slice A n c]++(pml ax ay ai++([.int .i64 z]++fws kx))
theorem c10_len {A:Option Addr} {n c ax ay:Nat} {ai:Bool} {z:Int} {kx:Nat}:(c10 A n c ax ay ai z kx).length=15:=rfl
theorem law_surjectback (w:World) (sd:List UInt8) (hsd:sd.length=32) (A:Option Addr) (n c:Nat) (X Y:Nat→Nat) (I:Nat→Bool) (hX:∀ k,X k<K4) (hY:∀ k,Y k<K4) (hn:n≤9223372036854775807) (hlk:Lst w 9 A n (λk=>pml (X k) (Y k) (I k))) (ax ay:Nat) (ai:Bool) (hax:ax<K4) (hay:ay<K4) (z:Int) (kx:Nat) (hkx:kx<K4) (ht:Sh.TabAt w 1) :
  Calls Tryz.prog 12 #[csv sd (c10 A n c ax ay ai z kx)] w (Gets w (.bool true)):=by
 refine Sy.enter (args:=[csv sd (c10 A n c ax ay ai z kx)]) Tryz.func12 rfl kL ?_
 refine sC ?_
 refine sM 79 (csl sd (c10 A n c ax ay ai z kx)).toArray (λg0=>?_)
 refine sP (.bool false) ?_
 refine sG<|sC ?_
 refine sP (.pointer (some ⟨g0,0,none⟩))<|sS (.agg (sd.map bv).toArray) (Quiet.load 0 g0 0 32 79 23 (csl sd (c10 A n c ax ay ai z kx)).toArray _ _ rfl kR kR Tryz.underlying23 rfl kR _ (cs_first hsd) (cs_fits hsd))<|sP (.pointer (some ⟨g0,32,none⟩))<|sS (.slice A n c) (Quiet.cell 0 g0 32 79 45 (csl sd (c10 A n c ax ay ai z kx)).toArray _ _ rfl kR kR Tryz.underlying45 rfl _ (cs_at hsd 0)) <|
  sP (.pointer (some ⟨g0,33,none⟩))<|sS (pv ax ay ai) (Quiet.load 0 g0 33 9 79 48 (csl sd (c10 A n c ax ay ai z kx)).toArray _ _ rfl kR kR Tryz.underlying48 rfl kR _ (cs_load hsd 1 9 rfl) (cs_room hsd 1 9 (by rw [c10_len]; omega)))<|sP (.pointer (some ⟨g0,42,none⟩))<|sS (.int .i64 z) (Quiet.cell 0 g0 42 79 3 (csl sd (c10 A n c ax ay ai z kx)).toArray _ _ rfl kR kR Tryz.underlying3 rfl _ (cs_at hsd 10)) <|
  sP (.pointer (some ⟨g0,43,none⟩))<|sS (fv kx) (Quiet.load 0 g0 43 4 79 42 (csl sd (c10 A n c ax ay ai z kx)).toArray _ _ rfl kR kR Tryz.underlying42 rfl kR _ (cs_load hsd 11 4 rfl) (cs_room hsd 11 4 (by rw [c10_len]; omega))) ?_
 refine Sy.callN kR 39 #[.agg (sd.map bv).toArray,.slice A n c,pv ax ay ai,.int .i64 z,fv kx] kF _ (λw' hw=>prove10_any w' sd hsd A n c X Y I hX hY hn (hlk.below hw.below) ax ay ai hax hay z kx hkx (ht.below hw.below ht.lt)) (λv M hR0=>?_)
 rcases hR0 with ⟨_,rfl,rfl⟩ | ⟨_,_,rfl,rfl⟩ | ⟨ha,hf,y,rfl,rfl,hy⟩
 ·refine sP (.tuple #[.slice none 0 0,.int .i64 100])<|sP (.slice none 0 0)<|sP (.int .i64 100)<|sP (.slice none 0 0)<|sP (.int .i64 100) ?_
  refine sG<|Sy.seq<|sC ?_
  refine sS (.bool true) (qG 41 #[] (λw hw=>alive10 w (ht.below hw.below ht.lt)))<|sP (.bool false) ?_
  refine sG<|sU<|Sy.skip<|Sy.then_<|Sy.seq<|sC ?_
  refine sP (.int .i64 100)<|sP (.bool true) ?_
  refine sG<|sT<|sC ?_
  refine sP (.slice none 0 0)<|sP (.int .i64 0)<|sP (.bool true)<|sP (.bool true)<|sP (.int .i64 100)<|sP (.bool true)<|sP (.bool true)<|sN<|sN<|sP (.bool true)<|sP (.bool true)<|sP (.bool true) ?_
  refine sG<|Sy.ret<|Sy.then_ret ?_
  exact rV (.bool true) rfl
 ·refine sP (.tuple #[.slice none 0 0,.int .i64 101])<|sP (.slice none 0 0)<|sP (.int .i64 101)<|sP (.slice none 0 0)<|sP (.int .i64 101) ?_
  refine sG<|Sy.seq<|sC ?_
  refine sS (.bool true) (qG 41 #[] (λw hw=>alive10 w (ht.below hw.below ht.lt)))<|sP (.bool false) ?_
  refine sG<|sU<|Sy.skip<|Sy.then_<|Sy.seq<|sC ?_
  refine sP (.int .i64 101)<|sP (.bool true) ?_
  refine sG<|sT<|sC ?_
  refine sP (.slice none 0 0)<|sP (.int .i64 0)<|sP (.bool true)<|sP (.bool true)<|sP (.int .i64 101)<|sP (.bool false)<|sP (.bool false)<|sP (.int .i64 101)<|sP (.bool true)<|sP (.bool true)<|sP (.bool true)<|sP (.bool true) ?_
  refine sG<|Sy.ret<|Sy.then_ret ?_
  exact rV (.bool true) rfl
 ·obtain ⟨l,hl⟩:∃ l,l=sjL sd ax ay ai X Y I n z kx:=⟨_,rfl⟩
  have hn64:=alw_iff.1 ha
  have hback:sjB ax ay ai X Y I n l=true:=by rw [hl]; exact sj_back ha hf
  have hoth:sjB ax ay ai X Y I (n - 1) l=false:=by rw [hl]; exact sj_other ha
  have hfst:(l.getD 0 0).toNat=n:=by rw [hl]; exact sj_first hn64.2
  have hlen:l.length=33+32*n:=by rw [hl]; exact sj_len
  rw [← hl] at hy
  obtain ⟨A3,c3,hv3,hl3,hc3,hs3⟩:=row_tx hy
  have hlk0:=hlk
  obtain ⟨gK,oK,hT⟩:=hlk
  obtain ⟨A1,hA1⟩:∃ a:Addr,a=⟨gK,if c=1 then oK else oK+1*9,none⟩:=⟨_,rfl⟩
  refine sP (.tuple #[y.v,.int .i64 0])<|sP y.v<|sP (.int .i64 0)<|sP y.v<|sP (.int .i64 0) ?_
  refine sG<|Sy.seq<|sC ?_
  refine sS (.bool true) (qG 41 #[] (λw hw=>alive10 w (ht.below hw.below ht.lt)))<|sP (.bool false) ?_
  refine sG<|sU<|Sy.skip<|Sy.then_<|Sy.seq<|sC ?_
  refine sP (.int .i64 0)<|sP (.bool false) ?_
  refine sG<|sU<|Sy.skip ?_
  refine sR (λj=>false) ?_
  refine sZ 0 rfl (.pointer (some ⟨g0,32,none⟩))<|sD 1 rfl (.slice A n c) (Quiet.cell 0 g0 32 79 45 (csl sd (c10 A n c ax ay ai z kx)).toArray _ _ rfl kR kR Tryz.underlying45 rfl _ (cs_at hsd 0))<|sZ 2 rfl (.pointer (some ⟨g0,33,none⟩))<|sD 3 rfl (pv ax ay ai) (Quiet.load 0 g0 33 9 79 48 (csl sd (c10 A n c ax ay ai z kx)).toArray _ _ rfl kR kR Tryz.underlying48 rfl kR _ (cs_load hsd 1 9 rfl) (cs_room hsd 1 9 (by rw [c10_len]; omega)))<|sZ 4 rfl y.v <|
   sD 5 rfl (.bool true) (qG 42 #[.slice A n c,pv ax ay ai,y.v] (λw' hw=>by
    have q:=verify10_any w' A n c X Y I hX hY hn ax ay ai hax hay A3 l l.length c3 rfl (by omega) hl3 (Nat.le_trans hc3 (by decide)) (hs3 hw (λb hb=>List.mem_append.2 (.inr hb))) (λ_=>hlk0.below hw.below) (ht.below hw.below ht.lt)
    rw [hback] at q
    rw [hv3]
    exact q))<|sZ 6 rfl (.bool true)<|sZ 7 rfl (.pointer (some ⟨g0,32,none⟩))<|sD 8 rfl (.slice A n c) (Quiet.cell 0 g0 32 79 45 (csl sd (c10 A n c ax ay ai z kx)).toArray _ _ rfl kR kR Tryz.underlying45 rfl _ (cs_at hsd 0)) <|
   sD 9 rfl (.slice (some A1) (n - 1) (c - 1)) (Quiet.pure (λw=>by rw [hA1]; exact exec_sl1A _ _ _ gK oK n c 1 9 .i64 rfl (by rw [← (hT (by omega)).1]; rfl) rfl Tryz.underlying45 kF (by omega) w)) <|
   sZ 10 rfl (.pointer (some ⟨g0,33,none⟩))<|sD 11 rfl (pv ax ay ai) (Quiet.load 0 g0 33 9 79 48 (csl sd (c10 A n c ax ay ai z kx)).toArray _ _ rfl kR kR Tryz.underlying48 rfl kR _ (cs_load hsd 1 9 rfl) (cs_room hsd 1 9 (by rw [c10_len]; omega)))<|sZ 12 rfl y.v <|
   sD 13 rfl (.bool false) (qG 42 #[.slice (some A1) (n - 1) (c - 1),pv ax ay ai,y.v] (λw' hw=>by
    have q:=verify10_any w' (some A1) (n - 1) (c - 1) X Y I hX hY (by omega) ax ay ai hax hay A3 l l.length c3 rfl (by omega) hl3 (Nat.le_trans hc3 (by decide)) (hs3 hw (λb hb=>List.mem_append.2 (.inr hb))) (λh=>by rw [hfst] at h; omega) (ht.below hw.below ht.lt)
    rw [hoth] at q
    rw [hv3]
    exact q))<|sZ 14 rfl (.bool true)<|sZ 15 rfl (.bool true)<|sZ 16 rfl (.bool true) ?_
  refine sI ?_
  refine Sy.ret ?_
  exact rV (.bool true) rfl
end Cu
end
section
namespace Cu
open Go.ChangeShapes Go.WideShapes Go.ChangeAt Go.RowKit Sy Go.Deep
theorem trod_struct5 {H:Type} {enc:TypeId×Value→H} {P:Program} {w:World} {base:Nat} {sp:Nat→Bool} {held:Bool} {t:TypeId} {f0 f1 f2 f3 f4:Field} {fuel:Nat} {cs:List Value} {x:DataW H×List MemPlace} (ht:P.underlying t=some (.struct #[f0,f1,f2,f3,f4])) (h:DataW.trod enc P w base sp held fuel t cs=some x) :
  ∃ y0 y1 y2 y3 y4 n,DataW.trod enc P w base sp held n f0.type ((cs.drop f0.offset).take (P.cellsOf f0.type))=some y0 ∧
   DataW.trod enc P w base sp held n f1.type ((cs.drop f1.offset).take (P.cellsOf f1.type))=some y1∧DataW.trod enc P w base sp held n f2.type ((cs.drop f2.offset).take (P.cellsOf f2.type))=some y2 ∧
   DataW.trod enc P w base sp held n f3.type ((cs.drop f3.offset).take (P.cellsOf f3.type))=some y3∧DataW.trod enc P w base sp held n f4.type ((cs.drop f4.offset).take (P.cellsOf f4.type))=some y4:=by
 obtain ⟨xs,n,_,rfl,hl,hlen,hf⟩:=DataW.trod_struct ht h
 match xs,hlen with
 | [y0,y1,y2,y3,y4],_=>exact ⟨y0,y1,y2,y3,y4,n,by simpa using hf 0 f0 rfl,by simpa using hf 1 f1 rfl,by simpa using hf 2 f2 rfl,by simpa using hf 3 f3 rfl,by simpa using hf 4 f4 rfl⟩
theorem split5 {α:Type} {cs:List α} {a b c d e:Nat} (h:cs.length=a+(b+(c+(d+e)))):cs=(cs.drop 0).take a++((cs.drop a).take b++((cs.drop (a+b)).take c++((cs.drop (a+b+c)).take d++(cs.drop (a+b+c+d)).take e))):=by
 have h2:=split4 (cs:=cs.drop a) (a:=b) (b:=c) (c:=d) (d:=e) (by rw [List.length_drop]; omega)
 rw [List.drop_zero,List.drop_drop,List.drop_drop,List.drop_drop, ← Nat.add_assoc, ← Nat.add_assoc, ← Nat.add_assoc] at h2
 rw [← h2,List.drop_zero,List.take_append_drop]
set_option maxRecDepth 100000 in
theorem open_case10 {H:Type} {enc:TypeId×Value→H} {W:World} {r:Reach} {b0:Nat} {v:Value} {d:DataW H} {ps:List MemPlace}
  (hval:Value.okWide Tryz.prog W r b0 79 v) (h:DataW.Trod enc Tryz.prog W 0 (λ_=>true) true 79 v d ps) :
  ∃ (sd:List UInt8) (A:Option Addr) (n c:Nat) (X Y:Nat→Nat) (I:Nat→Bool) (ax ay:Nat) (ai:Bool) (z:Int) (kx:Nat),
   v=csv sd (c10 A n c ax ay ai z kx)∧sd.length=32∧(∀ k,X k<K4)∧(∀ k,Y k<K4)∧n≤9223372036854775807∧Lst W 9 A n (λk=>pml (X k) (Y k) (I k))∧ax<K4∧ay<K4∧kx<K4:=by
 have ht:=Tryz.underlying79
 obtain ⟨⟨cs⟩,rfl,hsz⟩:=okWide_struct ht hval
 rw [show Tryz.prog.cellsOf 79=47 by kernel_rfl] at hsz
 have hl:cs.length=32+(1+(9+(1+4))):=by simpa using hsz
 obtain ⟨fuel,hf⟩:=h
 obtain ⟨y0,y1,y2,y3,y4,n,g0,g1,g2,g3,g4⟩:=trod_struct5 ht (by simpa [Value.cells] using hf)
 have s:=split5 hl
 have l2:((cs.drop (32+1)).take 9).length=9:=by rw [List.length_take,List.length_drop]; omega
 have l4:((cs.drop (32+1+9+1)).take 4).length=4:=by rw [List.length_take,List.length_drop]; omega
 obtain ⟨sd,hsd,e0⟩:=open_bytes (P:=Tryz.prog) Tryz.underlying23 Tryz.underlying5 (by kernel_rfl) (by kernel_rfl) g0
 obtain ⟨A,m,c,T,e1,hm,hc,hT,_,hls,_⟩:=open_listD (P:=Tryz.prog) Pr.cells Pr.ok (λ_=>0) 9 (by decide) (λ_=>rfl) ⟨K4_pos,K4_pos⟩ rfl Tryz.underlying45 (by kernel_rfl)
  (λfuel cs x hl hf=>by
   obtain ⟨y,h1,h2⟩:=pt_trod' fuel cs x hl hf
   exact ⟨y,h1,h2,Nat.zero_le _⟩) g1
 obtain ⟨⟨ax,ay,ai⟩,⟨hax,hay⟩,e2⟩:=pt_trod' n _ _ l2 g2
 obtain ⟨z,e3,_⟩:=one_int (P:=Tryz.prog) Tryz.underlying3 g3
 obtain ⟨k,hk,e4⟩:=four_words l4 (P:=Tryz.prog) Tryz.underlying42 Tryz.underlying40 (by kernel_rfl) g4
 refine ⟨sd,A,m,c,λj=>(T j).x,λj=>(T j).y,λj=>(T j).i,ax,ay,ai,z,k,?_,hsd,λj=>(hT j).1,λj=>(hT j).2,Nat.le_trans hm hc,hls,hax,hay,hk⟩
 have q0:(cs.drop 0).take 32=sd.map bv:=e0
 have q1:(cs.drop 32).take 1=[.slice A m c]:=e1
 have q2:(cs.drop (32+1)).take 9=pml ax ay ai:=e2
 have q3:(cs.drop (32+1+9)).take 1=[.int .i64 z]:=e3
 have q4:(cs.drop (32+1+9+1)).take 4=fws k:=e4
 rw [s,q0,q1,q2,q3,q4]
 rfl
end Cu
end
end Go.Proofs.YtmennpefjofhjaaGreatDoor
