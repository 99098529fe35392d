/-
  Texts of ours.
-/
import Derived.Test.YtgemfpnlnipfnabGreatDoorBV8
set_option linter.unusedVariables false
set_option linter.unusedSimpArgs false
set_option maxRecDepth 100000
set_option maxHeartbeats 40000000
namespace Go.Proofs.YtgemfpnlnipfnabGreatDoor
section
namespace Cu
open Go.RowKit Sy
def clC (ax ay:Nat) (ai:Bool) (mx my:Nat) (mi:Bool):List Value:=pml ax ay ai++pml mx my mi
def clv (ax ay:Nat) (ai:Bool) (mx my:Nat) (mi:Bool):Value:=.agg (clC ax ay ai mx my mi).toArray
def TxR (l:AF) (v:Value) (M:AC):Prop:=∃ (g:Nat) (sp:List Value) (cap:Nat),v=.slice (pA g) l.length cap∧(l.length≤cap∧cap≤9223372036854775807)∧M=[(g,5,(l.map bv++sp).toArray)]
theorem PZ (w:World) (g g1 g2:Nat) (t t1 t2:TypeId) (x y:AF) (hx:x.length=33) (hy:y.length=33)
  (h1:Blk w g1 t1 (x.map bv).toArray) (h2:Blk w g2 t2 (y.map bv).toArray) (hb:Blk w g t #[.slice (pA g1) 33 33,.slice (pA g2) 33 33]) :
  Calls Tryz.prog 99 #[.slice (pA g) 2 2] w (GetsN w (TxR (x++y))):=by
 have e:Sh.cat [⟨some ⟨g1,0,none⟩,x,33⟩,⟨some ⟨g2,0,none⟩,y,33⟩]=x++y:=by simp [Sh.cat]
 have hl:(x++y).length=66:=by rw [List.length_append,hx,hy]
 have hb':Blk w g t (([⟨some ⟨g1,0,none⟩,x,33⟩,⟨some ⟨g2,0,none⟩,y,33⟩]:List Sh.Tx).map Sh.Tx.val).toArray:=by
  rw [List.map_cons,List.map_cons,List.map_nil]
  unfold Sh.Tx.val
  rw [hx,hy]
  exact hb
 refine (Sh.concat_any w _ _ 2 (Kn hb' (λz hz=>?_)) (by rw [e,hl]; decide) (by rw [e,hl]; decide) (by show 2≤1000000; decide)).mono ?_
 ·simp only [List.mem_cons,List.not_mem_nil,or_false] at hz
  rcases hz with rfl|rfl
  ·exact ⟨Sh.Src.of_blk h1,by show x.length≤33; omega,by show 33≤9223372036854775807; omega⟩
  ·exact ⟨Sh.Src.of_blk h2,by show y.length≤33; omega,by show 33≤9223372036854775807; omega⟩
 rintro e' w' ⟨v,rfl,ho,hb2⟩
 rw [e] at ho
 unfold Sh.OwnB at ho
 unfold TxR
 rw [hl] at ho ⊢
 rcases ho.2 with ⟨_,h0⟩ | ⟨g',cap',cur,hv,hg,hk,q3,q4,q5,q6⟩
 ·cases h0
 ·subst hv
  have hc:cur=((x++y).map bv++cur.toList.drop 66).toArray:=by
   rw [Nat.mul_one] at q6
   rw [← q6,List.take_append_drop]
  refine ⟨_,[(g',5,cur)],rfl,⟨g',cur.toList.drop 66,cap',rfl,⟨q3,by simp only [maxLen] at q4; omega⟩,by rw [← hc]⟩,hb2,λg1 t1 cs1 hm=>?_,by simp⟩
  simp only [List.mem_singleton,Prod.mk.injEq] at hm
  obtain ⟨rfl,rfl,rfl⟩:=hm
  exact ⟨hg,hk⟩
theorem H3 (w:World) (ax ay:Nat) (ai:Bool) (mx my:Nat) (mi:Bool) (hax:ax<K4) (hay:ay<K4) (hmx:mx<K4) (hmy:my<K4):AY 39 #[clv ax ay ai mx my mi] w (GetsN w (TxR (Ay (dec ax ay ai)++Ay (dec mx my mi)))):=by
 refine Sy.enter (args:=[clv ax ay ai mx my mi]) Tryz.func39 U kL<|sC<|sM 49 (clC ax ay ai mx my mi).toArray (λg0=>?_)
 refine Sy.sp U<|sH (λj=>false) ?_
 refine sZ 0 U (pT g0 0)<|sD 1 U (pv ax ay ai) (qk 0 0 9 U U AX)<|sZ 3 U (pT g0 9)<|sD 4 U (pv mx my mi) (qk 0 9 9 U U AX)<|Sy.callND 2 U kR kR 58 #[pv ax ay ai] kF (Dk (dec ax ay ai)) (λw _=>IL w ax ay ai hax hay) (λv M hR0=>?_)
 obtain ⟨ga,rfl,rfl⟩:=hR0
 refine Sy.callND 5 U kR kR 58 #[pv mx my mi] kF (Dk (dec mx my mi)) (λw _=>IL w mx my mi hmx hmy) (λv M hR0=>?_)
 obtain ⟨gm,rfl,rfl⟩:=hR0
 refine Sy.makeD 6 U kR kR 29 #[.slice (pA ga) 33 33,.slice (pA gm) 33 33] (λg=>.slice (pA g) 2 2) kF (λgl=>?_)
 refine Sy.callND 7 U kR kR 99 #[.slice (pA gl) 2 2] kF (TxR (Ay (dec ax ay ai)++Ay (dec mx my mi))) (λw hw=>PZ w gl ga gm _ _ _ _ _ (Ai _) (Ai _) (hw.get (i:=1) rfl) (hw.get (i:=2) rfl) (hw.get (i:=3) rfl)) (λv M hR0=>?_)
 obtain ⟨gq,sp,cap,rfl,hc,rfl⟩:=hR0
 refine sz 8 U U<|sI<|Sy.ret ?_
 exact RR 4 (gq,5,((Ay (dec ax ay ai)++Ay (dec mx my mi)).map bv++sp).toArray) rfl (v:=.slice (pA gq) (Ay (dec ax ay ai)++Ay (dec mx my mi)).length cap) (.inl (show _=_ by kernel_rfl)) kR ⟨gq,sp,cap,rfl,hc,rfl⟩
def okB (ax ay:Nat) (ai:Bool) (mx my:Nat) (mi:Bool):Bool:=F1 ax ay ai && F1 mx my mi
theorem Jg (w:World) (ax ay:Nat) (ai:Bool) (mx my:Nat) (mi:Bool) (hax:ax<K4) (hay:ay<K4) (hmx:mx<K4) (hmy:my<K4):AY 56 #[clv ax ay ai mx my mi] w (Gets w (.bool (okB ax ay ai mx my mi))):=by
 refine Sy.enter (args:=[clv ax ay ai mx my mi]) Tryz.func56 U kL<|sC<|sM 49 (clC ax ay ai mx my mi).toArray (λg0=>?_)
 refine sp U<|sH (λj=>j == 8 || j == 9)<|sZ 0 U (pT g0 0)<|sD 1 U (pv ax ay ai) (qk 0 0 9 U U AX)<|sZ 2 U (tgv true (l32 (λ_=>0)) ax ay ai)<|Sy.stepDA 3 U kR (λ_ _ _ _ h=>h) kR (pT g0 9) kF<|Sy.joinG (T:=Nat×Nat) (λ⟨g3,g4⟩=>[(1,ptr g0),(3,ptr g3),(4,ptr g4),(10,amv true 0 mx my mi)]) (λ⟨g3,g4⟩=>[(g0,49,(clC ax ay ai mx my mi).toArray),(g3,161,(tgl true (l32 (λ_=>0)) ax ay ai).toArray),(g4,163,(aml false 0 0 0 false).toArray)]) (λ_=>True) 1 #[true,true,true,true,true,true,true,true,true,false] (λx _=>?_) (λfin=>?_)
 rotate_left
 refine Sy.anyOf [4,6,7] kZ dZ (Sy.each3 ?_ ?_ ?_)
 ·refine Sy.oneQuiet U kZ (pv mx my mi) (qk 0 9 9 U U AX) ?_
  refine Sy.anyOf [5,6,7] kZ dZ (Sy.each3 ?_ ?_ ?_)
  ·refine Sy.oneQuiet U kZ (amv true 0 mx my mi) qP ?_
   refine Sy.anyOf [6,7] kZ dZ (Sy.each2 ?_ ?_)
   ·refine Sy.oneMake U kZ 161 (tgl false (l32 (λ_=>0)) 0 0 false).toArray ptr kF (λg3=>?_)
    refine Sy.anyOf [7] kZ dZ (Sy.each1 ?_)
    refine Sy.oneMake U kZ 163 (aml false 0 0 0 false).toArray ptr kF (λg4=>?_)
    refine Sy.anyOf [8] kZ dZ (Sy.each1 ?_)
    refine Sy.oneWrite U kR kZ 1 g3 161 (tgl false (l32 (λ_=>0)) 0 0 false).toArray (tgl true (l32 (λ_=>0)) ax ay ai).toArray kR (wS 0 161 (tgl true (l32 (λ_=>0)) ax ay ai).toArray U) ?_
    exact BJ fin (g3,g4) trivial kR ac4 (by exact List.Perm.refl _)
   ·refine Sy.oneMake U kZ 163 (aml false 0 0 0 false).toArray ptr kF (λg4=>?_)
    refine Sy.anyOf [6] kZ dZ (Sy.each1 ?_)
    refine Sy.oneMake U kZ 161 (tgl false (l32 (λ_=>0)) 0 0 false).toArray ptr kF (λg3=>?_)
    refine Sy.anyOf [8] kZ dZ (Sy.each1 ?_)
    refine Sy.oneWrite U kR kZ 2 g3 161 (tgl false (l32 (λ_=>0)) 0 0 false).toArray (tgl true (l32 (λ_=>0)) ax ay ai).toArray kR (wS 0 161 (tgl true (l32 (λ_=>0)) ax ay ai).toArray U) ?_
    exact BJ fin (g3,g4) trivial kR ac4 (by exact (List.Perm.swap _ _ _).cons _)
  ·refine Sy.oneMake U kZ 161 (tgl false (l32 (λ_=>0)) 0 0 false).toArray ptr kF (λg3=>?_)
   refine Sy.anyOf [5,7] kZ dZ (Sy.each2 ?_ ?_)
   ·refine Sy.oneQuiet U kZ (amv true 0 mx my mi) qP ?_
    refine Sy.anyOf [7] kZ dZ (Sy.each1 ?_)
    refine Sy.oneMake U kZ 163 (aml false 0 0 0 false).toArray ptr kF (λg4=>?_)
    refine Sy.anyOf [8] kZ dZ (Sy.each1 ?_)
    refine Sy.oneWrite U kR kZ 1 g3 161 (tgl false (l32 (λ_=>0)) 0 0 false).toArray (tgl true (l32 (λ_=>0)) ax ay ai).toArray kR (wS 0 161 (tgl true (l32 (λ_=>0)) ax ay ai).toArray U) ?_
    exact BJ fin (g3,g4) trivial kR ac4 (by exact List.Perm.refl _)
   ·refine Sy.oneMake U kZ 163 (aml false 0 0 0 false).toArray ptr kF (λg4=>?_)
    refine Sy.anyOf [5,8] kZ dZ (Sy.each2 ?_ ?_)
    ·refine Sy.oneQuiet U kZ (amv true 0 mx my mi) qP ?_
     refine Sy.anyOf [8] kZ dZ (Sy.each1 ?_)
     refine Sy.oneWrite U kR kZ 1 g3 161 (tgl false (l32 (λ_=>0)) 0 0 false).toArray (tgl true (l32 (λ_=>0)) ax ay ai).toArray kR (wS 0 161 (tgl true (l32 (λ_=>0)) ax ay ai).toArray U) ?_
     exact BJ fin (g3,g4) trivial kR ac4 (by exact List.Perm.refl _)
    ·refine Sy.oneWrite U kR kZ 1 g3 161 (tgl false (l32 (λ_=>0)) 0 0 false).toArray (tgl true (l32 (λ_=>0)) ax ay ai).toArray kR (wS 0 161 (tgl true (l32 (λ_=>0)) ax ay ai).toArray U) ?_
     refine Sy.anyOf [5] kZ dZ (Sy.each1 ?_)
     refine Sy.oneQuiet U kZ (amv true 0 mx my mi) qP ?_
     exact BJ fin (g3,g4) trivial kR ac4 (by exact List.Perm.refl _)
  ·refine Sy.oneMake U kZ 163 (aml false 0 0 0 false).toArray ptr kF (λg4=>?_)
   refine Sy.anyOf [5,6] kZ dZ (Sy.each2 ?_ ?_)
   ·refine Sy.oneQuiet U kZ (amv true 0 mx my mi) qP ?_
    refine Sy.anyOf [6] kZ dZ (Sy.each1 ?_)
    refine Sy.oneMake U kZ 161 (tgl false (l32 (λ_=>0)) 0 0 false).toArray ptr kF (λg3=>?_)
    refine Sy.anyOf [8] kZ dZ (Sy.each1 ?_)
    refine Sy.oneWrite U kR kZ 2 g3 161 (tgl false (l32 (λ_=>0)) 0 0 false).toArray (tgl true (l32 (λ_=>0)) ax ay ai).toArray kR (wS 0 161 (tgl true (l32 (λ_=>0)) ax ay ai).toArray U) ?_
    exact BJ fin (g3,g4) trivial kR ac4 (by exact (List.Perm.swap _ _ _).cons _)
   ·refine Sy.oneMake U kZ 161 (tgl false (l32 (λ_=>0)) 0 0 false).toArray ptr kF (λg3=>?_)
    refine Sy.anyOf [5,8] kZ dZ (Sy.each2 ?_ ?_)
    ·refine Sy.oneQuiet U kZ (amv true 0 mx my mi) qP ?_
     refine Sy.anyOf [8] kZ dZ (Sy.each1 ?_)
     refine Sy.oneWrite U kR kZ 2 g3 161 (tgl false (l32 (λ_=>0)) 0 0 false).toArray (tgl true (l32 (λ_=>0)) ax ay ai).toArray kR (wS 0 161 (tgl true (l32 (λ_=>0)) ax ay ai).toArray U) ?_
     exact BJ fin (g3,g4) trivial kR ac4 (by exact (List.Perm.swap _ _ _).cons _)
    ·refine Sy.oneWrite U kR kZ 2 g3 161 (tgl false (l32 (λ_=>0)) 0 0 false).toArray (tgl true (l32 (λ_=>0)) ax ay ai).toArray kR (wS 0 161 (tgl true (l32 (λ_=>0)) ax ay ai).toArray U) ?_
     refine Sy.anyOf [5] kZ dZ (Sy.each1 ?_)
     refine Sy.oneQuiet U kZ (amv true 0 mx my mi) qP ?_
     exact BJ fin (g3,g4) trivial kR ac4 (by exact (List.Perm.swap _ _ _).cons _)
 ·refine Sy.oneMake U kZ 161 (tgl false (l32 (λ_=>0)) 0 0 false).toArray ptr kF (λg3=>?_)
  refine Sy.anyOf [4,7] kZ dZ (Sy.each2 ?_ ?_)
  ·refine Sy.oneQuiet U kZ (pv mx my mi) (qk 0 9 9 U U AX) ?_
   refine Sy.anyOf [5,7] kZ dZ (Sy.each2 ?_ ?_)
   ·refine Sy.oneQuiet U kZ (amv true 0 mx my mi) qP ?_
    refine Sy.anyOf [7] kZ dZ (Sy.each1 ?_)
    refine Sy.oneMake U kZ 163 (aml false 0 0 0 false).toArray ptr kF (λg4=>?_)
    refine Sy.anyOf [8] kZ dZ (Sy.each1 ?_)
    refine Sy.oneWrite U kR kZ 1 g3 161 (tgl false (l32 (λ_=>0)) 0 0 false).toArray (tgl true (l32 (λ_=>0)) ax ay ai).toArray kR (wS 0 161 (tgl true (l32 (λ_=>0)) ax ay ai).toArray U) ?_
    exact BJ fin (g3,g4) trivial kR ac4 (by exact List.Perm.refl _)
   ·refine Sy.oneMake U kZ 163 (aml false 0 0 0 false).toArray ptr kF (λg4=>?_)
    refine Sy.anyOf [5,8] kZ dZ (Sy.each2 ?_ ?_)
    ·refine Sy.oneQuiet U kZ (amv true 0 mx my mi) qP ?_
     refine Sy.anyOf [8] kZ dZ (Sy.each1 ?_)
     refine Sy.oneWrite U kR kZ 1 g3 161 (tgl false (l32 (λ_=>0)) 0 0 false).toArray (tgl true (l32 (λ_=>0)) ax ay ai).toArray kR (wS 0 161 (tgl true (l32 (λ_=>0)) ax ay ai).toArray U) ?_
     exact BJ fin (g3,g4) trivial kR ac4 (by exact List.Perm.refl _)
    ·refine Sy.oneWrite U kR kZ 1 g3 161 (tgl false (l32 (λ_=>0)) 0 0 false).toArray (tgl true (l32 (λ_=>0)) ax ay ai).toArray kR (wS 0 161 (tgl true (l32 (λ_=>0)) ax ay ai).toArray U) ?_
     refine Sy.anyOf [5] kZ dZ (Sy.each1 ?_)
     refine Sy.oneQuiet U kZ (amv true 0 mx my mi) qP ?_
     exact BJ fin (g3,g4) trivial kR ac4 (by exact List.Perm.refl _)
  ·refine Sy.oneMake U kZ 163 (aml false 0 0 0 false).toArray ptr kF (λg4=>?_)
   refine Sy.anyOf [4,8] kZ dZ (Sy.each2 ?_ ?_)
   ·refine Sy.oneQuiet U kZ (pv mx my mi) (qk 0 9 9 U U AX) ?_
    refine Sy.anyOf [5,8] kZ dZ (Sy.each2 ?_ ?_)
    ·refine Sy.oneQuiet U kZ (amv true 0 mx my mi) qP ?_
     refine Sy.anyOf [8] kZ dZ (Sy.each1 ?_)
     refine Sy.oneWrite U kR kZ 1 g3 161 (tgl false (l32 (λ_=>0)) 0 0 false).toArray (tgl true (l32 (λ_=>0)) ax ay ai).toArray kR (wS 0 161 (tgl true (l32 (λ_=>0)) ax ay ai).toArray U) ?_
     exact BJ fin (g3,g4) trivial kR ac4 (by exact List.Perm.refl _)
    ·refine Sy.oneWrite U kR kZ 1 g3 161 (tgl false (l32 (λ_=>0)) 0 0 false).toArray (tgl true (l32 (λ_=>0)) ax ay ai).toArray kR (wS 0 161 (tgl true (l32 (λ_=>0)) ax ay ai).toArray U) ?_
     refine Sy.anyOf [5] kZ dZ (Sy.each1 ?_)
     refine Sy.oneQuiet U kZ (amv true 0 mx my mi) qP ?_
     exact BJ fin (g3,g4) trivial kR ac4 (by exact List.Perm.refl _)
   ·refine Sy.oneWrite U kR kZ 1 g3 161 (tgl false (l32 (λ_=>0)) 0 0 false).toArray (tgl true (l32 (λ_=>0)) ax ay ai).toArray kR (wS 0 161 (tgl true (l32 (λ_=>0)) ax ay ai).toArray U) ?_
    refine Sy.anyOf [4] kZ dZ (Sy.each1 ?_)
    refine Sy.oneQuiet U kZ (pv mx my mi) (qk 0 9 9 U U AX)<|Sy.anyOf [5] kZ dZ (Sy.each1 ?_)
    refine Sy.oneQuiet U kZ (amv true 0 mx my mi) qP ?_
    exact BJ fin (g3,g4) trivial kR ac4 (by exact List.Perm.refl _)
 ·refine Sy.oneMake U kZ 163 (aml false 0 0 0 false).toArray ptr kF (λg4=>?_)
  refine Sy.anyOf [4,6] kZ dZ (Sy.each2 ?_ ?_)
  ·refine Sy.oneQuiet U kZ (pv mx my mi) (qk 0 9 9 U U AX) ?_
   refine Sy.anyOf [5,6] kZ dZ (Sy.each2 ?_ ?_)
   ·refine Sy.oneQuiet U kZ (amv true 0 mx my mi) qP ?_
    refine Sy.anyOf [6] kZ dZ (Sy.each1 ?_)
    refine Sy.oneMake U kZ 161 (tgl false (l32 (λ_=>0)) 0 0 false).toArray ptr kF (λg3=>?_)
    refine Sy.anyOf [8] kZ dZ (Sy.each1 ?_)
    refine Sy.oneWrite U kR kZ 2 g3 161 (tgl false (l32 (λ_=>0)) 0 0 false).toArray (tgl true (l32 (λ_=>0)) ax ay ai).toArray kR (wS 0 161 (tgl true (l32 (λ_=>0)) ax ay ai).toArray U) ?_
    exact BJ fin (g3,g4) trivial kR ac4 (by exact (List.Perm.swap _ _ _).cons _)
   ·refine Sy.oneMake U kZ 161 (tgl false (l32 (λ_=>0)) 0 0 false).toArray ptr kF (λg3=>?_)
    refine Sy.anyOf [5,8] kZ dZ (Sy.each2 ?_ ?_)
    ·refine Sy.oneQuiet U kZ (amv true 0 mx my mi) qP ?_
     refine Sy.anyOf [8] kZ dZ (Sy.each1 ?_)
     refine Sy.oneWrite U kR kZ 2 g3 161 (tgl false (l32 (λ_=>0)) 0 0 false).toArray (tgl true (l32 (λ_=>0)) ax ay ai).toArray kR (wS 0 161 (tgl true (l32 (λ_=>0)) ax ay ai).toArray U) ?_
     exact BJ fin (g3,g4) trivial kR ac4 (by exact (List.Perm.swap _ _ _).cons _)
    ·refine Sy.oneWrite U kR kZ 2 g3 161 (tgl false (l32 (λ_=>0)) 0 0 false).toArray (tgl true (l32 (λ_=>0)) ax ay ai).toArray kR (wS 0 161 (tgl true (l32 (λ_=>0)) ax ay ai).toArray U) ?_
     refine Sy.anyOf [5] kZ dZ (Sy.each1 ?_)
     refine Sy.oneQuiet U kZ (amv true 0 mx my mi) qP ?_
     exact BJ fin (g3,g4) trivial kR ac4 (by exact (List.Perm.swap _ _ _).cons _)
  ·refine Sy.oneMake U kZ 161 (tgl false (l32 (λ_=>0)) 0 0 false).toArray ptr kF (λg3=>?_)
   refine Sy.anyOf [4,8] kZ dZ (Sy.each2 ?_ ?_)
   ·refine Sy.oneQuiet U kZ (pv mx my mi) (qk 0 9 9 U U AX) ?_
    refine Sy.anyOf [5,8] kZ dZ (Sy.each2 ?_ ?_)
    ·refine Sy.oneQuiet U kZ (amv true 0 mx my mi) qP ?_
     refine Sy.anyOf [8] kZ dZ (Sy.each1 ?_)
     refine Sy.oneWrite U kR kZ 2 g3 161 (tgl false (l32 (λ_=>0)) 0 0 false).toArray (tgl true (l32 (λ_=>0)) ax ay ai).toArray kR (wS 0 161 (tgl true (l32 (λ_=>0)) ax ay ai).toArray U) ?_
     exact BJ fin (g3,g4) trivial kR ac4 (by exact (List.Perm.swap _ _ _).cons _)
    ·refine Sy.oneWrite U kR kZ 2 g3 161 (tgl false (l32 (λ_=>0)) 0 0 false).toArray (tgl true (l32 (λ_=>0)) ax ay ai).toArray kR (wS 0 161 (tgl true (l32 (λ_=>0)) ax ay ai).toArray U) ?_
     refine Sy.anyOf [5] kZ dZ (Sy.each1 ?_)
     refine Sy.oneQuiet U kZ (amv true 0 mx my mi) qP ?_
     exact BJ fin (g3,g4) trivial kR ac4 (by exact (List.Perm.swap _ _ _).cons _)
   ·refine Sy.oneWrite U kR kZ 2 g3 161 (tgl false (l32 (λ_=>0)) 0 0 false).toArray (tgl true (l32 (λ_=>0)) ax ay ai).toArray kR (wS 0 161 (tgl true (l32 (λ_=>0)) ax ay ai).toArray U) ?_
    refine Sy.anyOf [4] kZ dZ (Sy.each1 ?_)
    refine Sy.oneQuiet U kZ (pv mx my mi) (qk 0 9 9 U U AX)<|Sy.anyOf [5] kZ dZ (Sy.each1 ?_)
    refine Sy.oneQuiet U kZ (amv true 0 mx my mi) qP ?_
    exact BJ fin (g3,g4) trivial kR ac4 (by exact (List.Perm.swap _ _ _).cons _)
 obtain ⟨g3,g4⟩:=x
 dsimp only
 refine sx 9 U 2 U (aml true 0 mx my mi).toArray (wA U)<|sE<|sB<|sS (tgv true (l32 (λ_=>0)) ax ay ai) (qk 1 0 42 U U ZQ) ?_
 obtain ⟨b1,hb1⟩:=xE (F1 ax ay ai)
 obtain ⟨b2,hb2⟩:=xE (F1 mx my mi)
 have e1:En true (l32 (λ_=>0)) ax ay ai=b1:=by
  unfold En
  rw [if_pos U,decide_eq_true U,Bool.true_and,hb1]
 have e2:Eo true 0 mx my mi=b2:=by
  unfold Eo
  rw [if_pos U,decide_eq_true U,Bool.true_and,hb2]
 unfold okB
 rw [← hb1, ← hb2]
 refine sS (.bool b1) (qf (λw=>by rw [← e1]; exact TE w true _ ax ay ai hax hay))<|sp U ?_
 cases b1
 ·refine sN<|sN<|sP (.bool false)<|sp U ?_
  refine sG<|Sy.ret ?_
  exact rV (.bool false) rfl
 ·refine sS (amv true 0 mx my mi) (qk 2 0 11 U U ZP)<|sS (.bool b2) (qf (λw=>by rw [← e2]; exact TP w true 0 dZ mx my mi hmx hmy))<|sP (.bool b2)<|sp U ?_
  refine sG<|Sy.ret ?_
  exact rV (.bool b2) rfl
def EC (P C:Pt) (i j:Nat):List Value:=pml (pX (kP P C i j)) (pY (kP P C i j)) (pI (kP P C i j))
theorem Bg (P C:Pt) (i j:Nat):(EC P C i j).length=9:=rfl
theorem Bx (x y:Nat) (i:Bool):∀ u∈pml x y i,u.oneCell'=true:=I9 _ (by cases i <;> kernel_rfl)
theorem J6 (P C:Pt) (i j:Nat):∀ u∈EC P C i j,u.oneCell'=true:=Bx _ _ _
theorem Rv (w:World) (ax ay:Nat) (ai:Bool) (mx my:Nat) (mi:Bool) (hax:ax<K4) (hay:ay<K4) (C:Pt) (hC:Ec.On C) (P:Pt) (hP:P=dec ax ay ai) (i:Nat) (hi:i<32):AY 121 #[clv ax ay ai mx my mi,pv (pX C) (pY C) (pI C),iZ i] w (Gets w (.agg (AL (EC P C i) 4).toArray)):=by
 have oP:Ec.On P:=by rw [hP]; exact C8 _ _ _
 have hw:=JF (show 1<4 by decide) hi
 obtain ⟨q,hq⟩:=xE (1*4 ^ i)
 rw [← hq] at hw
 obtain ⟨R1,hR1⟩:=xE (wP P i)
 have oR1:Ec.On R1:=by rw [hR1]; exact Kh oP i
 have eR1:Ec.nm AR (q%Sc.pM) P=R1:=by rw [hR1,hq,Nat.one_mul]; rfl
 obtain ⟨R2,hR2⟩:=xE (Ec.neg R1)
 have oR2:Ec.On R2:=by rw [hR2]; exact oR1.neg
 refine Sy.enter (args:=[clv ax ay ai mx my mi,pv (pX C) (pY C) (pI C),iZ i]) Tryz.func121 U kL<|sC<|sM 49 (clC ax ay ai mx my mi).toArray (λg3=>?_)
 refine sM 37 (pcs (pX C) (pY C) (pI C)) (λg4=>?_)
 refine sM 170 (AL (λ_=>pml 0 0 false) 4).toArray (λg6=>?_)
 refine sH (λj=>j == 8) ?_
 refine sz 0 U U<|sD 1 U (uZ ((q:Nat):Int)) (qf (λw=>by rw [hq]; exact Kd w 1 i dZ hi))<|sD 2 U (fv q) (qf (λw=>Sc.of_any w q hw))<|sZ 3 U (pT g3 0)<|sD 4 U (pv ax ay ai) (qk 0 0 9 U U AX)<|sD 5 U (pv (pX R1) (pY R1) (pI R1)) (qf (MA (M6 hw) hax hay hP.symm eR1))<|sD 6 U (pv (pX R2) (pY R2) (pI R2)) (qf (Fv (B_ _) (B9 _) (Ap oR1) (Ak _) hR2.symm))<|Sy.makeD 7 U kR kR 37 (pcs 0 0 false) ptr kF (λg7=>?_)
 refine sx 8 U 3 U (pcs (pX R2) (pY R2) (pI R2)) (wA U)<|sE<|sB<|sM 170 (AL (λ_=>pml 0 0 false) 4).toArray (λg8=>?_)
 refine sG<|Sy.seq<|sC<|sp U<|sG<|Sy.block ?_
 have hz:(AL (λ_=>pml 0 0 false) 4).toArray=(AL (upto 0 (EC P C i) (pml 0 0 false)) 4).toArray:=Em
 rw [hz]
 refine Sy.loopK 4 (λk1=>[(4,ptr g4),(6,ptr g6),(7,ptr g7),(8,ptr g8),(17,iZ k1)]) (λk1=>[(g3,49,(clC ax ay ai mx my mi).toArray),(g4,37,pcs (pX (kP P C i k1)) (pY (kP P C i k1)) (pI (kP P C i k1))),(g6,170,(AL (upto 0 (EC P C i) (pml 0 0 false)) 4).toArray),(g7,37,pcs (pX R2) (pY R2) (pI R2)),(g8,170,(AL (upto k1 (EC P C i) (pml 0 0 false)) 4).toArray)]) [true,true,true,true,true] (M:=[(g3,49,(clC ax ay ai mx my mi).toArray),(g4,37,pcs (pX C) (pY C) (pI C)),(g6,170,(AL (upto 0 (EC P C i) (pml 0 0 false)) 4).toArray),(g7,37,pcs (pX R2) (pY R2) (pI R2)),(g8,170,(AL (upto 0 (EC P C i) (pml 0 0 false)) 4).toArray)]) ac5 kR (by rw [WU oP hC]) (λk1 hk1=>?_)
 refine sC ?_
 obtain ⟨b1,hb1⟩:=xE (decide (k1<4))
 refine sS (.bool b1) (qls U U U hb1)<|sG<|Sy.seq ?_
 cases b1
 ·have lb1:=dN hb1
  obtain rfl:4=k1:=om
  refine sU<|Sy.exit<|Sy.then_exit<|Sy.then_exit<|Sy.in_exit<|sB<|sS (.agg (AL (upto 4 (EC P C i) (pml 0 0 false)) 4).toArray) (qx 4 0 36 U U Sf (Gp (An (Bg P C i) rfl 4) rfl) (Gn (An (Bg P C i) rfl 4) rfl))<|sw 2 U (AL (upto 4 (EC P C i) (pml 0 0 false)) 4).toArray (Writes.store 0 170 (AL (upto 4 (EC P C i) (pml 0 0 false)) 4).toArray _ _ U kR kR (Dx (s:=9) (An (Bg P C i) rfl 4) kR) (GP (An (Bg P C i) rfl 4) (m:=36) rfl (by rw [List.size_toArray,Am (An (Bg P C i) rfl 0)])) (Hh (An (Bg P C i) rfl 4) 4 (JJ (J6 P C i) (Bx _ _ _) 4)) (Hg (An (Bg P C i) rfl 4) (by rw [List.size_toArray,Am (An (Bg P C i) rfl 0)])))<|sG<|Sy.ret ?_
  exact ret1 U (.inl (Res.cell (ty':=170) g6 2 (AL (upto 4 (EC P C i) (pml 0 0 false)) 4).toArray _ kR kR Sf U (by rw [List.size_toArray,Am (An (Bg P C i) rfl 4)]; kernel_rfl) (by rw [upto_all])))
 ·have lb1:=dY hb1
  obtain ⟨S,hS⟩:=xE (kP P C i k1)
  have oS:Ec.On S:=by rw [hS]; exact T5 oP hC i k1
  obtain ⟨S2,hS2⟩:=xE (kP P C i (k1+1))
  have eS:Ec.add AR S R2=S2:=by rw [hS,hS2,hR2,hR1]; exact WV oP hC i k1
  rw [← hS]
  refine sT<|Sy.skip<|Sy.then_<|Sy.seq<|Sy.block<|sC<|sp U<|sp U<|sA<|sp U<|sS (pv (pX S) (pY S) (pI S)) (qk 1 0 9 U U AX)<|sS (.pointer (some ⟨g8,0+k1*9,none⟩)) (Quiet.pure (A_ 170 _ _ _ g8 0 _ k1 9 .i64 U U U Sf kF om))<|sw 4 U (AL (upto (k1+1) (EC P C i) (pml 0 0 false)) 4).toArray (Writes.store (0+k1*9) 37 (pcs (pX S) (pY S) (pI S)) _ _ U kR kR kR (Hi (An (Bg P C i) rfl _) (k:=k1) om om) kR (D2 (v:=(pcs (pX S) (pY S) (pI S)).toList) (Bg P C i) rfl (by rw [hS]; rfl) om om))<|sG<|Sy.region<|sS (pv (pX S) (pY S) (pI S)) (qk 1 0 9 U U AX)<|sS (pv (pX R2) (pY R2) (pI R2)) (qk 3 0 9 U U AX)<|sS (pv (pX S2) (pY S2) (pI S2)) (qf (Po (B_ _) (B9 _) (B_ _) (B9 _) (Ap oS) (Ap oR2) (Ak _) eS))<|sw 1 U (pcs (pX S2) (pY S2) (pI S2)) (wA U)<|Sy.nil<|Sy.in_<|Sy.then_<|Sy.region<|sS (iZ (k1+1)) (qad U U U)<|sp U<|Sy.nil ?_
  exact Sy.againK [true,true,true,true,true] (M:=[(g3,49,(clC ax ay ai mx my mi).toArray),(g4,37,pcs (pX S2) (pY S2) (pI S2)),(g6,170,(AL (upto 0 (EC P C i) (pml 0 0 false)) 4).toArray),(g7,37,pcs (pX R2) (pY R2) (pI R2)),(g8,170,(AL (upto (k1+1) (EC P C i) (pml 0 0 false)) 4).toArray)]) om ac5 kR (by rw [hS2])
def szF (n c:Nat):Nat:=min 4 (n - c*4)
def cfV (b off m c:Nat):Value:=.slice (some ⟨b,off+4*c*9,none⟩) (szF m c) (szF m c)
def cfE (b off m:Nat) {N:Nat} (x:Fin N):Array Value:=#[cfV b off m x.val]
theorem Pe (w : World) (A : Option Addr) (m cap : Nat) :
    Calls Tryz.prog 123 #[.slice A m cap,.int .i64 4] w (GetsN w λv M=>∃ g1 g2,v=.func (.func 192) #[] #[pT g1 0,pT g2 0]∧M=[(g1,54,#[.slice A m cap]),(g2,3,#[.int .i64 4])]):=by
  go_enter Tryz.func123,Tryz.ntmps123
  go_wp2
  go_ret
  refine ⟨_,_,rfl,⟨_,_,rfl,rfl⟩,Ad w _ _,λg t cs hm=>?_,?_⟩
  · simp only [List.mem_cons,List.not_mem_nil,or_false,Prod.mk.injEq] at hm
    rcases hm with ⟨rfl,rfl,rfl⟩ | ⟨rfl,rfl,rfl⟩
    · exact ⟨Nat.le_refl _,(Blk.new w _ _).alloc _⟩
    · exact ⟨by omega,AZ w _ _ _⟩
  · simp
theorem Pf (n l Bs Bn n₀ b off m cap N : Nat) (hN0 : N = (m + 3) / 4) (hm : m ≤ cap) (hm2 : m ≤ 4611686018427387904) (J Jx : List (Fin N) → World → Prop) (W : World) (hJ : AbidesFrom W.heap.size J) (hJx : AbidesFrom W.heap.size Jx)
    (hY:∀ pre x W1,J pre W1→pre.length<N→YieldAt Fence.wide (n - 1) Tryz.prog l (cfE b off m x) W1 λe W'=>(e=.returned (.bool true)∧J (pre++[x]) W'∧KpL n₀ [(Bs,54,#[.slice (some ⟨b,off,none⟩) m cap]),(Bn,3,#[.int .i64 4])] W1 W')∨(e=.returned (.bool false)∧Jx (pre++[x]) W'))
    (hS:Blk W Bs 54 #[.slice (some ⟨b,off,none⟩) m cap]) (hN:Blk W Bn 3 #[.int .i64 4]) (h0:J [] W) :
    CallsIn Fence.wide n Tryz.prog 192 #[.func (.yield l) #[] #[],pT Bs 0,pT Bn 0] W λe W'=>(∃ v,e=.returned v)∧((∃ ys:List (Fin N),ys.map (·.1)=List.range N∧J ys W')∨(∃ pre:List (Fin N),(∃ k,k≤N∧pre.map (·.1)=List.range k)∧Jx pre W')):=by
  refine Sy.enterP (args:=[.func (.yield l) #[] #[],pT Bs 0,pT Bn 0]) Tryz.func192 U kL<|sC<|Sy.sp U<|sG<|Sy.block<|Sy.loopP N (λk1=>[(0,.func (.yield l) #[] #[]),(1,pT Bs 0),(2,pT Bn 0),(4,iZ (4*k1))]) (λk1 w=>∃ pre:List (Fin N),pre.map (·.1)=List.range k1∧J pre w∧Blk w Bs 54 #[.slice (some ⟨b,off,none⟩) m cap]∧Blk w Bn 3 #[.int .i64 4]) ac4 (λw hg=>⟨[],rfl,Ab hJ h0 hg,hg.blk hS,hg.blk hN⟩) (λk1 wr hk1 hz=>?_)
  clear hS hN
  obtain ⟨pre,hpre,hj,hS,hN⟩:=hz
  have hlen:pre.length=k1:=by have:=congrArg List.length hpre; rwa [List.length_map,List.length_range] at this
  refine Sy.seq<|sC<|Sy.sp U<|sS (.slice (some ⟨b,off,none⟩) m cap) (Quiet.thereOne Bs 0 54 _ _ U kR hS.lt _ (hS.cell 0) CE U)<|sP (iZ m) ?_
  obtain ⟨b1,hb1⟩:=xE (decide (4*k1<m))
  refine sS (.bool b1) (qls U U U hb1)<|sG ?_
  cases b1
  · have lb1:=dN hb1
    refine sU<|Sy.exit<|Sy.then_exit<|Sy.then_exit ?_
    obtain rfl:N=k1:=om
    refine Sy.in_exit ?_
    exact Sy.retP U (λv w3 hg=>⟨⟨_,rfl⟩,.inl ⟨pre,hpre,Ab hJ hj hg⟩⟩) (.inr U)
  · have lb1 : 4 * k1 < m := of_decide_eq_true hb1.symm
    refine sT<|Sy.skip<|Sy.then_<|Sy.seq<|Sy.block<|Sy.seq<|Sy.regionD (λj=>false) kR<|sD 0 U (iZ 4) (Quiet.thereOne Bn 0 3 _ _ U kR hN.lt _ (hN.cell 0) uy3 U)<|sD 1 U (.slice (some ⟨b,off,none⟩) m cap) (Quiet.thereOne Bs 0 54 _ _ U kR hS.lt _ (hS.cell 0) CE U)<|Sy.sz 2 U U<|sD 3 U (.slice (some ⟨b,off+(4*k1)*9,none⟩) (m - (4*k1)) (cap - (4*k1))) (Quiet.pure (Dg _ _ _ b off m cap (4*k1) 9 .i64 U U U kR kF om om))<|sZ 4 U (.int .i64 (((m - (4*k1)):Nat):Int)) ?_
    obtain ⟨sz,hsz⟩:=xE (szF m k1)
    have hs:0<sz∧4*k1+sz≤m:=by rw [hsz]; unfold szF; omega
    refine sD 5 U (iZ sz) (Quiet.pure (F4 _ _ .i64 4 (m - (4*k1)) sz U U U (by rw [hsz]; unfold szF; omega)))<|Sy.sz 6 U U<|sI<|Sy.seq ?_
    have hx:k1<N:=om
    refine Sy.regionY 10 (by rintro ⟨_,_,⟨_,hv⟩,_⟩; cases hv) kR<|Sy.sp rfl<|sS (.slice (some ⟨b,off,none⟩) m cap) (Quiet.thereOne Bs 0 54 _ _ rfl kR hS.lt _ (hS.cell 0) CE rfl)<|Sy.sp rfl<|Sy.sp rfl<|Sy.sp rfl<|sS (iZ ((4*k1)+sz)) (qad rfl rfl rfl)<|Sy.sp rfl<|Sy.sp rfl<|sS (iZ ((4*k1)+sz)) (qad rfl rfl rfl)<|sS (.slice (some ⟨b,off+(4*k1)*9,none⟩) (((4*k1)+sz) - (4*k1)) (((4*k1)+sz) - (4*k1))) (Quiet.pure (Hk _ _ _ _ _ b off m cap (4*k1) ((4*k1)+sz) ((4*k1)+sz) 9 .i64 .i64 .i64 rfl rfl rfl rfl rfl kR kF (by have:=hs; omega) (by have:=hs; omega) (by have:=hs; omega) (by have:=hs; omega)))<|Sy.nil<|Sy.yieldX (ro := none) rfl (by rintro ⟨_, _, ⟨_, hv⟩, _⟩; cases hv) kR kR l #[.slice (some ⟨b, off + (4 * k1) * 9, none⟩) (((4 * k1) + sz) - (4 * k1)) (((4 * k1) + sz) - (4 * k1))] kF (fun e W' => (e = .returned (.bool true) ∧ J (pre ++ [⟨k1, hx⟩]) W' ∧ Blk W' Bs 54 #[.slice (some ⟨b, off, none⟩) m cap] ∧ Blk W' Bn 3 #[.int .i64 4]) ∨ (e = .returned (.bool false) ∧ Jx (pre ++ [⟨k1, hx⟩]) W')) (fun w hg => by
            have e:cfE b off m ⟨k1,hx⟩=#[.slice (some ⟨b,off+4*k1*9,none⟩) (4*k1+sz - 4*k1) (4*k1+sz - 4*k1)]:=by unfold cfE cfV; rw [← hsz,Nat.add_sub_cancel_left]
            have y:=hY pre ⟨k1,hx⟩ w (Ab hJ hj hg) om
            rw [e] at y
            exact C4 y (λe w' q=>q.imp (λq=>⟨q.1,q.2.1,q.2.2.2 (Bs,54,_) (by simp) (hg.blk hS),q.2.2.2 (Bn,3,_) (by simp) (hg.blk hN)⟩) id)) (λe w' q=>q.elim (λq=>⟨_,q.1⟩) (λq=>⟨_,q.1⟩)) U (λw2 b hr=>?_)
    cases b
    · have hx2:=hr.elim (λq=>by cases q.1) (λq=>q.2)
      refine sP (.bool true)<|sG<|sT<|Sy.ret<|Sy.in_ret<|Sy.then_ret<|Sy.then_ret<|Sy.in_ret ?_
      exact Sy.retP U (λv w3 hg=>⟨⟨_,rfl⟩,.inr ⟨pre++[⟨k1,hx⟩],⟨k1+1,by omega,by rw [List.map_append,hpre,List.range_succ]; rfl⟩,Ab hJx hx2 hg⟩⟩) (.inl U)
    · clear hS hN hj
      obtain ⟨hj,hS,hN⟩:=hr.elim (λq=>q.2) (λq=>by cases q.1)
      refine sP (.bool false)<|sG<|sU<|Sy.skip<|Sy.in_<|Sy.then_<|Sy.region<|Sy.sp U<|sS (iZ 4) (Quiet.thereOne Bn 0 3 _ _ U kR hN.lt _ (hN.cell 0) uy3 U)<|sS (iZ ((4*k1)+4)) (qad U U U)<|Sy.sp U<|Sy.nil ?_
      exact Sy.againP om ac4 (λw3 hg=>⟨pre++[⟨k1,hx⟩],by rw [List.map_append,hpre,List.range_succ]; rfl,Ab hJ hj hg,hg.blk hS,hg.blk hN⟩)
theorem Pg (n l Bs Bn cap : Nat) (A : Option Addr) (J Jx : List (Fin 0) → World → Prop) (W : World) (hJ : AbidesFrom W.heap.size J)
    (hS:Blk W Bs 54 #[.slice A 0 cap]) (hN:Blk W Bn 3 #[.int .i64 4]) (h0:J [] W) :
    CallsIn Fence.wide n Tryz.prog 192 #[.func (.yield l) #[] #[],pT Bs 0,pT Bn 0] W λe W'=>(∃ v,e=.returned v)∧((∃ ys:List (Fin 0),ys.map (·.1)=List.range 0∧J ys W')∨(∃ pre:List (Fin 0),(∃ k,k≤0∧pre.map (·.1)=List.range k)∧Jx pre W')):=by
  refine Sy.enterP (args:=[.func (.yield l) #[] #[],pT Bs 0,pT Bn 0]) Tryz.func192 U kL<|sC<|sp U<|sG<|Sy.block<|Sy.loopP 0 (λk1=>[(0,.func (.yield l) #[] #[]),(1,pT Bs 0),(2,pT Bn 0),(4,iZ (4*k1))]) (λk1 w=>J [] w∧Blk w Bs 54 #[.slice A 0 cap]∧Blk w Bn 3 #[.int .i64 4]) ac4 (λw hg=>⟨Ab hJ h0 hg,hg.blk hS,hg.blk hN⟩) (λk1 wr hk1 hz=>?_)
  clear hS hN
  obtain ⟨hj,hS,hN⟩:=hz
  refine Sy.seq<|sC<|sp U<|sS (.slice A 0 cap) (Quiet.thereOne Bs 0 54 _ _ U kR hS.lt _ (hS.cell 0) CE U)<|sP (iZ 0) ?_
  obtain ⟨b1,hb1⟩:=xE (decide (4*k1<0))
  refine sS (.bool b1) (qls U U U hb1)<|sG ?_
  cases b1
  · have lb1:=dN hb1
    refine sU<|Sy.exit<|Sy.then_exit<|Sy.then_exit ?_
    obtain rfl:k1=0:=om
    refine Sy.in_exit ?_
    exact Sy.retP U (λv w3 hg=>⟨⟨_,rfl⟩,.inl ⟨[],rfl,Ab hJ hj hg⟩⟩) (.inr U)
  · have lb1:=dY hb1
    refine sT<|Sy.skip<|Sy.then_<|Sy.seq ?_
    exact absurd lb1 om
theorem MR (n Bs Bn n₀ b off m cap N : Nat) (A : Option Addr) (hN0 : N = (m + 3) / 4) (hm : m ≤ cap) (hm2 : m ≤ 4611686018427387904) (hA : 0 < m → A = some ⟨b, off, none⟩) (w : World) (hS : Blk w Bs 54 #[.slice A m cap]) (hN : Blk w Bn 3 #[.int .i64 4]) :
    SeqStopsK Fence.wide n Tryz.prog 192 #[pT Bs 0,pT Bn 0] (cfE b off m (N:=N)) (KpL n₀ [(Bs,54,#[.slice A m cap]),(Bn,3,#[.int .i64 4])]) (λys=>ys.map (·.1)=List.range N) (λpre=>∃ k,k≤N∧pre.map (·.1)=List.range k) N w:=λl J Jx W hW hJ hJx hY h0=>by
  have hS':=hS.below hW hS.lt
  have hN':=hN.below hW hN.lt
  rcases Nat.eq_zero_or_pos m with h | h
  · subst h
    obtain rfl:N=0:=hN0
    exact Pg n l Bs Bn cap A J Jx W hJ hS' hN' h0
  · obtain rfl:=hA h
    exact Pf n l Bs Bn n₀ b off m cap N hN0 hm hm2 J Jx W hJ hJx hY hS' hN' h0
theorem YE {P:Program} {w1 fz:World} {D n:Nat} {F:AO} {L:AC} {fn:Func} {r:ResultVar} {v:Value} {R:Value→AC→Prop} (M:AC) (hr:fn.results=#[r]) (h:Has P F L r v) (hM:∀ w,St (Base.of w1) w L→St (Base.of w1) w M) (hR:R v M) (hD:w1.heap.size≤D) (hm:fz.heap[D]? = some (.deferred (some []))):X (ab w1 fz D) n (bodyPostM Fence.wide 9 P fn (GetsN w1 R)) F L .ret:=λa w ha hw=>by
 obtain ⟨e1,e2⟩:=St.unmark (P:=P) hw hD hm
 have hd:a.defers=[Sy.mark D]:=ha.1
 show LeavesInM Fence.wide 9 P fn a.tmps (GetsN w1 R) a.defers .returning w
 rw [hd]
 refine ⟨by simp,.inl ⟨D,_,rfl,e1,?_⟩⟩
 refine ⟨v,?_,_,M,rfl,hR,e2.below,λg t cs hm=>(hM _ e2).blk g t cs hm,(hM _ e2).apart⟩
 rcases Res.run h ha e2 with ⟨t,rfl,f1⟩ | ⟨t,ty,ad,rfl,f1,f2⟩ <;> simp [results,Result.andThen, *]
noncomputable def Z5:TypeInfo:=(Tryz.prog.info? 54).getD default
theorem Wc:Tryz.prog.info? 54=some Z5:=kZ
theorem MQ (n Bs Bn n₀ b off m cap N:Nat) (A:Option Addr) (hN0:N=(m+3) / 4) (hm:m≤cap) (hm2:m≤4611686018427387904) (hA:0<m→A=some ⟨b,off,none⟩) (w:World) (hS:Blk w Bs 54 #[.slice A m cap]) (hN:Blk w Bn 3 #[.int .i64 4]) (hB:Bs<n₀) (hB2:Bn<n₀) :
  SeqStopsK Fence.wide n Tryz.prog 192 #[pT Bs 0,pT Bn 0] (cfE b off m (N:=N)) (KpL n₀ []) (λys=>ys.map (·.1)=List.range N) (λpre=>∃ k,k≤N∧pre.map (·.1)=List.range k) N w:=λl J Jx W hW hJ hJx hY h0 =>
 MR n Bs Bn n₀ b off m cap N A hN0 hm hm2 hA w hS hN l J Jx W hW hJ hJx (λpre x W1 hj hl=>C4 (hY pre x W1 hj hl) (λe W' q=>q.imp (λq=>⟨q.1,q.2.1,q.2.2.1,λp hp hb=>by
  simp only [List.mem_cons,List.not_mem_nil,or_false] at hp
  rcases hp with rfl|rfl
  ·exact hb.below q.2.2.1 hB
  ·exact hb.below q.2.2.1 hB2⟩) id)) h0
def RgR (g o D:Nat) (v:Value) (M:AC):Prop:=∃ y:Slc,v=y.v∧M=y.bl∧y.Is 54 1 ((List.range D).map λk=>[.slice (some ⟨g,o+4*k*9,none⟩) 4 4])
theorem Pn (w:World) (u1 u2 g o D c:Nat) (hD:D≤1000000) (hc:4*D≤c) (hS:Blk w u1 54 #[.slice (some ⟨g,o,none⟩) (4*D) c]) (hN:Blk w u2 3 #[.int .i64 4]):AY 191 #[.slice none 0 0,.func (.func 192) #[] #[pT u1 0,pT u2 0]] w (GetsN w (RgR g o D)):=by
 refine Sy.enterM (args:=[.slice none 0 0,.func (.func 192) #[] #[pT u1 0,pT u2 0]]) Tryz.func191 U kL<|sC<|sM 73 #[.slice none 0 0] (λg0=>?_)
 refine Sy.sp U<|sG<|Sy.seq<|sC<|Sy.sp U<|sG<|Sy.block<|Sy.rangeY (α:=Fin D) (Y:=Slc) 192 #[pT u1 0,pT u2 0] kR kR (enters_of Tryz.func192 kR U) (cfE g o (4*D)) [] (λys=>ys.map (·.1)=List.range D) (λpre=>∃ k,k≤D∧pre.map (·.1)=List.range k) D (λ_=>rfl) dZ
  (λpre y=>y.Is 54 1 (pre.map λx=>[.slice (some ⟨g,o+4*x.val*9,none⟩) 4 4])∧pre.length≤D)
  (λ_ y=>[(g0,73,#[y.v])]++(y.bl++[]))
  (λ_ _=>[]) (λ_ _=>False) nilS ⟨Slc.Is.nil _ _,Nat.zero_le _⟩ (λw hw=>hw) (λw' hw=>?_) (λp hp pre y=>by cases hp) (λx=>[(2,ptr g0),(5,cfV g o (4*D) x.val)]) ?_ ?_ ?_ ?_
 ·exact ⟨w',Below.refl _ _,MQ 8 u1 u2 _ g o (4*D) c D _ om hc om (λ_=>rfl) w' (hS.below hw.below hS.lt) (hN.below hw.below hN.lt) hS.lt hN.lt⟩
 ·intro l fz pre y x
  refine Sy.regionR (by rintro ⟨_,_,h⟩; exact h) kR ⟨_,rfl⟩<|Sy.sp rfl<|Sy.nil ?_
  exact Sy.apY ac2 (λw hw=>hw)
 ·intro l fz pre y x hlen ⟨hy,hpl⟩
  have hxN:=x.isLt
  have hz:szF (4*D) x.val=4:=by unfold szF; omega
  have hv:cfV g o (4*D) x.val=.slice (some ⟨g,o+4*x.val*9,none⟩) 4 4:=by unfold cfV; rw [hz]
  rw [hv]
  refine Sy.block<|Sy.regionR (by rintro ⟨_,_,h⟩; exact h) kR ⟨_,rfl⟩<|sS y.v (qc 0 0 rfl rfl D0)<|Sy.sp rfl<|Sy.make kR 54 #[.slice (some ⟨g,o+4*x.val*9,none⟩) 4 4] (λg=>.slice (pA g) 1 1) (λ_=>kR) (λg7=>?_)
  refine Sy.movT<|Sy.appendR kR 73 54 _ _ 1 24 D0 Wc U U U U dZ _ _ U hy kR [.slice (some ⟨g,o+4*x.val*9,none⟩) 4 4] rfl (λu hu=>by rw [List.mem_singleton.1 hu]; rfl) 1 g7 54 kR kR (by rw [List.length_map]; omega) (by rw [List.length_map]; simp only [maxLen]; omega) (λr hr=>?_)
  refine sw 0 U #[r.v] (Writes.one 0 73 r.v _ _ U kR kR kR hr.cells.1 hr.cells.2 (Nat.lt_succ_self 0) rfl)<|Sy.setT<|Sy.nil<|Sy.in_ ?_
  exact Sy.bpY r ⟨by rw [List.map_append,List.map_singleton]; exact hr,by rw [List.length_append,List.length_singleton]; omega⟩ (λw hw=>St.pick [0] dZ kZ hw)
 ·intro D' fz xs y hSS ⟨hy,hpl⟩ hD' hm'
  have hS0:xs.map (·.1)=List.range D:=hSS
  refine Sy.in_<|sB<|sS y.v (qc 0 0 U U D0)<|Sy.sp U<|sG<|Sy.ret<|YE y.bl U (.inl (show _=_ by kernel_rfl)) (λw hw=>St.less hw (by rw [List.append_nil]; exact List.sublist_append_right _ _)) ⟨y,rfl,rfl,?_⟩ hD' hm'
  rw [← hS0,List.map_map]
  exact hy
 ·intro D' fz pre y hSp hx hD' hm'
  exact hx.elim
theorem N5 (w:World) (u1 u2 g o D c:Nat) (hD:D≤1000000) (hc:4*D≤c) (hS:Blk w u1 54 #[.slice (some ⟨g,o,none⟩) (4*D) c]) (hN:Blk w u2 3 #[.int .i64 4]):AY 122 #[.func (.func 192) #[] #[pT u1 0,pT u2 0]] w (GetsN w (RgR g o D)):=by
 refine Sy.enter (args:=[.func (.func 192) #[] #[pT u1 0,pT u2 0]]) Tryz.func122 U kL<|sC<|sp U<|sA<|sp U<|Sy.callN kR 191 #[.slice none 0 0,.func (.func 192) #[] #[pT u1 0,pT u2 0]] kF (RgR g o D) (λw' hw=>Pn w' u1 u2 g o D c hD hc (hS.below hw.below hS.lt) (hN.below hw.below hN.lt)) (λv M hR0=>?_)
 obtain ⟨y,rfl,rfl,hy⟩:=hR0
 refine sp U<|sG<|Sy.ret ?_
 exact retGM y.bl U (v:=y.v) (.inl (show _=_ by kernel_rfl)) (λw hw=>St.less hw (List.sublist_append_right _ _)) ⟨y,rfl,rfl,hy⟩
noncomputable def Z6:TypeInfo:=(Tryz.prog.info? 37).getD default
theorem Ci:Tryz.prog.info? 37=some Z6:=kZ
theorem IY {P:Program} (w:World) (dT sT ty elem:TypeId) (b o dLen dCap:Nat) (a:Addr) (sLen sCap s m:Nat) (cs:List Value)
  (hu:P.underlying dT=some (.slice elem)) (hs:(P.info? elem).map (·.size)=some s) (hm:Nat.min sLen dLen=m) (hn:cs.length=m*s)
  (hsrc:∀ j v,cs[j]? = some v→w.cell? (a.add j)=some v) (hc:∀ j,j<cs.length→(w.cell? ⟨b,o+j,none⟩).isSome=true) (hf:∀ j,j<cs.length→w.frozen? ⟨b,o+j,none⟩=false) (h1:∀ v∈cs,v.oneCell'=true) :
  (Builtin.copy_ #[dT,sT] ty #[.slice (some ⟨b,o,none⟩) dLen dCap,.slice (some a) sLen sCap]).run P w=.ok (goInt m) (w.setCells b o cs):=by
 have hl:=run_loadCells_list (P:=P) w a cs hsrc
 have hst:=run_storeCells_cells (P:=P) b o cs 0 w (by simpa using hc) (by simpa using hf) h1
 cases hq:P.info? elem with
 | none=>simp [hq] at hs
 | some i =>
  have hi:i.size=s:=by simpa [hq] using hs
  simp [Builtin.copy_,run_underlying hu,Builtin.lenOf,Builtin.firstCells,sizeOf,typeInfo,hq,hi,hm, ← hn,hl,hst]
section
variable {P:Program} {w0:Base} {F:AO} {L:AC} {o:Oper}
theorem Xg (d s:Operand) (dT sT e:TypeId) (z m:Nat) (ho:o.op=.call { callee:=.builtin .copy,args:=#[d,s],argTypes:=#[dT,sT] }) (hu:P.underlying dT=some (.slice e)) (hsz:(P.info? e).map (·.size)=some z)
  (i g f dl dc:Nat) (t:TypeId) (cs cs':Array Value) (hL:L[i]? = some (g,t,cs)) (hd:evF F d=.slice (some ⟨g,f,none⟩) dl dc)
  (j gx fx sl sc:Nat) (tx:TypeId) (cx:Array Value) (hLx:L[j]? = some (gx,tx,cx)) (hs:evF F s=.slice (some ⟨gx,fx,none⟩) sl sc) (hm:Nat.min sl dl=m)
  (news:List Value) (hnews:(cx.toList.drop fx).take (m*z)=news) (hn:news.length=m*z) (h1:∀ u∈news,u.oneCell'=true) (hfit:f+news.length≤cs.size) (hcs:BI cs f news=cs'):WritesV P w0 F L o g t cs' (goInt m):=λw hw=>by
 have hb:=hw.get hL
 have hbx:=hw.get hLx
 have hth:=hb.there f news.length hfit
 have hr:=IY (P:=P) w dT sT o.type e g f dl dc ⟨gx,fx,none⟩ sl sc z m news hu hsz hm hn (λq u hq=>by
  rw [Bm,hbx.cell]
  rw [← hnews] at hq
  have hlt:q<m*z:=by
   have h:=(List.getElem?_eq_some_iff.1 hq).1
   rw [List.length_take] at h
   exact Nat.lt_of_lt_of_le h (Nat.min_le_left _ _)
  rw [List.getElem?_take_of_lt hlt,List.getElem?_drop] at hq
  simpa using hq) (λq hq=>(hth q hq).1) (λq hq=>(hth q hq).2) h1
 refine ⟨_,?_,Ca news f w (World.grownBy.refl w (some g)),hcs ▸ Blk.setCells news f w cs hb⟩
 unfold execOp
 simp only [ho,resolve,invoke,builtin,Sem.run_bind,Sem.run_pure,Result.andThen_ok,List.map_toArray,List.map_cons,List.map_nil,hs,hd,hr]
end
def ET (P:Pt) (C:Nat→Pt) (i:Nat):List Value:=AL (EC P (C i) i) 4
def Gu (n:Nat):List Value:=AL (λ_=>pml 0 0 false) n
theorem GG (P:Pt) (C:Nat→Pt) (i:Nat):(ET P C i).length=36:=Am (Bg P (C i) i) 4
theorem Mg (n:Nat):(Gu n).length=n*9:=Am (λ_=>rfl) n
theorem ST (N:Nat):Gu (4*N)=AL (λ_=>Gu 4) N:=by
 induction N with
 | zero=>rfl
 | succ k ih =>
  rw [Dw, ← ih]
  unfold Gu
  rw [show 4*(k+1)=4*k+4 by omega,Hj]
theorem Nq {f:Nat→List Value} {n:Nat} (hf:∀ k, ∀ u∈f k,u.oneCell'=true):∀ u∈AL f n,u.oneCell'=true:=λu hu=>by
 unfold AL at hu
 obtain ⟨k,_,h⟩:=List.mem_flatMap.1 hu
 exact hf k u h
def CZ (P:Pt) (C:Nat→Pt) (N:Nat) (v:Value) (M:AC):Prop:=∃ (ga:Nat) (y:Slc),v=y.v∧M=y.bl++[(ga,37,(AL (ET P C) N).toArray)]∧y.Is 54 1 ((List.range N).map λk=>[.slice (some ⟨ga,0+4*k*9,none⟩) 4 4])
theorem Je (w:World) (ax ay:Nat) (ai:Bool) (mx my:Nat) (mi:Bool) (hax:ax<K4) (hay:ay<K4) (P:Pt) (hP:P=dec ax ay ai) (A:Option Addr) (N c:Nat) (C:Nat→Pt) (hC:∀ k,Ec.On (C k)) (hN:N≤32) (hlk:Lst w 9 A N (λk=>pml (pX (C k)) (pY (C k)) (pI (C k)))):AY 60 #[clv ax ay ai mx my mi,.slice A N c] w (GetsN w (CZ P C N)):=by
 obtain ⟨gK,oK,hT⟩:=hlk
 refine Sy.enter (args:=[clv ax ay ai mx my mi,.slice A N c]) Tryz.func60 U kL<|sC<|sM 49 (clC ax ay ai mx my mi).toArray (λg2=>?_)
 refine sp U<|sA<|sp U<|sP (iZ N)<|sS (iZ (4*N)) (qml U U U)<|Sy.make kR 37 (AL (λ_=>pml 0 0 false) (4*N)).toArray (λg=>.slice (pA g) (4*N) (4*N)) (Makes.slice 54 37 _ (.agg (pcs 0 0 false)) 9 72 _ _ .i64 .i64 (4*N) (pml 0 0 false) rfl U U CE Ci kR kR dZ kR kR kR om om) (λga=>?_)
 refine sp U<|sG<|Sy.seq<|sC<|sp U<|sP (iZ N)<|sp U<|sG<|Sy.block ?_
 have hz:(AL (λ_=>pml 0 0 false) (4*N)).toArray=(AL (upto 0 (ET P C) (Gu 4)) N).toArray:=by
  rw [show AL (λ_=>pml 0 0 false) (4*N)=Gu (4*N) from rfl,ST]
  exact Em
 have hup:∀ k, ∀ j,(upto k (ET P C) (Gu 4) j).length=36:=λk=>An (GG P C) (Mg 4) k
 rw [hz]
 refine Sy.loopK N (λk1=>[(2,ptr g2),(5,.slice (pA ga) (4*N) (4*N)),(13,.slice A N c),(14,iZ N),(15,iZ k1)]) (λk1=>[(g2,49,(clC ax ay ai mx my mi).toArray),(ga,37,(AL (upto k1 (ET P C) (Gu 4)) N).toArray)]) [true,true] (M:=[(g2,49,(clC ax ay ai mx my mi).toArray),(ga,37,(AL (upto 0 (ET P C) (Gu 4)) N).toArray)]) ac5 kR U (λk1 hk1=>?_)
 refine sC ?_
 obtain ⟨b1,hb1⟩:=xE (decide (k1<N))
 refine sS (.bool b1) (qls U U U hb1)<|sG<|Sy.seq ?_
 cases b1
 ·have lb1:=dN hb1
  obtain rfl:N=k1:=om
  rw [upto_all]
  refine sU<|Sy.exit<|Sy.then_exit<|Sy.then_exit<|Sy.in_exit<|sB<|sp U<|Sy.callN kR 123 #[.slice (pA ga) (4*N) (4*N),.int .i64 4] kF _ (λw _=>Pe w _ _ _) (λv M hR0=>?_)
  obtain ⟨u1,u2,rfl,rfl⟩:=hR0
  refine Sy.callN kR 122 #[.func (.func 192) #[] #[pT u1 0,pT u2 0]] kF (RgR ga 0 N) (λw' hw=>N5 w' u1 u2 ga 0 N (4*N) om (Nat.le_refl _) (hw.get (i:=2) rfl) (hw.get (i:=3) rfl)) (λv M hR0=>?_)
  obtain ⟨y,rfl,rfl,hy⟩:=hR0
  refine sp U<|sG<|Sy.ret ?_
  exact retGM (y.bl++[(ga,37,(AL (ET P C) N).toArray)]) U (v:=y.v) (.inl (show _=_ by kernel_rfl)) (λw hw=>(St.perm hw List.perm_append_comm).less (List.Sublist.append (List.Sublist.refl _) (List.Sublist.cons _ (List.Sublist.cons_cons _ (List.nil_sublist _))))) ⟨ga,y,rfl,rfl,hy⟩
 ·have lb1:=dY hb1
  obtain ⟨S,hS⟩:=xE (C k1)
  have oS:Ec.On S:=by rw [hS]; exact hC k1
  have hTk:=(hT om).2.2 k1 lb1
  simp only [← hS] at hTk
  have hA4:(AL (EC P S k1) 4).length=36:=Am (Bg P S k1) 4
  refine sT<|Sy.skip<|Sy.then_<|Sy.seq<|Sy.block<|sC<|sp U<|sS (.pointer (some ⟨gK,oK+k1*9,none⟩)) (Quiet.pure (Af 54 _ _ _ A gK oK N c k1 9 .i64 (hT om).1 U U U CE kF om))<|sS (pv (pX S) (pY S) (pI S)) (Quiet.there gK (oK+k1*9) 9 37 (pml (pX S) (pY S) (pI S)) _ _ U kR (hT om).2.1 hTk AX U kR U _ U)<|sM 37 (pcs 0 0 false) (λg7=>?_)
  refine sp U<|sw 2 U (pcs (pX S) (pY S) (pI S)) (wA U)<|sA<|sS (clv ax ay ai mx my mi) (qk 0 0 18 U U FV)<|sS (pv (pX S) (pY S) (pI S)) (qk 2 0 9 U U AX)<|sp U<|sS (.agg (AL (EC P S k1) 4).toArray) (qf (λw=>Rv w ax ay ai mx my mi hax hay S oS P hP k1 om))<|sM 170 (AL (λ_=>pml 0 0 false) 4).toArray (λg8=>?_)
  refine sw 3 U (AL (EC P S k1) 4).toArray (Writes.store 0 170 (AL (EC P S k1) 4).toArray _ _ U kR kR (Dx (s:=9) (Bg P S k1) kR) (GP (Bg P S k1) (m:=36) rfl kR) (Hh (Bg P S k1) 4 (J6 P S k1)) (Hg (Bg P S k1) kR))<|sG<|Sy.regionD (λj=>j == 5) kR<|Sy.stepDB 0 [3,5] rfl kR (λ_ _ _ _ h=>h) kR (.slice (pA ga) (4*N) (4*N)) qP<|Sy.stepDB 1 [2,3,5] rfl kR (λ_ _ _ _ h=>h) kR (iZ k1) qP<|Sy.stepDB 2 [3,5] rfl kR (λ_ _ _ _ h=>h) kR (iZ (4*k1)) (qml U U U)<|sD 3 U (.slice (some ⟨ga,0+(4*k1)*9,none⟩) (4*N - 4*k1) (4*N - 4*k1)) (Quiet.pure (Dg _ _ _ ga 0 (4*N) (4*N) (4*k1) 9 .i64 U U U kR kF om om))<|sZ 4 U (.slice (pA g8) 4 4)<|Sy.writeVD 5 U kR (by rfl) kR 1 ga 37 (AL (upto k1 (ET P C) (Gu 4)) N).toArray (AL (upto (k1+1) (ET P C) (Gu 4)) N).toArray (goInt 4) kR (Xg _ _ _ _ _ 9 4 U CE kR 1 ga (0+(4*k1)*9) (4*N - 4*k1) (4*N - 4*k1) 37 (AL (upto k1 (ET P C) (Gu 4)) N).toArray (AL (upto (k1+1) (ET P C) (Gu 4)) N).toArray kR U 3 g8 0 4 4 170 (AL (EC P S k1) 4).toArray kR U (Nat.min_eq_left om) (AL (EC P S k1) 4) (by show (((AL (EC P S k1) 4)).drop 0).take (4*9)=_; rw [List.drop_zero,List.take_of_length_le (by rw [hA4]; exact Nat.le_refl _)]) hA4 (Nq (J6 P S k1)) (by rw [hA4,List.size_toArray,Am (hup k1)]; omega) (D2 (s:=36) (GG P C) (Mg 4) (by rw [hS]; rfl) lb1 om))<|sE<|Sy.in_<|Sy.then_<|Sy.region<|sS (iZ (k1+1)) (qad U U U)<|sp U ?_
  refine Sy.nil ?_
  exact Sy.againK [true,true,false,false] (M:=[(g2,49,(clC ax ay ai mx my mi).toArray),(ga,37,(AL (upto (k1+1) (ET P C) (Gu 4)) N).toArray)]) om ac5 kR U
theorem G4 {P:Pt} {C:Nat→Pt} {N:Nat} {v:Value} {M:AC} (h:CZ P C N v M):∃ (R:Option Addr) (cR ga:Nat),v=.slice R N cR∧∀ {w0:Base} {w:World} {L:AC},St w0 w L→(∀ b∈M,b∈L)→Lst w 1 R N (λi=>[.slice (some ⟨ga,0+4*i*9,none⟩) 4 4])∧∀ i,i<N→Lst w 9 (some ⟨ga,0+4*i*9,none⟩) 4 (λk=>pml (pX (kP P (C i) i k)) (pY (kP P (C i) i k)) (pI (kP P (C i) i k))):=by
 obtain ⟨ga,y,rfl,rfl,hy⟩:=h
 obtain ⟨A,c,e1,_,_,h4⟩:=hy.out
 have hl:((List.range N).map λk=>([.slice (some ⟨ga,0+4*k*9,none⟩) 4 4]:List Value)).length=N:=by rw [List.length_map,List.length_range]
 rw [hl] at e1 h4
 refine ⟨A,c,ga,e1,λ{w0 w L} hw hb=>⟨Ei (h4 hw (λb h=>hb b (List.mem_append.2 (.inl h)))) (λi hi=>by rw [List.getD_eq_getElem?_getD,List.getElem?_map,List.getElem?_range hi]; rfl),λi hi=>?_⟩⟩
 have hbk:=(hw.blk ga 37 _ (hb _ (List.mem_append.2 (.inr (List.mem_singleton.2 U))))).2
 refine ⟨ga,0+4*i*9,λ_=>⟨rfl,hbk.lt,λj hj=>?_⟩⟩
 have h1:w.rangeAt ga (i*36) (ET P C i):=by
  have q:=CJ hbk (o:=i*36) (vs:=ET P C i) (by rw [GG]; exact FD (GG P C) hi U)
  exact q
 have h2:=Gj h1 (Bg P (C i) i) hj
 rw [show 0+4*i*9+j*9=i*36+j*9 by omega]
 exact h2
def b33 (m:AF) (k:Nat):List UInt8:=(m.drop (33*k)).take 33
def ptB (m:AF) (k:Nat):Pt:=F6 (b33 m k)
def pkB (m:AF) (k:Nat):Bool:=Ck (b33 m k)
theorem Jp (m:AF) (k:Nat):Ec.On (ptB m k):=Wr _
theorem Qs {m:AF} {D k:Nat} (h:m.length=33*D) (hk:k<D):(b33 m k).length=33:=by
 unfold b33
 rw [List.length_take,List.length_drop]
 omega
def Oo (m:AF) (D:Nat):Bool:=(List.range D).all (pkB m)
theorem QL {m:AF} {D:Nat} (h:∀ j,j<D→pkB m j=true):Oo m D=true:=List.all_eq_true.2 λj hj=>h j (List.mem_range.1 hj)
theorem YO {m:AF} {D j:Nat} (hj:j<D) (h:pkB m j=false):Oo m D=false:=List.all_eq_false.2 ⟨j,List.mem_range.2 hj,by rw [h]; decide⟩
def ptL (C:Nat→Pt) (k:Nat):List Value:=pml (pX (C k)) (pY (C k)) (pI (C k))
def PtsR (b:Bool) (C:Nat→Pt) (D:Nat) (v:Value) (M:AC):Prop:=(b=false∧v=.tuple #[.slice none 0 0,.bool false]∧M=[])∨(b=true∧∃ y:Slc,v=.tuple #[y.v,.bool true]∧M=y.bl∧y.Is 37 9 ((List.range D).map (ptL C)))
theorem VX {w:World} {g o D k:Nat} {m:AF} (hm:m.length=33*D) (hk:k<D) (hs:Sh.Src w (some ⟨g,o,none⟩) m):Src w (some ⟨g,o+33*k*1,none⟩) (b33 m k):=λ_=>by
 have hne:m≠[]:=λe=>by rw [e] at hm; simp at hm; omega
 obtain ⟨b,o',e,h2,h3⟩:=hs hne
 cases e
 refine ⟨g,o+33*k*1,rfl,h2,λj u hx=>?_⟩
 have hl:=(List.getElem?_eq_some_iff.1 hx).1
 rw [Qs hm hk] at hl
 unfold b33 at hx
 rw [List.getElem?_take_of_lt hl,List.getElem?_drop] at hx
 have:=h3 _ u hx
 rw [show o+33*k*1+j=o+(33*k+j) by omega]
 exact this
theorem Ox (w:World) (A:Option Addr) (g o D c:Nat) (hA:0<D→A=some ⟨g,o,none⟩) (m:AF) (hm:m.length=33*D) (hD:D≤1000000) (hc:33*D≤c) (hc2:c≤9223372036854775807) (hs:Sh.Src w A m):AY 143 #[.slice A (33*D) c] w (GetsN w (PtsR (Oo m D) (ptB m) D)):=by
 obtain ⟨C,hC⟩:=xE (ptB m)
 obtain ⟨bk,hbk⟩:=xE (pkB m)
 have oC:∀ k,Ec.On (C k):=λk=>by rw [hC]; exact Jp _ _
 refine Sy.enterM (args:=[.slice A (33*D) c]) Tryz.func143 U kL<|sC<|sM 54 #[.slice none 0 0] (λg0=>?_)
 refine sM 4 #[.bool false] (λg1=>?_)
 refine sG<|sC<|sM 54 #[.slice none 0 0] (λg2=>?_)
 refine sG<|Sy.seq<|sC<|Sy.sp U<|Sy.callN kR 200 #[.slice A (33*D) c,.int .i64 33] kF _ (λw _=>Pb w _ _ _) (λv M hR0=>?_)
 obtain ⟨u1,u2,rfl,rfl⟩:=hR0
 refine sG<|Sy.block<|Sy.rangeY (α:=Fin D) (Y:=Slc) 234 #[pT u1 0,pT u2 0] kR kR (enters_of Tryz.func234 kR U) (ctE g o (33*D)) [(u1,29,#[.slice A (33*D) c]),(u2,3,#[.int .i64 33])] (λys=>ys.map (·.1)=List.range D) (λpre=>∃ k,k≤D∧pre.map (·.1)=List.range k) D (λ_=>rfl) dZ
  (λpre y=>y.Is 37 9 (pre.map λx=>ptL C x.val)∧pre.length≤D∧∀ x∈pre,bk x.val=true)
  (λ_ y=>[(g0,54,#[.slice none 0 0]),(g1,4,#[.bool false]),(g2,54,#[y.v]),(u1,29,#[.slice A (33*D) c]),(u2,3,#[.int .i64 33])]++(y.bl++[]))
  (λ_ _=>[(g0,54,#[.slice none 0 0]),(g1,4,#[.bool false]),(u1,29,#[.slice A (33*D) c]),(u2,3,#[.int .i64 33])]++[])
  (λpre _=>∃ x∈pre,bk x.val=false) nilS ⟨Slc.Is.nil _ _,Nat.zero_le _,λx hx=>by cases hx⟩ (λw hw=>hw) (λw hw=>?_) (λp hp pre y=>?_) (λx=>[(2,ptr g0),(3,ptr g1),(4,ptr g2),(5,ctV g o (33*D) x.val)]) ?_ ?_ ?_ ?_
 ·exact ⟨w,Below.refl _ _,MP 8 u1 u2 _ g o (33*D) c D _ om hc om (λh=>hA om) w (hw.get (i:=3) rfl) (hw.get (i:=4) rfl)⟩
 ·simp only [List.mem_cons,List.not_mem_nil,or_false] at hp
  rcases hp with rfl|rfl <;> simp
 ·intro l fz pre y x
  refine Sy.regionR (by rintro ⟨_,_,h⟩; exact h) kR ⟨_,rfl⟩<|Sy.sp rfl<|Sy.nil ?_
  exact Sy.apY ac4 (λw hw=>hw)
 ·intro l fz pre y x hlen ⟨hy,hpl,hok⟩
  have hxN:=x.isLt
  have hz:szT (33*D) x.val=33:=by unfold szT; omega
  have hv:ctV g o (33*D) x.val=.slice (some ⟨g,o+33*x.val*1,none⟩) 33 33:=by unfold ctV; rw [hz]
  rw [hv]
  have hAs:A=some ⟨g,o,none⟩:=hA om
  have hsx:Src w (some ⟨g,o+33*x.val*1,none⟩) (b33 m x.val):=VX hm hxN (hAs ▸ hs)
  have hlx:(b33 m x.val).length=33:=Qs hm hxN
  obtain ⟨Q,hQ⟩:=xE (C x.val)
  obtain ⟨b1,hb1⟩:=xE (bk x.val)
  refine Sy.block<|Sy.seq<|Sy.regionR (by rintro ⟨_,_,h⟩; exact h) kR ⟨_,rfl⟩<|Sy.sp rfl<|sS (.tuple #[pv (pX Q) (pY Q) (pI Q),.bool b1]) (qg (λw' hw=>by
   have q:=PY w' (some ⟨g,o+33*x.val*1,none⟩) (b33 m x.val) 33 33 hlx (hsx.below hw.below) (Nat.le_refl _)
   rw [Ak] at q
   rw [hQ,hb1,hC,hbk]
   exact q))<|Sy.sp U<|Sy.sp U<|Sy.sp U ?_
  refine sM 37 (pcs 0 0 false) (λg6=>?_)
  refine Sy.movT<|sw 5 rfl (pcs (pX Q) (pY Q) (pI Q)) (wA rfl)<|Sy.setT<|Sy.sp rfl<|sG<|Sy.seq<|Sy.seq<|Sy.regionR (by rintro ⟨_,_,h⟩; exact h) kR ⟨_,rfl⟩<|Sy.sp rfl ?_
  cases b1
  ·refine sP (.bool true) ?_
   refine sG<|sT<|Sy.seq<|Sy.regionR (by rintro ⟨_,_,h⟩; exact h) kR ⟨_,rfl⟩<|sw 0 rfl #[.slice none 0 0] (wO 0 54 (.slice none 0 0) rfl)<|Sy.setT<|sw 1 rfl #[.bool false] (wO 0 4 (.bool false) rfl)<|Sy.setT<|sG<|Sy.ret<|Sy.then_ret<|Sy.in_ret ?_
   exact Sy.bpYR nilS ⟨x,List.mem_append.2 (.inr (List.mem_singleton.2 U)),hb1.symm⟩ (λw hw=>St.pick (T:=[]) [0,1,3,4] dZ kZ (St.less hw (List.Sublist.append (List.Sublist.refl _) (List.nil_sublist _))))
  ·refine sP (.bool false) ?_
   refine sG<|sU<|Sy.skip<|Sy.then_<|Sy.regionR (by rintro ⟨_,_,h⟩; exact h) kR ⟨_,rfl⟩<|sS y.v (qc 2 0 rfl rfl CE)<|sS (pv (pX Q) (pY Q) (pI Q)) (qk 5 0 9 rfl rfl AX)<|Sy.make kR 37 (pcs (pX Q) (pY Q) (pI Q)) (λg=>.slice (pA g) 1 1) (λ_=>kR) (λg7=>?_)
   refine Sy.movT<|Sy.appendR kR 54 37 _ _ 9 72 CE Ci U U U U dZ _ _ U hy kR (pml (pX Q) (pY Q) (pI Q)) U (Bx _ _ _) 6 g7 37 kR kR (by rw [List.length_map]; omega) (by rw [List.length_map]; simp only [maxLen]; omega) (λr hr=>?_)
   refine sW 2 g2 54 #[y.v] #[r.v] (Writes.one 0 54 r.v _ _ U kR kR kR hr.cells.1 hr.cells.2 (Nat.lt_succ_self 0) rfl)<|Sy.setT<|Sy.nil<|Sy.in_ ?_
   exact Sy.bpY r ⟨by rw [List.map_append,List.map_singleton]; unfold ptL; rw [← hQ]; exact hr,by rw [List.length_append,List.length_singleton]; omega,λz hz=>(List.mem_append.1 hz).elim (hok z) (λh=>by rw [List.mem_singleton.1 h]; exact hb1.symm)⟩ (λw hw=>St.pick [0,1,2,3,4] dZ kZ hw)
 ·intro D' fz xs y hS ⟨hy,hpl,hok⟩ hD' hm'
  have hS0:xs.map (·.1)=List.range D:=hS
  refine Sy.in_<|sB<|sS y.v (qC 2 g2 0 54 54 #[y.v] rfl CE)<|sW 0 g0 54 #[.slice none 0 0] #[y.v] (Writes.one 0 54 y.v _ _ U kR kR kR hy.cells.1 hy.cells.2 (Nat.lt_succ_self 0) rfl)<|Sy.setT<|sW 1 g1 4 #[.bool false] #[.bool true] (wO 0 4 (.bool true) rfl)<|Sy.setT<|sG<|Sy.ret ?_
  have hall:Oo m D=true:=QL λj hj=>by
   have:j∈xs.map (·.1):=by rw [hS0]; exact List.mem_range.2 hj
   obtain ⟨x,hx,rfl⟩:=List.mem_map.1 this
   rw [← hbk]
   exact hok x hx
  refine Sy.retMG2 y.bl U (Sy.hasC g0 0 #[y.v] CE) (Sy.hasC (v:=.bool true) g1 1 #[.bool true] uy4) (λw hw=>?_) (.inr ⟨hall,y,rfl,rfl,?_⟩) hD' hm'
  ·exact St.less hw (by rw [List.append_nil]; exact List.sublist_append_right _ _)
  ·rw [← hS0,List.map_map, ← hC]; exact hy
 ·intro D' fz pre y hS ⟨x,hx,hno⟩ hD' hm'
  refine Sy.in_ret<|Sy.then_ret ?_
  exact Sy.retMG2 [] rfl (Sy.hasC g0 0 #[.slice none 0 0] CE) (Sy.hasC (v:=.bool false) g1 1 #[.bool false] uy4) (λw hw=>hw.none) (.inl ⟨YO x.isLt (by rw [← hbk]; exact hno),rfl,rfl⟩) hD' hm'
section
variable {P:Program} {w0:Base} {F:AO} {L:AC} {o:Oper}
theorem aH (d s:Operand) (dT sT e:TypeId) (z m:Nat) (ho:o.op=.call { callee:=.builtin .copy,args:=#[d,s],argTypes:=#[dT,sT] }) (hu:P.underlying dT=some (.slice e)) (hsz:(P.info? e).map (·.size)=some z)
  (i g f dl dc:Nat) (t:TypeId) (cs cs':Array Value) (hL:L[i]? = some (g,t,cs)) (hd:evF F d=.slice (some ⟨g,f,none⟩) dl dc)
  (gx fx sl sc:Nat) (hs:evF F s=.slice (some ⟨gx,fx,none⟩) sl sc) (hm:Nat.min sl dl=m)
  (news:List Value) (hn:news.length=m*z) (hr0:∀ w,St w0 w L→w.rangeAt gx fx news) (h1:∀ u∈news,u.oneCell'=true) (hfit:f+news.length≤cs.size) (hcs:BI cs f news=cs'):WritesV P w0 F L o g t cs' (goInt m):=λw hw=>by
 have hb:=hw.get hL
 have hth:=hb.there f news.length hfit
 have hr:=IY (P:=P) w dT sT o.type e g f dl dc ⟨gx,fx,none⟩ sl sc z m news hu hsz hm hn (λq u hq=>by
  rw [Bm]
  exact hr0 w hw q u hq) (λq hq=>(hth q hq).1) (λq hq=>(hth q hq).2) h1
 refine ⟨_,?_,Ca news f w (World.grownBy.refl w (some g)),hcs ▸ Blk.setCells news f w cs hb⟩
 unfold execOp
 simp only [ho,resolve,invoke,builtin,Sem.run_bind,Sem.run_pure,Result.andThen_ok,List.map_toArray,List.map_cons,List.map_nil,hs,hd,hr]
end
theorem JV:∀ (a b:List Value) (cs:Array Value) (o:Nat),BI cs o (a++b)=BI (BI cs o a) (o+a.length) b
 | [],b,cs,o=>rfl
 | x::a,b,cs,o=>by
  show BI (cs.setIfInBounds o x) (o+1) (a++b)=BI (BI (cs.setIfInBounds o x) (o+1) a) (o+(a.length+1)) b
  rw [JV a b,show o+1+a.length=o+(a.length+1) by omega]
theorem Kl {A:Nat→List Value} {z:List Value} {s:Nat} (hA:∀ j,(A j).length=s) (hz:z.length=s) {k n o:Nat} (ho:o=k*s):∀ {q:Nat},k+q≤n→BI (AL (upto k A z) n).toArray o (AL (λj=>A (k+j)) q)=(AL (upto (k+q) A z) n).toArray
 | 0,_=>rfl
 | q+1,h=>by
  rw [Dw,JV,Kl hA hz ho om,Am (λj=>hA (k+j))]
  exact D2 hA hz U om (by rw [ho,Nat.add_mul])
theorem OD (w:World) (x y:Nat) (hx:x<4294967296) (hy:y<4294967296):AY 204 #[uZ ((x:Nat):Int),uZ ((y:Nat):Int)] w (Gets w (.tuple #[uZ ((0:Nat):Int),uZ ((x*y:Nat):Int)])):=by
 have hxy:x*y<18446744073709551616:=Nat.lt_of_lt_of_le (Nat.mul_lt_mul'' hx hy) dZ
 refine Sy.enter (args:=[uZ ((x:Nat):Int),uZ ((y:Nat):Int)]) Tryz.func204 U kL<|sC<|sp U<|sp U<|sG<|Sy.seq<|sU<|Sy.skip<|sB<|sp U<|sp U<|sS (.tuple #[uZ ((0:Nat):Int),uZ ((x*y:Nat):Int)]) (qf (λw=>Fz.mulZ_any w x y 0 (x*y) om om hxy om))<|sp U<|sp U<|sp U<|sp U<|sp U<|sA<|sp U<|sp U<|sp U<|sp U<|sG<|Sy.ret ?_
 exact ret2 U (.inl (show _=_ by kernel_rfl)) (.inl (show _=_ by kernel_rfl))
theorem Qo (w:World) (F:AO) (o:Oper) (x:Operand) (k:Nat) (hk:k<18446744073709551616) (ho:o.op=.convert 3 187 x) (hx:evF F x=.int .i64 (k:Int)):(execOp (evF F) o).run Tryz.prog w=.ok (.value (.int .u64 ((k:Nat):Int))) w:=by
 have h:(convert 3 187 (.int .i64 (k:Int))).run Tryz.prog w=.ok (.int .u64 ((k:Nat):Int)) w:=by
  go_simp
  exact wrap_u64 om om
 unfold execOp
 simp only [ho,hx,Sem.run_bind,h,Result.andThen_ok,Sem.run_pure]
theorem Wv (w:World) (F:AO) (o:Oper) (x:Operand) (k:Nat) (hk:k<9223372036854775808) (ho:o.op=.convert 187 3 x) (hx:evF F x=.int .u64 (k:Int)):(execOp (evF F) o).run Tryz.prog w=.ok (.value (iZ k)) w:=by
 have h:(convert 187 3 (.int .u64 (k:Int))).run Tryz.prog w=.ok (iZ k) w:=by
  go_simp
  exact Cy om om
 unfold execOp
 simp only [ho,hx,Sem.run_bind,h,Result.andThen_ok,Sem.run_pure]
def XM (m:Nat) (v:Value) (M:AC):Prop:=∃ g,v=.slice (pA g) m m∧M=[(g,3,(AL (λ_=>[Value.int .i64 4]) m).toArray)]
def dbl (m:Nat) (k:Nat):Nat:=min (2 ^ k) m
theorem Gh (w:World) (g0 m:Nat) (t0:TypeId) (h1:1≤m) (hm:m≤32) (hb0:Blk w g0 t0 #[.int .i64 4]):AY 145 #[.slice (pA g0) 1 1,iZ m] w (GetsN w (XM m)):=by
 refine Sy.enter (args:=[.slice (pA g0) 1 1,iZ m]) Tryz.func145 U kL<|sC<|sp U<|sG<|Sy.seq<|sC<|sp U<|sS (.bool false) (Quiet.pure (AK .lss _ _ _ .i64 _ _ _ U U U (Hb _ _ _ _ _ (decide_eq_false om))))<|sG<|sU<|Sy.skip<|sB<|sp U<|sP (iZ 1)<|sS (uZ ((1:Nat):Int)) (Quiet.pure (λw=>Qo w _ _ _ 1 dZ U U))<|sp U<|sS (uZ ((m:Nat):Int)) (Quiet.pure (λw=>Qo w _ _ _ m om U U))<|sS (.tuple #[uZ ((0:Nat):Int),uZ ((m:Nat):Int)]) (qf (λw=>by have q:=OD w 1 m dZ (by omega); rw [Nat.one_mul] at q; exact q))<|sp U<|sp U<|sp U<|sp U<|sp U<|sG<|Sy.seq<|sC<|sp U<|sP (.bool false)<|sp U<|sp U<|sS (.bool false) (Quiet.pure (AK .gtr _ _ _ .u64 _ _ _ U U U (DK _ _ _ _ _ (decide_eq_false om))))<|sP (.bool false)<|sG<|sU<|Sy.skip<|sB<|sp U<|sS (iZ m) (Quiet.pure (λw=>Wv w _ _ _ m om U U)) ?_
 refine Sy.make kR 3 (AL (λ_=>[Value.int .i64 0]) m).toArray (λg=>.slice (pA g) m m) (Makes.slice 139 3 _ (.int .i64 0) 1 8 _ _ .i64 .i64 m [.int .i64 0] rfl U U D1 Ni kR kR dZ kR kR kR om om) (λg1=>?_)
 refine sp U<|sA ?_
 have hz:(AL (λ_=>[Value.int .i64 0]) m).toArray=(AL (upto 0 (λ_=>[Value.int .i64 4]) [.int .i64 0]) m).toArray:=Em
 rw [hz]
 have hA1:∀ j:Nat,((λ_=>[Value.int .i64 4]) j:List Value).length=1:=λ_=>rfl
 have hup:∀ k j,(upto k (λ_=>[Value.int .i64 4]) [.int .i64 0] j).length=1:=λk=>An hA1 U k
 have hsz:∀ k,(AL (upto k (λ_=>[Value.int .i64 4]) [.int .i64 0]) m).toArray.size=m:=λk=>by rw [List.size_toArray,Am (hup k),Nat.mul_one]
 refine sp U<|sp U<|Sy.writeV kR 0 g1 3 (AL (upto 0 (λ_=>[Value.int .i64 4]) [.int .i64 0]) m).toArray (AL (upto 1 (λ_=>[Value.int .i64 4]) [.int .i64 0]) m).toArray (goInt 1) kR (aH _ _ _ _ _ 1 1 U D1 kR 0 g1 0 m m 3 (AL (upto 0 (λ_=>[Value.int .i64 4]) [.int .i64 0]) m).toArray (AL (upto 1 (λ_=>[Value.int .i64 4]) [.int .i64 0]) m).toArray kR U g0 0 1 1 U (Nat.min_eq_left h1) [Value.int .i64 4] rfl (λw' hw=>λj v hj=>by
  have hj0:j=0:=by have:=(List.getElem?_eq_some_iff.1 hj).1; simp at this; omega
  subst hj0
  exact ((hb0.below hw.below hb0.lt).cell 0).trans hj) (λu hu=>by rw [List.mem_singleton.1 hu]; rfl) (by rw [hsz]; exact h1) (D2 (s:=1) hA1 U U om U)) ?_
 refine sp U<|sG<|Sy.seq<|Sy.block<|Sy.loopT (Y:=Nat) 6 (λk1 y1=>[(7,.slice (pA g1) m m),(8,iZ y1)]) (λk1 y1=>[(g1,3,(AL (upto y1 (λ_=>[Value.int .i64 4]) [.int .i64 0]) m).toArray)]) (λk1 y1=>y1=dbl m k1) 1 (by unfold dbl; omega) ac2 (λw hw=>hw) (λk1 y1 hk1 hy1=>?_)
 have hy2:1≤y1∧y1≤m:=by rw [hy1]; unfold dbl; have:=Nat.one_le_two_pow (n:=k1); omega
 refine Sy.seq<|sC ?_
 obtain ⟨b1,hb1⟩:=xE (decide (y1<m))
 refine sp U<|sp U<|sP (iZ m)<|sS (.bool b1) (qls U U U hb1)<|sG ?_
 cases b1
 ·have lb1:=dN hb1
  obtain rfl:y1=m:=om
  rw [upto_all]
  refine sU<|Sy.exit<|Sy.then_exit<|Sy.then_exit<|Sy.in_exit<|sB<|sp U<|sp U<|sG<|Sy.ret ?_
  exact RR 0 (g1,3,(AL (λ_=>[Value.int .i64 4]) y1).toArray) rfl (v:=.slice (pA g1) y1 y1) (.inl (show _=_ by kernel_rfl)) kR ⟨g1,rfl,rfl⟩
 ·have lb1:=dY hb1
  have hk6:k1<6:=by
   rcases Nat.lt_or_ge k1 6 with h | h
   ·exact h
   ·have:2 ^ 6≤2 ^ k1:=Nat.pow_le_pow_right dZ h
    rw [hy1] at lb1
    unfold dbl at lb1
    omega
  have e2:y1=2 ^ k1:=by rw [hy1] at lb1 ⊢; unfold dbl at lb1 ⊢; omega
  obtain ⟨q,hq⟩:=xE (min y1 (m - y1))
  have e3:y1+q=dbl m (k1+1):=by unfold dbl; rw [Nat.pow_succ, ← e2]; omega
  refine sT<|Sy.skip<|Sy.then_<|Sy.block<|Sy.regionD (λj=>j == 7) kR<|Sy.stepDA 0 U kR (λ_ _ _ _ h=>h) kR (iZ y1) kF<|Sy.stepDB 1 [3,7] rfl kR (λ_ _ _ _ h=>h) kR (.slice (pA g1) m m) qP<|Sy.stepDB 2 [3,7,8,9] rfl kR (λ_ _ _ _ h=>h) kR (iZ y1) qP<|sD 3 U (.slice (some ⟨g1,0+y1*1,none⟩) (m - y1) (m - y1)) (Quiet.pure (Dg _ _ _ g1 0 m m y1 1 .i64 U U U kR kF om om))<|Sy.stepDB 4 [6,7] rfl kR (λ_ _ _ _ h=>h) kR (.slice (pA g1) m m) qP<|Sy.stepDB 5 [6,7,8,9] rfl kR (λ_ _ _ _ h=>h) kR (iZ y1) qP<|sD 6 U (.slice (pA g1) y1 m) (Quiet.pure (Et _ _ _ g1 0 m m y1 1 .i64 U U U D1 kF om))<|Sy.writeVD 7 U kR (by rfl) kR 0 g1 3 (AL (upto y1 (λ_=>[Value.int .i64 4]) [.int .i64 0]) m).toArray (AL (upto (y1+q) (λ_=>[Value.int .i64 4]) [.int .i64 0]) m).toArray (goInt q) kR (Xg _ _ _ _ _ 1 q U D1 kR 0 g1 (0+y1*1) (m - y1) (m - y1) 3 (AL (upto y1 (λ_=>[Value.int .i64 4]) [.int .i64 0]) m).toArray (AL (upto (y1+q) (λ_=>[Value.int .i64 4]) [.int .i64 0]) m).toArray kR U 0 g1 0 y1 m 3 (AL (upto y1 (λ_=>[Value.int .i64 4]) [.int .i64 0]) m).toArray kR U hq.symm (AL (λ_=>[Value.int .i64 4]) q) (by
   show ((AL (upto y1 (λ_=>[Value.int .i64 4]) [.int .i64 0]) m).drop 0).take (q*1)=_
   obtain ⟨r,hr⟩:∃ r,m=q+r:=⟨m - q,by omega⟩
   rw [hr,Hj,List.drop_zero,List.take_left' (by rw [Am (hup y1)])]
   exact CD (λj hj=>Lf om)) (Am hA1 q) (Nq (λ_ u hu=>by rw [List.mem_singleton.1 hu]; rfl)) (by rw [Am hA1,hsz]; omega) (Kl (A:=λ_=>[Value.int .i64 4]) hA1 U om om)) ?_
  refine Sy.anyOf [8] kZ dZ (Sy.each1 (Sy.oneQuiet U kZ (iZ (y1+q)) (qad U U U) ?_))
  refine Sy.anyOf [9] kZ dZ (Sy.each1 (Sy.oneQuiet U kZ (iZ (y1+q)) qP ?_))
  refine sE<|Sy.in_ ?_
  exact Sy.againT (y1+q) hk6 e3 ac2 (λw hw=>hw)
def LstU (w0:Base) (s:Nat) (A:Option Addr) (n:Nat) (el:Nat→List Value) (M:AC):Prop:=∃ g o,(0<n→A=some ⟨g,o,none⟩)∧∀ (w:World) (L:AC),St w0 w L→(∀ b∈M,b∈L)→0<n→g<w.heap.size∧∀ j,j<n→w.rangeAt g (o+j*s) (el j)
section
variable {w0:Base} {s n:Nat} {A:Option Addr} {el:Nat→List Value} {M:AC}
theorem LstU.none (hn:n=0):LstU w0 s A n el M:=⟨0,0,λh=>absurd h om,λ_ _ _ _ h=>absurd h om⟩
end
theorem Ze {w0:Base} {r:Slc} {e:TypeId} {sz:Nat} {xs:List (List Value)} {M:AC} (h:r.Is e sz xs) (hM:∀ b∈r.bl,b∈M):∃ A c,r.v=.slice A xs.length c∧xs.length≤c∧LstU w0 sz A xs.length (λi=>xs.getD i []) M:=by
 have h0:=h
 rcases h.row with ⟨rfl,rfl⟩ | ⟨g,cap,sp,rfl,h1,h2,h3⟩
 ·exact ⟨none,0,rfl,Nat.le_refl _,LstU.none U⟩
 ·refine ⟨some ⟨g,0,none⟩,cap,rfl,h2,g,0,λ_=>rfl,λw L hw hb hn=>?_⟩
  obtain ⟨A,c,e1,_,_,h4⟩:=h0.out
  obtain ⟨rfl,_⟩:some ⟨g,0,none⟩=A∧cap=c:=by
   have q:=e1
   injection q with q1 q2 q3
   exact ⟨q1,q3⟩
  obtain ⟨g',o',h5⟩:=h4 hw (λb hb2=>hb b (hM b hb2))
  obtain ⟨e2,h6⟩:=h5 hn
  injection e2 with e2
  injection e2 with e3 e4 e5
  subst e3 e4
  exact h6
section
variable {P:Program} {w0:Base} {F:AO} {L:AC} {o:Oper}
end
theorem YQ {P:Program} {n:Nat} {F:AO} {L:AC} {w0:Base} {ops:Array Oper} {Q:Exit→Act→World→Prop} {ex:Nat→Bool} {fuel:Nat} {listed:Array Bool} (i:Nat) {oi:Oper} (hi0:ops.toList[i]? = some oi) (hc:Dh .any ops listed i=true) (hQ:∀ c v a w,Q (.panic c) (a.put oi.dst v) w→Q (.panic c) a w)
  (hg:C2 ops F oi=some false) (hd:KW n oi.dst=true) (h:wpD P w0 n ops Q ex (Bo F oi.dst undef) L fuel (listed.setIfInBounds i true)):wpD P w0 n ops Q ex F L (fuel+1) listed:=λa w ha hw =>
 Aa i hi0 hc (λc=>hQ c undef) (λw'=>YieldsG.skip (ha.wanted hg)) (h _ _ (ha.put hd undef) hw)
theorem IB {P:Program} {n:Nat} {F:AO} {L:AC} {w1:World} {fn:Func} {r s q:ResultVar} {v u z:Value} {R:Value→AC→Prop} (M:AC) (hr:fn.results=#[r,s,q]) (h:Has P F L r v) (k:Has P F L s u) (l:Has P F L q z) (hM:∀ w,St (Base.of w1) w L→St (Base.of w1) w M) (hR:R (.tuple #[v,u,z]) M):X (Base.of w1) n (bodyPost P fn (GetsN w1 R)) F L .ret:=λa w ha hw=>by
 refine bodyPost_ret (v:=.tuple #[v,u,z]) ?_ ha.1 ⟨_,M,rfl,hR,hw.below,λg t cs hm=>(hM w hw).blk g t cs hm,(hM w hw).apart⟩
 rcases Res.run h ha hw with ⟨t,rfl,e1⟩ | ⟨t,ty,ad,rfl,e1,e2⟩ <;> rcases Res.run k ha hw with ⟨t',rfl,f1⟩ | ⟨t',ty',ad',rfl,f1,f2⟩ <;> rcases Res.run l ha hw with ⟨t2,rfl,l1⟩ | ⟨t2,ty2,ad2,rfl,l1,l2⟩ <;> simp [results,Result.andThen, *]
theorem PtsR.uni {b:Bool} {C:Nat→Pt} {D:Nat} {v:Value} {M:AC} (h:PtsR b C D v M):∃ yp:Slc,v=.tuple #[yp.v,.bool b]∧M=yp.bl∧(b=true→yp.Is 37 9 ((List.range D).map (ptL C))):=by
 rcases h with ⟨rfl,rfl,rfl⟩ | ⟨rfl,y,rfl,rfl,hy⟩
 ·exact ⟨nilS,rfl,rfl,λh=>by cases h⟩
 ·exact ⟨y,rfl,rfl,λ_=>hy⟩
def m1B (m:AF):List UInt8:=(m.drop 1).take (33*(dgN m - 1))
def msB (m:AF):List UInt8:=m.drop (M9 (dgN m))
def rdB (m:AF):Bool:=decide (dgN m≠0) && (Oo (m1B m) (dgN m - 1) && SI (msB m) (λ_=>4) (dgN m))
def Xi (w0:Base) (m:AF) (v:Value) (M:AC):Prop:=∃ (yp:Slc) (d:AF) (W:Option Addr) (N c:Nat) (Mx:AC),v=.tuple #[yp.v,Aq d W N c,.bool (rdB m)]∧M=yp.bl++Mx∧d.length=32∧(rdB m=true→yp.Is 37 9 ((List.range (dgN m - 1)).map (ptL (ptB (m1B m))))∧d=(msB m).take 32∧N=dgN m∧∃ sa sc,RwU w0 W N (λ_=>4) (nmD (msB m) λ_=>4) sa sc Mx)
theorem MM {m:AF} (h:dgN m≠0):1≤dgN m∧dgN m≤32∧m.length=161*dgN m:=by
 unfold dgN at h ⊢
 split
 ·next hh=>exact hh
 ·next hh=>rw [if_neg hh] at h; exact absurd U h
theorem M0 {w:World} {g o:Nat} {m:AF} (k:Nat) (hs:Sh.Src w (some ⟨g,o,none⟩) m):Sh.Src w (some ⟨g,o+k*1,none⟩) (m.drop k):=λh=>by
 obtain ⟨b,o',e,h2,h3⟩:=hs (λe=>by rw [e,List.drop_nil] at h; exact h U)
 cases e
 refine ⟨g,o+k*1,rfl,h2,λj u hx=>?_⟩
 rw [List.getElem?_drop] at hx
 have:=h3 _ u hx
 rw [Nat.mul_one,Nat.add_assoc]
 exact this
theorem RD {w:World} {A:Option Addr} {m:AF} (k:Nat) (hs:Sh.Src w A m):Sh.Src w A (m.take k):=λh=>by
 obtain ⟨b,o',e,h2,h3⟩:=hs (λe=>by rw [e,List.take_nil] at h; exact h U)
 refine ⟨b,o',e,h2,λj u hx=>?_⟩
 have hl:=(List.getElem?_eq_some_iff.1 hx).1
 rw [List.length_take] at hl
 rw [List.getElem?_take_of_lt om] at hx
 exact h3 _ u hx
theorem RS (w:World) (w0:Base) (B:Option Addr) (m:AF) (n cp:Nat) (hm:m.length=n) (hcp:n≤cp) (hcp2:cp≤9223372036854775807) (hs:Sh.Src w B m):AY 90 #[.slice B n cp] w (GetsN w (Xi w0 m)):=by
 obtain ⟨D,hD_⟩:=xE (dgN m)
 have hD:D≤32:=by rw [hD_]; exact UY m
 refine Sy.enter (args:=[.slice B n cp]) Tryz.func90 U kL<|sC<|sp U<|sM 69 zS33.toArray (λg3=>?_)
 refine sp U<|sA<|sp U<|sS (iZ D) (qg (λw hw=>by rw [hD_]; exact KE w B m n cp hm hcp hcp2 (hs.below hw.below)))<|sp U<|sG<|Sy.seq<|sC ?_
 obtain ⟨b1,hb1⟩:=xE (decide (D=0))
 refine sp U<|sS (.bool b1) (qeq U U U hb1)<|sG ?_
 cases b1
 case' true =>
  have l1:=dY hb1
  have e0:rdB m=false:=by unfold rdB; rw [← hD_,l1]; rfl
  refine sT<|sC<|sP (Aq (List.replicate 32 0) none 0 0)<|sp U<|sw 0 U zS33.toArray (Writes.row 69 zS33 33 _ _ U kR kR kR (Ag List.length_replicate) (by rw [List.size_toArray,Ag List.length_replicate]) CG)<|sp U<|sG<|Sy.ret<|Sy.then_ret ?_
  exact IB [] rfl (v:=.slice none 0 0) (u:=Aq (List.replicate 32 0) none 0 0) (z:=.bool false) (.inl (show _=_ by kernel_rfl)) (.inl (Res.cell (ty':=69) g3 0 zS33.toArray _ kR kR Cw U (by rw [List.size_toArray,Ag List.length_replicate]; kernel_rfl) rfl)) (.inl (show _=_ by kernel_rfl)) (λ_ hw=>hw.none) ⟨nilS,List.replicate 32 0,none,0,0,[],by rw [e0]; rfl,rfl,List.length_replicate,λh=>by rw [e0] at h; cases h⟩
 case' false =>
  have l1:=dN hb1
  obtain ⟨d1,d2,d3⟩:=MM (m:=m) (by rw [← hD_]; exact l1)
  rw [← hD_] at d1 d2 d3
  obtain ⟨E,hE⟩:=xE (D - 1)
  obtain ⟨at_,hat_⟩:=xE (M9 D)
  have hat2:at_=1+33*E:=by rw [hat_,hE]; rfl
  have hne:m≠[]:=λe=>by rw [e] at d3; simp at d3; omega
  obtain ⟨g,o,rfl,hgl,_⟩:=hs hne
  obtain ⟨bP,hbP⟩:=xE (Oo (m1B m) E)
  obtain ⟨bD,hbD⟩:=xE (SI (msB m) (λ_=>4) D)
  have hrd:rdB m=(bP && bD):=by unfold rdB; rw [← hD_,decide_eq_true l1,Bool.true_and, ← hE,hbP,hbD]
  have hm1:(m1B m).length=33*E:=by unfold m1B; rw [List.length_take,List.length_drop, ← hD_, ← hE]; omega
  have hms:(msB m).length=n - at_:=by unfold msB; rw [List.length_drop, ← hD_, ← hat_,hm]
  obtain ⟨dU,hdU⟩:=xE (uD true bD ((msB m).take 32))
  obtain ⟨NU,hNU⟩:=xE (uN true bD D)
  have hdUl:dU.length=32:=by
   rw [hdU]
   refine Si ?_
   rw [List.length_take,hms]
   omega
  refine sU<|Sy.skip<|sB<|sp U<|sS (iZ at_) (qf (λw=>by rw [hat_]; exact M8 w D hD d1))<|sp U<|sA<|sp U<|sp U<|sS (.slice (some ⟨g,o+1*1,none⟩) (at_ - 1) (cp - 1)) (Quiet.pure (UL _ _ _ _ g o n cp 1 at_ 1 .i64 .i64 U U U U kR kF om om om))<|Sy.callN kR 143 #[.slice (some ⟨g,o+1*1,none⟩) (at_ - 1) (cp - 1)] kF (λv M=>∃ yp:Slc,v=.tuple #[yp.v,.bool bP]∧M=yp.bl∧(bP=true→yp.Is 37 9 ((List.range E).map (ptL (ptB (m1B m)))))) (λw hw=>by rw [hbP,show at_ - 1=33*E by omega]; exact Calls.mono (Ox w (some ⟨g,o+1*1,none⟩) g (o+1*1) E (cp - 1) (λ_=>rfl) (m1B m) hm1 om om om (RD _ (M0 1 (hs.below hw.below)))) (λe w' ⟨v,M,q1,q2,q3⟩=>⟨v,M,q1,PtsR.uni q2,q3⟩)) (λv M hR0=>?_)
  obtain ⟨yp,rfl,rfl,hyp⟩:=hR0
  refine sp U<|sp U<|sp U<|sp U<|sp U ?_
  have hdec:∀ w' {L:AC},St (Base.of w) w' L→∀ gr,Blk w' gr 3 (AL (λ_=>[Value.int .i64 4]) D).toArray→AY 144 #[.slice (some ⟨g,o+at_*1,none⟩) (n - at_) (cp - at_),.slice (pA gr) D D] w' (GetsN w' (FO w0 (uD true bD ((msB m).take 32)) (uN true bD D) (λ_=>4) (nmD (msB m) λ_=>4) (.bool bD))):=λw' L hw gr hbk=>by
   have q:=UZ w' (some ⟨g,o+at_*1,none⟩) (msB m) (n - at_) (cp - at_) hms om om (by unfold msB; rw [← hD_, ← hat_]; exact M0 at_ (hs.below hw.below)) (pA gr) D D (λ_=>4) om ⟨gr,0,λ_=>⟨rfl,hbk.lt,λj hj=>CJ hbk (o:=0+j*1) (vs:=[Value.int .i64 4]) (FD (f:=λ_=>[Value.int .i64 4]) (s:=1) (λ_=>rfl) hj om)⟩⟩
   rw [hbD]
   exact Calls.mono q (λe w' ⟨v,M,q1,q2,q3⟩=>⟨v,M,q1,DecR.uniC q2,q3⟩)
  refine sH (λj=>j == 11) ?_
  refine sz 0 U U<|sz 1 U U<|sD 2 U (.slice (some ⟨g,o+at_*1,none⟩) (n - at_) (cp - at_)) (Quiet.pure (Dg _ _ _ g o n cp at_ 1 .i64 U U U kR kF om om))<|sz 4 U U<|Sy.joinG (T:=Nat×Option Addr×Nat×AC×AC) (λ⟨g9,W,c,Ms,J⟩=>[(3,ptr g3),(7,yp.v),(8,.bool bP),(9,ptr g9),(33,Aq dU W NU c),(34,.bool bD)]) (λ⟨g9,W,c,Ms,J⟩=>[(g3,69,zS33.toArray),(g9,69,zS33.toArray)]++(yp.bl++(Ms++J))) (λ⟨g9,W,c,Ms,J⟩=>∃ sa sc,RwU w0 W NU (λ_=>4) (nmD (msB m) λ_=>4) sa sc Ms) 2 #[true,true,true,true,true,true,true,true,true,true,true,false,false] (λx hx=>?_) (λfin=>?_)
  rotate_left
  rw [← hdU, ← hNU] at hdec
  refine Sy.anyOf [3,10] kZ dZ (Sy.each2 ?_ ?_)
  ·refine Sy.oneMake U kZ 3 #[.int .i64 4] (λg=>.slice (pA g) 1 1) kF (λgl=>?_)
   refine Sy.anyOf [5,10] kZ dZ (Sy.each2 ?_ ?_)
   ·refine Sy.oneCallN U kZ 145 #[.slice (pA gl) 1 1,iZ D] kF (XM D) (λw hw=>Gh w gl D _ om hD (hw.blk gl 3 #[.int .i64 4] (by simp)).2) (λv M hR0=>?_)
    obtain ⟨gr,rfl,rfl⟩:=hR0
    refine Sy.anyOf [6,10] kZ dZ (Sy.each2 ?_ ?_)
    ·refine Sy.oneCallN U kZ 144 #[.slice (some ⟨g,o+at_*1,none⟩) (n - at_) (cp - at_),.slice (pA gr) D D] kF (FO w0 dU NU (λ_=>4) (nmD (msB m) λ_=>4) (.bool bD)) (λw' hw=>hdec w' hw gr (hw.blk gr 3 _ (by simp)).2) (λv M hR0=>?_)
     obtain ⟨W,c,sa,sc,rfl,hU⟩:=hR0
     obtain ⟨Ms,hMs⟩:=xE M
     subst hMs
     refine sz 7 U U<|sz 8 U U<|Sy.stepDA 9 U kR (λ_ _ _ _ h=>h) kR (.bool bD) kF<|Sy.makeD 10 U kR kR 69 zS33.toArray ptr kF (λg9=>?_)
     exact BJ fin (g9,W,c,Ms,[(gl,3,#[.int .i64 4]),(gr,3,(AL (λ_=>[Value.int .i64 4]) D).toArray)]) ⟨sa,sc,hU⟩ kR ac6 (Sy.flat_perm (ls:=[[(g3,69,zS33.toArray)],yp.bl,[(gl,3,#[.int .i64 4])],[(gr,3,(AL (λ_=>[Value.int .i64 4]) D).toArray)],Ms,[(g9,69,zS33.toArray)]]) (ms:=[[(g3,69,zS33.toArray)],[(g9,69,zS33.toArray)],yp.bl,Ms,[(gl,3,#[.int .i64 4])],[(gr,3,(AL (λ_=>[Value.int .i64 4]) D).toArray)]]) [0,5,1,4,2,3] kZ (by rfl) (by simp) (by simp))
    ·refine Sy.oneMake U kZ 69 zS33.toArray ptr kF (λg9=>?_)
     refine Sy.callND 6 U kR kR 144 #[.slice (some ⟨g,o+at_*1,none⟩) (n - at_) (cp - at_),.slice (pA gr) D D] kF (FO w0 dU NU (λ_=>4) (nmD (msB m) λ_=>4) (.bool bD)) (λw' hw=>hdec w' hw gr (hw.blk gr 3 _ (by simp)).2) (λv M hR0=>?_)
     obtain ⟨W,c,sa,sc,rfl,hU⟩:=hR0
     obtain ⟨Ms,hMs⟩:=xE M
     subst hMs
     refine sz 7 U U<|sz 8 U U<|Sy.stepDA 9 U kR (λ_ _ _ _ h=>h) kR (.bool bD) kF ?_
     exact BJ fin (g9,W,c,Ms,[(gl,3,#[.int .i64 4]),(gr,3,(AL (λ_=>[Value.int .i64 4]) D).toArray)]) ⟨sa,sc,hU⟩ kR ac6 (Sy.flat_perm (ls:=[[(g3,69,zS33.toArray)],yp.bl,[(gl,3,#[.int .i64 4])],[(gr,3,(AL (λ_=>[Value.int .i64 4]) D).toArray)],[(g9,69,zS33.toArray)],Ms]) (ms:=[[(g3,69,zS33.toArray)],[(g9,69,zS33.toArray)],yp.bl,Ms,[(gl,3,#[.int .i64 4])],[(gr,3,(AL (λ_=>[Value.int .i64 4]) D).toArray)]]) [0,4,1,5,2,3] kZ (by rfl) (by simp) (by simp))
   ·refine Sy.oneMake U kZ 69 zS33.toArray ptr kF (λg9=>?_)
    refine Sy.callND 5 U kR kR 145 #[.slice (pA gl) 1 1,iZ D] kF (XM D) (λw hw=>Gh w gl D _ om hD (hw.blk gl 3 #[.int .i64 4] (by simp)).2) (λv M hR0=>?_)
    obtain ⟨gr,rfl,rfl⟩:=hR0
    refine Sy.callND 6 U kR kR 144 #[.slice (some ⟨g,o+at_*1,none⟩) (n - at_) (cp - at_),.slice (pA gr) D D] kF (FO w0 dU NU (λ_=>4) (nmD (msB m) λ_=>4) (.bool bD)) (λw' hw=>hdec w' hw gr (hw.blk gr 3 _ (by simp)).2) (λv M hR0=>?_)
    obtain ⟨W,c,sa,sc,rfl,hU⟩:=hR0
    obtain ⟨Ms,hMs⟩:=xE M
    subst hMs
    refine sz 7 U U<|sz 8 U U<|Sy.stepDA 9 U kR (λ_ _ _ _ h=>h) kR (.bool bD) kF ?_
    exact BJ fin (g9,W,c,Ms,[(gl,3,#[.int .i64 4]),(gr,3,(AL (λ_=>[Value.int .i64 4]) D).toArray)]) ⟨sa,sc,hU⟩ kR ac6 (Sy.flat_perm (ls:=[[(g3,69,zS33.toArray)],yp.bl,[(gl,3,#[.int .i64 4])],[(g9,69,zS33.toArray)],[(gr,3,(AL (λ_=>[Value.int .i64 4]) D).toArray)],Ms]) (ms:=[[(g3,69,zS33.toArray)],[(g9,69,zS33.toArray)],yp.bl,Ms,[(gl,3,#[.int .i64 4])],[(gr,3,(AL (λ_=>[Value.int .i64 4]) D).toArray)]]) [0,3,1,5,2,4] kZ (by rfl) (by simp) (by simp))
  ·refine Sy.oneMake U kZ 69 zS33.toArray ptr kF (λg9=>?_)
   refine Sy.makeD 3 U kR kR 3 #[.int .i64 4] (λg=>.slice (pA g) 1 1) kF (λgl=>?_)
   refine Sy.callND 5 U kR kR 145 #[.slice (pA gl) 1 1,iZ D] kF (XM D) (λw hw=>Gh w gl D _ om hD (hw.blk gl 3 #[.int .i64 4] (by simp)).2) (λv M hR0=>?_)
   obtain ⟨gr,rfl,rfl⟩:=hR0
   refine Sy.callND 6 U kR kR 144 #[.slice (some ⟨g,o+at_*1,none⟩) (n - at_) (cp - at_),.slice (pA gr) D D] kF (FO w0 dU NU (λ_=>4) (nmD (msB m) λ_=>4) (.bool bD)) (λw' hw=>hdec w' hw gr (hw.blk gr 3 _ (by simp)).2) (λv M hR0=>?_)
   obtain ⟨W,c,sa,sc,rfl,hU⟩:=hR0
   obtain ⟨Ms,hMs⟩:=xE M
   subst hMs
   refine sz 7 U U<|sz 8 U U<|Sy.stepDA 9 U kR (λ_ _ _ _ h=>h) kR (.bool bD) kF ?_
   exact BJ fin (g9,W,c,Ms,[(gl,3,#[.int .i64 4]),(gr,3,(AL (λ_=>[Value.int .i64 4]) D).toArray)]) ⟨sa,sc,hU⟩ kR ac6 (Sy.flat_perm (ls:=[[(g3,69,zS33.toArray)],yp.bl,[(g9,69,zS33.toArray)],[(gl,3,#[.int .i64 4])],[(gr,3,(AL (λ_=>[Value.int .i64 4]) D).toArray)],Ms]) (ms:=[[(g3,69,zS33.toArray)],[(g9,69,zS33.toArray)],yp.bl,Ms,[(gl,3,#[.int .i64 4])],[(gr,3,(AL (λ_=>[Value.int .i64 4]) D).toArray)]]) [0,2,1,5,3,4] kZ (by rfl) (by simp) (by simp))
  obtain ⟨g9,W,c,Ms,J⟩:=x
  obtain ⟨sa,sc,hU⟩:=hx
  dsimp only
  refine sx 11 U 1 U (AV dU W NU c).toArray (Writes.row 69 (AV dU W NU c) 33 _ _ U kR kR kR (Ag hdUl) (by rw [List.size_toArray,Ag List.length_replicate]) CG)<|Sy.setTD<|Sy.anyOf [12] kZ dZ (Sy.each1 (Sy.oneQuiet U kR (.bool bD) (Quiet.pure kF) ?_))
  refine sE<|sR (λj=>j == 7) ?_
  refine sz 0 U U<|sD 1 U (Aq dU W NU c) (qx 1 0 33 U U Cw (Be hdUl) (Cc hdUl))<|Sy.stepDA 2 U kR (λ_ _ _ _ h=>h) kR (.bool bP) kF<|Sy.stepDA 3 U kR (λ_ _ _ _ h=>h) kR (.bool bP) kF ?_
  obtain ⟨bR,hbR⟩:=xE (rdB m)
  cases bP
  case' false =>
   obtain rfl:false=bR:=by rw [hbR,hrd]; rfl
   refine YQ 4 U kR (λ_ _ _ _ h=>h) kR kR<|Sy.stepDA 5 U kR (λ_ _ _ _ h=>h) kR (.bool false) kF<|sz 6 U U<|sX 7 U 0 g3 69 zS33.toArray (AV dU W NU c).toArray (Writes.row 69 (AV dU W NU c) 33 _ _ U kR kR kR (Ag hdUl) (by rw [List.size_toArray,Ag List.length_replicate]) CG)<|Sy.setTD<|Sy.anyOf [8] kZ dZ (Sy.each1 (Sy.oneQuiet U kR (.bool false) (Quiet.pure kF) ?_))
   refine sI<|Sy.ret<|IB (yp.bl++(Ms++J)) U (v:=yp.v) (u:=Aq dU W NU c) (z:=.bool (rdB m)) (.inl (show _=_ by kernel_rfl)) (.inl (Res.cell (ty':=69) g3 0 (AV dU W NU c).toArray _ kR kR Cw U (by rw [List.size_toArray,Ag hdUl]; kernel_rfl) rfl)) (.inl (by rw [← hbR]; show _=_; kernel_rfl)) (λw hw=>St.less hw (List.sublist_append_right _ _)) ⟨yp,dU,W,NU,c,Ms++J,rfl,rfl,hdUl,λh=>?_⟩
   rw [← hbR] at h; cases h
  case' true =>
   obtain rfl:bD=bR:=by rw [hbR,hrd,Bool.true_and]
   refine Sy.stepDA 4 U kR (λ_ _ _ _ h=>h) kR (.bool bD) kF<|Sy.stepDA 5 U kR (λ_ _ _ _ h=>h) kR (.bool bD) kF<|sz 6 U U<|sX 7 U 0 g3 69 zS33.toArray (AV dU W NU c).toArray (Writes.row 69 (AV dU W NU c) 33 _ _ U kR kR kR (Ag hdUl) (by rw [List.size_toArray,Ag List.length_replicate]) CG)<|Sy.setTD<|Sy.anyOf [8] kZ dZ (Sy.each1 (Sy.oneQuiet U kR (.bool bD) (Quiet.pure kF) ?_))
   refine sI<|Sy.ret<|IB (yp.bl++(Ms++J)) U (v:=yp.v) (u:=Aq dU W NU c) (z:=.bool (rdB m)) (.inl (show _=_ by kernel_rfl)) (.inl (Res.cell (ty':=69) g3 0 (AV dU W NU c).toArray _ kR kR Cw U (by rw [List.size_toArray,Ag hdUl]; kernel_rfl) rfl)) (.inl (by rw [← hbR]; show _=_; kernel_rfl)) (λw hw=>St.less hw (List.sublist_append_right _ _)) ⟨yp,dU,W,NU,c,Ms++J,rfl,rfl,hdUl,λh=>?_⟩
   have hh:bD=true:=by rw [← hbR] at h; exact h
   rw [hh] at hdU hNU
   refine ⟨by rw [← hD_, ← hE]; exact hyp U,hdU,hNU.trans hD_,sa,sc,hU.1,λw L hw hb=>hU.2 w L hw (λb hb2=>hb b (List.mem_append.2 (.inl hb2)))⟩
theorem IC {P:Program} {w0:Base} {n:Nat} {Q:Exit→Act→World→Prop} {F:AO} {L:AC} {ops:Array Oper} {ex:Nat→Bool} {fuel:Nat} {listed:Array Bool} {k:Nat} {oi:Oper} (hi0:ops.toList[k]? = some oi) (hg:C2 ops F oi=some true) (hex:ex k=true) (h:∀ Q',(∀ F' L',wpD P w0 n ops Q ex F' L' fuel (listed.setIfInBounds k true)→wpS P w0 n ops Q' F' L' [])→wpS P w0 n ops Q' F L [oi]):wpO P w0 n ops Q ex F L fuel listed k :=
 ⟨oi,by simpa using hi0,hg,λa w ha hw w1 h1 K hK=>by
  have q:=h (Td Q K) (λF' L' hd a' w' ha' hw'=>wpList_nil (hK _ _ (λe=>by rw [hex] at e; cases e) (hd a' w' ha' hw'))) a w1 ha (hw.gr h1)
  unfold wpList at q
  rw [if_pos (ha.wanted hg)] at q
  rcases q with q | ⟨_,a',w',q⟩
  ·exact Pv (K':=K) q
  ·exact q.elim⟩
def WP (m:AF) (Q:Pt):Pt:=Ec.add AR Q (Ec.neg (Ec.sumL AR (ptB (m1B m)) (List.range (dgN m - 1))))
def prC (m:AF) (Q:Pt) (k:Nat):Pt:=if k<dgN m - 1 then ptB (m1B m) k else WP m Q
def RJ (ax ay:Nat) (ai:Bool) (mx my:Nat) (mi:Bool) (m:AF):Bool:=rdB m && okB ax ay ai mx my mi
theorem Mm (w:World) (A:Option Addr) (m cap:Nat) :
  Calls Tryz.prog 94 #[.slice A m cap] w (GetsN w λv M=>∃ g1,v=.func (.func 152) #[] #[pT g1 0]∧M=[(g1,54,#[.slice A m cap])]):=by
 go_enter Tryz.func94,Tryz.ntmps94
 go_wp2
 go_ret
 refine ⟨_,_,rfl,⟨_,rfl,rfl⟩,(Below.refl _ _).alloc (Nat.le_refl _) _,λg t cs hm=>?_,by simp⟩
 simp only [List.mem_singleton,Prod.mk.injEq] at hm
 obtain ⟨rfl,rfl,rfl⟩:=hm
 exact ⟨Nat.le_refl _,Blk.new w _ _⟩
def SgdR (w0:Base) (b:Bool) (P Q:Pt) (m:AF) (v:Value) (M:AC):Prop:=(b=false∧v=.tuple #[.slice none 0 0,Aq (List.replicate 32 0) none 0 0,.bool false]∧M=[])∨(b=true∧∃ (vr:Value) (W:Option Addr) (c:Nat) (sa:Nat→Option Addr) (sc:Nat→Nat) (Mr Mx:AC),v=.tuple #[vr,Aq ((msB m).take 32) W (dgN m) c,.bool true]∧M=Mr++Mx∧CZ P (prC m Q) (dgN m) vr Mr∧RwU w0 W (dgN m) (λ_=>4) (nmD (msB m) λ_=>4) sa sc Mx∧((msB m).take 32).length=32∧1≤dgN m∧dgN m≤32)
theorem M7 (w:World) (w0:Base) (ax ay:Nat) (ai:Bool) (mx my:Nat) (mi:Bool) (hax:ax<K4) (hay:ay<K4) (hmx:mx<K4) (hmy:my<K4) (B:Option Addr) (m:AF) (n cp:Nat) (hm:m.length=n) (hcp:n≤cp) (hcp2:cp≤9223372036854775807) (hs:Sh.Src w B m):AY 37 #[clv ax ay ai mx my mi,.slice B n cp] w (GetsN w (SgdR w0 (RJ ax ay ai mx my mi m) (dec ax ay ai) (dec mx my mi) m)):=by
 obtain ⟨P,hP⟩:=xE (dec ax ay ai)
 obtain ⟨Qm,hQm⟩:=xE (dec mx my mi)
 have oQm:Ec.On Qm:=by rw [hQm]; exact C8 _ _ _
 refine Sy.enter (args:=[clv ax ay ai mx my mi,.slice B n cp]) Tryz.func37 U kL<|sC<|sM 49 (clC ax ay ai mx my mi).toArray (λg2=>?_)
 refine sp U<|sM 69 zS33.toArray (λg5=>?_)
 refine sp U<|sA<|sp U<|Sy.callN kR 90 #[.slice B n cp] kF (Xi w0 m) (λw' hw=>RS w' w0 B m n cp hm hcp hcp2 (hs.below hw.below)) (λv M hR0=>?_)
 obtain ⟨yp,d,W,N,c,Mx,rfl,rfl,hdl,hok⟩:=hR0
 obtain ⟨bR,hbR⟩:=xE (rdB m)
 rw [← hbR]
 refine sp U<|sp U<|sp U<|sp U<|sM 69 zS33.toArray (λg8=>?_)
 refine Sy.movT<|sp U<|sw 2 U (AV d W N c).toArray (Writes.row 69 (AV d W N c) 33 _ _ U kR kR kR (Ag hdl) (by rw [List.size_toArray,Ag List.length_replicate]) CG)<|Sy.setT<|sp U<|sG<|Sy.seq<|sC ?_
 obtain ⟨bK,hbK⟩:=xE (okB ax ay ai mx my mi)
 have hsg:RJ ax ay ai mx my mi m=(bR && bK):=by unfold RJ; rw [← hbR, ← hbK]
 refine sp U ?_
 cases bR
 ·rw [hsg]
  refine sP (.bool true)<|sp U<|sN<|sN<|sN<|sP (.bool true)<|sG<|sT<|sC<|sP (Aq (List.replicate 32 0) none 0 0)<|sp U<|sw 1 U zS33.toArray (Writes.row 69 zS33 33 _ _ U kR kR kR (Ag List.length_replicate) (by rw [List.size_toArray,Ag List.length_replicate]) CG)<|sp U<|sG<|Sy.ret<|Sy.then_ret ?_
  exact IB [] rfl (v:=.slice none 0 0) (u:=Aq (List.replicate 32 0) none 0 0) (z:=.bool false) (.inl (show _=_ by kernel_rfl)) (.inl (Res.cell (ty':=69) g5 1 zS33.toArray _ kR kR Cw U (by rw [List.size_toArray,Ag List.length_replicate]; kernel_rfl) rfl)) (.inl (show _=_ by kernel_rfl)) (λ_ hw=>hw.none) (.inl ⟨rfl,rfl,rfl⟩)
 ·refine sP (.bool false)<|sp U<|sS (clv ax ay ai mx my mi) (qk 0 0 18 U U FV)<|sS (.bool bK) (qf (λw=>by rw [hbK]; exact Jg w ax ay ai mx my mi hax hay hmx hmy)) ?_
  cases bK
  ·rw [hsg]
   refine sP (.bool true)<|sP (.bool true)<|sG<|sT<|sC<|sP (Aq (List.replicate 32 0) none 0 0)<|sp U<|sw 1 U zS33.toArray (Writes.row 69 zS33 33 _ _ U kR kR kR (Ag List.length_replicate) (by rw [List.size_toArray,Ag List.length_replicate]) CG)<|sp U<|sG<|Sy.ret<|Sy.then_ret ?_
   exact IB [] rfl (v:=.slice none 0 0) (u:=Aq (List.replicate 32 0) none 0 0) (z:=.bool false) (.inl (show _=_ by kernel_rfl)) (.inl (Res.cell (ty':=69) g5 1 zS33.toArray _ kR kR Cw U (by rw [List.size_toArray,Ag List.length_replicate]; kernel_rfl) rfl)) (.inl (show _=_ by kernel_rfl)) (λ_ hw=>hw.none) (.inl ⟨rfl,rfl,rfl⟩)
  refine sP (.bool false)<|sP (.bool false)<|sG<|sU<|Sy.skip ?_
  obtain ⟨hyp,hd_,hN_,sa,sc,hU⟩:=hok hbR.symm
  have hdg:dgN m≠0:=λe=>by unfold rdB at hbR; rw [e] at hbR; cases hbR
  obtain ⟨d1,d2,d3⟩:=MM hdg
  obtain ⟨D,hD⟩:=xE (dgN m)
  obtain ⟨E,hE⟩:=xE (D - 1)
  obtain ⟨C,hC⟩:=xE (ptB (m1B m))
  have oC:∀ k,Ec.On (C k):=λk=>by rw [hC]; exact Jp _ _
  rw [← hD] at d1 d2 d3 hN_ hyp
  rw [← hE, ← hC] at hyp
  obtain rfl:D=N:=hN_.symm
  obtain ⟨S,hS⟩:=xE (Ec.sumL AR C (List.range E))
  have oS:Ec.On S:=by rw [hS]; exact Ec.On.sumL fld _ (λk _=>oC k)
  obtain ⟨S2,hS2⟩:=xE (Ec.neg S)
  have oS2:Ec.On S2:=by rw [hS2]; exact oS.neg
  obtain ⟨Lp,hLp⟩:=xE (Ec.add AR (dec mx my mi) S2)
  have oLp:Ec.On Lp:=by rw [hLp]; exact Ec.On.add fld (C8 _ _ _) oS2
  obtain ⟨Cx,hCx⟩:=xE (prC m Qm)
  have hCx1:∀ k,k<E→Cx k=C k:=λk hk=>by rw [hCx]; unfold prC; rw [← hD, ← hE,if_pos hk,hC]
  have hCx2:Cx E=Lp:=by rw [hCx]; unfold prC WP; rw [← hD, ← hE,if_neg (Nat.lt_irrefl _),hLp,hS2,hS,hC,hQm]
  have oCx:∀ k,Ec.On (Cx k):=λk=>by
   rw [hCx]
   unfold prC
   split
   ·exact Jp _ _
   ·unfold WP
    exact Ec.On.add fld oQm (Ec.On.neg (Ec.On.sumL fld _ (λk _=>Jp _ _)))
  have hrow:(List.range E).map (ptL C)++[pml (pX Lp) (pY Lp) (pI Lp)]=(List.range D).map (ptL Cx):=by
   rw [show D=E+1 by omega,List.range_succ,List.map_append,List.map_singleton]
   refine congr (congrArg _ (List.map_congr_left λk hk=>?_)) ?_
   ·unfold ptL; rw [hCx1 k (List.mem_range.1 hk)]
   ·unfold ptL; rw [hCx2]
  obtain ⟨A0,c0,hv0,_,hl0⟩:=Ze (w0:=Base.of w) hyp (M:=yp.bl) (λb hb=>hb)
  rw [List.length_map,List.length_range] at hv0 hl0
  obtain ⟨T,hT⟩:∃ T:Nat→Pr,T=λj=>⟨pX (C j),pY (C j),pI (C j)⟩:=⟨_,rfl⟩
  have hTs:CV T (List.range E)=S:=by
   rw [hS]
   unfold CV
   refine Ec.sumL_congr fld _ (λk _=>C8 _ _ _) (λk _=>?_)
   rw [hT]
   exact Ap (oC k)
  have hval:∀ w',AY 94 #[yp.v] w' (GetsN w' λv M=>∃ u1,v=.func (.func 152) #[] #[pT u1 0]∧M=[(u1,54,#[yp.v])]):=λw'=>by rw [hv0]; exact Mm w' _ _ _
  have hsum:∀ w' {L:AC},St (Base.of w) w' L→(∀ b∈yp.bl,b∈L)→∀ u1,Blk w' u1 54 #[yp.v]→AY 93 #[.func (.func 152) #[] #[pT u1 0]] w' (Gets w' (pv (pX S) (pY S) (pI S))):=λw' L hw hb u1 hu=>by
   rw [hv0] at hu
   have q:=Iu w' u1 E c0 A0 T om (λj=>by rw [hT]; exact ⟨B_ _,B9 _⟩) (λh0=>by
    obtain ⟨g,o,h1,h2⟩:=hl0
    obtain ⟨h3,h4⟩:=h2 w' L hw hb h0
    exact ⟨g,o,h1 h0,h3,λj hj=>by
     have h5:=h4 j hj
     simp only [List.getD_eq_getElem?_getD,List.getElem?_map,List.getElem?_range hj,Option.map_some,Option.getD_some] at h5
     rw [hT]
     exact h5⟩) hu
   rw [hTs,Ak] at q
   exact q
  have hrng:∀ w' {L:AC},St (Base.of w) w' L→∀ r:Slc,r.Is 37 9 ((List.range E).map (ptL C)++[pml (pX Lp) (pY Lp) (pI Lp)])→(∀ b∈r.bl,b∈L)→AY 60 #[clv ax ay ai mx my mi,r.v] w' (GetsN w' (CZ P Cx D)):=λw' L hw r hr hb=>by
   rw [hrow] at hr
   obtain ⟨A1,c1,e1,_,_,e4⟩:=hr.out
   rw [List.length_map,List.length_range] at e1 e4
   rw [e1]
   exact Je w' ax ay ai mx my mi hax hay P hP A1 D c1 Cx oCx d2 (Ei (e4 hw hb) (λi hi=>by rw [List.getD_eq_getElem?_getD,List.getElem?_map,List.getElem?_range hi]; rfl))
  refine sR (λj=>j == 8) ?_
  refine sZ 0 U (pT g2 9)<|sD 1 U (pv mx my mi) (qk 0 9 9 U U AX)<|sz 2 U U<|Sy.joinG (T:=Nat×Nat) (λ⟨g10,u1⟩=>[(2,ptr g2),(5,ptr g5),(6,.bool false),(7,yp.v),(8,ptr g8),(10,ptr g10),(31,pv (pX Lp) (pY Lp) (pI Lp))]) (λ⟨g10,u1⟩=>[(g2,49,(clC ax ay ai mx my mi).toArray),(g5,69,zS33.toArray),(g8,69,(AV d W D c).toArray),(g10,37,pcs 0 0 false)]++(yp.bl++(Mx++[(u1,54,#[yp.v])]))) (λ_=>True) 1 #[true,true,true,true,true,true,true,true,false] (λx _=>?_) (λfin=>?_)
  rotate_left
  refine Sy.anyOf [3,7] kZ dZ (Sy.each2 ?_ ?_)
  ·refine Sy.oneCallN U kZ 94 #[yp.v] kF (λv M=>∃ u1,v=.func (.func 152) #[] #[pT u1 0]∧M=[(u1,54,#[yp.v])]) (λw _=>hval w) (λv M hR0=>?_)
   obtain ⟨u1,rfl,rfl⟩:=hR0
   refine sD 4 U (pv (pX S) (pY S) (pI S)) (qg (λw hw=>hsum w hw (λb hb=>by simp only [List.mem_append]; exact .inl (.inr (.inl hb))) u1 (hw.blk u1 54 _ (by simp)).2))<|sD 5 U (pv (pX S2) (pY S2) (pI S2)) (qf (Fv (B_ _) (B9 _) (Ap oS) (Ak _) hS2.symm))<|sD 6 U (pv (pX Lp) (pY Lp) (pI Lp)) (qf (Po hmx hmy (B_ _) (B9 _) rfl (Ap oS2) (Ak _) hLp.symm))<|Sy.makeD 7 U kR kR 37 (pcs 0 0 false) ptr kF (λg10=>?_)
   exact BJ fin (g10,u1) trivial kR ac7 (Sy.flat_perm (ls:=[[(g2,49,(clC ax ay ai mx my mi).toArray)],[(g5,69,zS33.toArray)],[(g8,69,(AV d W D c).toArray)],yp.bl,Mx,[(u1,54,#[yp.v])],[(g10,37,pcs 0 0 false)]]) (ms:=[[(g2,49,(clC ax ay ai mx my mi).toArray)],[(g5,69,zS33.toArray)],[(g8,69,(AV d W D c).toArray)],[(g10,37,pcs 0 0 false)],yp.bl,Mx,[(u1,54,#[yp.v])]]) [0,1,2,6,3,4,5] kZ (by rfl) (by simp) (by simp))
  ·refine Sy.oneMake U kZ 37 (pcs 0 0 false) ptr kF (λg10=>?_)
   refine Sy.callND 3 U kR kR 94 #[yp.v] kF (λv M=>∃ u1,v=.func (.func 152) #[] #[pT u1 0]∧M=[(u1,54,#[yp.v])]) (λw _=>hval w) (λv M hR0=>?_)
   obtain ⟨u1,rfl,rfl⟩:=hR0
   refine sD 4 U (pv (pX S) (pY S) (pI S)) (qg (λw hw=>hsum w hw (λb hb=>by simp only [List.mem_append]; exact .inl (.inl (.inr (.inl hb)))) u1 (hw.blk u1 54 _ (by simp)).2))<|sD 5 U (pv (pX S2) (pY S2) (pI S2)) (qf (Fv (B_ _) (B9 _) (Ap oS) (Ak _) hS2.symm))<|sD 6 U (pv (pX Lp) (pY Lp) (pI Lp)) (qf (Po hmx hmy (B_ _) (B9 _) rfl (Ap oS2) (Ak _) hLp.symm)) ?_
   exact BJ fin (g10,u1) trivial kR ac7 (Sy.flat_perm (ls:=[[(g2,49,(clC ax ay ai mx my mi).toArray)],[(g5,69,zS33.toArray)],[(g8,69,(AV d W D c).toArray)],yp.bl,Mx,[(g10,37,pcs 0 0 false)],[(u1,54,#[yp.v])]]) (ms:=[[(g2,49,(clC ax ay ai mx my mi).toArray)],[(g5,69,zS33.toArray)],[(g8,69,(AV d W D c).toArray)],[(g10,37,pcs 0 0 false)],yp.bl,Mx,[(u1,54,#[yp.v])]]) [0,1,2,5,3,4,6] kZ (by rfl) (by simp) (by simp))
  obtain ⟨g10,u1⟩:=x
  dsimp only
  have hPq:∀ {L:AC} (r:Slc) (gl:Nat) (M:AC),L=[[(g2,49,(clC ax ay ai mx my mi).toArray),(g5,69,zS33.toArray),(g8,69,(AV d W D c).toArray),(g10,37,pcs (pX Lp) (pY Lp) (pI Lp))],[(gl,37,pcs (pX Lp) (pY Lp) (pI Lp))],r.bl,Mx,[(u1,54,#[yp.v])],M].flatten→L.Perm ([(g2,49,(clC ax ay ai mx my mi).toArray),(g5,69,zS33.toArray),(g8,69,(AV d W D c).toArray),(g10,37,pcs (pX Lp) (pY Lp) (pI Lp))]++([(gl,37,pcs (pX Lp) (pY Lp) (pI Lp))]++(M++(r.bl++(Mx++[(u1,54,#[yp.v])]))))):=λr gl M h=>Sy.flat_perm (ls:=[[(g2,49,(clC ax ay ai mx my mi).toArray),(g5,69,zS33.toArray),(g8,69,(AV d W D c).toArray),(g10,37,pcs (pX Lp) (pY Lp) (pI Lp))],[(gl,37,pcs (pX Lp) (pY Lp) (pI Lp))],r.bl,Mx,[(u1,54,#[yp.v])],M]) (ms:=[[(g2,49,(clC ax ay ai mx my mi).toArray),(g5,69,zS33.toArray),(g8,69,(AV d W D c).toArray),(g10,37,pcs (pX Lp) (pY Lp) (pI Lp))],[(gl,37,pcs (pX Lp) (pY Lp) (pI Lp))],M,r.bl,Mx,[(u1,54,#[yp.v])]]) [0,1,5,2,3,4] kZ (by rfl) h (by simp)
  refine sx 8 U 3 U (pcs (pX Lp) (pY Lp) (pI Lp)) (wA U)<|Sy.setTD<|sE<|sR (λj=>j == 4 || j == 8)<|sz 1 U U<|Sy.stepDB 2 [3,4,5,7,8,9] rfl kR (λ_ _ _ _ h=>h) kR (pv (pX Lp) (pY Lp) (pI Lp)) (qL 3 g10 0 9 37 37 (pcs (pX Lp) (pY Lp) (pI Lp)) U AX)<|Sy.joinG (T:=Slc×Nat×Value×AC) (λ⟨r,gl,v,M⟩=>[(4,v),(5,ptr g5),(6,.bool false),(8,ptr g8),(37,v),(38,Aq d W D c)]) (λ⟨r,gl,v,M⟩=>[(g2,49,(clC ax ay ai mx my mi).toArray),(g5,69,zS33.toArray),(g8,69,(AV d W D c).toArray),(g10,37,pcs (pX Lp) (pY Lp) (pI Lp))]++([(gl,37,pcs (pX Lp) (pY Lp) (pI Lp))]++(M++(r.bl++(Mx++[(u1,54,#[yp.v])]))))) (λ⟨r,gl,v,M⟩=>r.Is 37 9 ((List.range E).map (ptL C)++[pml (pX Lp) (pY Lp) (pI Lp)])∧CZ P Cx D v M) 2 #[true,true,true,true,true,true,true,true,false,false] (λx hx=>?_) (λfin=>?_)
  rotate_left
  refine Sy.anyOf [0,3,6] kZ dZ (Sy.each3 ?_ ?_ ?_)
  ·refine Sy.oneQuiet U kZ (clv ax ay ai mx my mi) (qL 0 g2 0 18 49 49 (clC ax ay ai mx my mi).toArray U FV) ?_
   refine Sy.anyOf [3,6] kZ dZ (Sy.each2 ?_ ?_)
   ·refine Sy.oneMake U kZ 37 (pcs (pX Lp) (pY Lp) (pI Lp)) (λg=>.slice (pA g) 1 1) kF (λgl=>?_)
    refine Sy.movTD<|Sy.anyOf [4,6] kZ dZ (Sy.each2 ?_ ?_)
    ·refine IC U kZ (by rfl) (λQ2 hq2=>?_)
     refine Sy.appendR kR 54 37 _ _ 9 72 CE Ci U U U U dZ _ _ U hyp kR (pml (pX Lp) (pY Lp) (pI Lp)) U (Bx _ _ _) 4 gl 37 kR kR (by rw [List.length_map,List.length_range]; omega) (by rw [List.length_map,List.length_range]; simp only [maxLen]; omega) (λr hr=>?_)
     refine hq2 _ _<|Sy.anyOf [5,6] kZ dZ (Sy.each2 ?_ ?_)
     ·refine Sy.oneCallN U kZ 60 #[clv ax ay ai mx my mi,r.v] kF (CZ P Cx D) (λw hw=>hrng w hw r hr (λb hb=>by simp only [List.mem_append]; exact .inr (.inl hb))) (λv M hR0=>?_)
      refine Sy.stepDA 7 U kR (λ_ _ _ _ h=>h) kR v kF<|Sy.anyOf [6] kZ dZ (Sy.each1 ?_)
      refine Sy.oneQuiet U kZ (Aq d W D c) (qx 2 0 33 U U Cw (Be hdl) (Cc hdl)) ?_
      exact BJ fin (r,gl,v,M) ⟨hr,hR0⟩ kR ac6 (hPq r gl M (by simp))
     ·refine Sy.oneQuiet U kZ (Aq d W D c) (qx 2 0 33 U U Cw (Be hdl) (Cc hdl)) ?_
      refine Sy.anyOf [5] kZ dZ (Sy.each1 ?_)
      refine Sy.oneCallN U kZ 60 #[clv ax ay ai mx my mi,r.v] kF (CZ P Cx D) (λw hw=>hrng w hw r hr (λb hb=>by simp only [List.mem_append]; exact .inr (.inl hb))) (λv M hR0=>?_)
      refine Sy.stepDA 7 U kR (λ_ _ _ _ h=>h) kR v kF ?_
      exact BJ fin (r,gl,v,M) ⟨hr,hR0⟩ kR ac6 (hPq r gl M (by simp))
    ·refine Sy.oneQuiet U kZ (Aq d W D c) (qx 2 0 33 U U Cw (Be hdl) (Cc hdl)) ?_
     refine Sy.anyOf [4] kZ dZ (Sy.each1 ?_)
     refine IC U kZ (by rfl) (λQ2 hq2=>?_)
     refine Sy.appendR kR 54 37 _ _ 9 72 CE Ci U U U U dZ _ _ U hyp kR (pml (pX Lp) (pY Lp) (pI Lp)) U (Bx _ _ _) 4 gl 37 kR kR (by rw [List.length_map,List.length_range]; omega) (by rw [List.length_map,List.length_range]; simp only [maxLen]; omega) (λr hr=>?_)
     refine hq2 _ _<|Sy.anyOf [5] kZ dZ (Sy.each1 ?_)
     refine Sy.oneCallN U kZ 60 #[clv ax ay ai mx my mi,r.v] kF (CZ P Cx D) (λw hw=>hrng w hw r hr (λb hb=>by simp only [List.mem_append]; exact .inr (.inl hb))) (λv M hR0=>?_)
     refine Sy.stepDA 7 U kR (λ_ _ _ _ h=>h) kR v kF ?_
     exact BJ fin (r,gl,v,M) ⟨hr,hR0⟩ kR ac6 (hPq r gl M (by simp))
   ·refine Sy.oneQuiet U kZ (Aq d W D c) (qx 2 0 33 U U Cw (Be hdl) (Cc hdl)) ?_
    refine Sy.anyOf [3] kZ dZ (Sy.each1 ?_)
    refine Sy.oneMake U kZ 37 (pcs (pX Lp) (pY Lp) (pI Lp)) (λg=>.slice (pA g) 1 1) kF (λgl=>?_)
    refine Sy.movTD<|Sy.anyOf [4] kZ dZ (Sy.each1 ?_)
    refine IC U kZ (by rfl) (λQ2 hq2=>?_)
    refine Sy.appendR kR 54 37 _ _ 9 72 CE Ci U U U U dZ _ _ U hyp kR (pml (pX Lp) (pY Lp) (pI Lp)) U (Bx _ _ _) 4 gl 37 kR kR (by rw [List.length_map,List.length_range]; omega) (by rw [List.length_map,List.length_range]; simp only [maxLen]; omega) (λr hr=>?_)
    refine hq2 _ _<|Sy.anyOf [5] kZ dZ (Sy.each1 ?_)
    refine Sy.oneCallN U kZ 60 #[clv ax ay ai mx my mi,r.v] kF (CZ P Cx D) (λw hw=>hrng w hw r hr (λb hb=>by simp only [List.mem_append]; exact .inr (.inl hb))) (λv M hR0=>?_)
    refine Sy.stepDA 7 U kR (λ_ _ _ _ h=>h) kR v kF ?_
    exact BJ fin (r,gl,v,M) ⟨hr,hR0⟩ kR ac6 (hPq r gl M (by simp))
  ·refine Sy.oneMake U kZ 37 (pcs (pX Lp) (pY Lp) (pI Lp)) (λg=>.slice (pA g) 1 1) kF (λgl=>?_)
   refine Sy.movTD<|Sy.anyOf [0,4,6] kZ dZ (Sy.each3 ?_ ?_ ?_)
   ·refine Sy.oneQuiet U kZ (clv ax ay ai mx my mi) (qL 0 g2 0 18 49 49 (clC ax ay ai mx my mi).toArray U FV) ?_
    refine Sy.anyOf [4,6] kZ dZ (Sy.each2 ?_ ?_)
    ·refine IC U kZ (by rfl) (λQ2 hq2=>?_)
     refine Sy.appendR kR 54 37 _ _ 9 72 CE Ci U U U U dZ _ _ U hyp kR (pml (pX Lp) (pY Lp) (pI Lp)) U (Bx _ _ _) 4 gl 37 kR kR (by rw [List.length_map,List.length_range]; omega) (by rw [List.length_map,List.length_range]; simp only [maxLen]; omega) (λr hr=>?_)
     refine hq2 _ _<|Sy.anyOf [5,6] kZ dZ (Sy.each2 ?_ ?_)
     ·refine Sy.oneCallN U kZ 60 #[clv ax ay ai mx my mi,r.v] kF (CZ P Cx D) (λw hw=>hrng w hw r hr (λb hb=>by simp only [List.mem_append]; exact .inr (.inl hb))) (λv M hR0=>?_)
      refine Sy.stepDA 7 U kR (λ_ _ _ _ h=>h) kR v kF<|Sy.anyOf [6] kZ dZ (Sy.each1 ?_)
      refine Sy.oneQuiet U kZ (Aq d W D c) (qx 2 0 33 U U Cw (Be hdl) (Cc hdl)) ?_
      exact BJ fin (r,gl,v,M) ⟨hr,hR0⟩ kR ac6 (hPq r gl M (by simp))
     ·refine Sy.oneQuiet U kZ (Aq d W D c) (qx 2 0 33 U U Cw (Be hdl) (Cc hdl)) ?_
      refine Sy.anyOf [5] kZ dZ (Sy.each1 ?_)
      refine Sy.oneCallN U kZ 60 #[clv ax ay ai mx my mi,r.v] kF (CZ P Cx D) (λw hw=>hrng w hw r hr (λb hb=>by simp only [List.mem_append]; exact .inr (.inl hb))) (λv M hR0=>?_)
      refine Sy.stepDA 7 U kR (λ_ _ _ _ h=>h) kR v kF ?_
      exact BJ fin (r,gl,v,M) ⟨hr,hR0⟩ kR ac6 (hPq r gl M (by simp))
    ·refine Sy.oneQuiet U kZ (Aq d W D c) (qx 2 0 33 U U Cw (Be hdl) (Cc hdl)) ?_
     refine Sy.anyOf [4] kZ dZ (Sy.each1 ?_)
     refine IC U kZ (by rfl) (λQ2 hq2=>?_)
     refine Sy.appendR kR 54 37 _ _ 9 72 CE Ci U U U U dZ _ _ U hyp kR (pml (pX Lp) (pY Lp) (pI Lp)) U (Bx _ _ _) 4 gl 37 kR kR (by rw [List.length_map,List.length_range]; omega) (by rw [List.length_map,List.length_range]; simp only [maxLen]; omega) (λr hr=>?_)
     refine hq2 _ _<|Sy.anyOf [5] kZ dZ (Sy.each1 ?_)
     refine Sy.oneCallN U kZ 60 #[clv ax ay ai mx my mi,r.v] kF (CZ P Cx D) (λw hw=>hrng w hw r hr (λb hb=>by simp only [List.mem_append]; exact .inr (.inl hb))) (λv M hR0=>?_)
     refine Sy.stepDA 7 U kR (λ_ _ _ _ h=>h) kR v kF ?_
     exact BJ fin (r,gl,v,M) ⟨hr,hR0⟩ kR ac6 (hPq r gl M (by simp))
   ·refine IC U kZ (by rfl) (λQ2 hq2=>?_)
    refine Sy.appendR kR 54 37 _ _ 9 72 CE Ci U U U U dZ _ _ U hyp kR (pml (pX Lp) (pY Lp) (pI Lp)) U (Bx _ _ _) 4 gl 37 kR kR (by rw [List.length_map,List.length_range]; omega) (by rw [List.length_map,List.length_range]; simp only [maxLen]; omega) (λr hr=>?_)
    refine hq2 _ _<|Sy.anyOf [0,6] kZ dZ (Sy.each2 ?_ ?_)
    ·refine Sy.oneQuiet U kZ (clv ax ay ai mx my mi) (qL 0 g2 0 18 49 49 (clC ax ay ai mx my mi).toArray U FV) ?_
     refine Sy.anyOf [5,6] kZ dZ (Sy.each2 ?_ ?_)
     ·refine Sy.oneCallN U kZ 60 #[clv ax ay ai mx my mi,r.v] kF (CZ P Cx D) (λw hw=>hrng w hw r hr (λb hb=>by simp only [List.mem_append]; exact .inr (.inl hb))) (λv M hR0=>?_)
      refine Sy.stepDA 7 U kR (λ_ _ _ _ h=>h) kR v kF<|Sy.anyOf [6] kZ dZ (Sy.each1 ?_)
      refine Sy.oneQuiet U kZ (Aq d W D c) (qx 2 0 33 U U Cw (Be hdl) (Cc hdl)) ?_
      exact BJ fin (r,gl,v,M) ⟨hr,hR0⟩ kR ac6 (hPq r gl M (by simp))
     ·refine Sy.oneQuiet U kZ (Aq d W D c) (qx 2 0 33 U U Cw (Be hdl) (Cc hdl)) ?_
      refine Sy.anyOf [5] kZ dZ (Sy.each1 ?_)
      refine Sy.oneCallN U kZ 60 #[clv ax ay ai mx my mi,r.v] kF (CZ P Cx D) (λw hw=>hrng w hw r hr (λb hb=>by simp only [List.mem_append]; exact .inr (.inl hb))) (λv M hR0=>?_)
      refine Sy.stepDA 7 U kR (λ_ _ _ _ h=>h) kR v kF ?_
      exact BJ fin (r,gl,v,M) ⟨hr,hR0⟩ kR ac6 (hPq r gl M (by simp))
    ·refine Sy.oneQuiet U kZ (Aq d W D c) (qx 2 0 33 U U Cw (Be hdl) (Cc hdl)) ?_
     refine Sy.anyOf [0] kZ dZ (Sy.each1 ?_)
     refine Sy.oneQuiet U kZ (clv ax ay ai mx my mi) (qL 0 g2 0 18 49 49 (clC ax ay ai mx my mi).toArray U FV)<|Sy.anyOf [5] kZ dZ (Sy.each1 ?_)
     refine Sy.oneCallN U kZ 60 #[clv ax ay ai mx my mi,r.v] kF (CZ P Cx D) (λw hw=>hrng w hw r hr (λb hb=>by simp only [List.mem_append]; exact .inr (.inl hb))) (λv M hR0=>?_)
     refine Sy.stepDA 7 U kR (λ_ _ _ _ h=>h) kR v kF ?_
     exact BJ fin (r,gl,v,M) ⟨hr,hR0⟩ kR ac6 (hPq r gl M (by simp))
   ·refine Sy.oneQuiet U kZ (Aq d W D c) (qx 2 0 33 U U Cw (Be hdl) (Cc hdl)) ?_
    refine Sy.anyOf [0,4] kZ dZ (Sy.each2 ?_ ?_)
    ·refine Sy.oneQuiet U kZ (clv ax ay ai mx my mi) (qL 0 g2 0 18 49 49 (clC ax ay ai mx my mi).toArray U FV) ?_
     refine Sy.anyOf [4] kZ dZ (Sy.each1 ?_)
     refine IC U kZ (by rfl) (λQ2 hq2=>?_)
     refine Sy.appendR kR 54 37 _ _ 9 72 CE Ci U U U U dZ _ _ U hyp kR (pml (pX Lp) (pY Lp) (pI Lp)) U (Bx _ _ _) 4 gl 37 kR kR (by rw [List.length_map,List.length_range]; omega) (by rw [List.length_map,List.length_range]; simp only [maxLen]; omega) (λr hr=>?_)
     refine hq2 _ _<|Sy.anyOf [5] kZ dZ (Sy.each1 ?_)
     refine Sy.oneCallN U kZ 60 #[clv ax ay ai mx my mi,r.v] kF (CZ P Cx D) (λw hw=>hrng w hw r hr (λb hb=>by simp only [List.mem_append]; exact .inr (.inl hb))) (λv M hR0=>?_)
     refine Sy.stepDA 7 U kR (λ_ _ _ _ h=>h) kR v kF ?_
     exact BJ fin (r,gl,v,M) ⟨hr,hR0⟩ kR ac6 (hPq r gl M (by simp))
    ·refine IC U kZ (by rfl) (λQ2 hq2=>?_)
     refine Sy.appendR kR 54 37 _ _ 9 72 CE Ci U U U U dZ _ _ U hyp kR (pml (pX Lp) (pY Lp) (pI Lp)) U (Bx _ _ _) 4 gl 37 kR kR (by rw [List.length_map,List.length_range]; omega) (by rw [List.length_map,List.length_range]; simp only [maxLen]; omega) (λr hr=>?_)
     refine hq2 _ _<|Sy.anyOf [0] kZ dZ (Sy.each1 ?_)
     refine Sy.oneQuiet U kZ (clv ax ay ai mx my mi) (qL 0 g2 0 18 49 49 (clC ax ay ai mx my mi).toArray U FV)<|Sy.anyOf [5] kZ dZ (Sy.each1 ?_)
     refine Sy.oneCallN U kZ 60 #[clv ax ay ai mx my mi,r.v] kF (CZ P Cx D) (λw hw=>hrng w hw r hr (λb hb=>by simp only [List.mem_append]; exact .inr (.inl hb))) (λv M hR0=>?_)
     refine Sy.stepDA 7 U kR (λ_ _ _ _ h=>h) kR v kF ?_
     exact BJ fin (r,gl,v,M) ⟨hr,hR0⟩ kR ac6 (hPq r gl M (by simp))
  ·refine Sy.oneQuiet U kZ (Aq d W D c) (qx 2 0 33 U U Cw (Be hdl) (Cc hdl)) ?_
   refine Sy.anyOf [0,3] kZ dZ (Sy.each2 ?_ ?_)
   ·refine Sy.oneQuiet U kZ (clv ax ay ai mx my mi) (qL 0 g2 0 18 49 49 (clC ax ay ai mx my mi).toArray U FV) ?_
    refine Sy.anyOf [3] kZ dZ (Sy.each1 ?_)
    refine Sy.oneMake U kZ 37 (pcs (pX Lp) (pY Lp) (pI Lp)) (λg=>.slice (pA g) 1 1) kF (λgl=>?_)
    refine Sy.movTD<|Sy.anyOf [4] kZ dZ (Sy.each1 ?_)
    refine IC U kZ (by rfl) (λQ2 hq2=>?_)
    refine Sy.appendR kR 54 37 _ _ 9 72 CE Ci U U U U dZ _ _ U hyp kR (pml (pX Lp) (pY Lp) (pI Lp)) U (Bx _ _ _) 4 gl 37 kR kR (by rw [List.length_map,List.length_range]; omega) (by rw [List.length_map,List.length_range]; simp only [maxLen]; omega) (λr hr=>?_)
    refine hq2 _ _<|Sy.anyOf [5] kZ dZ (Sy.each1 ?_)
    refine Sy.oneCallN U kZ 60 #[clv ax ay ai mx my mi,r.v] kF (CZ P Cx D) (λw hw=>hrng w hw r hr (λb hb=>by simp only [List.mem_append]; exact .inr (.inl hb))) (λv M hR0=>?_)
    refine Sy.stepDA 7 U kR (λ_ _ _ _ h=>h) kR v kF ?_
    exact BJ fin (r,gl,v,M) ⟨hr,hR0⟩ kR ac6 (hPq r gl M (by simp))
   ·refine Sy.oneMake U kZ 37 (pcs (pX Lp) (pY Lp) (pI Lp)) (λg=>.slice (pA g) 1 1) kF (λgl=>?_)
    refine Sy.movTD<|Sy.anyOf [0,4] kZ dZ (Sy.each2 ?_ ?_)
    ·refine Sy.oneQuiet U kZ (clv ax ay ai mx my mi) (qL 0 g2 0 18 49 49 (clC ax ay ai mx my mi).toArray U FV) ?_
     refine Sy.anyOf [4] kZ dZ (Sy.each1 ?_)
     refine IC U kZ (by rfl) (λQ2 hq2=>?_)
     refine Sy.appendR kR 54 37 _ _ 9 72 CE Ci U U U U dZ _ _ U hyp kR (pml (pX Lp) (pY Lp) (pI Lp)) U (Bx _ _ _) 4 gl 37 kR kR (by rw [List.length_map,List.length_range]; omega) (by rw [List.length_map,List.length_range]; simp only [maxLen]; omega) (λr hr=>?_)
     refine hq2 _ _<|Sy.anyOf [5] kZ dZ (Sy.each1 ?_)
     refine Sy.oneCallN U kZ 60 #[clv ax ay ai mx my mi,r.v] kF (CZ P Cx D) (λw hw=>hrng w hw r hr (λb hb=>by simp only [List.mem_append]; exact .inr (.inl hb))) (λv M hR0=>?_)
     refine Sy.stepDA 7 U kR (λ_ _ _ _ h=>h) kR v kF ?_
     exact BJ fin (r,gl,v,M) ⟨hr,hR0⟩ kR ac6 (hPq r gl M (by simp))
    ·refine IC U kZ (by rfl) (λQ2 hq2=>?_)
     refine Sy.appendR kR 54 37 _ _ 9 72 CE Ci U U U U dZ _ _ U hyp kR (pml (pX Lp) (pY Lp) (pI Lp)) U (Bx _ _ _) 4 gl 37 kR kR (by rw [List.length_map,List.length_range]; omega) (by rw [List.length_map,List.length_range]; simp only [maxLen]; omega) (λr hr=>?_)
     refine hq2 _ _<|Sy.anyOf [0] kZ dZ (Sy.each1 ?_)
     refine Sy.oneQuiet U kZ (clv ax ay ai mx my mi) (qL 0 g2 0 18 49 49 (clC ax ay ai mx my mi).toArray U FV)<|Sy.anyOf [5] kZ dZ (Sy.each1 ?_)
     refine Sy.oneCallN U kZ 60 #[clv ax ay ai mx my mi,r.v] kF (CZ P Cx D) (λw hw=>hrng w hw r hr (λb hb=>by simp only [List.mem_append]; exact .inr (.inl hb))) (λv M hR0=>?_)
     refine Sy.stepDA 7 U kR (λ_ _ _ _ h=>h) kR v kF ?_
     exact BJ fin (r,gl,v,M) ⟨hr,hR0⟩ kR ac6 (hPq r gl M (by simp))
  obtain ⟨r,gl,v,M⟩:=x
  obtain ⟨hr,hR0⟩:=hx
  dsimp only
  refine sX 8 U 1 g5 69 zS33.toArray (AV d W D c).toArray (Writes.row 69 (AV d W D c) 33 _ _ U kR kR kR (Ag hdl) (by rw [List.size_toArray,Ag List.length_replicate]) CG)<|Sy.setTD<|Sy.anyOf [9] kZ dZ (Sy.each1 (Sy.oneQuiet U kR (.bool true) (Quiet.pure kF) ?_))
  refine sI<|Sy.ret<|IB (M++Mx) rfl (v:=v) (u:=Aq d W D c) (z:=.bool true) (.inl (show _=_ by kernel_rfl)) (.inl (Res.cell (ty':=69) g5 1 (AV d W D c).toArray _ kR kR Cw U (by rw [List.size_toArray,Ag hdl]; kernel_rfl) rfl)) (.inl (show _=_ by kernel_rfl)) (λw hw=>St.less hw (by first | (simp only [List.append_assoc]; exact ((List.Sublist.append (List.Sublist.refl M) (List.Sublist.trans (List.sublist_append_left Mx _) (List.sublist_append_right r.bl _))).trans (List.sublist_append_right [(gl,37,pcs (pX Lp) (pY Lp) (pI Lp))] _)).trans (List.sublist_append_right _ _)) | exact ((List.Sublist.append (List.Sublist.refl M) (List.Sublist.trans (List.sublist_append_left Mx _) (List.sublist_append_right r.bl _))).trans (List.sublist_append_right [(gl,37,pcs (pX Lp) (pY Lp) (pI Lp))] _)).trans (List.sublist_append_right _ _))) (.inr ⟨hsg,v,W,c,sa,sc,M,Mx,by rw [← hd_, ← hD],rfl,by rw [← hP, ← hQm, ← hCx, ← hD]; exact hR0,by rw [← hD]; exact hU,by rw [← hd_]; exact hdl,by rw [← hD]; exact ⟨d1,d2⟩⟩)
theorem SgdR.uni {w0:Base} {b:Bool} {P Q:Pt} {m:AF} {v:Value} {M:AC} (h:SgdR w0 b P Q m v M):∃ (vr:Value) (d:AF) (W:Option Addr) (N c:Nat),v=.tuple #[vr,Aq d W N c,.bool b]∧d.length=32∧(b=true→d=(msB m).take 32∧N=dgN m∧1≤N∧N≤32∧∃ (sa:Nat→Option Addr) (sc:Nat→Nat) (Mr Mx:AC),M=Mr++Mx∧CZ P (prC m Q) N vr Mr∧RwU w0 W N (λ_=>4) (nmD (msB m) λ_=>4) sa sc Mx):=by
 rcases h with ⟨rfl,rfl,rfl⟩ | ⟨rfl,vr,W,c,sa,sc,Mr,Mx,rfl,rfl,h1,h2,h3,h4,h5⟩
 ·exact ⟨_,_,none,0,0,rfl,List.length_replicate,λh=>by cases h⟩
 ·exact ⟨vr,_,W,_,c,rfl,h3,λ_=>⟨rfl,rfl,h4,h5,sa,sc,Mr,Mx,rfl,h1,h2⟩⟩
def rgX (P Q:Pt) (m:AF) (i k:Nat):Nat:=pX (kP P (prC m Q i) i k)
def rgY (P Q:Pt) (m:AF) (i k:Nat):Nat:=pY (kP P (prC m Q i) i k)
def rgI (P Q:Pt) (m:AF) (i k:Nat):Bool:=pI (kP P (prC m Q i) i k)
def VC (ax ay:Nat) (ai:Bool) (mx my:Nat) (mi:Bool) (m:AF):Bool:=RJ ax ay ai mx my mi m && vfB (Ay (dec ax ay ai)++Ay (dec mx my mi)) (dgN m) (λ_=>4) (rgX (dec ax ay ai) (dec mx my mi) m) (rgY (dec ax ay ai) (dec mx my mi) m) (rgI (dec ax ay ai) (dec mx my mi) m) (nmD (msB m) λ_=>4) ((msB m).take 32) (dgN m) (λ_=>4)
theorem TxR.src {l:AF} {v:Value} {M:AC} (h:TxR l v M):∃ (g c:Nat),v=.slice (pA g) l.length c∧l.length≤c∧c≤9223372036854775807∧∀ {w0:Base} {w:World} {L:AC},St w0 w L→(∀ b∈M,b∈L)→Sh.Src w (pA g) l:=by
 obtain ⟨g,sp,cap,rfl,⟨h1,h2⟩,rfl⟩:=h
 exact ⟨g,cap,rfl,h1,h2,λhw hb _=>by
  have h3:=(hw.blk g _ _ (hb _ (List.mem_singleton.2 U))).2
  exact ⟨g,0,rfl,h3.lt,λj u hu=>by
   have hj:j<l.length:=(List.getElem?_eq_some_iff.1 hu).1
   rw [Nat.zero_add]
   exact (h3.cell j).trans (by rw [List.getElem?_toArray,List.getElem?_append_left (by rw [List.length_map]; exact hj),List.getElem?_map,hu]; rfl)⟩⟩
theorem Fe (w:World) (ax ay:Nat) (ai:Bool) (mx my:Nat) (mi:Bool) (hax:ax<K4) (hay:ay<K4) (hmx:mx<K4) (hmy:my<K4) (B:Option Addr) (m:AF) (n cp:Nat) (hm:m.length=n) (hcp:n≤cp) (hcp2:cp≤9223372036854775807) (hs:Sh.Src w B m) (ht:Sh.TabAt w 1):AY 12 #[pv mx my mi,pv ax ay ai,.slice B n cp] w (Gets w (.bool (VC ax ay ai mx my mi m))):=by
 obtain ⟨P,hP⟩:=xE (dec ax ay ai)
 obtain ⟨Q,hQ⟩:=xE (dec mx my mi)
 refine Sy.enter (args:=[pv mx my mi,pv ax ay ai,.slice B n cp]) Tryz.func12 U kL<|sC<|sM 37 (pcs mx my mi) (λg0=>?_)
 refine sM 37 (pcs ax ay ai) (λg1=>?_)
 refine sp U<|sB<|sS (pv ax ay ai) (qk 1 0 9 U U AX)<|sS (pv mx my mi) (qk 0 0 9 U U AX)<|sP (clv ax ay ai mx my mi)<|sM 49 (clC 0 0 false 0 0 false).toArray (λg2=>?_)
 refine sw 2 U (clC ax ay ai mx my mi).toArray (wA U)<|sB ?_
 obtain ⟨bS,hbS⟩:=xE (RJ ax ay ai mx my mi m)
 refine sS (clv ax ay ai mx my mi) (qk 2 0 18 U U FV)<|sp U<|Sy.callN kR 37 #[clv ax ay ai mx my mi,.slice B n cp] kF (SgdR (Base.of w) bS P Q m) (λw' hw=>by rw [hbS,hP,hQ]; exact M7 w' (Base.of w) ax ay ai mx my mi hax hay hmx hmy B m n cp hm hcp hcp2 (hs.below hw.below)) (λv M hR0=>?_)
 obtain ⟨vr,d,W,N,c,rfl,hd,hok⟩:=hR0.uni
 refine sp U<|sp U<|sp U<|sp U<|sM 69 zS33.toArray (λg3=>?_)
 refine Sy.movT<|sp U<|sw 3 U (AV d W N c).toArray (Writes.row 69 (AV d W N c) 33 _ _ U kR kR kR (Ag hd) (by rw [List.size_toArray,Ag List.length_replicate]) CG)<|Sy.setT<|sp U<|sH (λj=>false) ?_
 refine sz 0 U U<|sz 1 U U ?_
 unfold VC
 rw [← hbS, ← hP, ← hQ]
 cases bS
 ·refine sQ 2 U<|sQ 3 U<|sQ 4 U<|sQ 5 U<|sQ 6 U<|sZ 7 U (.bool false)<|sz 8 U U ?_
  refine sI<|Sy.ret ?_
  exact rV (.bool false) rfl
 ·obtain ⟨hd_,hN_,hN1,hN2,sa,sc,Mr,Mx,rfl,hRg,hU⟩:=hok U
  obtain rfl:N=dgN m:=hN_
  rw [Bool.true_and]
  obtain ⟨bV,hbV⟩:=xE (vfB (Ay P++Ay Q) (dgN m) (λ_=>4) (rgX P Q m) (rgY P Q m) (rgI P Q m) (nmD (msB m) λ_=>4) ((msB m).take 32) (dgN m) (λ_=>4))
  rw [← hbV]
  obtain ⟨R,cR,ga,rfl,hrl⟩:=G4 hRg
  refine sD 2 U (clv ax ay ai mx my mi) (qk 2 0 18 U U FV)<|sz 4 U U<|sD 5 U (Aq d W (dgN m) c) (qx 3 0 33 U U Cw (Be hd) (Cc hd))<|Sy.callND 3 U kR kR 39 #[clv ax ay ai mx my mi] kF (TxR (Ay P++Ay Q)) (λw _=>by rw [hP,hQ]; exact H3 w ax ay ai mx my mi hax hay hmx hmy) (λv Mt hRt=>?_)
  obtain ⟨gt,ct,rfl,ht1,ht2,hts⟩:=hRt.src
  refine sD 6 U (.bool bV) (qg (λw' hw=>by
   have u:=hU.2 w' _ hw (λb hb=>by simp only [List.mem_append]; exact .inl (.inr (.inr hb)))
   obtain ⟨l1,l2⟩:=hrl hw (λb hb=>by simp only [List.mem_append]; exact .inl (.inr (.inl hb)))
   have q0:=ON w' (pA gt) (Ay P++Ay Q) _ ct U (by rw [List.length_append,Ai,Ai]; decide) ht1 ht2 (hts hw (λb hb=>by simp only [List.mem_append]; exact .inr hb)) R (dgN m) cR (λi=>some ⟨ga,0+4*i*9,none⟩) (λ_=>4) (λ_=>4) (rgX P Q m) (rgY P Q m) (rgI P Q m) (λ_ _=>B_ _) (λ_ _=>B9 _) om (λ_=>dZ) l1 l2 om d hd W (dgN m) c sa (λ_=>4) sc (nmD (msB m) λ_=>4) (λi k=>WA _ _) om (λ_ _=>dZ) u.1 u.2 (ht.below hw.below ht.lt)
   rw [hbV, ← hd_]
   exact q0))<|sZ 7 U (.bool bV)<|sz 8 U U ?_
  refine sI<|Sy.ret ?_
  exact rV (.bool bV) rfl
section
variable (P Q:Pt) (m sd:AF)
def tx9:List UInt8:=Ay P++Ay Q
end
def Gs (z:Int):Bool:=decide (2≤z) && (decide (z≤64) && decide (z.tmod 2=0))
def ft9 (ok:Bool) (v:Nat) (z:Int):Int:=if Gs z then (if v / 2 ^ z.toNat=0 then (if ok then 0 else 1) else 91) else 90
theorem Hf {ok:Bool} {v:Nat} {z:Int} (h:Gs z=false):ft9 ok v z=90:=by unfold ft9; rw [h]; rfl
theorem MI {ok:Bool} {v:Nat} {z:Int} (h:Gs z=true) (h2:¬ v / 2 ^ z.toNat=0):ft9 ok v z=91:=by unfold ft9; rw [h,if_pos U,if_neg h2]
theorem UE {ok:Bool} {v:Nat} {z:Int} (h:Gs z=true) (h2:v / 2 ^ z.toNat=0):ft9 ok v z=if ok then 0 else 1:=by unfold ft9; rw [h,if_pos U,if_pos h2]
theorem MX {z:Int} (h:z<2∨64<z∨z.tmod 2≠0):Gs z=false:=by
 unfold Gs
 rcases h with h | h | h
 ·rw [decide_eq_false om]; rfl
 ·rw [decide_eq_false (show ¬ z≤64 by omega),Bool.false_and,Bool.and_false]
 ·rw [decide_eq_false h,Bool.and_false,Bool.and_false]
theorem Uv {z:Int} (h:2≤z) (h1:z≤64) (h2:z.tmod 2=0):Gs z=true:=by
 unfold Gs
 rw [decide_eq_true h,decide_eq_true h1,decide_eq_true h2]
 rfl
theorem Ln (v:Nat) {n:Nat} (hn:n≤64):(((v:Nat):Int)).fdiv (2 ^ min (((n:Nat):Int)).toNat (IntKind.u64).bits)=((v / 2 ^ n:Nat):Int):=by
 have e:min (((n:Nat):Int)).toNat (IntKind.u64).bits=n:=by show min n 64=n; omega
 rw [e,Int.fdiv_eq_ediv_of_nonneg _ (by exact Int.le_of_lt (Int.pow_pos dZ))]
 exact (by norm_cast)
theorem PU (w:World) (ax ay:Nat) (ai:Bool) (mx my:Nat) (mi:Bool) (hax:ax<K4) (hay:ay<K4) (hmx:mx<K4) (hmy:my<K4) (v:Nat) (hv:v<18446744073709551616) (z:Int):AY 21 #[clv ax ay ai mx my mi,uZ ((v:Nat):Int),.int .i64 z] w (Gets w (.int .i64 (ft9 (okB ax ay ai mx my mi) v z))):=by
 refine Sy.enter (args:=[clv ax ay ai mx my mi,uZ ((v:Nat):Int),.int .i64 z]) Tryz.func21 U kL<|sC<|sM 49 (clC ax ay ai mx my mi).toArray (λg0=>?_)
 refine sp U<|sG<|Sy.seq<|Sy.block<|sC ?_
 obtain ⟨r,hr⟩:=xE (z.tmod 2)
 obtain ⟨b1,hb1⟩:=xE (decide (r≠0))
 refine sp U<|sS (.int .i64 r) (Quiet.pure (AK .rem _ _ _ .i64 _ _ _ U U U (MF _ _ _ _ _ dZ hr.symm)))<|sS (.bool b1) (Quiet.pure (AK .neq _ _ _ .i64 _ _ _ U U U (Dt _ _ _ _ _ (by first | exact hb1.symm | (rw [hb1]; exact decide_eq_decide.2 om)))))<|sp U ?_
 cases b1
 case' true =>
  have l1:=dY hb1
  rw [Hf (MX (.inr (.inr (by rw [← hr]; exact l1))))]
  refine sN<|sN<|sP (.bool true)<|sp U<|sN<|sN<|sP (.bool true)<|sp U<|sG<|sT<|sC<|sp U<|sG<|Sy.ret<|Sy.in_ret<|Sy.then_ret ?_
  exact rV (.int .i64 90) rfl
 have l1:r=0:=Decidable.of_not_not (of_decide_eq_false hb1.symm)
 obtain ⟨b2,hb2⟩:=xE (decide (z<2))
 refine sp U<|sS (.bool b2) (Quiet.pure (AK .lss _ _ _ .i64 _ _ _ U U U (Hb _ _ _ _ _ (by first | exact hb2.symm | (rw [hb2]; exact decide_eq_decide.2 om)))))<|sP (.bool b2)<|sp U ?_
 cases b2
 case' true =>
  have l2:=dY hb2
  rw [Hf (MX (.inl l2))]
  refine sN<|sN<|sP (.bool true)<|sp U<|sG<|sT<|sC<|sp U<|sG<|Sy.ret<|Sy.in_ret<|Sy.then_ret ?_
  exact rV (.int .i64 90) rfl
 have l2:=dN hb2
 obtain ⟨b3,hb3⟩:=xE (decide (z>64))
 refine sp U<|sS (.bool b3) (Quiet.pure (AK .gtr _ _ _ .i64 _ _ _ U U U (DK _ _ _ _ _ (by first | exact hb3.symm | (rw [hb3]; exact decide_eq_decide.2 om)))))<|sP (.bool b3)<|sp U<|sG ?_
 cases b3
 case' true =>
  have l3:=dY hb3
  rw [Hf (MX (.inr (.inl l3)))]
  refine sT<|sC<|sp U<|sG<|Sy.ret<|Sy.in_ret<|Sy.then_ret ?_
  exact rV (.int .i64 90) rfl
 have l3:=dN hb3
 have hbit:Gs z=true:=Uv om om (by rw [← hr]; exact l1)
 obtain ⟨n,rfl⟩:=Int.eq_ofNat_of_zero_le (show 0≤z by omega)
 have hn:n≤64:=om
 obtain ⟨q,hq⟩:=xE (v / 2 ^ n)
 have hqe:v / 2 ^ ((n:Nat):Int).toNat=q:=hq.symm
 obtain ⟨b4,hb4⟩:=xE (decide (q>0))
 refine sU<|sC<|sp U<|sp U<|sS (uZ ((q:Nat):Int)) (Quiet.pure (AK .shr _ _ _ .u64 _ _ _ U U U (I2 _ _ _ _ _ _ om (by rw [hq]; exact Ln v hn))))<|sS (.bool b4) (Quiet.pure (AK .gtr _ _ _ .u64 _ _ _ U U U (DK _ _ _ _ _ (by first | exact hb4.symm | (rw [hb4]; exact decide_eq_decide.2 om)))))<|sp U<|sG ?_
 cases b4
 case' true =>
  have l4:=dY hb4
  rw [MI hbit (by rw [hqe]; omega)]
  refine sT<|sC<|sp U<|sG<|Sy.ret<|Sy.in_ret<|Sy.then_ret ?_
  exact rV (.int .i64 91) rfl
 have l4:=dN hb4
 rw [UE hbit (by rw [hqe]; omega)]
 obtain ⟨bK,hbK⟩:=xE (okB ax ay ai mx my mi)
 rw [← hbK]
 refine sU<|sC<|sS (clv ax ay ai mx my mi) (qk 0 0 18 U U FV)<|sS (.bool bK) (qf (λw=>by rw [hbK]; exact Jg w ax ay ai mx my mi hax hay hmx hmy)) ?_
 cases bK
 case' false =>
  refine sP (.bool true)<|sp U<|sG<|sT<|sC<|sp U<|sG<|Sy.ret<|Sy.in_ret<|Sy.then_ret ?_
  exact rV (.int .i64 1) rfl
 refine sP (.bool false)<|sp U<|sG<|sU<|Sy.skip<|Sy.in_<|Sy.then_<|sC<|sp U<|sG<|Sy.ret ?_
 exact rV (.int .i64 0) rfl
def dgNm:ByteArray:=⟨#[116,111,108,108,104,111,117,115,101,47,100,105,103,105,116]⟩
def s9X (sd:AF) (i:Nat):Nat:=A2 (Sh.taggedS dgNm.data.toList (sd++[UInt8.ofNat i]))%Sc.pM
def s9R (sd:AF) (l N:Nat):Nat→Nat
 | 0=>l
 | i+1=>Sc.subP (s9R sd l N i) (if i<N - 1 then s9X sd i else s9R sd l N i)
def s9x (sd:AF) (l N i:Nat):Nat:=if i<N - 1 then s9X sd i else s9R sd l N i
theorem JX (sd:AF) (l N i:Nat):s9R sd l N (i+1)=Sc.subP (s9R sd l N i) (s9x sd l N i):=rfl
theorem TB {sd:AF} {l N:Nat} (hl:l<K4):∀ i,s9R sd l N i<K4
 | 0=>hl
 | i+1=>Sc.mod_lt _
theorem TA (sd:AF) (i:Nat):s9X sd i<K4:=Sc.mod_lt _
theorem X_ {sd:AF} {l N:Nat} (hl:l<K4) (i:Nat):s9x sd l N i<K4:=by
 unfold s9x
 split
 ·exact TA _ _
 ·exact TB hl _
theorem XQ (n:Nat):(((n:Nat):Int)).tmod 4=((n%4:Nat):Int):=by
 rw [Int.tmod_eq_emod_of_nonneg om]
 rfl
theorem N2 (w:World) (F:AO) (o:Oper) (x:Operand) (k:Nat) (hk:k<9223372036854775808) (ho:o.op=.convert 24 3 x) (hx:evF F x=.int .u64 (k:Int)):(execOp (evF F) o).run Tryz.prog w=.ok (.value (iZ k)) w:=by
 have h:(convert 24 3 (.int .u64 (k:Int))).run Tryz.prog w=.ok (iZ k) w:=by
  go_simp
  exact Cy om om
 unfold execOp
 simp only [ho,hx,Sem.run_bind,h,Result.andThen_ok,Sem.run_pure]
theorem Xu (w:World) (g g1 g3:Nat) (t t1 t3:TypeId) (x:AF) (hx:x.length=32) (u:UInt8) (h1:Blk w g1 t1 (x.map bv).toArray) (h3:Blk w g3 t3 #[bv u]) (hb:Blk w g t #[.slice (pA g1) 32 32,.slice (pA g3) 1 1]) (ht:Sh.TabAt w 1) :
  Calls Tryz.prog 63 #[.string dgNm,.slice (pA g) 2 2] w (Gets w (.agg ((Sh.taggedS dgNm.data.toList (x++[u])).map bv).toArray)):=by
 refine Sm w dgNm dZ g t [⟨some ⟨g1,0,none⟩,x,32⟩,⟨some ⟨g3,0,none⟩,[u],1⟩] 2 2 (x++[u]) (by simp [Sh.cat]) U ?_ (λy hy=>?_) (by rw [List.length_append,hx]; show 32+1≤1000000000; omega) dZ ht
 ·rw [List.map_cons,List.map_cons,List.map_nil]
  unfold Sh.Tx.val
  rw [hx]
  exact hb
 ·rcases List.mem_cons.1 hy with rfl | hy
  ·exact Tg h1 hx
  ·obtain rfl:=List.mem_singleton.1 hy
   exact ⟨Sh.Src.of_blk (m:=[u]) h3,Nat.le_refl 1,by show 1≤9223372036854775807; omega⟩
def s9L (sd:AF) (v l N i:Nat):List Value:=Bp ((v / 4 ^ i%4:Nat):Int) (s9x sd l N i)
def aO (f:Nat→List Value) (N:Nat) (v:Value) (M:AC):Prop:=∃ y:Slc,v=y.v∧M=y.bl∧y.Is 65 5 ((List.range N).map f)
theorem Lr (w:World) (sd:AF) (hsd:sd.length=32) (f:Nat→UInt8) (v k l N:Nat) (hv:v<18446744073709551616) (hk:k<K4) (hl:l<K4) (hN:N≤32) (ht:Sh.TabAt w 1):AY 23 #[.agg (sd.map bv).toArray,opv (l32 f) v k l,iZ N] w (GetsN w (aO (s9L sd v l N) N)):=by
 refine Sy.enter (args:=[.agg (sd.map bv).toArray,opv (l32 f) v k l,iZ N]) Tryz.func23 U kL<|sC<|sM 23 (sd.map bv).toArray (λgs=>?_)
 refine sM 28 (Io (l32 f) v k l) (λgo=>?_)
 refine sp U<|sA<|sp U<|sA<|sP (pT go 37)<|sS (fv l) (qk 1 37 4 U U Au)<|sM 26 (fcs 0) (λg8=>?_)
 refine sw 2 U (fcs l) (wA U)<|sG<|Sy.seq<|sC<|sp U<|sp U<|sG<|Sy.block<|Sy.loopT (Y:=Slc) N (λk1 y1=>[(2,iZ N),(3,ptr gs),(4,ptr go),(7,y1.v),(8,ptr g8),(13,iZ N),(14,iZ k1)]) (λk1 y1=>[(gs,23,(sd.map bv).toArray),(go,28,Io (l32 f) v k l),(g8,26,fcs (s9R sd l N k1))]++(y1.bl++([]))) (λk1 y1=>y1.Is 65 5 ((List.range k1).map (s9L sd v l N))) nilS (Slc.Is.nil _ _) ac7 (λw hw=>hw) (λk1 y1 hk1 hh1=>?_)
 refine sC ?_
 obtain ⟨b1,hb1⟩:=xE (decide (k1<N))
 refine sS (.bool b1) (qls U U U hb1)<|sG<|Sy.seq ?_
 cases b1
 ·have lb1:=dN hb1
  obtain rfl:N=k1:=om
  refine sU<|Sy.exit<|Sy.then_exit<|Sy.then_exit<|Sy.in_exit<|sB<|sp U<|sp U<|sG<|Sy.ret ?_
  exact Sy.retGM y1.bl U (v:=y1.v) (.inl (show _=_ by kernel_rfl)) (λw hw=>St.parts (ls:=[[(gs,23,(sd.map bv).toArray),(go,28,Io (l32 f) v k l),(g8,26,fcs (s9R sd l N N))],y1.bl]) (ms:=[y1.bl]) [[(gs,23,(sd.map bv).toArray),(go,28,Io (l32 f) v k l),(g8,26,fcs (s9R sd l N N))]] [1,0] kR (by rfl) (by rfl) (by simp) hw) ⟨y1,rfl,rfl,hh1⟩
 ·have lb1:=dY hb1
  have lr:=TB (sd:=sd) (N:=N) hl k1
  obtain ⟨q,hq⟩:=xE (v / 4 ^ k1%4)
  have lq:q<4:=by rw [hq]; exact Nat.mod_lt _ dZ
  refine sT<|Sy.skip<|Sy.then_<|Sy.seq<|Sy.block<|sC<|sp U<|sp U<|sA<|sS (fv (s9R sd l N k1)) (qk 2 0 4 U U Au)<|sM 26 (fcs 0) (λg10=>?_)
  refine Sy.movT<|sw 3 U (fcs (s9R sd l N k1)) (wA U)<|Sy.setT<|sG<|Sy.seq<|sC ?_
  obtain ⟨b2,hb2⟩:=xE (decide (k1<N - 1))
  refine sp U<|sp U<|sS (iZ (N - 1)) (qsb U U U)<|sS (.bool b2) (qls U U U hb2)<|sG ?_
  cases b2
  ·have lb2:=dN hb2
   have hxe:s9x sd l N k1=s9R sd l N k1:=by unfold s9x; rw [if_neg lb2]
   have lX:=lr
   refine sU<|Sy.skip<|sB<|sS (fv (s9R sd l N k1)) (qk 2 0 4 U U Au)<|sS (fv (s9R sd l N k1)) (qk 3 0 4 U U Au)<|sS (fv (s9R sd l N (k1+1))) (qf (λw=>by rw [JX,hxe]; exact Sc.subF_any w _ _ lr lX))<|sw 2 U (fcs (s9R sd l N (k1+1))) (wA U)<|Sy.setT<|sG<|Sy.regionD (λj=>j == 11) (by kernel_rfl)<|sz 0 U U<|Sy.stepDA 1 U kR (λ_ _ _ _ h=>h) kR (pT go 32) kF<|Sy.stepDB 2 [5,6,7,9,10,11,12] rfl kR (λ_ _ _ _ h=>h) kR (uZ ((v:Nat):Int)) (qc 1 32 U U B2)<|Sy.stepDA 3 U kR (λ_ _ _ _ h=>h) kR (iZ k1) kF<|Sy.stepDA 4 U kR (λ_ _ _ _ h=>h) kR (iZ (2*k1)) (AK .mul _ _ _ .i64 _ _ _ U U U (MG _ _ _ _ _ ((Cy om om).trans om)))<|Sy.stepDA 5 U kR (λ_ _ _ _ h=>h) kR (uZ ((v / 4 ^ k1:Nat):Int)) (AK .shr _ _ _ .u64 _ _ _ U U U (I2 _ _ _ _ _ _ om (by rw [Ln v (show 2*k1≤64 by omega),Nat.pow_mul]))) ?_
   refine Sy.stepDA 6 U kR (λ_ _ _ _ h=>h) kR (uZ ((q:Nat):Int)) (AK .rem _ _ _ .u64 _ _ _ U U U (MF _ _ _ _ _ dZ (by rw [hq]; exact XQ _)))<|Sy.stepDA 7 U kR (λ_ _ _ _ h=>h) kR (iZ q) (λw=>N2 w _ _ _ q om U U)<|Sy.stepDB 8 [9,10,11,12] rfl kR (λ_ _ _ _ h=>h) kR (fv (s9R sd l N k1)) (qk 3 0 4 U U Au)<|Sy.stepDA 9 U kR (λ_ _ _ _ h=>h) kR (X9 ((q:Nat):Int) (s9R sd l N k1)) kF<|Sy.makeD 10 U kR kR 65 (Bp ((q:Nat):Int) (s9R sd l N k1)).toArray (λg=>.slice (pA g) 1 1) kF (λg11=>?_)
   refine Sy.movTD<|Sy.anyOf [11] kZ dZ (Sy.each1 ?_)
   refine IC U kZ (by rfl) (λQ2 hq2=>?_)
   refine Sy.appendR kR 52 65 _ _ 5 40 Ob Nh U U U U dZ _ _ U hh1 kR (Bp ((q:Nat):Int) (s9R sd l N k1)) U (QE _ _) 4 g11 65 kR kR (by rw [List.length_map,List.length_range]; omega) (by rw [List.length_map,List.length_range]; simp only [maxLen]; omega) (λr1 hr1=>?_)
   refine hq2 _ _<|Sy.anyOf [12] kZ dZ (Sy.each1 (Sy.oneQuiet U kR r1.v (Quiet.pure kF) ?_))
   refine sE<|Sy.in_<|Sy.then_<|Sy.region<|sS (iZ (k1+1)) (qad U U U)<|sp U<|Sy.nil ?_
   exact Sy.againT r1 om (by rw [List.range_succ,List.map_append]; rw [hq, ← hxe] at hr1; exact hr1) ac7 (λw hw=>St.parts (ls:=[[(gs,23,(sd.map bv).toArray),(go,28,Io (l32 f) v k l),(g8,26,fcs (s9R sd l N (k1+1)))],[(g10,26,fcs (s9R sd l N k1))],[(g11,65,(Bp ((q:Nat):Int) (s9R sd l N k1)).toArray)],r1.bl]) (ms:=[[(gs,23,(sd.map bv).toArray),(go,28,Io (l32 f) v k l),(g8,26,fcs (s9R sd l N (k1+1)))],r1.bl]) [[(g10,26,fcs (s9R sd l N k1))],[(g11,65,(Bp ((q:Nat):Int) (s9R sd l N k1)).toArray)]] [0,3,1,2] kR (by rfl) (by rfl) (by simp) hw)
  ·have lb2:=dY hb2
   have hxe:s9x sd l N k1=s9X sd k1:=by unfold s9x; rw [if_pos lb2]
   have lX:=TA sd k1
   refine sT<|Sy.region<|sP (.slice (pA gs) 32 32)<|sp U<|sS (bv (UInt8.ofNat k1)) (Quiet.pure (λw=>DZ w _ _ _ k1 om U U))<|Sy.make kR 5 #[bv (UInt8.ofNat k1)] (λg=>.slice (pA g) 1 1) kF (λgA=>?_)
   refine Sy.movT<|Sy.make kR 29 #[.slice (pA gs) 32 32,.slice (pA gA) 1 1] (λg=>.slice (pA g) 2 2) kF (λgB=>?_)
   refine Sy.movT ?_
   have e32:(Sh.taggedS dgNm.data.toList (sd++[UInt8.ofNat k1])).length=32:=Sh.sum_length _
   refine sS (.agg ((Sh.taggedS dgNm.data.toList (sd++[UInt8.ofNat k1])).map bv).toArray) (qg (λw hw=>Xu w gB gs gA _ _ _ sd hsd (UInt8.ofNat k1) (hw.get (i:=0) rfl) (hw.get (i:=4) rfl) (hw.get (i:=5) rfl) (ht.below hw.below ht.lt)))<|sS (fv (s9X sd k1)) (qf (λw=>Sc.reduceB_any w _ e32))<|sw 3 U (fcs (s9X sd k1)) (wA U)<|Sy.setT<|Sy.nil<|sB<|sS (fv (s9R sd l N k1)) (qk 2 0 4 U U Au)<|sS (fv (s9X sd k1)) (qk 3 0 4 U U Au)<|sS (fv (s9R sd l N (k1+1))) (qf (λw=>by rw [JX,hxe]; exact Sc.subF_any w _ _ lr lX))<|sw 2 U (fcs (s9R sd l N (k1+1))) (wA U)<|Sy.setT<|sG<|Sy.regionD (λj=>j == 11) (by kernel_rfl)<|sz 0 U U<|Sy.stepDA 1 U kR (λ_ _ _ _ h=>h) kR (pT go 32) kF ?_
   refine Sy.stepDB 2 [5,6,7,9,10,11,12] rfl kR (λ_ _ _ _ h=>h) kR (uZ ((v:Nat):Int)) (qc 1 32 U U B2)<|Sy.stepDA 3 U kR (λ_ _ _ _ h=>h) kR (iZ k1) kF<|Sy.stepDA 4 U kR (λ_ _ _ _ h=>h) kR (iZ (2*k1)) (AK .mul _ _ _ .i64 _ _ _ U U U (MG _ _ _ _ _ ((Cy om om).trans om)))<|Sy.stepDA 5 U kR (λ_ _ _ _ h=>h) kR (uZ ((v / 4 ^ k1:Nat):Int)) (AK .shr _ _ _ .u64 _ _ _ U U U (I2 _ _ _ _ _ _ om (by rw [Ln v (show 2*k1≤64 by omega),Nat.pow_mul])))<|Sy.stepDA 6 U kR (λ_ _ _ _ h=>h) kR (uZ ((q:Nat):Int)) (AK .rem _ _ _ .u64 _ _ _ U U U (MF _ _ _ _ _ dZ (by rw [hq]; exact XQ _)))<|Sy.stepDA 7 U kR (λ_ _ _ _ h=>h) kR (iZ q) (λw=>N2 w _ _ _ q om U U)<|Sy.stepDB 8 [9,10,11,12] rfl kR (λ_ _ _ _ h=>h) kR (fv (s9X sd k1)) (qk 3 0 4 U U Au)<|Sy.stepDA 9 U kR (λ_ _ _ _ h=>h) kR (X9 ((q:Nat):Int) (s9X sd k1)) kF<|Sy.makeD 10 U kR kR 65 (Bp ((q:Nat):Int) (s9X sd k1)).toArray (λg=>.slice (pA g) 1 1) kF (λg11=>?_)
   refine Sy.movTD<|Sy.anyOf [11] kZ dZ (Sy.each1 ?_)
   refine IC U kZ (by rfl) (λQ2 hq2=>?_)
   refine Sy.appendR kR 52 65 _ _ 5 40 Ob Nh U U U U dZ _ _ U hh1 kR (Bp ((q:Nat):Int) (s9X sd k1)) U (QE _ _) 6 g11 65 kR kR (by rw [List.length_map,List.length_range]; omega) (by rw [List.length_map,List.length_range]; simp only [maxLen]; omega) (λr1 hr1=>?_)
   refine hq2 _ _<|Sy.anyOf [12] kZ dZ (Sy.each1 (Sy.oneQuiet U kR r1.v (Quiet.pure kF) ?_))
   refine sE<|Sy.in_<|Sy.then_<|Sy.region<|sS (iZ (k1+1)) (qad U U U)<|sp U<|Sy.nil ?_
   exact Sy.againT r1 om (by rw [List.range_succ,List.map_append]; rw [hq, ← hxe] at hr1; exact hr1) ac7 (λw hw=>St.parts (ls:=[[(gs,23,(sd.map bv).toArray),(go,28,Io (l32 f) v k l),(g8,26,fcs (s9R sd l N (k1+1)))],[(g10,26,fcs (s9X sd k1))],[(gA,5,#[bv (UInt8.ofNat k1)])],[(gB,29,#[.slice (pA gs) 32 32,.slice (pA gA) 1 1])],[(g11,65,(Bp ((q:Nat):Int) (s9X sd k1)).toArray)],r1.bl]) (ms:=[[(gs,23,(sd.map bv).toArray),(go,28,Io (l32 f) v k l),(g8,26,fcs (s9R sd l N (k1+1)))],r1.bl]) [[(g10,26,fcs (s9X sd k1))],[(gA,5,#[bv (UInt8.ofNat k1)])],[(gB,29,#[.slice (pA gs) 32 32,.slice (pA gA) 1 1])],[(g11,65,(Bp ((q:Nat):Int) (s9X sd k1)).toArray)]] [0,5,1,2,3,4] kR (by rfl) (by rfl) (by simp) hw)
end Cu
end
end Go.Proofs.YtgemfpnlnipfnabGreatDoor
