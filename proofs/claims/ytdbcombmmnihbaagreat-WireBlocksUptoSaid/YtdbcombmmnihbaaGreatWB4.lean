/-
  Texts of ours, put together: CrvF, CrvG, CrvH, CurveBackL, SymT, SymQ, SymW, SymU, WirA, WirB, WirC, WirD, WirE, WirF, WirG, WirH, WirI, WirJ, SymS, WirK, WirL, WirM, SymP, SymN.
-/
import Derived.Test.YtdbcombmmnihbaaGreatWB3
set_option linter.unusedVariables false
set_option linter.unusedSimpArgs false
set_option maxRecDepth 100000
set_option maxHeartbeats 40000000
namespace Go.Proofs.YtdbcombmmnihbaaGreat
section
namespace Cu
open Go.RowKit Sy
def encS:Pt→List UInt8
 | none=>List.replicate 33 0
 | some (x,y)=>(if y.val%2=1 then 3 else 2)::AW x.val
theorem encS_length:∀ P,(encS P).length=33
 | none=>rfl
 | some (x,y)=>by simp [encS,AN]
def Cz (b:Ak):Pt:=if b.head? = some 3 then Ec.neg (Ar b.tail) else Ar b.tail
def decOk (b:Ak):Bool:=decide (b.length=33∧encS (Cz b)=b)
def decP (b:Ak):Pt:=if decOk b then Cz b else none
theorem DM (l:Ak):Ec.On (Ar l):=by
 cases h:Bf l
 ·rw [FB h]; trivial
 ·obtain ⟨u,y,_,_,e,ho,_⟩:=GN h
  rw [e]; exact ho
theorem Ra (b:Ak):Ec.On (Cz b):=by
 unfold Cz
 split
 ·exact Ec.On.neg (DM _)
 ·exact DM _
theorem decP_on (b:Ak):Ec.On (decP b):=by
 unfold decP
 split
 ·exact Ra b
 ·trivial
theorem decP_ok {b:Ak} (h:decOk b=true):decP b=Cz b∧encS (decP b)=b∧b.length=33:=by
 have e:decP b=Cz b:=by unfold decP; rw [if_pos h]
 unfold decOk at h
 have h:=of_decide_eq_true h
 exact ⟨e,by rw [e]; exact h.2,h.1⟩
theorem GW {b:Ak} (h:decOk b=false):decP b=none:=by unfold decP; rw [if_neg (by simp [h])]
theorem SX:Ar (List.replicate 32 0)=none:=FB (by decide +kernel)
theorem PF (y:Fp) (h:y≠0):(-y).val%2≠y.val%2:=by
 have hs:y + -y=0:=by grobner
 have h1:=Ec.val_of_sum hs h
 have h2:pM%2=1:=by decide +kernel
 omega
theorem Uf (x y:Fp) (h:y*y=x*x*x+7):Ar (AW x.val)=if y.val%2=1 then some (x, -y) else some (x,y):=by
 have hv:Ag (AW x.val)=x.val:=El _ (lt4 x)
 have hc:D4 x.val=Bm y.val y.val:=by
  rw [EM, ← h]
  rfl
 obtain ⟨s,hs,hsn⟩:=Rs y.val
 have hb:Bf (AW x.val)=true:=by
  unfold Bf
  rw [hv,hc,hs]
  simp [x.isLt]
 obtain ⟨u,r,e1,e2,e3,e4,e5⟩:=GN hb
 rw [hv] at e1
 have eu:u=x:=Fin.ext e1
 subst eu
 rw [hv,hc,hs] at e2
 have e2:r.val=s:=e2
 rw [e3]
 have hy:=UZ u y h
 rcases hsn with q | q
 ·have er:r=y:=Fin.ext (by rw [e2,q,Nat.mod_eq_of_lt y.isLt])
  subst er
  rw [if_neg om]
 ·have er:r = -y:=Fin.ext (by rw [e2,q,JX])
  subst er
  have:=PF y hy
  rw [if_pos om]
theorem RY {P:Pt} (h:Ec.On P):Cz (encS P)=P:=by
 rcases P with _ | ⟨x,y⟩
 ·have e:encS none=0::List.replicate 32 0:=rfl
  have hne:¬ ((0:UInt8)::List.replicate 32 0).head? = some 3:=dZ
  unfold Cz
  rw [e,if_neg hne]
  exact SX
 ·have hl:=Uf x y h
  have e:encS (some (x,y))=(if y.val%2=1 then 3 else 2)::AW x.val:=rfl
  unfold Cz
  rw [e]
  by_cases ho:y.val%2=1
  ·rw [if_pos ho] at hl ⊢
   simp only [List.head?_cons,if_true,List.tail_cons,hl]
   show some (x, - -y)=_
   rw [Ec.neg_neg']
  ·rw [if_neg ho] at hl ⊢
   simp only [List.head?_cons,List.tail_cons,hl]
   rw [if_neg dZ]
theorem dec_enc {P:Pt} (h:Ec.On P):decOk (encS P)=true∧decP (encS P)=P:=by
 have hc:=RY h
 have ho:decOk (encS P)=true:=by
  unfold decOk
  rw [hc]
  exact decide_eq_true ⟨encS_length P,rfl⟩
 exact ⟨ho,by unfold decP; rw [if_pos ho,hc]⟩
theorem Qk (m:Ak) (h:m.length=32):∃ a0 a1 a2 a3 a4 a5 a6 a7 a8 a9 a10 a11 a12 a13 a14 a15 a16 a17 a18 a19 a20 a21 a22 a23 a24 a25 a26 a27 a28 a29 a30 a31:UInt8,m=[a0,a1,a2,a3,a4,a5,a6,a7,a8,a9,a10,a11,a12,a13,a14,a15,a16,a17,a18,a19,a20,a21,a22,a23,a24,a25,a26,a27,a28,a29,a30,a31]:=by
 match m,h with
 | [a0,a1,a2,a3,a4,a5,a6,a7,a8,a9,a10,a11,a12,a13,a14,a15,a16,a17,a18,a19,a20,a21,a22,a23,a24,a25,a26,a27,a28,a29,a30,a31],_=>exact ⟨a0,a1,a2,a3,a4,a5,a6,a7,a8,a9,a10,a11,a12,a13,a14,a15,a16,a17,a18,a19,a20,a21,a22,a23,a24,a25,a26,a27,a28,a29,a30,a31,  rfl⟩
theorem Ue (m:Ak) (h:m.length=33):∃ o0 o1 o2 o3 o4 o5 o6 o7 o8 o9 o10 o11 o12 o13 o14 o15 o16 o17 o18 o19 o20 o21 o22 o23 o24 o25 o26 o27 o28 o29 o30 o31 o32:UInt8,m=(o0::o1::o2::[o3,o4,o5,o6,o7,o8,o9,o10,o11,o12,o13,o14,o15,o16,o17,o18,o19,o20,o21,o22,o23,o24,o25,o26,o27,o28,o29,o30,o31,o32]):=by
 obtain ⟨b,t,rfl⟩:∃ b t,m=b::t:=by cases m with
  | nil=>cases h
  | cons b t=>exact ⟨b,t,rfl⟩
 obtain ⟨a0,a1,a2,a3,a4,a5,a6,a7,a8,a9,a10,a11,a12,a13,a14,a15,a16,a17,a18,a19,a20,a21,a22,a23,a24,a25,a26,a27,a28,a29,a30,a31,e⟩:=Qk t (by simpa using h)
 exact ⟨b,a0,a1,a2,a3,a4,a5,a6,a7,a8,a9,a10,a11,a12,a13,a14,a15,a16,a17,a18,a19,a20,a21,a22,a23,a24,a25,a26,a27,a28,a29,a30,a31,by rw [e]⟩
theorem Un (w:World) (F:AJ) (o:Oper) (x y:Operand) (a:UInt8) (k:Nat) (hk:k<256) {yt:TypeId} (ho:o.op=.binOp .eql 5 x y yt) (hx:evF F x=bv a) (hy:evF F y=.int .u8 k):(execOp (evF F) o).run Tryz.prog w=.ok (.value (.bool (decide (a=UInt8.ofNat k)))) w:=by
 have h1:=uy5
 have e:((a.toNat:Int) == (k:Int))=decide (a=UInt8.ofNat k):=by
  rw [Bool.eq_iff_iff]
  simp
  constructor
  ·intro h
   have:a.toNat=k:=om
   exact UInt8.toNat_inj.1 (by rw [this,UInt8.toNat_ofNat']; omega)
  ·rintro rfl
   rw [UInt8.toNat_ofNat']
   omega
 unfold execOp
 simp only [ho,hx,hy,bv]
 simp [eqGuard,binOp,Op.intCmp,e]
theorem RZ (t:Ak):Cz (3::t)=Ec.neg (Ar t):=rfl
theorem Nn (b:UInt8) (t:Ak) (h:b≠3):Cz (b::t)=Ar t:=by
 have:¬ (b::t).head? = some 3:=by simpa using h
 unfold Cz
 rw [if_neg this]
 rfl
theorem QX (w:World) (F:AJ) (o:Oper) (x y:Operand) (a b:Ak) (ha:a.length=33) (hb:b.length=33) {yt:TypeId} (ho:o.op=.binOp .neq 332 x y yt) (hx:evF F x=.agg (a.map bv).toArray) (hy:evF F y=.agg (b.map bv).toArray):(execOp (evF F) o).run Tryz.prog w=.ok (.value (.bool (decide (a≠b)))) w:=by
 have h1:(eqGuard .neq 332 x y (.agg (a.map bv).toArray) (.agg (b.map bv).toArray)).run Tryz.prog w=.ok () w:=by go_simp
 have h2:(binOp .neq 332 (.agg (a.map bv).toArray) (.agg (b.map bv).toArray)).run Tryz.prog w=.ok (.bool (decide (a≠b))) w:=by
  have h:=run_equalIn_bytes (P:=Tryz.prog) w 9998 332 5 33 Em uy5 (λW=>kZ) a b ha hb
  rw [run_neq_struct,show (10000:Nat)=9998+2 from rfl,show (Op.equalIn (9998+2) 332 (.agg (a.map bv).toArray) (.agg (b.map bv).toArray)).run Tryz.prog w=_ from h]
  by_cases e:a=b <;> simp [e]
 unfold execOp
 simp only [ho,hx,hy,Sem.run_bind,h1,h2,Result.andThen_ok,Sem.run_pure]
theorem NJ (w:World) (F:AJ) (o:Oper) (x y:Operand) (n:Nat) (hn:n≠33) {yt:TypeId} (ho:o.op=.binOp .neq 3 x y yt) (hx:evF F x=.int .i64 n) (hy:evF F y=.int .i64 33):(execOp (evF F) o).run Tryz.prog w=.ok (.value (.bool true)) w:=by
 unfold execOp
 simp only [ho,hx,hy]
 simp [eqGuard,binOp,Op.intCmp]
 omega
theorem RE (w:World) (x y:Nat) (i:Bool) (hx:x<K4) (hy:y<K4) (h:dec x y i=none):AL 194 #[pv x y i] w (Ai w (.agg ((encS none).map bv).toArray)):=by
 refine Sy.enter (args:=[pv x y i]) Tryz.func194 J kL<|sC<|sM 57 (pcs x y i) (λg0=>?_)
 refine Sy.make kR 332 (Zl 33).toArray ptr kF (λg1=>?_)
 refine sA<|Sy.make kR 332 (Zl 33).toArray ptr kF (λg2=>?_)
 refine sA<|sS (pv x y i) (qk 0 0 9 J J Am)<|sS (pv 0 0 true) (qf (λw=>by have hrr:=Hm w x y i lK lK; rw [h] at hrr; exact hrr))<|sw 0 J (pcs 0 0 true) (wA J)<|sG<|Sy.seq<|Sy.seq<|Sy.regionD (λj=>false) kR<|sD 0 J (pv 0 0 true) (qk 0 0 9 J J Am)<|sD 1 J (pv 0 0 true) (qf zero_c)<|sD 2 J (.bool true) (Quiet.pure (λw=>eql_pt w _ _ _ _ 0 0 true 0 0 true J J J dZ dZ dZ dZ))<|sI<|sT<|sC<|sS (.agg ((Zl 33):List Value).toArray) (qx 2 0 33 J J Em kR kL)<|Sy.write kR 1 g1 332 (Zl 33).toArray (Zl 33).toArray kR (Writes.store 0 332 (Zl 33).toArray _ _ J kR kR kR kL kR kR)<|sG<|Sy.ret<|Sy.then_ret ?_
 rw [show (.agg ((encS none).map bv).toArray:Value)=.agg ((Zl 33):List Value).toArray from by kernel_rfl]
 exact Sy.ret1 (v:=.agg ((Zl 33):List Value).toArray) rfl (.inl (Res.cell (ty':=332) g1 1 (Zl 33).toArray _ kR kR Em J kR kR))
theorem RD (w:World) (x y:Nat) (i:Bool) (hx:x<K4) (hy:y<K4) (u v:Fp) (h:dec x y i=some (u,v)):AL 194 #[pv x y i] w (Ai w (.agg ((encS (some (u,v))).map bv).toArray)):=by
 obtain ⟨a0,a1,a2,a3,a4,a5,a6,a7,a8,a9,a10,a11,a12,a13,a14,a15,a16,a17,a18,a19,a20,a21,a22,a23,a24,a25,a26,a27,a28,a29,a30,a31,hm⟩:=Qk (AW u.val) (AN _)
 have cB:∀ w,AL 229 #[fv u.val] w (Ai w (.agg ((bv a0::bv a1::[bv a2,bv a3,bv a4,bv a5,bv a6,bv a7,bv a8,bv a9,bv a10,bv a11,bv a12,bv a13,bv a14,bv a15,bv a16,bv a17,bv a18,bv a19,bv a20,bv a21,bv a22,bv a23,bv a24,bv a25,bv a26,bv a27,bv a28,bv a29,bv a30,bv a31]):List Value).toArray)):=λw=>by
  have hh:=bytes_any w u.val (lt4 u)
  rw [Nat.mod_eq_of_lt u.isLt,hm] at hh
  exact hh
 refine Sy.enter (args:=[pv x y i]) Tryz.func194 J kL<|sC<|sM 57 (pcs x y i) (λg0=>?_)
 refine Sy.make kR 332 (Zl 33).toArray ptr kF (λg1=>?_)
 refine sA<|Sy.make kR 332 (Zl 33).toArray ptr kF (λg2=>?_)
 refine sA<|sS (pv x y i) (qk 0 0 9 J J Am)<|sS (pv u.val v.val false) (qf (λw=>by have hrr:=Hm w x y i lK lK; rw [h] at hrr; exact hrr))<|sw 0 J (pcs u.val v.val false) (wA J)<|sG<|Sy.seq<|Sy.seq<|Sy.regionD (λj=>false) kR<|sD 0 J (pv u.val v.val false) (qk 0 0 9 J J Am)<|sD 1 J (pv 0 0 true) (qf zero_c)<|sD 2 J (.bool false) (Quiet.pure (λw=>Oz w _ _ _ _ _ _ _ _ _ _ J J J lK lK lK lK dZ))<|sI<|sU<|Sy.skip<|sB<|sP (pT g2 0)<|Sy.write kR 2 g2 332 (Zl 33).toArray (.int .u8 2::Zl 32).toArray kR (wO 0 5 (.int .u8 2) rfl)<|sG<|Sy.seq<|sC<|sP (pT g0 4)<|sS (fv v.val) (qk 0 4 4 J J Af) ?_
 obtain ⟨b1,hb1⟩:=xE (decide (v.val%pM%2=1))
 refine sS (.bool b1) (qf (λw=>by rw [hb1]; exact NH w v.val lK))<|sG ?_
 cases b1
 ·refine sU<|Sy.skip<|sB ?_
  refine sP (pT g0 0)<|sS (fv u.val) (qk 0 0 4 J J Af)<|sS (.agg ((bv a0::bv a1::[bv a2,bv a3,bv a4,bv a5,bv a6,bv a7,bv a8,bv a9,bv a10,bv a11,bv a12,bv a13,bv a14,bv a15,bv a16,bv a17,bv a18,bv a19,bv a20,bv a21,bv a22,bv a23,bv a24,bv a25,bv a26,bv a27,bv a28,bv a29,bv a30,bv a31]):List Value).toArray) (qf cB)<|Sy.make kR 36 (Zl 32).toArray ptr kF (λg3=>?_)
  refine Sy.write kR 3 g3 36 (Zl 32).toArray (bv a0::bv a1::[bv a2,bv a3,bv a4,bv a5,bv a6,bv a7,bv a8,bv a9,bv a10,bv a11,bv a12,bv a13,bv a14,bv a15,bv a16,bv a17,bv a18,bv a19,bv a20,bv a21,bv a22,bv a23,bv a24,bv a25,bv a26,bv a27,bv a28,bv a29,bv a30,bv a31]).toArray kR (Writes.store 0 36 (bv a0::bv a1::[bv a2,bv a3,bv a4,bv a5,bv a6,bv a7,bv a8,bv a9,bv a10,bv a11,bv a12,bv a13,bv a14,bv a15,bv a16,bv a17,bv a18,bv a19,bv a20,bv a21,bv a22,bv a23,bv a24,bv a25,bv a26,bv a27,bv a28,bv a29,bv a30,bv a31]).toArray _ _ J kR kR kR kL kR kR)<|sH (λj=>j == 2) ?_
  refine sZ 0 J (.slice (some ⟨g2,1,none⟩) 32 32)<|sZ 1 J (.slice (pA g3) 32 32)<|Sy.writeVD 2 J kR (by rfl) kR 2 g2 332 (.int .u8 2::Zl 32).toArray (.int .u8 2::bv a0::bv a1::[bv a2,bv a3,bv a4,bv a5,bv a6,bv a7,bv a8,bv a9,bv a10,bv a11,bv a12,bv a13,bv a14,bv a15,bv a16,bv a17,bv a18,bv a19,bv a20,bv a21,bv a22,bv a23,bv a24,bv a25,bv a26,bv a27,bv a28,bv a29,bv a30,bv a31]).toArray (.int .i64 32) kR (WritesV.copy _ _ 27 27 _ J Aw kR 2 g2 1 32 32 332 (.int .u8 2::Zl 32).toArray (.int .u8 2::bv a0::bv a1::[bv a2,bv a3,bv a4,bv a5,bv a6,bv a7,bv a8,bv a9,bv a10,bv a11,bv a12,bv a13,bv a14,bv a15,bv a16,bv a17,bv a18,bv a19,bv a20,bv a21,bv a22,bv a23,bv a24,bv a25,bv a26,bv a27,bv a28,bv a29,bv a30,bv a31]).toArray kR kR 3 g3 0 32 32 36 (bv a0::bv a1::[bv a2,bv a3,bv a4,bv a5,bv a6,bv a7,bv a8,bv a9,bv a10,bv a11,bv a12,bv a13,bv a14,bv a15,bv a16,bv a17,bv a18,bv a19,bv a20,bv a21,bv a22,bv a23,bv a24,bv a25,bv a26,bv a27,bv a28,bv a29,bv a30,bv a31]).toArray kR kR (bv a0::bv a1::[bv a2,bv a3,bv a4,bv a5,bv a6,bv a7,bv a8,bv a9,bv a10,bv a11,bv a12,bv a13,bv a14,bv a15,bv a16,bv a17,bv a18,bv a19,bv a20,bv a21,bv a22,bv a23,bv a24,bv a25,bv a26,bv a27,bv a28,bv a29,bv a30,bv a31]) kR kR (Nr _ kR) kL kR)<|sE<|sB<|sS (.agg ((.int .u8 2::bv a0::bv a1::[bv a2,bv a3,bv a4,bv a5,bv a6,bv a7,bv a8,bv a9,bv a10,bv a11,bv a12,bv a13,bv a14,bv a15,bv a16,bv a17,bv a18,bv a19,bv a20,bv a21,bv a22,bv a23,bv a24,bv a25,bv a26,bv a27,bv a28,bv a29,bv a30,bv a31]):List Value).toArray) (qx 2 0 33 J J Em kR kL)<|Sy.write kR 1 g1 332 (Zl 33).toArray (.int .u8 2::bv a0::bv a1::[bv a2,bv a3,bv a4,bv a5,bv a6,bv a7,bv a8,bv a9,bv a10,bv a11,bv a12,bv a13,bv a14,bv a15,bv a16,bv a17,bv a18,bv a19,bv a20,bv a21,bv a22,bv a23,bv a24,bv a25,bv a26,bv a27,bv a28,bv a29,bv a30,bv a31]).toArray kR (Writes.store 0 332 (.int .u8 2::bv a0::bv a1::[bv a2,bv a3,bv a4,bv a5,bv a6,bv a7,bv a8,bv a9,bv a10,bv a11,bv a12,bv a13,bv a14,bv a15,bv a16,bv a17,bv a18,bv a19,bv a20,bv a21,bv a22,bv a23,bv a24,bv a25,bv a26,bv a27,bv a28,bv a29,bv a30,bv a31]).toArray _ _ J kR kR kR kL kR kR)<|sG<|Sy.ret ?_
  rw [show (.agg ((encS (some (u,v))).map bv).toArray:Value)=.agg ((.int .u8 2::bv a0::bv a1::[bv a2,bv a3,bv a4,bv a5,bv a6,bv a7,bv a8,bv a9,bv a10,bv a11,bv a12,bv a13,bv a14,bv a15,bv a16,bv a17,bv a18,bv a19,bv a20,bv a21,bv a22,bv a23,bv a24,bv a25,bv a26,bv a27,bv a28,bv a29,bv a30,bv a31]):List Value).toArray from by
   have e:encS (some (u,v))=(if v.val%2=1 then 3 else 2)::AW u.val:=rfl
   rw [e,hm,if_neg (by have q:=hb1.symm; rw [Nat.mod_eq_of_lt v.isLt] at q; exact of_decide_eq_false q)]
   rfl]
  exact Sy.ret1 (v:=.agg ((.int .u8 2::bv a0::bv a1::[bv a2,bv a3,bv a4,bv a5,bv a6,bv a7,bv a8,bv a9,bv a10,bv a11,bv a12,bv a13,bv a14,bv a15,bv a16,bv a17,bv a18,bv a19,bv a20,bv a21,bv a22,bv a23,bv a24,bv a25,bv a26,bv a27,bv a28,bv a29,bv a30,bv a31]):List Value).toArray) rfl (.inl (Res.cell (ty':=332) g1 1 (.int .u8 2::bv a0::bv a1::[bv a2,bv a3,bv a4,bv a5,bv a6,bv a7,bv a8,bv a9,bv a10,bv a11,bv a12,bv a13,bv a14,bv a15,bv a16,bv a17,bv a18,bv a19,bv a20,bv a21,bv a22,bv a23,bv a24,bv a25,bv a26,bv a27,bv a28,bv a29,bv a30,bv a31]).toArray _ kR kR Em J kR kR))
 ·refine sT<|Sy.region ?_
  refine sP (pT g2 0)<|Sy.write kR 2 g2 332 (.int .u8 2::Zl 32).toArray (.int .u8 3::Zl 32).toArray kR (wO 0 5 (.int .u8 3) rfl)<|sA<|sP (pT g0 0)<|sS (fv u.val) (qk 0 0 4 J J Af)<|sS (.agg ((bv a0::bv a1::[bv a2,bv a3,bv a4,bv a5,bv a6,bv a7,bv a8,bv a9,bv a10,bv a11,bv a12,bv a13,bv a14,bv a15,bv a16,bv a17,bv a18,bv a19,bv a20,bv a21,bv a22,bv a23,bv a24,bv a25,bv a26,bv a27,bv a28,bv a29,bv a30,bv a31]):List Value).toArray) (qf cB)<|Sy.make kR 36 (Zl 32).toArray ptr kF (λg4=>?_)
  refine Sy.write kR 3 g4 36 (Zl 32).toArray (bv a0::bv a1::[bv a2,bv a3,bv a4,bv a5,bv a6,bv a7,bv a8,bv a9,bv a10,bv a11,bv a12,bv a13,bv a14,bv a15,bv a16,bv a17,bv a18,bv a19,bv a20,bv a21,bv a22,bv a23,bv a24,bv a25,bv a26,bv a27,bv a28,bv a29,bv a30,bv a31]).toArray kR (Writes.store 0 36 (bv a0::bv a1::[bv a2,bv a3,bv a4,bv a5,bv a6,bv a7,bv a8,bv a9,bv a10,bv a11,bv a12,bv a13,bv a14,bv a15,bv a16,bv a17,bv a18,bv a19,bv a20,bv a21,bv a22,bv a23,bv a24,bv a25,bv a26,bv a27,bv a28,bv a29,bv a30,bv a31]).toArray _ _ J kR kR kR kL kR kR)<|sH (λj=>j == 2) ?_
  refine sZ 0 J (.slice (some ⟨g2,1,none⟩) 32 32)<|sZ 1 J (.slice (pA g4) 32 32)<|Sy.writeVD 2 J kR (by rfl) kR 2 g2 332 (.int .u8 3::Zl 32).toArray (.int .u8 3::bv a0::bv a1::[bv a2,bv a3,bv a4,bv a5,bv a6,bv a7,bv a8,bv a9,bv a10,bv a11,bv a12,bv a13,bv a14,bv a15,bv a16,bv a17,bv a18,bv a19,bv a20,bv a21,bv a22,bv a23,bv a24,bv a25,bv a26,bv a27,bv a28,bv a29,bv a30,bv a31]).toArray (.int .i64 32) kR (WritesV.copy _ _ 27 27 _ J Aw kR 2 g2 1 32 32 332 (.int .u8 3::Zl 32).toArray (.int .u8 3::bv a0::bv a1::[bv a2,bv a3,bv a4,bv a5,bv a6,bv a7,bv a8,bv a9,bv a10,bv a11,bv a12,bv a13,bv a14,bv a15,bv a16,bv a17,bv a18,bv a19,bv a20,bv a21,bv a22,bv a23,bv a24,bv a25,bv a26,bv a27,bv a28,bv a29,bv a30,bv a31]).toArray kR kR 3 g4 0 32 32 36 (bv a0::bv a1::[bv a2,bv a3,bv a4,bv a5,bv a6,bv a7,bv a8,bv a9,bv a10,bv a11,bv a12,bv a13,bv a14,bv a15,bv a16,bv a17,bv a18,bv a19,bv a20,bv a21,bv a22,bv a23,bv a24,bv a25,bv a26,bv a27,bv a28,bv a29,bv a30,bv a31]).toArray kR kR (bv a0::bv a1::[bv a2,bv a3,bv a4,bv a5,bv a6,bv a7,bv a8,bv a9,bv a10,bv a11,bv a12,bv a13,bv a14,bv a15,bv a16,bv a17,bv a18,bv a19,bv a20,bv a21,bv a22,bv a23,bv a24,bv a25,bv a26,bv a27,bv a28,bv a29,bv a30,bv a31]) kR kR (Nr _ kR) kL kR)<|sE<|sB<|sS (.agg ((.int .u8 3::bv a0::bv a1::[bv a2,bv a3,bv a4,bv a5,bv a6,bv a7,bv a8,bv a9,bv a10,bv a11,bv a12,bv a13,bv a14,bv a15,bv a16,bv a17,bv a18,bv a19,bv a20,bv a21,bv a22,bv a23,bv a24,bv a25,bv a26,bv a27,bv a28,bv a29,bv a30,bv a31]):List Value).toArray) (qx 2 0 33 J J Em kR kL)<|Sy.write kR 1 g1 332 (Zl 33).toArray (.int .u8 3::bv a0::bv a1::[bv a2,bv a3,bv a4,bv a5,bv a6,bv a7,bv a8,bv a9,bv a10,bv a11,bv a12,bv a13,bv a14,bv a15,bv a16,bv a17,bv a18,bv a19,bv a20,bv a21,bv a22,bv a23,bv a24,bv a25,bv a26,bv a27,bv a28,bv a29,bv a30,bv a31]).toArray kR (Writes.store 0 332 (.int .u8 3::bv a0::bv a1::[bv a2,bv a3,bv a4,bv a5,bv a6,bv a7,bv a8,bv a9,bv a10,bv a11,bv a12,bv a13,bv a14,bv a15,bv a16,bv a17,bv a18,bv a19,bv a20,bv a21,bv a22,bv a23,bv a24,bv a25,bv a26,bv a27,bv a28,bv a29,bv a30,bv a31]).toArray _ _ J kR kR kR kL kR kR)<|sG<|Sy.ret ?_
  rw [show (.agg ((encS (some (u,v))).map bv).toArray:Value)=.agg ((.int .u8 3::bv a0::bv a1::[bv a2,bv a3,bv a4,bv a5,bv a6,bv a7,bv a8,bv a9,bv a10,bv a11,bv a12,bv a13,bv a14,bv a15,bv a16,bv a17,bv a18,bv a19,bv a20,bv a21,bv a22,bv a23,bv a24,bv a25,bv a26,bv a27,bv a28,bv a29,bv a30,bv a31]):List Value).toArray from by
   have e:encS (some (u,v))=(if v.val%2=1 then 3 else 2)::AW u.val:=rfl
   rw [e,hm,if_pos (by have q:=hb1.symm; rw [Nat.mod_eq_of_lt v.isLt] at q; exact of_decide_eq_true q)]
   rfl]
  exact Sy.ret1 (v:=.agg ((.int .u8 3::bv a0::bv a1::[bv a2,bv a3,bv a4,bv a5,bv a6,bv a7,bv a8,bv a9,bv a10,bv a11,bv a12,bv a13,bv a14,bv a15,bv a16,bv a17,bv a18,bv a19,bv a20,bv a21,bv a22,bv a23,bv a24,bv a25,bv a26,bv a27,bv a28,bv a29,bv a30,bv a31]):List Value).toArray) rfl (.inl (Res.cell (ty':=332) g1 1 (.int .u8 3::bv a0::bv a1::[bv a2,bv a3,bv a4,bv a5,bv a6,bv a7,bv a8,bv a9,bv a10,bv a11,bv a12,bv a13,bv a14,bv a15,bv a16,bv a17,bv a18,bv a19,bv a20,bv a21,bv a22,bv a23,bv a24,bv a25,bv a26,bv a27,bv a28,bv a29,bv a30,bv a31]).toArray _ kR kR Em J kR kR))
theorem enc_any (w:World) (x y:Nat) (i:Bool) (hx:x<K4) (hy:y<K4):Calls Tryz.prog 194 #[pv x y i] w (Ai w (.agg ((encS (dec x y i)).map bv).toArray)):=by
 rcases h:dec x y i with _ | ⟨u,v⟩
 ·exact RE w x y i hx hy h
 ·exact RD w x y i hx hy u v h
theorem S_ (w:World) (A:Option Addr) (n c:Nat) (hn:n≠33):AL 195 #[.slice A n c] w (Ai w (.tuple #[pv 0 0 true,.bool false])):=by
 refine Sy.enter (args:=[.slice A n c]) Tryz.func195 J kL<|sC<|sM 57 (pcs 0 0 false) (λg0=>?_)
 refine sP (.bool false)<|sG<|Sy.seq<|sC<|sP (.slice A n c)<|sP (.int .i64 (n:Int))<|sS (.bool true) (Quiet.pure (λw=>NJ w _ _ _ _ n hn J J J))<|sG<|sT<|sC<|sS (pv 0 0 true) (qf zero_c)<|sw 0 J (pcs 0 0 true) (wA J)<|sP (.bool false)<|sG<|Sy.ret<|Sy.then_ret ?_
 exact Sy.ret2 (v:=pv 0 0 true) (u:=.bool false) rfl (.inl (Res.cell (ty':=57) g0 0 (pcs 0 0 true) _ kR kR Am J kR kR)) (.inl (show _=_ by kernel_rfl))
theorem Up (w:World) (ga oa cb:Nat) (o0 o1 o2 o3 o4 o5 o6 o7 o8 o9 o10 o11 o12 o13 o14 o15 o16 o17 o18 o19 o20 o21 o22 o23 o24 o25 o26 o27 o28 o29 o30 o31 o32:UInt8) (hs:SrcL w ga oa (o0::o1::o2::[o3,o4,o5,o6,o7,o8,o9,o10,o11,o12,o13,o14,o15,o16,o17,o18,o19,o20,o21,o22,o23,o24,o25,o26,o27,o28,o29,o30,o31,o32])) (hcap:33≤cb):AL 195 #[.slice (some ⟨ga,oa,none⟩) 33 cb] w (Ai w (.tuple #[ptv (decP (o0::o1::o2::[o3,o4,o5,o6,o7,o8,o9,o10,o11,o12,o13,o14,o15,o16,o17,o18,o19,o20,o21,o22,o23,o24,o25,o26,o27,o28,o29,o30,o31,o32])),.bool (decOk (o0::o1::o2::[o3,o4,o5,o6,o7,o8,o9,o10,o11,o12,o13,o14,o15,o16,o17,o18,o19,o20,o21,o22,o23,o24,o25,o26,o27,o28,o29,o30,o31,o32]))])):=by
 have hl:List.length ((o1::o2::[o3,o4,o5,o6,o7,o8,o9,o10,o11,o12,o13,o14,o15,o16,o17,o18,o19,o20,o21,o22,o23,o24,o25,o26,o27,o28,o29,o30,o31,o32]):List UInt8)=32:=rfl
 obtain ⟨tl,htl⟩:∃ t:Ak,t=(o1::o2::[o3,o4,o5,o6,o7,o8,o9,o10,o11,o12,o13,o14,o15,o16,o17,o18,o19,o20,o21,o22,o23,o24,o25,o26,o27,o28,o29,o30,o31,o32]):=⟨_,rfl⟩
 obtain ⟨px,py,pi,lpx,lpy,ep,dp,rp⟩:=Hn (Ar tl) (DM tl)
 obtain ⟨nx,ny,ni,lnx,lny,en,dn,rn⟩:=Hn (Ec.neg (Ar tl)) (Ec.On.neg (DM tl))
 obtain ⟨kb,hkb⟩:=xE (Bf tl)
 have cL:∀ w,AL 230 #[.agg ((o1::o2::[o3,o4,o5,o6,o7,o8,o9,o10,o11,o12,o13,o14,o15,o16,o17,o18,o19,o20,o21,o22,o23,o24,o25,o26,o27,o28,o29,o30,o31,o32]).map bv).toArray] w (Ai w (.tuple #[pv px py pi,.bool kb])):=λw=>by
  have h:=Qm w _ hl
  rw [← htl,ep, ← hkb] at h
  rw [← htl]
  exact h
 have cN:∀ w,AL 231 #[pv px py pi] w (Ai w (pv nx ny ni)):=λw=>by
  have h:=Sa w px py pi lpx lpy
  rw [dp,en] at h
  exact h
 have cE:∀ w,AL 194 #[pv px py pi] w (Ai w (.agg ((encS (Ar tl)).map bv).toArray)):=λw=>by
  have h:=enc_any w px py pi lpx lpy
  rw [dp] at h
  exact h
 have cF:∀ w,AL 194 #[pv nx ny ni] w (Ai w (.agg ((encS (Ec.neg (Ar tl))).map bv).toArray)):=λw=>by
  have h:=enc_any w nx ny ni lnx lny
  rw [dn] at h
  exact h
 refine Sy.enter (args:=[.slice (some ⟨ga,oa,none⟩) 33 cb]) Tryz.func195 J kL<|sC<|sM 57 (pcs 0 0 false) (λg0=>?_)
 refine sP (.bool false)<|sG<|Sy.seq<|sC<|sP (.slice (some ⟨ga,oa,none⟩) 33 cb)<|sP (.int .i64 33)<|sP (.bool false)<|sG<|sU<|Sy.skip<|sB<|sP (.slice (some ⟨ga,oa,none⟩) 33 cb)<|sS (.slice (some ⟨ga,oa+1,none⟩) 32 (cb - 1)) (Quiet.pure (λw=>Oy 27 _ _ ga oa 33 cb 1 J kR kR kR kF dZ hcap w))<|sS (pT ga (oa+1)) (Quiet.pure (λw=>Fv 210 _ _ (some ⟨ga,oa+1,none⟩) 32 32 (cb - 1) rfl kR FV dZ w))<|sS (.agg ((o1::o2::[o3,o4,o5,o6,o7,o8,o9,o10,o11,o12,o13,o14,o15,o16,o17,o18,o19,o20,o21,o22,o23,o24,o25,o26,o27,o28,o29,o30,o31,o32]).map bv).toArray) (Quiet.there ga (oa+1) 32 210 (bv o1::bv o2::[bv o3,bv o4,bv o5,bv o6,bv o7,bv o8,bv o9,bv o10,bv o11,bv o12,bv o13,bv o14,bv o15,bv o16,bv o17,bv o18,bv o19,bv o20,bv o21,bv o22,bv o23,bv o24,bv o25,bv o26,bv o27,bv o28,bv o29,bv o30,bv o31,bv o32]) _ _ J kR hs.1 (hs.2 1 _ kR) FV J kR J _ kR)<|sS (.tuple #[pv px py pi,.bool kb]) (qf cL)<|sP (.tuple #[pv px py pi,.bool kb])<|sP (pv px py pi)<|sP (.bool kb)<|sM 57 (pcs 0 0 false) (λg1=>?_)
 refine sw 1 J (pcs px py pi) (wA J)<|sP (.bool kb)<|sG<|Sy.seq<|sC<|sP (.slice (some ⟨ga,oa,none⟩) 33 cb)<|sS (pT ga oa) (Quiet.pure (λw=>Ii 27 _ _ ga oa 33 cb 0 J kR kR kR kF dZ w))<|sS (bv o0) (Quiet.thereOne ga (oa+0) 5 _ _ J kR hs.1 _ (Mp hs 0 _ kR) uy5 J) ?_
 obtain ⟨b1,hb1⟩:=xE (decide (o0=UInt8.ofNat 3))
 refine sS (.bool b1) (Quiet.pure (λw=>by rw [hb1]; exact Un w _ _ _ _ _ 3 dZ J J J))<|sG ?_
 cases b1
 ·refine sU<|Sy.skip<|Sy.then_<|Sy.seq<|Sy.seq ?_
  refine Sy.regionD (λj=>false) kR<|sD 0 J (pv px py pi) (qk 1 0 9 J J Am)<|sD 1 J (.agg ((encS (Ar tl)).map bv).toArray) (qf cE)<|sZ 2 J (.slice (some ⟨ga,oa,none⟩) 33 cb)<|sD 3 J (pT ga oa) (Quiet.pure (λw=>Fv 332 _ _ (some ⟨ga,oa,none⟩) 33 33 cb rfl kR Em dZ w))<|sD 4 J (.agg ((o0::o1::o2::[o3,o4,o5,o6,o7,o8,o9,o10,o11,o12,o13,o14,o15,o16,o17,o18,o19,o20,o21,o22,o23,o24,o25,o26,o27,o28,o29,o30,o31,o32]).map bv).toArray) (Quiet.there ga oa 33 332 (bv o0::bv o1::bv o2::[bv o3,bv o4,bv o5,bv o6,bv o7,bv o8,bv o9,bv o10,bv o11,bv o12,bv o13,bv o14,bv o15,bv o16,bv o17,bv o18,bv o19,bv o20,bv o21,bv o22,bv o23,bv o24,bv o25,bv o26,bv o27,bv o28,bv o29,bv o30,bv o31,bv o32]) _ _ J kR hs.1 (hs.2 0 _ kR) Em J kR J _ kR) ?_
  obtain ⟨b2,hb2⟩:=xE (decide ((encS (Ar tl))≠(o0::o1::o2::[o3,o4,o5,o6,o7,o8,o9,o10,o11,o12,o13,o14,o15,o16,o17,o18,o19,o20,o21,o22,o23,o24,o25,o26,o27,o28,o29,o30,o31,o32])))
  refine sD 5 J (.bool b2) (Quiet.pure (λw=>by rw [hb2]; exact QX w _ _ _ _ (encS (Ar tl)) (o0::o1::o2::[o3,o4,o5,o6,o7,o8,o9,o10,o11,o12,o13,o14,o15,o16,o17,o18,o19,o20,o21,o22,o23,o24,o25,o26,o27,o28,o29,o30,o31,o32]) (encS_length _) rfl J J J))<|sI ?_
  cases b2
  ·refine sU<|Sy.skip<|sB ?_
   refine sS (pv px py pi) (qk 1 0 9 J J Am)<|sw 0 J (pcs px py pi) (wA J)<|sP (.bool true)<|sG<|Sy.ret ?_
   rw [show (.tuple #[ptv (decP (o0::o1::o2::[o3,o4,o5,o6,o7,o8,o9,o10,o11,o12,o13,o14,o15,o16,o17,o18,o19,o20,o21,o22,o23,o24,o25,o26,o27,o28,o29,o30,o31,o32])),.bool (decOk (o0::o1::o2::[o3,o4,o5,o6,o7,o8,o9,o10,o11,o12,o13,o14,o15,o16,o17,o18,o19,o20,o21,o22,o23,o24,o25,o26,o27,o28,o29,o30,o31,o32]))]:Value)=.tuple #[pv px py pi,.bool true] from by
    have hc:Cz (o0::o1::o2::[o3,o4,o5,o6,o7,o8,o9,o10,o11,o12,o13,o14,o15,o16,o17,o18,o19,o20,o21,o22,o23,o24,o25,o26,o27,o28,o29,o30,o31,o32])=Ar tl:=by
     rw [htl]; exact Nn _ _ (of_decide_eq_false hb1.symm)
    have hd:decOk (o0::o1::o2::[o3,o4,o5,o6,o7,o8,o9,o10,o11,o12,o13,o14,o15,o16,o17,o18,o19,o20,o21,o22,o23,o24,o25,o26,o27,o28,o29,o30,o31,o32])=true:=by unfold decOk; rw [hc]; exact decide_eq_true ⟨rfl,Decidable.of_not_not (of_decide_eq_false hb2.symm)⟩
    rw [hd,(decP_ok hd).1,hc,ep]]
   exact Sy.ret2 (v:=pv px py pi) (u:=.bool true) rfl (.inl (Res.cell (ty':=57) g0 0 (pcs px py pi) _ kR kR Am J kR kR)) (.inl (show _=_ by kernel_rfl))
  ·refine sT<|sC ?_
   refine sS (pv 0 0 true) (qf zero_c)<|sw 0 J (pcs 0 0 true) (wA J)<|sP (.bool false)<|sG<|Sy.ret<|Sy.then_ret ?_
   rw [show (.tuple #[ptv (decP (o0::o1::o2::[o3,o4,o5,o6,o7,o8,o9,o10,o11,o12,o13,o14,o15,o16,o17,o18,o19,o20,o21,o22,o23,o24,o25,o26,o27,o28,o29,o30,o31,o32])),.bool (decOk (o0::o1::o2::[o3,o4,o5,o6,o7,o8,o9,o10,o11,o12,o13,o14,o15,o16,o17,o18,o19,o20,o21,o22,o23,o24,o25,o26,o27,o28,o29,o30,o31,o32]))]:Value)=.tuple #[pv 0 0 true,.bool false] from by
    have hc:Cz (o0::o1::o2::[o3,o4,o5,o6,o7,o8,o9,o10,o11,o12,o13,o14,o15,o16,o17,o18,o19,o20,o21,o22,o23,o24,o25,o26,o27,o28,o29,o30,o31,o32])=Ar tl:=by
     rw [htl]; exact Nn _ _ (of_decide_eq_false hb1.symm)
    have hd:decOk (o0::o1::o2::[o3,o4,o5,o6,o7,o8,o9,o10,o11,o12,o13,o14,o15,o16,o17,o18,o19,o20,o21,o22,o23,o24,o25,o26,o27,o28,o29,o30,o31,o32])=false:=by unfold decOk; rw [hc]; exact decide_eq_false (λk=>of_decide_eq_true hb2.symm k.2)
    rw [hd,GW hd]; rfl]
   exact Sy.ret2 (v:=pv 0 0 true) (u:=.bool false) rfl (.inl (Res.cell (ty':=57) g0 0 (pcs 0 0 true) _ kR kR Am J kR kR)) (.inl (show _=_ by kernel_rfl))
 ·refine sT<|Sy.region ?_
  refine sS (pv px py pi) (qk 1 0 9 J J Am)<|sS (pv nx ny ni) (qf cN)<|sw 1 J (pcs nx ny ni) (wA J)<|sG<|Sy.seq<|Sy.seq<|Sy.regionD (λj=>false) kR<|sD 0 J (pv nx ny ni) (qk 1 0 9 J J Am)<|sD 1 J (.agg ((encS (Ec.neg (Ar tl))).map bv).toArray) (qf cF)<|sZ 2 J (.slice (some ⟨ga,oa,none⟩) 33 cb)<|sD 3 J (pT ga oa) (Quiet.pure (λw=>Fv 332 _ _ (some ⟨ga,oa,none⟩) 33 33 cb rfl kR Em dZ w))<|sD 4 J (.agg ((o0::o1::o2::[o3,o4,o5,o6,o7,o8,o9,o10,o11,o12,o13,o14,o15,o16,o17,o18,o19,o20,o21,o22,o23,o24,o25,o26,o27,o28,o29,o30,o31,o32]).map bv).toArray) (Quiet.there ga oa 33 332 (bv o0::bv o1::bv o2::[bv o3,bv o4,bv o5,bv o6,bv o7,bv o8,bv o9,bv o10,bv o11,bv o12,bv o13,bv o14,bv o15,bv o16,bv o17,bv o18,bv o19,bv o20,bv o21,bv o22,bv o23,bv o24,bv o25,bv o26,bv o27,bv o28,bv o29,bv o30,bv o31,bv o32]) _ _ J kR hs.1 (hs.2 0 _ kR) Em J kR J _ kR) ?_
  obtain ⟨b3,hb3⟩:=xE (decide ((encS (Ec.neg (Ar tl)))≠(o0::o1::o2::[o3,o4,o5,o6,o7,o8,o9,o10,o11,o12,o13,o14,o15,o16,o17,o18,o19,o20,o21,o22,o23,o24,o25,o26,o27,o28,o29,o30,o31,o32])))
  refine sD 5 J (.bool b3) (Quiet.pure (λw=>by rw [hb3]; exact QX w _ _ _ _ (encS (Ec.neg (Ar tl))) (o0::o1::o2::[o3,o4,o5,o6,o7,o8,o9,o10,o11,o12,o13,o14,o15,o16,o17,o18,o19,o20,o21,o22,o23,o24,o25,o26,o27,o28,o29,o30,o31,o32]) (encS_length _) rfl J J J))<|sI ?_
  cases b3
  ·refine sU<|Sy.skip<|sB ?_
   refine sS (pv nx ny ni) (qk 1 0 9 J J Am)<|sw 0 J (pcs nx ny ni) (wA J)<|sP (.bool true)<|sG<|Sy.ret ?_
   rw [show (.tuple #[ptv (decP (o0::o1::o2::[o3,o4,o5,o6,o7,o8,o9,o10,o11,o12,o13,o14,o15,o16,o17,o18,o19,o20,o21,o22,o23,o24,o25,o26,o27,o28,o29,o30,o31,o32])),.bool (decOk (o0::o1::o2::[o3,o4,o5,o6,o7,o8,o9,o10,o11,o12,o13,o14,o15,o16,o17,o18,o19,o20,o21,o22,o23,o24,o25,o26,o27,o28,o29,o30,o31,o32]))]:Value)=.tuple #[pv nx ny ni,.bool true] from by
    have hc:Cz (o0::o1::o2::[o3,o4,o5,o6,o7,o8,o9,o10,o11,o12,o13,o14,o15,o16,o17,o18,o19,o20,o21,o22,o23,o24,o25,o26,o27,o28,o29,o30,o31,o32])=Ec.neg (Ar tl):=by
     rw [htl,show o0=3 from of_decide_eq_true hb1.symm]; exact RZ _
    have hd:decOk (o0::o1::o2::[o3,o4,o5,o6,o7,o8,o9,o10,o11,o12,o13,o14,o15,o16,o17,o18,o19,o20,o21,o22,o23,o24,o25,o26,o27,o28,o29,o30,o31,o32])=true:=by unfold decOk; rw [hc]; exact decide_eq_true ⟨rfl,Decidable.of_not_not (of_decide_eq_false hb3.symm)⟩
    rw [hd,(decP_ok hd).1,hc,en]]
   exact Sy.ret2 (v:=pv nx ny ni) (u:=.bool true) rfl (.inl (Res.cell (ty':=57) g0 0 (pcs nx ny ni) _ kR kR Am J kR kR)) (.inl (show _=_ by kernel_rfl))
  ·refine sT<|sC ?_
   refine sS (pv 0 0 true) (qf zero_c)<|sw 0 J (pcs 0 0 true) (wA J)<|sP (.bool false)<|sG<|Sy.ret<|Sy.then_ret ?_
   rw [show (.tuple #[ptv (decP (o0::o1::o2::[o3,o4,o5,o6,o7,o8,o9,o10,o11,o12,o13,o14,o15,o16,o17,o18,o19,o20,o21,o22,o23,o24,o25,o26,o27,o28,o29,o30,o31,o32])),.bool (decOk (o0::o1::o2::[o3,o4,o5,o6,o7,o8,o9,o10,o11,o12,o13,o14,o15,o16,o17,o18,o19,o20,o21,o22,o23,o24,o25,o26,o27,o28,o29,o30,o31,o32]))]:Value)=.tuple #[pv 0 0 true,.bool false] from by
    have hc:Cz (o0::o1::o2::[o3,o4,o5,o6,o7,o8,o9,o10,o11,o12,o13,o14,o15,o16,o17,o18,o19,o20,o21,o22,o23,o24,o25,o26,o27,o28,o29,o30,o31,o32])=Ec.neg (Ar tl):=by
     rw [htl,show o0=3 from of_decide_eq_true hb1.symm]; exact RZ _
    have hd:decOk (o0::o1::o2::[o3,o4,o5,o6,o7,o8,o9,o10,o11,o12,o13,o14,o15,o16,o17,o18,o19,o20,o21,o22,o23,o24,o25,o26,o27,o28,o29,o30,o31,o32])=false:=by unfold decOk; rw [hc]; exact decide_eq_false (λk=>of_decide_eq_true hb3.symm k.2)
    rw [hd,GW hd]; rfl]
   exact Sy.ret2 (v:=pv 0 0 true) (u:=.bool false) rfl (.inl (Res.cell (ty':=57) g0 0 (pcs 0 0 true) _ kR kR Am J kR kR)) (.inl (show _=_ by kernel_rfl))
theorem decode_any (w:World) (A:Option Addr) (b:Ak) (n c:Nat) (hn:b.length=n) (hs:Src w A b) (hc:n≤c):Calls Tryz.prog 195 #[.slice A n c] w (Ai w (.tuple #[ptv (decP b),.bool (decOk b)])):=by
 by_cases h:n=33
 ·subst h
  obtain ⟨ga,oa,rfl,hl,hcell⟩:=hs (by intro e; rw [e] at hn; cases hn)
  obtain ⟨o0,o1,o2,o3,o4,o5,o6,o7,o8,o9,o10,o11,o12,o13,o14,o15,o16,o17,o18,o19,o20,o21,o22,o23,o24,o25,o26,o27,o28,o29,o30,o31,o32,rfl⟩:=Ue b hn
  exact Up w ga oa c o0 o1 o2 o3 o4 o5 o6 o7 o8 o9 o10 o11 o12 o13 o14 o15 o16 o17 o18 o19 o20 o21 o22 o23 o24 o25 o26 o27 o28 o29 o30 o31 o32 (SrcL.of hl hcell) hc
 ·have hd:decOk b=false:=by unfold decOk; exact decide_eq_false (λk=>h (hn ▸ k.1))
  rw [hd,GW hd]
  exact S_ w A n c h
theorem setAll_all:∀ (vs:List Value) (o:Nat) (cs:Array Value),o+vs.length=cs.size→B' cs o vs=(cs.toList.take o++vs).toArray
 | [],o,cs,h=>by
  rw [List.append_nil,List.take_of_length_le (by simp at h ⊢; omega)]
  simp [B']
 | v::r,o,cs,h=>by
  have hlt:o<cs.size:=by simp at h; omega
  rw [B',setAll_all r (o+1) _ (by simp at h ⊢; omega)]
  congr 1
  rw [Array.toList_setIfInBounds,List.take_set,List.take_succ_eq_append_getElem (by simpa using hlt),List.set_append_right _ _ (by rw [List.length_take]; exact Nat.min_le_left _ _)]
  have:(cs.toList.take o).length=o:=by simp; omega
  simp [this]
end Cu
end
section
namespace Sy
open Go.RowKit
section
variable {P:Program} {w0:Base} {n:Nat} {F:AJ} {L:AA} {o:Oper}
theorem BJ (t e:TypeId) (x kx:Operand) (A:Option Addr) (g f len cap k s:Nat) (ki:IntKind) (hA:A=some ⟨g,f,none⟩) (ho:o.op=.indexAddr t x kx) (hx:evF F x=.slice A len cap) (hkx:evF F kx=.int ki (k:Int)) (ht:P.underlying t=some (.slice e)) (hsz:∀ w,(sizeOf e).run P w=.ok s w) (hk:k<len) (w:World) :
  (execOp (evF F) o).run P w=.ok (.value (.pointer (some ⟨g,f+k*s,none⟩))) w:=by
 subst hA
 exact S5 t e x kx g f len cap k s ki ho hx hkx ht hsz hk w
theorem Writes.row {g:Nat} {t:TypeId} {cs:Array Value} (ty:TypeId) (c:List Value) (m:Nat) (x y:Operand) (ho:o.op=.store ty x y) (hx:evF F x=pT g 0) (hy:evF F y=.agg c.toArray) (hi:(P.info? ty).map (·.size)=some m) (hc:c.length=m) (hs:cs.size=m) (h1:∀ u∈c,u.oneCell'=true):Writes P F o g t cs c.toArray :=
 Writes.store 0 ty c.toArray x y ho hx hy (by rw [hi,List.size_toArray,hc]) (by rw [List.size_toArray,hc,hs,Nat.zero_add]; exact Nat.le_refl _) (by rw [List.all_toArray,List.all_eq_true]; exact h1) (by
  have:=Cu.setAll_all c 0 cs om
  simpa using this)
theorem Quiet.mid (i g f k:Nat) (t ty:TypeId) (cs m:List Value) (d:TypeDesc) (x:Operand) (ho:o.op=.load ty x) (hx:evF F x=pT g f) (hL:L[i]? = some (g,t,cs.toArray)) (hu:P.underlying ty=some d) (hd:d.isRow=true) (hi:(P.info? ty).map (·.size)=some k) (hm:(cs.drop f).take k=m) (hk:f+k≤cs.length):Quiet P w0 F L o (.agg m.toArray) :=
 Quiet.load i g f k t ty cs.toArray d x ho hx hL hu hd hi _ (by rw [← hm]) (by simpa using hk)
end
structure Slc where
 v:Value
 bl:AA
structure Slc.Is (r:Slc) (e:TypeId) (sz:Nat) (xs:List (List Value)):Prop where
 len:∀ x∈xs,x.length=sz
 one:∀ x∈xs, ∀ u∈x,u.oneCell'=true
 row:(xs=[]∧r=⟨.slice none 0 0,[]⟩)∨∃ g cap sp,r=⟨.slice (pA g) xs.length cap,[(g,e,(xs.flatten++sp).toArray)]⟩∧sp.length+xs.length*sz=cap*sz∧xs.length≤cap∧cap≤maxLen
theorem Slc.Is.nil (e:TypeId) (sz:Nat):Slc.Is ⟨.slice none 0 0,[]⟩ e sz []:=⟨λ_ h=>(by cases h),λ_ h=>(by cases h),.inl ⟨rfl,rfl⟩⟩
theorem FI {sz:Nat}:∀ {xs:List (List Value)},(∀ x∈xs,x.length=sz)→xs.flatten.length=xs.length*sz
 | [],_=>by simp
 | x::xs,h=>by
  rw [List.flatten_cons,List.length_append,h x (List.mem_cons_self ..),FI λy hy=>h y (List.mem_cons_of_mem _ hy),List.length_cons,Nat.add_mul,Nat.one_mul,Nat.add_comm]
theorem K_ {sz:Nat}:∀ {xs:List (List Value)} (sp:List Value),(∀ x∈xs,x.length=sz)→∀ (j:Nat) (x:List Value),xs[j]? = some x→((xs.flatten++sp).drop (j*sz)).take sz=x
 | [],_,_,_,_,h=>by simp at h
 | y::xs,sp,h,0,x,hx=>by
  have hy:=h y (List.mem_cons_self ..)
  simp only [List.getElem?_cons_zero,Option.some.injEq] at hx
  subst hx
  rw [Nat.zero_mul,List.drop_zero,List.flatten_cons,List.append_assoc,List.take_append_of_le_length om,List.take_of_length_le om]
 | y::xs,sp,h,j+1,x,hx=>by
  have hy:=h y (List.mem_cons_self ..)
  rw [List.getElem?_cons_succ] at hx
  have ih:=K_ sp (λz hz=>h z (List.mem_cons_of_mem _ hz)) j x hx
  rw [List.flatten_cons,List.append_assoc,List.drop_append,hy,List.drop_of_length_le (by rw [hy,Nat.add_mul,Nat.one_mul]; omega),List.nil_append,Nat.add_mul,Nat.one_mul,Nat.add_sub_cancel]
  exact ih
section
variable {P:Program} {w0:Base} {n:Nat} {Q:Exit→Act→World→Prop} {F:AJ} {pre T:AA} {ops:Array Oper} {o:Oper} {l:List Oper}
theorem appendR (hg:B4 ops n F o=true) (ts e:TypeId) (inf:TypeInfo) (z:Value) (sz by_:Nat) (ht:P.underlying ts=some (.slice e)) (hinf:P.info? e=some inf) (hz:inf.zero=some z) (hs1:inf.size=sz) (hb1:inf.bytes=by_) (hzs:z.cells.size=sz) (h0:0<sz)
  (s x:Operand) (ho:o.op=.call { callee:=.builtin .append,args:=#[s,x],argTypes:=#[ts,ts] })
  {r:Slc} {xs:List (List Value)} (hr:r.Is e sz xs) (hs:evF F s=r.v) (y:List Value) (hy:y.length=sz) (hy1:∀ u∈y,u.oneCell'=true)
  (j gx:Nat) (tx:TypeId) (hx:evF F x=.slice (pA gx) 1 1) (hLx:(pre++(r.bl++T))[j]? = some (gx,tx,y.toArray)) (hsmall:(xs.length+1)*by_≤140737488355328) (h63:xs.length+1≤maxLen)
  (h:∀ r':Slc,r'.Is e sz (xs++[y])→wpS P w0 n ops Q (Bp F o.dst r'.v) (pre++(r'.bl++T)) l):wpS P w0 n ops Q F (pre++(r.bl++T)) (o::l):=by
 have hfrom:From w0 (pre++(r.bl++T)) (pA gx) y:=From.blk hLx (by simp)
 have hlen:∀ u∈xs++[y],u.length=sz:=λu hu=>by
  rcases List.mem_append.1 hu with hu | hu
  ·exact hr.len u hu
  ·rw [List.mem_singleton.1 hu]; exact hy
 have hone:∀ u∈xs++[y], ∀ v∈u,v.oneCell'=true:=λu hu=>by
  rcases List.mem_append.1 hu with hu | hu
  ·exact hr.one u hu
  ·rw [List.mem_singleton.1 hu]; exact hy1
 rcases hr.row with ⟨rfl,rfl⟩ | ⟨g,cap,sp,rfl,q1,q2,q3⟩
 ·refine Ir hg ts e inf z sz by_ ht hinf hz hs1 hb1 hzs h0 s x ho hs (pA gx) 1 1 y hx hfrom om dZ hy1 (by simpa using hsmall) (by simpa using h63) (λg' cap' sp' h1 h2 h3=>?_)
  have hq:=h ⟨.slice (some ⟨g',0,none⟩) 1 cap',[(g',e,(y++sp').toArray)]⟩ ⟨hlen,hone,.inr ⟨g',cap',sp',by simp,by simpa using h1,by simpa using h2,h3⟩⟩
  exact permS (by
   rw [List.nil_append,List.append_assoc]
   exact (List.perm_append_comm (l₁:=T) (l₂:=[(g',e,(y++sp').toArray)])).append_left pre) hq
 ·have hi:(pre++([(g,e,(xs.flatten++sp).toArray)]++T))[pre.length]? = some (g,e,(xs.flatten++sp).toArray):=by
   rw [List.getElem?_append_right (Nat.le_refl _),Nat.sub_self]
   rfl
  refine Nq hg ts e inf z sz by_ ht hinf hz hs1 hb1 hzs h0 s x ho pre.length g xs.length cap xs.flatten sp hs hi (FI hr.len) q1 q3 (pA gx) 1 1 y hx hfrom om (Nat.le_refl _) hy1 hsmall h63 (λg' cap' sp' h1 h2 h3=>?_)
  have hq:=h ⟨.slice (some ⟨g',0,none⟩) (xs.length+1) cap',[(g',e,(xs.flatten++y++sp').toArray)]⟩ ⟨hlen,hone,.inr ⟨g',cap',sp',by simp,by simpa using h1,by simpa using h2,h3⟩⟩
  have he:(pre++([(g,e,(xs.flatten++sp).toArray)]++T)).set pre.length (g',e,(xs.flatten++y++sp').toArray)=pre++([(g',e,(xs.flatten++y++sp').toArray)]++T):=by
   rw [List.set_append_right _ _ (Nat.le_refl _),Nat.sub_self]
   rfl
  rw [he]
  exact hq
theorem movT {b:Nat×TypeId×Array Value} (h:wpS P w0 n ops Q F ((pre++[b])++T) l):wpS P w0 n ops Q F ((pre++T)++[b]) l :=
 permS (by
  rw [List.append_assoc,List.append_assoc]
  exact (List.perm_append_comm (l₁:=T) (l₂:=[b])).append_left pre) h
theorem setT {i:Nat} {b:Nat×TypeId×Array Value} (h:wpS P w0 n ops Q F ((pre.set i b)++T) l) (hi:Nat.ble (i+1) pre.length=true:=by kernel_rfl):wpS P w0 n ops Q F ((pre++T).set i b) l:=by
 rw [List.set_append_left _ _ (Nat.le_of_ble_eq_true hi)]
 exact h
theorem loopT {L:AA} {Y:Type} {c:Code} (N:Nat) (FF:Nat→Y→AJ) (LL:Nat→Y→AA) (H:Nat→Y→Prop) (x0:Y) (h0:H 0 x0) (hF:∀ p∈FF 0 x0,F.lookup p.1=some p.2) (hL:∀ w,St w0 w L→St w0 w (LL 0 x0))
  (hr:∀ k x,k≤N→H k x→wpC P w0 n (Exit.then (La w0 n N FF LL H k) Q) (FF k x) (LL k x) c):wpC P w0 n Q F L (.loop c) :=
 Qh N (λk a w=>∃ x,H k x∧Fr w0.ds a n (FF k x)∧St w0 w (LL k x)) (λ_ w ha hw=>⟨x0,h0,ha.all hF,hL w hw⟩)
  λk hk a w ⟨x,hx,ha,hw⟩=>hr k x hk hx a w ha hw
theorem againT {L:AA} {Y:Type} {N:Nat} {FF:Nat→Y→AJ} {LL:Nat→Y→AA} {H:Nat→Y→Prop} {k:Nat} {R:Exit→Act→World→Prop} (y:Y) (hk:k<N) (hy:H (k+1) y) (hF:∀ p∈FF (k+1) y,F.lookup p.1=some p.2) (hL:∀ w,St w0 w L→St w0 w (LL (k+1) y)) :
  X w0 n (Exit.then (La w0 n N FF LL H k) R) F L .normal:=λ_ w ha hw=>⟨hk,y,hy,ha.all hF,hL w hw⟩
theorem Slc.Is.cells {r:Slc} {e:TypeId} {sz:Nat} {xs:List (List Value)} (h:r.Is e sz xs):r.v.cells=#[r.v]∧r.v.oneCell'=true:=by
 rcases h.row with ⟨rfl,rfl⟩ | ⟨g,cap,sp,rfl,_⟩ <;> exact ⟨rfl,rfl⟩
end
theorem Ig:∀ (c:List Value) (off k:Nat) (cs:Array Value),(c.zipIdx k).foldl (λcs x=>cs.setIfInBounds (off+x.2) x.1) cs=B' cs (off+k) c
 | [],_,_,_=>rfl
 | v::c,off,k,cs=>by
  rw [List.zipIdx_cons,List.foldl_cons,Ig c off (k+1)]
  rfl
theorem Q8 {place:Nat→Option (Nat×Nat)} {cs:Array Value} {c:List Value} {n:Nat} (hp:place 0=some (0,n)) (hc:c.length=n) (hs:cs.size=n):Instr.fill place cs [(0,.agg c.toArray)]=some c.toArray:=by
 unfold Instr.fill
 rw [hp]
 simp only [Value.cells,List.size_toArray,hc,hs,Nat.zero_add,ne_eq,not_true_eq_false,decide_false,Bool.false_or]
 rw [if_neg (by simp)]
 unfold Instr.fill
 have h1:c.toArray.zipIdx.foldl (λcs (x:Value×Nat)=>cs.setIfInBounds (0+x.2) x.1) cs=B' cs (0+0) c:=by
  rw [← Ig c 0 0 cs, ← Array.foldl_toList,Array.toList_zipIdx]
 have h2:=Cu.setAll_all c 0 cs om
 simp only [Nat.zero_add] at h1
 rw [h1,h2]
 simp
section
variable {P:Program} {w0:Base} {F:AJ} {L:AA} {o:Oper}
theorem Makes.one (t e:TypeId) (ie:TypeInfo) (z:Value) (s:Nat) (x:Operand) (c:List Value) (ho:o.op=.buildSlice t 1 #[(0,x)]) (hx:evF F x=.agg c.toArray) (ht:P.underlying t=some (.slice e)) (hi:P.info? e=some ie) (hz:ie.zero=some z) (hs:ie.size=s) (hc:c.length=s) (h0:0<s) (hb:s≤16777216) :
  Makes P F o e c.toArray (λg=>.slice (pA g) 1 1):=λw=>by
 subst hs
 have hr:=run_buildSlice (P:=P) w t e 1 #[(0,.agg c.toArray)] c.toArray ie z ht hi hz om om (Q8 (by simp) hc (by simp))
 unfold execOp
 simp only [ho,Sem.run_bind,List.map_toArray,List.map_cons,List.map_nil,hx,hr,Result.andThen_ok,Sem.run_pure]
theorem Ow (t:TypeId) (x hx':Operand) (g f len cap hi s:Nat) (kh:IntKind) (ho:o.op=.slice t x none (some hx') none) (hx:evF F x=.slice (some ⟨g,f,none⟩) len cap) (hh:evF F hx'=.int kh (hi:Int)) (ht:P.underlying t=some (.slice (P.elem t))) (hsz:∀ w,(sizeOf (P.elem t)).run P w=.ok s w) (h1:hi≤cap) (w:World) :
  (execOp (evF F) o).run P w=.ok (.value (.slice (some ⟨g,f,none⟩) hi cap)) w:=by
 have e:(Instr.sliceAt t (.slice (some ⟨g,f,none⟩) len cap) none (some (.int kh (hi:Int))) none).run P w=.ok (.slice (some ⟨g,f,none⟩) hi cap) w:=by
  rw [run_sliceAt_slice w t _ _ _ _ ht]
  simp [Instr.slice,run_underlying ht,Instr.sliceBounds,Instr.sliceBound,asIntOf,h1,hsz,Result.andThen,Addr.add]
 unfold execOp
 simp only [ho,hx,hh,Option.map_some,Option.map_none,e,Sem.run_bind,Sem.run_pure,Result.andThen_ok]
end
section
variable {P:Program} {w0:Base} {n:Nat} {Q:Exit→Act→World→Prop} {F:AJ} {L M:AA} {ops:Array Oper} {ex:Nat→Bool} {fuel:Nat} {listed:Array Bool} {pre T:AA}
theorem VQ (p:L.Perm M) (h:wpD P w0 n ops Q ex F M fuel listed):wpD P w0 n ops Q ex F L fuel listed:=λa w ha hw=>h a w ha (hw.perm p)
theorem mov_perm {b:Nat×TypeId×Array Value}:((pre++T)++[b]).Perm ((pre++[b])++T):=by
 rw [List.append_assoc,List.append_assoc]
 exact (List.perm_append_comm (l₁:=T) (l₂:=[b])).append_left pre
theorem movTD {b:Nat×TypeId×Array Value} (h:wpD P w0 n ops Q ex F ((pre++[b])++T) fuel listed):wpD P w0 n ops Q ex F ((pre++T)++[b]) fuel listed:=VQ mov_perm h
theorem setTD {i:Nat} {b:Nat×TypeId×Array Value} (h:wpD P w0 n ops Q ex F ((pre.set i b)++T) fuel listed) (hi:Nat.ble (i+1) pre.length=true:=by kernel_rfl):wpD P w0 n ops Q ex F ((pre++T).set i b) fuel listed:=by
 rw [List.set_append_left _ _ (Nat.le_of_ble_eq_true hi)]
 exact h
def QL (Q:Exit→Act→World→Prop) (K:Act→World→Prop):Exit→Act→World→Prop
 | .normal=>K
 | .panic c=>Q (.panic c)
 | _=>λ_ _=>False
theorem Ml {o:Oper} {a:Act} {w:World} {K' K:Act→World→Prop} (h:o.wp P a w K (QL Q K')):o.wp P a w K Q:=by
 unfold Oper.wp at *
 generalize (execOp a.eval o).run P w=r at *
 cases r with
 | ok x w' =>
  cases x <;> simp only [Oper.upon] at h ⊢ <;>
   first
    | exact h
    | exact Calls.mono h (λe w'' he=>by cases e <;> first | exact he | (obtain ⟨_,_,q⟩:=he; exact q.elim))
 | halt x w'=>cases x <;> simp only [Oper.upon] at h ⊢ <;> exact h
theorem soleD (k:Nat) {oi:Oper} (hi0:ops.toList[k]? = some oi) (h:∀ Q',(∀ F' L',wpD P w0 n ops Q ex F' L' fuel (listed.setIfInBounds k true)→wpS P w0 n ops Q' F' L' [])→wpS P w0 n ops Q' F L [oi])
  (hg:Cl ops F oi=some true:=by kernel_rfl) (hr:Region.ready .any ops listed=[k]:=by kernel_rfl) (hex:ex k=true:=by rfl):wpD P w0 n ops Q ex F L (fuel+1) listed:=λa w ha hw =>
 Au k hi0 hr (ha.wanted hg) λw1 h1 K hK=>by
  have q:=h (QL Q K) (λF' L' hd a' w' ha' hw'=>wpList_nil (hK _ _ (λe=>by rw [hex] at e; cases e) (hd a' w' ha' hw'))) a w1 ha (hw.gr h1)
  unfold wpList at q
  rw [if_pos (ha.wanted hg)] at q
  rcases q with q | ⟨_,a',w',q⟩
  ·exact Ml (K':=K) q
  ·exact q.elim
end
def nilS:Slc:=⟨.slice none 0 0,[]⟩
section
variable {r:Nat→Slc} {n i:Nat} {x:Slc}
end
section
variable {w0:Base} {w:World} {pre a T M N:AA}
end
section
variable {P:Program} {w0:Base} {F:AJ} {L:AA} {o:Oper}
end
section
variable {P:Program} {w0:Base} {n:Nat} {Q:Exit→Act→World→Prop} {F:AJ} {L pre T:AA} {ops:Array Oper} {o:Oper} {l:List Oper}
theorem appendM (hg:B4 ops n F o=true) (ts e:TypeId) (inf:TypeInfo) (z:Value) (sz by_:Nat) (ht:P.underlying ts=some (.slice e)) (hinf:P.info? e=some inf) (hz:inf.zero=some z) (hs1:inf.size=sz) (hb1:inf.bytes=by_) (hzs:z.cells.size=sz) (h0:0<sz)
  (s x:Operand) (ho:o.op=.call { callee:=.builtin .append,args:=#[s,x],argTypes:=#[ts,ts] })
  {r:Slc} {xs ys:List (List Value)} (hr:r.Is e sz xs) (hs:evF F s=r.v) (hy:∀ y∈ys,y.length=sz) (hy1:∀ y∈ys, ∀ u∈y,u.oneCell'=true)
  (A:Option Addr) (m c:Nat) (hm:ys.length=m) (hmc:m≤c) (hx:evF F x=.slice A m c) (hf:∀ r:Slc,From w0 (pre++(r.bl++T)) A ys.flatten) (hsmall:(xs.length+m)*by_≤140737488355328) (h63:xs.length+m≤maxLen)
  (h:∀ r':Slc,r'.Is e sz (xs++ys)→wpS P w0 n ops Q (Bp F o.dst r'.v) (pre++(r'.bl++T)) l):wpS P w0 n ops Q F (pre++(r.bl++T)) (o::l):=by
 have hlen:∀ u∈xs++ys,u.length=sz:=λu hu=>(List.mem_append.1 hu).elim (hr.len u) (hy u)
 have hone:∀ u∈xs++ys, ∀ v∈u,v.oneCell'=true:=λu hu=>(List.mem_append.1 hu).elim (hr.one u) (hy1 u)
 have hyl:ys.flatten.length=m*sz:=by rw [FI hy,hm]
 have hyo:∀ u∈ys.flatten,u.oneCell'=true:=λu hu=>by
  obtain ⟨y,h1,h2⟩:=List.mem_flatten.1 hu
  exact hy1 y h1 u h2
 rcases hr.row with ⟨rfl,rfl⟩ | ⟨g,cap,sp,rfl,q1,q2,q3⟩
 ·rcases Nat.eq_zero_or_pos m with rfl | hm0
  ·obtain rfl:ys=[]:=List.eq_nil_of_length_eq_zero hm
   intro a w ha hw
   obtain ⟨k1,_,k3,_⟩:=AX hg
   refine wpList_step λK hK=>?_
   rw [if_pos (ha.wanted k1)]
   have hfc:(Builtin.firstCells inf.size 0 (.slice A 0 c)).run P w=.ok #[] w:=by
    cases A with
    | none=>simp [Builtin.firstCells,Sem.run_pure]
    | some a=>simpa using run_firstCells_some (P:=P) w inf.size 0 a 0 c [] (by simp) (λj u hj=>by cases hj)
   have hrn:(Builtin.append_ #[ts,ts] o.type #[.slice none 0 0,.slice A 0 c]).run P w=.ok (.slice none 0 0) w:=by
    simp [Builtin.append_,run_underlying ht,sizeOf,typeInfo,hinf,Builtin.lenOf,hfc]
   unfold Oper.wp
   rw [At hg ha]
   unfold execOp
   simp only [ho,resolve,invoke,builtin,Sem.run_bind,Sem.run_pure,Result.andThen_ok,List.map_toArray,List.map_cons,List.map_nil,hs,hx,hrn]
   exact hK _ _ (h nilS (Slc.Is.nil e sz) _ _ (ha.put k3 _) hw)
  ·refine Ir hg ts e inf z sz by_ ht hinf hz hs1 hb1 hzs h0 s x ho hs A m c ys.flatten hx (hf _) hyl hm0 hyo (by simpa using hsmall) (by simpa using h63) (λg' cap' sp' h1 h2 h3=>?_)
   have hq:=h ⟨.slice (some ⟨g',0,none⟩) m cap',[(g',e,(ys.flatten++sp').toArray)]⟩ ⟨hlen,hone,.inr ⟨g',cap',sp',by simp [hm],by simpa [hm] using h1,by simpa [hm] using h2,h3⟩⟩
   exact permS (by
    rw [List.nil_append,List.append_assoc]
    exact (List.perm_append_comm (l₁:=T) (l₂:=[(g',e,(ys.flatten++sp').toArray)])).append_left pre) hq
 ·have hi:(pre++([(g,e,(xs.flatten++sp).toArray)]++T))[pre.length]? = some (g,e,(xs.flatten++sp).toArray):=by
   rw [List.getElem?_append_right (Nat.le_refl _),Nat.sub_self]
   rfl
  refine Nq hg ts e inf z sz by_ ht hinf hz hs1 hb1 hzs h0 s x ho pre.length g xs.length cap xs.flatten sp hs hi (FI hr.len) q1 q3 A m c ys.flatten hx (hf ⟨.slice none 0 0,[(g,e,(xs.flatten++sp).toArray)]⟩) hyl hmc hyo hsmall h63 (λg' cap' sp' h1 h2 h3=>?_)
  have hq:=h ⟨.slice (some ⟨g',0,none⟩) (xs.length+m) cap',[(g',e,(xs.flatten++ys.flatten++sp').toArray)]⟩ ⟨hlen,hone,.inr ⟨g',cap',sp',by simp [hm],by simpa [hm] using h1,by simpa [hm] using h2,h3⟩⟩
  have he:(pre++([(g,e,(xs.flatten++sp).toArray)]++T)).set pre.length (g',e,(xs.flatten++ys.flatten++sp').toArray)=pre++([(g',e,(xs.flatten++ys.flatten++sp').toArray)]++T):=by
   rw [List.set_append_right _ _ (Nat.le_refl _),Nat.sub_self]
   rfl
  rw [he]
  exact hq
end
theorem retGM {P:Program} {w1:World} {n:Nat} {F:AJ} {L:AA} {fn:Func} {r:ResultVar} {v:Value} {R:Value→AA→Prop} (M:AA) (hr:fn.results=#[r]) (h:Has P F L r v) (hM:∀ w,St (Base.of w1) w L→St (Base.of w1) w M) (hR:R v M):X (Base.of w1) n (bodyPost P fn (BD w1 R)) F L .ret:=λa w ha hw=>by
 refine bodyPost_ret (v:=v) ?_ ha.1 ⟨v,M,rfl,hR,hw.below,λg t cs hm=>(hM w hw).blk g t cs hm,(hM w hw).apart⟩
 rcases Res.run h ha hw with ⟨t,rfl,e1⟩ | ⟨t,ty,ad,rfl,e1,e2⟩ <;> simp [results,Result.andThen, *]
end Sy
end
section
namespace Wr
abbrev Byt:=List UInt8
def nb:Nat→Nat→Byt
  | 0,_=>[]
  | k+1,n=>UInt8.ofNat (n / 256 ^ k)::nb k n
theorem B1 (k n:Nat):(nb k n).length=k:=by induction k with | zero=>rfl | succ k ih=>simp [nb,ih]
def said (l:Byt):Nat:=l.foldl (λa b=>256*a+b.toNat) 0
theorem MY (l : Byt) (a : Nat) : l.foldl (fun a b => 256 * a + b.toNat) a = a * 256 ^ l.length + said l := by
  induction l generalizing a with
  | nil=>simp [said]
  | cons b l ih =>
    unfold said
    rw [List.foldl_cons,List.foldl_cons,ih,ih,List.length_cons,Nat.pow_succ,Nat.mul_zero,Nat.zero_add,Nat.add_mul,Nat.add_assoc]
    congr 1
    rw [Nat.mul_comm 256 a,Nat.mul_assoc,Nat.mul_comm 256]
theorem Gk (b:UInt8) (l:Byt):said (b::l)=b.toNat*256 ^ l.length+said l:=by
  rw [← MY]; unfold said; rw [List.foldl_cons,Nat.mul_zero,Nat.zero_add]
theorem OP (l:Byt) (b:UInt8):said (l++[b])=256*said l+b.toNat:=by simp [said]
theorem Cm (l : Byt) : said l < 256 ^ l.length := by
  induction l with
  | nil=>exact Nat.lt_of_lt_of_le Nat.zero_lt_one (Nat.le_refl _)
  | cons b l ih =>
    rw [Gk,List.length_cons,Nat.pow_succ]
    have h:b.toNat≤255:=by have:=b.toNat_lt; omega
    have h2:b.toNat*256 ^ l.length≤255*256 ^ l.length:=Nat.mul_le_mul_right _ h
    omega
theorem Ru (k n : Nat) (h : n < 256 ^ k) : said (nb k n) = n := by
  induction k generalizing n with
  | zero => have h0 : n = 0 := by simpa using h
            subst h0; rfl
  | succ k ih =>
    have hp:0<256 ^ k:=Nat.pow_pos dZ
    have hd:n / 256 ^ k<256:=by rw [Nat.div_lt_iff_lt_mul hp, ← Nat.pow_succ']; exact h
    have hnb : nb k n = nb k (n % 256 ^ k) := by
      clear ih h hd
      have : ∀ j, j ≤ k → nb j n = nb j (n % 256 ^ k) := by
        intro j hj
        induction j with
        | zero=>rfl
        | succ j ih2 =>
          simp only [nb]
          rw [ih2 om]
          congr 1
          have e:256 ^ k=256 ^ j*256 ^ (k - j):=by rw [← Nat.pow_add]; congr 1; omega
          rw [e,Nat.mod_mul,Nat.add_mul_div_left _ _ (Nat.pow_pos dZ),Nat.div_eq_of_lt (Nat.mod_lt _ (Nat.pow_pos dZ)),Nat.zero_add]
          apply UInt8.toNat_inj.1
          simp only [UInt8.toNat_ofNat',Nat.reducePow]
          have e2:256 ^ (k - j)=256*256 ^ (k - j - 1):=by rw [← Nat.pow_succ']; congr 1; omega
          rw [e2,Nat.mod_mul_right_mod]
      exact this k (Nat.le_refl _)
    rw [nb,Gk,B1,hnb,ih _ (Nat.mod_lt _ hp),UInt8.toNat_ofNat',Nat.mod_eq_of_lt (by simpa using hd),Nat.mul_comm]
    exact Nat.div_add_mod n (256 ^ k)
theorem Sd (l : Byt) : nb l.length (said l) = l := by
  have key : ∀ (l : Byt) (a : Nat), nb l.length (a * 256 ^ l.length + said l) = l := by
    intro l
    induction l with
    | nil=>intro a; rfl
    | cons b l ih =>
      intro a
      have hlt:=Cm l
      have hp:0<256 ^ l.length:=Nat.pow_pos dZ
      rw [List.length_cons,nb,Gk]
      have e:a*256 ^ (l.length+1)+(b.toNat*256 ^ l.length+said l)=(a*256+b.toNat)*256 ^ l.length+said l:=by
        rw [Nat.pow_succ,Nat.add_mul,Nat.mul_comm (256 ^ l.length) 256,Nat.mul_assoc,Nat.add_assoc]
      rw [e,ih]
      congr 1
      rw [Nat.mul_comm,Nat.mul_add_div hp,Nat.div_eq_of_lt hlt,Nat.add_zero]
      apply UInt8.toNat_inj.1
      rw [UInt8.toNat_ofNat',Nat.mul_comm]
      have:=b.toNat_lt
      simp only [Nat.reducePow]
      omega
  have:=key l 0
  rwa [Nat.zero_mul,Nat.zero_add] at this
def Ap (n:Nat):Byt:=if n<253 then [UInt8.ofNat n] else if n<65536 then 253::nb 2 n else if n<4294967296 then 254::nb 4 n else 255::nb 8 n
theorem Dc (n:Nat):(Ap n).length≤9:=by
  unfold Ap
  repeat' split
  all_goals simp only [List.length_cons,List.length_nil,B1]; omega
abbrev Ps (α:Type):=Byt→Option (α×Byt)
def An (n:Nat):Ps Byt:=λl=>if n≤l.length then some (l.take n,l.drop n) else none
def BF {α:Type} (x:α):Ps α:=λl=>some (x,l)
def AH {α β:Type} (p:Ps α) (q:α→Ps β):Ps β:=λl=>match p l with | none=>none | some (x,r)=>q x r
def BH (b:Bool):Ps Unit:=λl=>if b then some ((),l) else none
def BT (k:Nat):Ps Nat:=AH (An k) λb=>BF (said b)
def wide (c:Nat):Nat:=if c=253 then 2 else if c=254 then 4 else 8
def CJ (c:Nat):Nat:=if c=253 then 253 else if c=254 then 65536 else 4294967296
def HH (c:Nat):Ps Nat:=AH (BT (wide c)) λn=>AH (BH (decide (CJ c≤n))) λ_=>BF n
def Fj (most:Nat):Ps Nat:=AH (AH (BT 1) λc=>if c<253 then BF c else HH c) λn=>AH (BH (decide (n≤most))) λ_=>BF n
def Bq (most:Nat):Ps Byt:=AH (Fj most) An
def Bz {α:Type} (p:Ps α):Nat→Ps (List α)
  | 0=>BF []
  | n+1=>AH p λx=>AH (Bz p n) λl=>BF (x::l)
def Ch {α:Type} (most:Nat) (p:Ps α):Ps (List α):=AH (Fj most) (Bz p)
def Gc {α:Type} (p:Ps α) (l:Byt):Option α:=match p l with | some (x,[])=>some x | _=>none
structure RS where
  rest:Byt
  e:Nat
structure After {α:Type} (p:Ps α) (s:RS) (x:α) (s':RS):Prop where
  bad:s.e≠0→s'.e≠0
  yes:∀ y r,s.e=0→p s.rest=some (y,r)→x=y∧s'=⟨r,0⟩
  no:s.e=0→p s.rest=none→s'.e≠0
theorem After.bind {α β : Type} {p : Ps α} {q : α → Ps β} {s s1 s2 : RS} {x : α} {y : β} (h : After p s x s1) (k : After (q x) s1 y s2) : After (AH p q) s y s2 := by
  refine ⟨λh0=>k.bad (h.bad h0),λz r h0 hz=>?_,λh0 hz=>?_⟩
  · unfold AH at hz
    cases hp:p s.rest with
    | none=>rw [hp] at hz; cases hz
    | some u =>
      obtain ⟨x1,r1⟩:=u
      obtain ⟨rfl,rfl⟩:=h.yes x1 r1 h0 hp
      rw [hp] at hz
      exact k.yes z r J hz
  · unfold AH at hz
    cases hp:p s.rest with
    | none=>exact k.bad (h.no h0 hp)
    | some u =>
      obtain ⟨x1,r1⟩:=u
      obtain ⟨rfl,rfl⟩:=h.yes x1 r1 h0 hp
      rw [hp] at hz
      exact k.no J hz
theorem After.ret {α:Type} (x:α) (s:RS):After (BF x) s x s:=⟨λh=>h,λy r h0 h=>by cases s; cases h; cases h0; exact ⟨rfl,rfl⟩,λ_ h=>by cases h⟩
theorem After.ok {α:Type} {p:Ps α} {s s':RS} {x:α} (h:After p s x s') (h0:s.e=0) (h1:s'.e=0):p s.rest=some (x,s'.rest):=by
  cases hp:p s.rest with
  | none=>exact absurd h1 (h.no h0 hp)
  | some u=>obtain ⟨y,r⟩:=u; obtain ⟨rfl,rfl⟩:=h.yes y r h0 hp; rfl
structure Wrote (ok:Bool) (e:Byt) (k:Nat) (bad:Bool) (b:Byt) (bad':Bool) (b':Byt):Prop where
  bad:bad'=(bad || !ok)
  bytes:bad'=false→b'=b++e
  len:b'.length≤b.length+k
theorem Wrote.then_ {o1 o2 : Bool} {e1 e2 : Byt} {k1 k2 : Nat} {x y z : Bool} {a b c : Byt} (h : Wrote o1 e1 k1 x a y b) (g : Wrote o2 e2 k2 y b z c) : Wrote (o1 && o2) (e1 ++ e2) (k1 + k2) x a z c := by
  refine ⟨?_,λhz=>?_,?_⟩
  · rw [g.bad,h.bad]; cases x <;> cases o1 <;> cases o2 <;> rfl
  · have hy : y = false := by
      have q:=g.bad
      rw [hz] at q
      cases y with
      | false=>rfl
      | true=>cases q
    rw [g.bytes hz,h.bytes hy,List.append_assoc]
  · have:=h.len; have:=g.len; omega
theorem Wrote.must (ok:Bool) (x:Bool) (b:Byt):Wrote ok [] 0 x b (x || !ok) b:=⟨rfl,λ_=>(List.append_nil b).symm,Nat.le_refl _⟩
theorem Wrote.raw (e:Byt) (x:Bool) (b:Byt) {k:Nat} (hk:e.length≤k):Wrote true e k x b x (b++e):=⟨by cases x <;> rfl,λ_=>rfl,by rw [List.length_append]; omega⟩
structure MOut where
  value:Nat
  claim:Byt
def Tq (o:MOut):Byt:=nb 8 o.value++o.claim
def UB:Ps MOut:=AH (BT 8) λv=>AH (An 32) λc=>BF ⟨v,c⟩
structure MTx where
  nonce:Nat
  outs:List MOut
def G0 {α:Type} (f:α→Byt) (l:List α):Byt:=Ap l.length++l.flatMap f
def ST (t:MTx):Bool:=decide (t.outs.length≤16)
def RG (t:MTx):Byt:=nb 8 t.nonce++G0 Tq t.outs
def R5:Ps MTx:=AH (BT 8) λn=>AH (Ch 16 UB) λl=>BF ⟨n,l⟩
theorem bind_some {α β:Type} {p:Ps α} {q:α→Ps β} {l r:Byt} {x:α} (h:p l=some (x,r)):AH p q l=q x r:=by unfold AH; rw [h]
theorem bind_none {α β:Type} {p:Ps α} {q:α→Ps β} {l:Byt} (h:p l=none):AH p q l=none:=by unfold AH; rw [h]
theorem EC {α : Type} (p : Ps α) (i : Nat) (s : Byt) : Bz p (i + 1) s = AH (Bz p i) (fun l => AH p fun x => BF (l ++ [x])) s := by
  induction i generalizing s with
  | zero =>
    show AH p (λx=>AH (Bz p 0) λl=>BF (x::l)) s=_
    cases h:p s with
    | none=>rw [bind_none h]; symm; rw [bind_some (show Bz p 0 s=some ([],s) from rfl),bind_none h]
    | some u=>obtain ⟨x,r⟩:=u; rw [bind_some h,bind_some (show Bz p 0 r=some ([],r) from rfl),bind_some (show Bz p 0 s=some ([],s) from rfl),bind_some h]; rfl
  | succ i ih =>
    show AH p (λx=>AH (Bz p (i+1)) λl=>BF (x::l)) s=_
    cases h:p s with
    | none=>rw [bind_none h,bind_none (show Bz p (i+1) s=none from bind_none h)]
    | some u =>
      obtain ⟨x,r⟩:=u
      rw [bind_some h]
      cases h2:Bz p i r with
      | none =>
        rw [bind_none (show Bz p (i+1) r=none by rw [ih,bind_none h2]),bind_none]
        show AH p _ s=none
        rw [bind_some h,bind_none h2]
      | some u2 =>
        obtain ⟨l,r2⟩:=u2
        have e:Bz p (i+1) s=some (x::l,r2):=by
          show AH p _ s=_
          rw [bind_some h,bind_some h2]; rfl
        rw [bind_some e]
        cases h3:p r2 with
        | none=>rw [bind_none h3,bind_none]; rw [ih,bind_some h2,bind_none h3]
        | some u3 =>
          obtain ⟨y,r3⟩:=u3
          rw [bind_some h3,bind_some (show Bz p (i+1) r=some (l++[y],r3) by rw [ih,bind_some h2,bind_some h3]; rfl)]
          rfl
theorem JB {α:Type} {p:Ps α} {s:Byt} {i:Nat} (h:Bz p i s=none):∀ j,i≤j→Bz p j s=none:=by
  intro j hj
  obtain ⟨k,rfl⟩:∃ k,j=i+k:=⟨j - i,by omega⟩
  clear hj
  induction k with
  | zero=>exact h
  | succ k ih=>rw [← Nat.add_assoc,EC,bind_none ih]
theorem N9 {c n : Nat} (hc : c < 256) (hc2 : 253 ≤ c) (hn : n < 256 ^ wide c) : (Ap n).length = 1 + wide c ↔ CJ c ≤ n := by
  have h:c=253∨c=254∨c=255:=om
  rcases h with rfl|rfl|rfl
  · have hn:n<65536:=by simpa [wide] using hn
    clear hc hc2
    show (Ap n).length=3↔253≤n
    unfold Ap
    repeat' split
    all_goals (simp only [List.length_cons,List.length_nil,B1,true_iff]; omega)
  · have hn:n<4294967296:=by simpa [wide] using hn
    clear hc hc2
    show (Ap n).length=5↔65536≤n
    unfold Ap
    repeat' split
    all_goals (simp only [List.length_cons,List.length_nil,B1,true_iff]; omega)
  · show (Ap n).length=9↔4294967296≤n
    unfold Ap
    repeat' split
    all_goals (simp only [List.length_cons,List.length_nil,B1,true_iff]; omega)
theorem EB {n : Nat} {l b r : Byt} (h : An n l = some (b, r)) : b.length = n ∧ l = b ++ r := by
  unfold An at h
  by_cases hn:n≤l.length
  · rw [if_pos hn] at h
    obtain ⟨rfl,rfl⟩:l.take n=b∧l.drop n=r:=by simpa using h
    exact ⟨by rw [List.length_take]; omega,(List.take_append_drop n l).symm⟩
  · rw [if_neg hn] at h; cases h
theorem Lz {k n : Nat} {l r : Byt} (h : BT k l = some (n, r)) : n < 256 ^ k := by
  unfold BT at h
  cases ht:An k l with
  | none=>rw [bind_none ht] at h; cases h
  | some u =>
    obtain ⟨b,r2⟩:=u
    rw [bind_some ht] at h
    obtain ⟨rfl,rfl⟩:said b=n∧r2=r:=by simpa [BF] using h
    have:=Cm b
    rwa [(EB ht).1] at this
end Wr
end
section
namespace Wr
open Go.RowKit Sy
abbrev Rdr:=Nat→Nat→Value→Prop
def Le (C D:Rdr):Prop:=∀ g o v,C g o v→D g o v
def rdW (w:World):Rdr:=λg o v=>g<w.heap.size∧w.cell? ⟨g,o,none⟩=some v
def rdB (M:AA):Rdr:=λg o v=>∃ t cs,(g,t,cs)∈M∧cs[o]? = some v
def rdC (w0:Base) (R:AA):Rdr:=λg o v=>rdW w0.world g o v∨rdB R g o v
theorem AV {M N:AA} (h:∀ b∈M,b∈N):Le (rdB M) (rdB N):=λ_ _ _ ⟨t,cs,hm,hc⟩=>⟨t,cs,h _ hm,hc⟩
theorem EV {w0:Base} {M N:AA} (h:∀ b∈M,b∈N):Le (rdC w0 M) (rdC w0 N):=λg o v hv=>hv.imp id (AV h g o v)
theorem Ad {w0:Base} {w:World} {L R:AA} (hw:St w0 w L) (hR:∀ b∈R,b∈L):Le (rdC w0 R) (rdW w):=by
 rintro g o v (⟨hg,hc⟩ | ⟨t,cs,hm,hc⟩)
 ·exact ⟨Nat.lt_of_lt_of_le hg hw.below.size,(Below.cell (p:=⟨g,o,none⟩) hw.below hg).trans hc⟩
 ·have hb:=(hw.blk g t cs (hR _ hm)).2
  exact ⟨hb.lt,(hb.cell o).trans hc⟩
theorem EF {w:World} {R:AA}:Le (rdW w) (rdC (Base.of w) R):=λ_ _ _ h=>.inl h
theorem ID {w0:Base} {R:AA}:Le (rdB R) (rdC w0 R):=λ_ _ _ h=>.inr h
def BytR (C:Rdr) (v:Value) (b:Byt):Prop:=∃ A n cp,v=.slice A n cp∧b.length=n∧n≤cp∧cp≤maxLen∧(b≠[]→∃ g o,A=some ⟨g,o,none⟩∧∀ j u,b[j]? = some u→C g (o+j) (bv u))
theorem BytR.le {C D:Rdr} (hl:Le C D) {v:Value} {b:Byt} (h:BytR C v b):BytR D v b:=by
 obtain ⟨A,n,cp,h1,h2,h3,h4,h5⟩:=h
 exact ⟨A,n,cp,h1,h2,h3,h4,λhb=>by obtain ⟨g,o,e,hq⟩:=h5 hb; exact ⟨g,o,e,λj u hu=>hl _ _ _ (hq j u hu)⟩⟩
theorem BytR.nil (C:Rdr):BytR C (.slice none 0 0) []:=⟨none,0,0,rfl,rfl,Nat.le_refl _,Nat.zero_le _,λh=>(h J).elim⟩
theorem BytR.cells {C:Rdr} {v:Value} {b:Byt} (h:BytR C v b):v.cells=#[v]∧v.oneCell'=true:=by
 obtain ⟨A,n,cp,rfl,_⟩:=h; exact ⟨rfl,rfl⟩
def byL (b:Byt):List (List Value):=b.map λu=>[bv u]
theorem Io (b:Byt):(byL b).flatten=b.map bv:=by induction b with | nil=>rfl | cons u b ih=>show bv u::(byL b).flatten=bv u::b.map bv; rw [ih]
theorem As (b:Byt):(byL b).length=b.length:=List.length_map _
theorem FK (a b:Byt):byL (a++b)=byL a++byL b:=List.map_append
theorem D5 (b:Byt):∀ y∈byL b,y.length=1:=λy hy=>by obtain ⟨u,_,rfl⟩:=List.mem_map.1 hy; rfl
theorem DO (b:Byt):∀ y∈byL b, ∀ u∈y,u.oneCell'=true:=λy hy u hu=>by
 obtain ⟨w,_,rfl⟩:=List.mem_map.1 hy
 rw [List.mem_singleton.1 hu]; rfl
theorem BytR.from {w0:Base} {L R:AA} {A:Option Addr} {n cp:Nat} {b:Byt} (h:BytR (rdC w0 R) (.slice A n cp) b) (hR:∀ x∈R,x∈L):From w0 L A (byL b).flatten:=λw hw=>by
 obtain ⟨A',n',cp',e,h2,h3,h4,h5⟩:=h
 injection e with e1 e2 e3
 subst e1
 rw [Io]
 cases b with
 | nil=>exact .inl J
 | cons u b =>
  obtain ⟨g,o,rfl,hq⟩:=h5 (by simp)
  refine .inr ⟨_,rfl,λj v hj=>?_⟩
  rw [CC]
  rw [List.getElem?_map] at hj
  cases hx:(u::b)[j]? with
  | none=>rw [hx] at hj; cases hj
  | some x =>
   rw [hx] at hj
   cases hj
   exact (Ad hw hR _ _ _ (hq j x hx)).2
theorem KI {r:Slc} {e:TypeId} {b:Byt} (h:r.Is e 1 (byL b)):BytR (rdB r.bl) r.v b:=by
 rcases h.row with ⟨e1,rfl⟩ | ⟨g,cap,sp,rfl,h1,h2,h3⟩
 ·have:b=[]:=by cases b with | nil=>rfl | cons=>cases e1
  rw [this]
  exact BytR.nil _
 ·rw [As] at h1 h2
  refine ⟨_,_,_,rfl,(As b).symm,by rw [As]; exact h2,h3,λ_=>⟨g,0,rfl,λj u hu=>⟨e,_,List.mem_singleton.2 J,?_⟩⟩⟩
  have hl:=(List.getElem?_eq_some_iff.1 hu).1
  rw [Io,Nat.zero_add,List.getElem?_toArray,List.getElem?_append_left (by simpa using hl),List.getElem?_map,hu]
  rfl
section
variable {P:Program} {w0:Base} {n:Nat} {Q:Exit→Act→World→Prop} {F:AJ} {L:AA} {ops:Array Oper} {o:Oper} {ex:Nat→Bool} {fuel:Nat} {listed:Array Bool}
theorem sa (i:Nat) {oi:Oper} (hi0:ops.toList[i]? = some oi) {v:Value} (hl:opV F oi.op=some v) (h:wpD P w0 n ops Q ex (Bp F oi.dst v) L fuel (listed.setIfInBounds i true)) (hc:Do .any ops listed i=true:=by kernel_rfl) (hg:B4 ops n F oi=true:=by kernel_rfl)
  (hQ:∀ c v a w,Q (.panic c) (a.put oi.dst v) w→Q (.panic c) a w:=by exact λ_ _ _ _ h=>h):wpD P w0 n ops Q ex F L (fuel+1) listed:=Lh i hi0 hc hQ hg v (Jz hl) h
theorem sb (i:Nat) {oi:Oper} (hi0:ops.toList[i]? = some oi) (v:Value) (h:wpD P w0 n ops Q ex (Bp F oi.dst v) L fuel (listed.setIfInBounds i true)) (hp:∀ w,(execOp (evF F) oi).run P w=.ok (.value v) w:=by intro _; kernel_rfl) (hc:Do .any ops listed i=true:=by kernel_rfl) (hg:B4 ops n F oi=true:=by kernel_rfl)
  (hQ:∀ c v a w,Q (.panic c) (a.put oi.dst v) w→Q (.panic c) a w:=by exact λ_ _ _ _ h=>h):wpD P w0 n ops Q ex F L (fuel+1) listed:=Lh i hi0 hc hQ hg v hp h
theorem sv (i:Nat) {oi:Oper} (hi0:ops.toList[i]? = some oi) (v:Value) (hp:∀ w,(execOp (evF F) oi).run P w=.ok (.value v) w) (h:wpD P w0 n ops Q ex (Bp F oi.dst v) L fuel (listed.setIfInBounds i true)) (hc:Do .any ops listed i=true:=by kernel_rfl) (hg:B4 ops n F oi=true:=by kernel_rfl)
  (hQ:∀ c v a w,Q (.panic c) (a.put oi.dst v) w→Q (.panic c) a w:=by exact λ_ _ _ _ h=>h):wpD P w0 n ops Q ex F L (fuel+1) listed:=Lh i hi0 hc hQ hg v hp h
theorem se (i:Nat) (bs:List Nat) {oi:Oper} (hi0:ops.toList[i]? = some oi) (v:Value) (hq:Quiet P w0 F L oi v) (h:wpD P w0 n ops Q ex (Bp F oi.dst v) L fuel (listed.setIfInBounds i true)) (hc:GY .any ops listed ex i bs=true:=by kernel_rfl) (hg:B4 ops n F oi=true:=by kernel_rfl)
  (hQ:∀ c v a w,Q (.panic c) (a.put oi.dst v) w→Q (.panic c) a w:=by exact λ_ _ _ _ h=>h):wpD P w0 n ops Q ex F L (fuel+1) listed:=T8 i bs hi0 hc hQ hg v hq h
theorem NP {a b:Nat×TypeId×Array Value} {A:AA} {w:World} (h:St w0 w ([a,b]++A)):St w0 w ([a]++A):=h.less (((List.Sublist.refl A).cons b).cons_cons a)
end
theorem E5 (w:World) (F:AJ) (o:Oper) (x:Operand) (k:Nat) (hk:k<18446744073709551616) (ho:o.op=.convert 22 5 x) (hx:evF F x=.int .u64 (k:Int)):(execOp (evF F) o).run Tryz.prog w=.ok (.value (bv (UInt8.ofNat k))) w:=by
 have h:(convert 22 5 (.int .u64 (k:Int))).run Tryz.prog w=.ok (bv (UInt8.ofNat k)) w:=by
  have e:(UInt8.ofNat k).toNat=k%256:=by rw [UInt8.toNat_ofNat']
  unfold bv
  rw [e]
  go_simp
  show (k:Int)%256=((k%256:Nat):Int)
  omega
 unfold execOp
 simp only [ho,hx,Sem.run_bind,h,Result.andThen_ok,Sem.run_pure]
theorem DG (w:World) (F:AJ) (o:Oper) (x:Operand) (k:Nat) (hk:k<18446744073709551616) (ho:o.op=.convert 3 22 x) (hx:evF F x=.int .i64 (k:Int)):(execOp (evF F) o).run Tryz.prog w=.ok (.value (.int .u64 ((k:Nat):Int))) w:=by
 have h:(convert 3 22 (.int .i64 (k:Int))).run Tryz.prog w=.ok (.int .u64 ((k:Nat):Int)) w:=by
  go_simp
  exact wrap_u64 om om
 unfold execOp
 simp only [ho,hx,Sem.run_bind,h,Result.andThen_ok,Sem.run_pure]
theorem KC (w:World) (F:AJ) (o:Oper) (x:Operand) (u:UInt8) (ho:o.op=.convert 5 22 x) (hx:evF F x=bv u):(execOp (evF F) o).run Tryz.prog w=.ok (.value (.int .u64 ((u.toNat:Nat):Int))) w:=by
 have hu:=u.toNat_lt
 have e:(convert 5 22 (.int .u8 ((u.toNat:Nat):Int))).run Tryz.prog w=.ok (.int .u64 ((u.toNat:Nat):Int)) w:=by
  go_simp
  exact wrap_u64 om om
 unfold execOp
 simp only [ho,hx,bv,e,Sem.run_bind,Sem.run_pure,Result.andThen_ok]
theorem Q_ (t:TypeId) (x y:Operand) {yt:TypeId} (F:AJ) (o:Oper) (n k:Nat) (hk:k≤64) (ho:o.op=.binOp .shr t x y yt) (hx:evF F x=.int .u64 (n:Int)) (hy:evF F y=.int .i64 (k:Int)) (w:World):(execOp (evF F) o).run Tryz.prog w=.ok (.value (.int .u64 ((n / 2 ^ k:Nat):Int))) w :=
 AE .shr t x y .u64 (n:Int) (k:Int) _ ho hx hy (Sr t .u64 .i64 _ _ _ om (by
  rw [Int.toNat_natCast,show min k IntKind.u64.bits=k from Nat.min_eq_left (show k≤64 from hk),Int.fdiv_eq_ediv_of_nonneg _ (by exact_mod_cast Nat.zero_le _)]
  rw [Int.natCast_ediv,Int.natCast_pow]; rfl)) w
abbrev BS (s:Slc) (b:Byt):Prop:=s.Is 5 1 (byL b)
abbrev WS (gw:Nat) (s:Slc) (R:AA):AA:=[(gw,217,#[s.v])]++(s.bl++R)
def Wr (gw:Nat) (R:AA) (b:Byt) (_:Value) (M:AA):Prop:=∃ s,BS s b∧M=WS gw s R
theorem NK (k n:Nat):∀ j,j<k→(nb k n).take (j+1)=(nb k n).take j++[UInt8.ofNat (n / 256 ^ (k - 1 - j))]:=by
 induction k with
 | zero=>intro j h; omega
 | succ k ih =>
  intro j h
  cases j with
  | zero=>simp [nb]
  | succ j =>
   simp only [nb,List.take_succ_cons,List.cons_append]
   rw [ih j om,show k+1 - 1 - (j+1)=k - 1 - j by omega]
theorem Da (w0:Base) (gw:Nat) (s:Slc) (R:AA) (b:Byt) (n sz:Nat) (hn:n<18446744073709551616) (hsz:sz≤8) (hb:BS s b) (hl:b.length≤70368744177664) (w:World) (hw:St w0 w (WS gw s R)) :
  AL 160 #[ptr gw,uZ (n:Int),.int .i64 (sz:Int)] w (AQ w0 (Wr gw R (b++nb sz n))):=by
 refine Sy.enterT (args:=[ptr gw,uZ (n:Int),.int .i64 (sz:Int)]) hw Tryz.func160 J kL<|sC<|sp J<|sS (.int .i64 ((sz:Int) - 1)) (Quiet.pure (AE .sub _ _ _ .i64 _ _ _ J J J (Cf _ _ _ _ _ (BI om om))))<|sp J<|sG<|Sy.block<|Sy.loopT (Y:=Slc×Int) sz (λk y=>[(0,ptr gw),(1,uZ (n:Int)),(6,.int .i64 y.2)]) (λk y=>WS gw y.1 R) (λk y=>BS y.1 (b++(nb sz n).take k)∧y.2=(sz:Int) - 1 - (k:Int)) (s,(sz:Int) - 1) ⟨by rw [List.take_zero,List.append_nil]; exact hb,by omega⟩ ac3 (λ_ h=>h) (λk y hk hy=>?_)
 obtain ⟨y,z⟩:=y
 obtain ⟨hy,hz⟩:=hy
 dsimp only at hy hz ⊢
 refine Sy.seq<|sC ?_
 obtain ⟨b1,hb1⟩:=xE (decide (k<sz))
 refine sp J<|sS (.bool b1) (qge J J J hb1)<|sG ?_
 cases b1
 case' false =>
  have l1:=dN hb1
  obtain rfl:k=sz:=om
  refine sU<|Sy.exit<|Sy.then_exit<|Sy.then_exit<|Sy.in_exit ?_
  rw [List.take_of_length_le (by rw [B1]; exact Nat.le_refl _)] at hy
  exact Sy.retT0 J (WS gw y R) (λ_ h=>h) (λ_=>⟨y,hy,rfl⟩)
 case' true =>
  have l1:=dY hb1
  refine sT<|Sy.skip<|Sy.then_<|Sy.seq<|Sy.block ?_
  obtain ⟨m,hm⟩:∃ m:Nat,m=sz - 1 - k:=⟨_,rfl⟩
  have hzm:z=(m:Int):=om
  obtain ⟨x,hx⟩:=xE (UInt8.ofNat (n / 2 ^ (8*m)))
  have hd:n / 2 ^ (8*m)<18446744073709551616:=Nat.lt_of_le_of_lt (Nat.div_le_self _ _) hn
  have hlen:(b++(nb sz n).take k).length≤b.length+8:=by rw [List.length_append,List.length_take]; omega
  refine Sy.regionD (λj=>j == 11 || j == 14) kR<|sa 0 J J<|sa 1 J J<|sa 2 J J<|sb 3 J (pT gw 0)<|sD 4 J y.v (qc 0 0 J J Aw)<|sa 5 J J<|sa 6 J J<|sv 7 J (iZ (8*m)) (AE .mul _ _ _ .i64 _ _ _ J J J (J_ _ _ _ _ _ ((BI om om).trans om)))<|sv 8 J (uZ ((n / 2 ^ (8*m):Nat):Int)) (Q_ _ _ _ _ _ n (8*m) om J J J)<|sv 9 J (bv x) (λw=>by rw [hx]; exact E5 w _ _ _ _ hd J J)<|Sy.makeD 10 J kR kR 5 #[bv x] (λg=>.slice (pA g) 1 1) kF (λg1=>?_)
  refine Sy.movTD<|Sy.soleD 11 J (λQ2 hq2=>?_)
  refine Sy.appendR kR 27 5 _ _ 1 1 Aw Cu.info_u8 J J J J dZ _ _ J hy kR [bv x] rfl (λu hu=>by rw [List.mem_singleton.1 hu]; rfl) 1 g1 5 kR kR (by rw [As]; omega) (by rw [As]; simp only [maxLen]; omega) (λr hr=>?_)
  refine hq2 _ _<|sa 12 J J<|sb 13 J (pT gw 0)<|sx 14 J 0 J #[r.v] (Writes.one 0 27 r.v _ _ J kR kR kR hr.cells.1 hr.cells.2 Nat.zero_lt_one kR)<|Sy.setTD<|sE<|Sy.in_<|Sy.then_<|Sy.region<|sp J<|sS (.int .i64 (z - 1)) (Quiet.pure (AE .sub _ _ _ .i64 _ _ _ J J J (Cf _ _ _ _ _ (BI om om))))<|sp J<|Sy.nil ?_
  have hr':BS r (b++(nb sz n).take (k+1)):=by
   have e:byL (b++(nb sz n).take (k+1))=byL (b++(nb sz n).take k)++[[bv x]]:=by
    rw [NK sz n k l1, ← List.append_assoc,FK (b++(nb sz n).take k),hx,hm,Nat.pow_mul]
    rfl
   show r.Is 5 1 _
   rw [e]
   exact hr
  exact Sy.againT (r,z - 1) l1 ⟨hr',by show z - 1=_; omega⟩ ac3 (λw h=>NP h)
theorem Ub (x:UInt8):nb 1 x.toNat=[x]:=by
 unfold nb nb
 rw [Nat.pow_zero,Nat.div_one]
 congr 1
 exact UInt8.ofNat_toNat
theorem EN (w0:Base) (gw:Nat) (s:Slc) (R:AA) (b:Byt) (x:UInt8) (hb:BS s b) (hl:b.length≤70368744177664) (w:World) (hw:St w0 w (WS gw s R)) :
  AL 154 #[ptr gw,bv x] w (AQ w0 (Wr gw R (b++[x]))):=by
 refine Sy.enterT (args:=[ptr gw,bv x]) hw Tryz.func154 J kL<|Sy.region<|sp J<|sp J<|sS (.int .u64 ((x.toNat:Nat):Int)) (Quiet.pure (λw=>KC w _ _ _ x J J)) ?_
 have hx:=x.toNat_lt
 refine Sy.callT (λw hw=>Da _ gw s R b x.toNat 1 om dZ hb hl w hw) (λv M hM=>?_)
 obtain ⟨s1,hs1,rfl⟩:=hM
 refine Sy.nil ?_
 rw [Ub] at hs1
 exact Sy.retT0 J (WS gw s1 R) (λ_ h=>h) (λ_=>⟨s1,hs1,rfl⟩)
theorem Qi (w0:Base) (gw:Nat) (s:Slc) (R:AA) (b:Byt) (n:Nat) (hn:n<18446744073709551616) (hb:BS s b) (hl:b.length≤70368744177664) (w:World) (hw:St w0 w (WS gw s R)) :
  AL 98 #[ptr gw,.int .u64 (n:Int)] w (AQ w0 (Wr gw R (b++nb 8 n))):=by
 refine Sy.enterT (args:=[ptr gw,.int .u64 (n:Int)]) hw Tryz.func98 J kL<|Sy.region<|sp J<|sp J<|Sy.callT (λw hw=>Da _ gw s R b n 8 hn dZ hb hl w hw) (λv M hM=>?_)
 obtain ⟨s1,hs1,rfl⟩:=hM
 refine Sy.nil ?_
 exact Sy.retT0 J (WS gw s1 R) (λ_ h=>h) (λ_=>⟨s1,hs1,rfl⟩)
theorem JW (w0:Base) (gw:Nat) (s:Slc) (R:AA) (b:Byt) (n:Nat) (hn:n<18446744073709551616) (hb:BS s b) (hl:b.length≤70368744177000) (w:World) (hw:St w0 w (WS gw s R)) :
  AL 165 #[ptr gw,uZ (n:Int)] w (AQ w0 (Wr gw R (b++Ap n))):=by
 refine Sy.enterT (args:=[ptr gw,uZ (n:Int)]) hw Tryz.func165 J kL<|Sy.block<|sC ?_
 obtain ⟨b1,hb1⟩:=xE (decide (n<253))
 refine sp J<|sS (.bool b1) (Quiet.pure (AE .lss _ _ _ .u64 _ _ _ J J J (DF _ _ _ _ _ (by rw [hb1]; exact decide_eq_decide.2 om))))<|sp J<|sG ?_
 cases b1
 case' true =>
  have l1:=dY hb1
  refine sT<|Sy.region ?_
  obtain ⟨x,hx⟩:=xE (UInt8.ofNat n)
  refine sp J<|sp J<|sS (bv x) (Quiet.pure (λw=>by rw [hx]; exact E5 w _ _ _ _ hn J J))<|Sy.callT (λw hw=>EN _ gw s R b x hb om w hw) (λv M hM=>?_)
  obtain ⟨s1,hs1,rfl⟩:=hM
  refine Sy.nil<|Sy.in_ ?_
  have e:Ap n=[x]:=by unfold Ap; rw [if_pos l1,hx]
  rw [← e] at hs1
  exact Sy.retT0 J (WS gw s1 R) (λ_ h=>h) (λ_=>⟨s1,hs1,rfl⟩)
 have l1:=dN hb1
 refine sU<|sC ?_
 obtain ⟨b2,hb2⟩:=xE (decide (n<65536))
 refine sp J<|sS (.bool b2) (Quiet.pure (AE .lss _ _ _ .u64 _ _ _ J J J (DF _ _ _ _ _ (by rw [hb2]; exact decide_eq_decide.2 om))))<|sp J<|sG ?_
 cases b2
 case' true =>
  have l2:=dY hb2
  refine sT<|sC<|sp J<|Sy.callT (λw hw=>EN _ gw s R b 253 hb om w hw) (λv M hM=>?_)
  obtain ⟨s1,hs1,rfl⟩:=hM
  refine Sy.nil<|Sy.then_<|Sy.region<|sp J<|sp J<|Sy.callT (λw hw=>Da _ gw s1 R (b++[253]) n 2 hn dZ hs1 (by rw [List.length_append,List.length_singleton]; omega) w hw) (λv M hM=>?_)
  obtain ⟨s2,hs2,rfl⟩:=hM
  refine Sy.nil<|Sy.in_ ?_
  have e:b++Ap n=b++[253]++nb 2 n:=by unfold Ap; rw [if_neg l1,if_pos l2,List.append_assoc]; rfl
  rw [← e] at hs2
  exact Sy.retT0 J (WS gw s2 R) (λ_ h=>h) (λ_=>⟨s2,hs2,rfl⟩)
 have l2:=dN hb2
 refine sU<|sC ?_
 obtain ⟨b3,hb3⟩:=xE (decide (n<4294967296))
 refine sp J<|sS (.bool b3) (Quiet.pure (AE .lss _ _ _ .u64 _ _ _ J J J (DF _ _ _ _ _ (by rw [hb3]; exact decide_eq_decide.2 om))))<|sp J<|sG ?_
 cases b3
 case' true =>
  have l3:=dY hb3
  refine sT<|sC<|sp J<|Sy.callT (λw hw=>EN _ gw s R b 254 hb om w hw) (λv M hM=>?_)
  obtain ⟨s1,hs1,rfl⟩:=hM
  refine Sy.nil<|Sy.then_<|Sy.region<|sp J<|sp J<|Sy.callT (λw hw=>Da _ gw s1 R (b++[254]) n 4 hn dZ hs1 (by rw [List.length_append,List.length_singleton]; omega) w hw) (λv M hM=>?_)
  obtain ⟨s2,hs2,rfl⟩:=hM
  refine Sy.nil<|Sy.in_ ?_
  have e:b++Ap n=b++[254]++nb 4 n:=by unfold Ap; rw [if_neg l1,if_neg l2,if_pos l3,List.append_assoc]; rfl
  rw [← e] at hs2
  exact Sy.retT0 J (WS gw s2 R) (λ_ h=>h) (λ_=>⟨s2,hs2,rfl⟩)
 have l3:=dN hb3
 refine sU<|sC<|sp J<|Sy.callT (λw hw=>EN _ gw s R b 255 hb om w hw) (λv M hM=>?_)
 obtain ⟨s1,hs1,rfl⟩:=hM
 refine Sy.nil<|Sy.then_<|Sy.region<|sp J<|sp J<|Sy.callT (λw hw=>Da _ gw s1 R (b++[255]) n 8 hn dZ hs1 (by rw [List.length_append,List.length_singleton]; omega) w hw) (λv M hM=>?_)
 obtain ⟨s2,hs2,rfl⟩:=hM
 refine Sy.nil<|Sy.in_ ?_
 have e:b++Ap n=b++[255]++nb 8 n:=by unfold Ap; rw [if_neg l1,if_neg l2,if_neg l3,List.append_assoc]; rfl
 rw [← e] at hs2
 exact Sy.retT0 J (WS gw s2 R) (λ_ h=>h) (λ_=>⟨s2,hs2,rfl⟩)
theorem Mv (w0:Base) (gw:Nat) (s:Slc) (R:AA) (b x:Byt) (v:Value) (hv:BytR (rdC w0 R) v x) (hb:BS s b) (hl:b.length+x.length≤70368744177664) (w:World) (hw:St w0 w (WS gw s R)) :
  AL 189 #[ptr gw,v] w (AQ w0 (Wr gw R (b++x))):=by
 have hv':=hv
 obtain ⟨A,n,cp,rfl,h2,h3,h4,h5⟩:=hv'
 refine Sy.enterT (args:=[ptr gw,.slice A n cp]) hw Tryz.func189 J kL<|Sy.region<|sp J<|sp J<|sp J<|sP (pT gw 0)<|sS s.v (qc 0 0 J J Aw)<|sp J<|Sy.appendM kR 27 5 _ _ 1 1 Aw Cu.info_u8 J J J J dZ _ _ J hb kR (D5 x) (DO x) A n cp (by rw [As,h2]) h3 kR (λr=>BytR.from (w0:=w0.inn) hv (λy hy=>List.mem_append_right _ (List.mem_append_right _ hy))) (by rw [As]; omega) (by rw [As]; simp only [maxLen]; omega) (λr hr=>?_)
 rw [← FK] at hr
 refine sp J<|sP (pT gw 0)<|sw 0 J #[r.v] (Writes.one 0 27 r.v _ _ J kR kR kR hr.cells.1 hr.cells.2 Nat.zero_lt_one kR)<|Sy.setT<|Sy.nil ?_
 exact Sy.retT0 J (WS gw r R) (λ_ h=>h) (λ_=>⟨r,hr,rfl⟩)
theorem PN (w0:Base) (gw:Nat) (s:Slc) (R:AA) (b x:Byt) (v:Value) (hv:BytR (rdC w0 R) v x) (hb:BS s b) (hl:b.length+x.length≤70368744177000) (w:World) (hw:St w0 w (WS gw s R)) :
  AL 151 #[ptr gw,v] w (AQ w0 (Wr gw R (b++(Ap x.length++x)))):=by
 have hv':=hv
 obtain ⟨A,n,cp,rfl,h2,h3,h4,h5⟩:=hv'
 refine Sy.enterT (args:=[ptr gw,.slice A n cp]) hw Tryz.func151 J kL<|sC<|sp J<|sp J<|sP (.int .i64 (n:Int))<|sS (uZ ((n:Nat):Int)) (Quiet.pure (λw=>DG w _ _ _ n (by simp only [maxLen] at h4; omega) rfl J))<|Sy.callT (λw hw=>JW _ gw s R b n (by simp only [maxLen] at h4; omega) hb om w hw) (λv M hM=>?_)
 obtain ⟨s1,hs1,rfl⟩:=hM
 have hn:=Dc n
 refine Sy.nil<|Sy.then_<|Sy.region<|sp J<|sp J<|Sy.callT (λw hw=>Mv w0.inn gw s1 R (b++Ap n) x (.slice A n cp) hv hs1 (by rw [List.length_append]; omega) w hw) (λv M hM=>?_)
 obtain ⟨s2,hs2,rfl⟩:=hM
 refine Sy.nil ?_
 rw [List.append_assoc, ← h2] at hs2
 exact Sy.retT0 J (WS gw s2 R) (λ_ h=>h) (λ_=>⟨s2,hs2,rfl⟩)
def ByN (x:Byt) (v:Value) (M:AA):Prop:=∃ A n cp,v=.slice A n cp∧BS ⟨.slice A n cp,M⟩ x
theorem BS.as {r:Slc} {x:Byt} (h:BS r x):ByN x r.v r.bl:=by
 obtain ⟨A,n,cp,e,_⟩:=KI h
 refine ⟨A,n,cp,e,?_⟩
 rw [← e]
 exact h
theorem ByN.byt {x:Byt} {v:Value} {M:AA} (h:ByN x v M):BytR (rdB M) v x:=by
 obtain ⟨A,n,cp,rfl,h⟩:=h
 exact KI h
theorem G2 (w:World) (v:Value) (x:Byt) (hv:BytR (rdW w) v x) (hl:x.length≤70368744177664):AL 96 #[v] w (BD w (ByN x)):=by
 have hv':=hv.le (EF (R:=[]))
 obtain ⟨A,n,cp,rfl,h2,h3,h4,h5⟩:=hv
 refine Sy.enter (args:=[.slice A n cp]) Tryz.func96 J kL<|sC<|sP (.slice none 0 0)<|sG<|Sy.seq<|sC ?_
 cases A with
 | none =>
  have hx:x=[]:=by
   cases x with
   | nil=>rfl
   | cons a l=>obtain ⟨g,o,e,_⟩:=h5 (by simp); cases e
  subst hx
  refine sp J<|sP (.bool true)<|sG<|sT<|sC<|sP (.slice none 0 0)<|sG<|Sy.ret<|Sy.then_ret ?_
  exact Sy.retGM [] rfl (.inl (show _=_ by kernel_rfl)) (λ_ h=>h) ⟨none,0,0,rfl,Slc.Is.nil _ _⟩
 | some a =>
  refine sp J<|sP (.bool false)<|sG<|sU<|Sy.skip<|sB<|Sy.make kR 5 #[] (λg=>.slice (pA g) 0 0) kF (λg=>?_)
  refine sp J ?_
  have h0:BS ⟨.slice (pA g) 0 0,[(g,5,#[])]⟩ []:=⟨λ_ h=>(by cases h),λ_ h=>(by cases h),.inr ⟨g,0,[],rfl,rfl,Nat.le_refl _,Nat.zero_le _⟩⟩
  refine Sy.appendM (pre:=[]) (T:=[]) kR 27 5 _ _ 1 1 Aw Cu.info_u8 J J J J dZ _ _ J h0 kR (D5 x) (DO x) (some a) n cp (by rw [As,h2]) h3 kR (λr=>BytR.from hv' (λy hy=>by cases hy)) (by rw [As]; show (0+n)*1≤_; omega) (by rw [As]; show 0+n≤_; simp only [maxLen]; omega) (λr hr=>?_)
  refine sp J<|sG<|Sy.ret ?_
  have hr':BS r x:=hr
  exact Sy.retGM r.bl J (.inl (show _=_ by kernel_rfl)) (λ_ h=>by simpa using h) hr'.as
theorem J2 (w:World):AL 57 #[] w (BD w (λv M=>∃ g,v=ptr g∧M=[(g,217,#[.slice none 0 0])])):=by
 refine Sy.enter (args:=[]) Tryz.func57 J kL<|sC<|sP (.pointer none)<|sA<|sP (.agg #[.slice none 0 0])<|sM 217 #[.slice none 0 0] (λg=>?_)
 refine sp J<|sG<|Sy.ret ?_
 exact Sy.retGM [(g,217,#[.slice none 0 0])] rfl (.inl (show _=_ by kernel_rfl)) (λ_ h=>h) ⟨g,rfl,rfl⟩
theorem bytes_any (w0:Base) (gw:Nat) (s:Slc) (R:AA) (b:Byt) (hb:BS s b) (hl:b.length≤70368744177664) (w:World) (hw:St w0 w (WS gw s R)) :
  AL 58 #[ptr gw] w (AQ w0 (λv M=>∃ N,ByN b v N∧M=WS gw s R++N)):=by
 refine Sy.enterT (args:=[ptr gw]) hw Tryz.func58 J kL<|sC<|sP (.slice none 0 0)<|sA<|sp J<|sp J<|sP (pT gw 0)<|sS s.v (qc 0 0 J J Aw)<|Sy.callN kR 96 #[s.v] kF (ByN b) (λw hw=>G2 w s.v b ((KI hb).le (λg o v h=>Ad (w0:=w0.inn) hw (R:=s.bl) (λx hx=>by simp [hx]) g o v (.inr h))) hl) (λv M hM=>?_)
 refine sp J<|sG<|Sy.ret ?_
 exact Sy.retT1 (WS gw s R++M) rfl (.inl (show _=_ by kernel_rfl)) (λ_ h=>h) ⟨M,hM,rfl⟩
theorem read_any (w:World) (v:Value) (x:Byt) (hv:BytR (rdW w) v x) (hl:x.length≤70368744177664):AL 67 #[v] w (BD w (λv M=>∃ g u N,ByN x u N∧v=ptr g∧M=(g,253,#[u,.int .i64 0])::N)):=by
 refine Sy.enter (args:=[v]) Tryz.func67 J kL<|sC<|sP (.pointer none)<|sA<|sp J<|Sy.callN kR 96 #[v] kF (ByN x) (λw' hw=>G2 w' v x (hv.le (λg o u h=>Ad (R:=[]) hw (λ_ h=>by cases h) g o u (.inl h))) hl) (λu M hM=>?_)
 have hM':=hM
 obtain ⟨A,n,cp,rfl,_⟩:=hM'
 refine sP (.agg #[.slice A n cp,.int .i64 0])<|sM 253 #[.slice A n cp,.int .i64 0] (λg=>?_)
 refine sp J<|sG<|Sy.ret ?_
 exact Sy.retGM ((g,253,#[.slice A n cp,.int .i64 0])::M) rfl (.inl (show _=_ by kernel_rfl)) (λ_ h=>h.perm (List.perm_append_comm (l₁:=M))) ⟨g,_,M,hM,rfl,rfl⟩
theorem BytR.slice {C:Rdr} {A:Option Addr} {n cp:Nat} {b:Byt} (h:BytR C (.slice A n cp) b) {l m:Nat} (hl:l≤m) (hm:m≤n):BytR C (sliced A l m cp 1) ((b.drop l).take (m - l)):=by
 obtain ⟨A',n',cp',e,h2,h3,h4,h5⟩:=h
 injection e with e1 e2 e3
 subst e1 e2 e3
 refine ⟨_,_,_,rfl,by rw [List.length_take,List.length_drop]; omega,by omega,by omega,λhne=>?_⟩
 have hb:b≠[]:=λe=>hne (by rw [e]; simp)
 have hlt:l<m:=by
  rcases Nat.lt_or_ge l m with h | h
  ·exact h
  ·exact (hne (by rw [show m - l=0 by omega,List.take_zero])).elim
 obtain ⟨g,o,rfl,hq⟩:=h5 hb
 refine ⟨g,o+l,?_,λj u hj=>?_⟩
 ·rw [if_neg om,Option.map_some,CC,Nat.mul_one]
 ·have hj':j<m - l:=by
   have:=(List.getElem?_eq_some_iff.1 hj).1
   rw [List.length_take] at this; omega
  rw [List.getElem?_take_of_lt hj',List.getElem?_drop] at hj
  rw [Nat.add_assoc]
  exact hq _ _ hj
theorem BytR.drop {C:Rdr} {A:Option Addr} {n cp:Nat} {b:Byt} (h:BytR C (.slice A n cp) b) {l:Nat} (hl:l≤n):BytR C (sliced A l n cp 1) (b.drop l):=by
 have q:=h.slice hl (Nat.le_refl n)
 obtain ⟨A',n',cp',e,h2,_⟩:=h
 injection e with e1 e2 e3
 subst e1 e2 e3
 rw [List.take_of_length_le (by rw [List.length_drop]; omega)] at q
 exact q
theorem KB {F:AJ} {o:Oper} (x kx:Operand) (A:Option Addr) (n cp k:Nat) (ho:o.op=.slice 27 x (some kx) none none) (hx:evF F x=.slice A n cp) (hk:evF F kx=.int .i64 (k:Int)) (h:k≤n) (w:World):(execOp (evF F) o).run Tryz.prog w=.ok (.value (sliced A k n cp 1)) w:=by
 have ht:Tryz.prog.underlying 27=some (.slice (Tryz.prog.elem 27)):=kZ
 have e:(Instr.sliceAt 27 (.slice A n cp) (some (.int .i64 (k:Int))) none none).run Tryz.prog w=.ok (sliced A k n cp 1) w:=by
  rw [run_sliceAt_slice w 27 _ _ _ _ ht,run_slice_l w 27 A n cp ht .i64 k om om]
  have hs:(sizeOf (Tryz.prog.elem 27)).run Tryz.prog w=.ok 1 w:=kZ
  rw [hs,Result.andThen_ok,Int.toNat_natCast]
 unfold execOp
 simp only [ho,hx,hk,Option.map_some,Option.map_none,e,Sem.run_bind,Sem.run_pure,Result.andThen_ok]
theorem LE {F:AJ} {o:Oper} (x kx hx':Operand) (A:Option Addr) (n cp k m:Nat) (ho:o.op=.slice 27 x (some kx) (some hx') none) (hx:evF F x=.slice A n cp) (hk:evF F kx=.int .i64 (k:Int)) (hm:evF F hx'=.int .i64 (m:Int)) (h:k≤m) (h2:m≤cp) (w:World):(execOp (evF F) o).run Tryz.prog w=.ok (.value (sliced A k m cp 1)) w:=by
 have ht:Tryz.prog.underlying 27=some (.slice (Tryz.prog.elem 27)):=kZ
 have e:(Instr.sliceAt 27 (.slice A n cp) (some (.int .i64 (k:Int))) (some (.int .i64 (m:Int))) none).run Tryz.prog w=.ok (sliced A k m cp 1) w:=by
  rw [run_sliceAt_slice w 27 _ _ _ _ ht,run_slice_lh w 27 A n cp ht .i64 .i64 k m om om om]
  have hs:(sizeOf (Tryz.prog.elem 27)).run Tryz.prog w=.ok 1 w:=kZ
  rw [hs,Result.andThen_ok,Int.toNat_natCast,Int.toNat_natCast]
 unfold execOp
 simp only [ho,hx,hk,hm,Option.map_some,Option.map_none,e,Sem.run_bind,Sem.run_pure,Result.andThen_ok]
theorem Su (t:TypeId) (a c:Nat) (ha:a<72057594037927936) (hc:c<256) (w:World):(binOp .or t (.int .u64 ((a*256:Nat):Int)) (.int .u64 (c:Int))).run Tryz.prog w=.ok (.int .u64 ((256*a+c:Nat):Int)) w:=by
 have e:((BitVec.ofInt IntKind.u64.bits ((a*256:Nat):Int) ||| BitVec.ofInt IntKind.u64.bits (c:Int)).toNat:Nat)=256*a+c:=by
  show ((BitVec.ofInt 64 ((a*256:Nat):Int) ||| BitVec.ofInt 64 (c:Int)).toNat)=_
  rw [BitVec.toNat_or,BitVec.ofInt_natCast,BitVec.ofInt_natCast,BitVec.toNat_ofNat,BitVec.toNat_ofNat,Nat.mod_eq_of_lt om,Nat.mod_eq_of_lt om,Nat.mul_comm]
  exact (Nat.two_pow_add_eq_or_of_lt (i:=8) hc a).symm
 have h:IntKind.u64.wrap (((BitVec.ofInt IntKind.u64.bits ((a*256:Nat):Int) ||| BitVec.ofInt IntKind.u64.bits (c:Int)).toNat:Nat):Int)=((256*a+c:Nat):Int):=by
  rw [e]; exact wrap_u64 om om
 simp only [binOp,ne_eq,not_true_eq_false,if_false,Op.intBits,Sem.run_pure]
 rw [h]
theorem Qx (t:TypeId) (a:Nat) (ha:a<72057594037927936) (w:World):(binOp .shl t (.int .u64 (a:Int)) (.int .u64 8)).run Tryz.prog w=.ok (.int .u64 ((a*256:Nat):Int)) w:=by
 have h:IntKind.u64.wrap ((a:Int)*2 ^ min (8:Int).toNat IntKind.u64.bits)=((a*256:Nat):Int):=by
  rw [show (2:Int) ^ min (8:Int).toNat IntKind.u64.bits=256 from rfl,Int.natCast_mul]
  exact wrap_u64 om om
 simp only [binOp,Op.shift,if_neg (show ¬ (8:Int)<0 by omega),Sem.run_pure,h]
abbrev t3V (x:Nat×Nat×Nat):Value:=.tuple #[.int .u64 (x.1:Int),.int .i64 (x.2.1:Int),.int .i64 (x.2.2:Int)]
def fxN (b:Byt) (k:Nat):Nat×Nat×Nat:=if b.length<k then (0,0,110) else (said (b.take k),k,0)
theorem I' (b:Byt) (i:Nat) (u:UInt8) (h:b[i]? = some u):said (b.take (i+1))=256*said (b.take i)+u.toNat:=by
 rw [List.take_add_one,h]
 exact OP _ _
theorem KX (b:Byt) (i:Nat) (hi:i≤7):said (b.take i)<72057594037927936:=by
 have h:=Cm (b.take i)
 have h2:256 ^ (b.take i).length≤256 ^ 7:=Nat.pow_le_pow_right dZ (by rw [List.length_take]; omega)
 exact Nat.lt_of_lt_of_le h h2
theorem Dm (w:World) (v:Value) (b:Byt) (k:Nat) (hk:k≤8) (h1:1≤k) (hv:BytR (rdW w) v b):AL 162 #[v,.int .i64 (k:Int)] w (Ai w (t3V (fxN b k))):=by
 obtain ⟨A,n,cp,rfl,h2,h3,h4,h5⟩:=hv
 refine Sy.enter (args:=[.slice A n cp,.int .i64 (k:Int)]) Tryz.func162 J kL<|sC<|sP (uZ 0)<|sP (.int .i64 0)<|sP (.int .i64 0)<|sG<|Sy.seq<|sC ?_
 obtain ⟨b1,hb1⟩:=xE (decide (n<k))
 refine sp J<|sP (.int .i64 (n:Int))<|sp J<|sS (.bool b1) (qls J J J hb1)<|sG ?_
 cases b1
 case' true =>
  have l1:=dY hb1
  refine sT<|sC<|sP (uZ 0)<|sP (.int .i64 0)<|sP (.int .i64 110)<|sG<|Sy.ret<|Sy.then_ret ?_
  have e:fxN b k=(0,0,110):=by unfold fxN; rw [if_pos om]
  rw [e]
  exact Sy.ret3 J (.inl (show _=_ by kernel_rfl)) (.inl (show _=_ by kernel_rfl)) (.inl (show _=_ by kernel_rfl))
 have l1:=dN hb1
 have e:fxN b k=(said (b.take k),k,0):=by unfold fxN; rw [if_neg om]
 rw [e]
 obtain ⟨g,o,rfl,hq⟩:=h5 (by intro e; rw [e] at h2; simp at h2; omega)
 refine sU<|Sy.skip<|sB<|sP (uZ 0)<|sG<|Sy.seq<|sC<|sp J<|sp J<|sS (.slice (some ⟨g,o,none⟩) k cp) (Quiet.pure (Ow 27 _ _ g o n cp k 1 .i64 J J J kZ kF om))<|sP (.int .i64 (k:Int))<|sP (.int .i64 0)<|sG<|Sy.block<|Sy.loopT (Y:=Nat×Value) k (λi y=>[(1,.int .i64 (k:Int)),(7,uZ (y.1:Int)),(16,.slice (some ⟨g,o,none⟩) k cp),(17,.int .i64 (k:Int)),(18,.int .i64 (i:Int))]) (λ_ _=>[]) (λi y=>y.1=said (b.take i)) (0,.bool true) rfl ac5 (λ_ h=>h) (λi y hi hy=>?_)
 obtain ⟨a,z⟩:=y
 dsimp only at hy ⊢
 refine sC ?_
 obtain ⟨b2,hb2⟩:=xE (decide (i<k))
 refine sS (.bool b2) (qls J J J hb2)<|sG<|Sy.seq ?_
 cases b2
 case' false =>
  have l2:=dN hb2
  obtain rfl:i=k:=om
  refine sU<|Sy.exit<|Sy.then_exit<|Sy.then_exit<|Sy.in_exit<|Sy.then_<|sC<|sp J<|sp J<|sp J<|sp J<|sP (.int .i64 0)<|sG<|Sy.ret ?_
  rw [← hy]
  exact Sy.ret3 J (.inl (show _=_ by kernel_rfl)) (.inl (show _=_ by kernel_rfl)) (.inl (show _=_ by kernel_rfl))
 have l2:=dY hb2
 obtain ⟨u,hu⟩:∃ u,b[i]? = some u:=⟨_,List.getElem?_eq_getElem om⟩
 have ha:a<72057594037927936:=by rw [hy]; exact KX b i om
 have hu2:=u.toNat_lt
 refine sT<|Sy.skip<|Sy.then_<|Sy.seq<|Sy.block<|sC<|sS (.pointer (some ⟨g,o+i*1,none⟩)) (Quiet.pure (BJ 27 _ _ _ (some ⟨g,o,none⟩) g o k cp i 1 .i64 J J J J Aw kF l2))<|sS (bv u) (Quiet.thereOne g (o+i*1) 5 _ _ J kR (hq i u hu).1 _ (by rw [Nat.mul_one]; exact (hq i u hu).2) uy5 J)<|sp J<|Sy.nil<|Sy.then_<|Sy.region<|sp J<|sS (uZ ((a*256:Nat):Int)) (Quiet.pure (AE .shl _ _ _ .u64 _ _ _ J J J (Qx _ a ha)))<|sp J<|sS (uZ ((u.toNat:Nat):Int)) (Quiet.pure (λw=>KC w _ _ _ u J J))<|sS (uZ ((256*a+u.toNat:Nat):Int)) (Quiet.pure (AE .or _ _ _ .u64 _ _ _ J J J (Su _ a _ ha hu2)))<|sp J<|Sy.nil<|Sy.in_<|Sy.then_<|Sy.region<|sS (iZ (i+1)) (qad J J J)<|sp J<|Sy.nil ?_
 exact Sy.againT (256*a+u.toNat,.bool true) l2 (by show 256*a+u.toNat=_; rw [hy,I' b i u hu]) ac5 (λw h=>h)
section
variable {P:Program} {w0:Base} {n:Nat} {Q:Exit→Act→World→Prop} {F:AJ} {L:AA}
def V8 (w0:Base) (n:Nat) (G:AJ) (M:AA):Exit→Act→World→Prop
 | .normal,a,w=>Fr w0.ds a n G∧St w0 w M
 | _,_,_=>False
theorem DN {x:Code} (G:AJ) (M:AA) (h1:wpC P w0 n (V8 w0 n G M) F L x) (h2:X w0 n Q G M .normal):wpC P w0 n Q F L x:=λa w ha hw =>
 wpIn_mono (h1 a w ha hw) λe a w hq=>by
  cases e with
  | normal=>exact h2 a w hq.1 hq.2
  | _=>exact hq.elim
theorem A_ {G:AJ} {M:AA} (hF:∀ p∈G,F.lookup p.1=some p.2) (hL:∀ w,St w0 w L→St w0 w M):X w0 n (V8 w0 n G M) F L .normal:=λ_ w ha hw=>⟨ha.all hF,hL w hw⟩
end
theorem BytR.at {w w':World} {L:AA} {v:Value} {b:Byt} (h:BytR (rdW w) v b) (hw:St (Base.of w) w' L):BytR (rdW w') v b:=h.le λg o u hu=>Ad (R:=[]) hw (λ_ h=>by cases h) g o u (.inl hu)
def lgN (b:Byt):Nat×Nat×Nat:=if (fxN (b.drop 1) (wide (b.getD 0 0).toNat)).2.2=0 then (if (fxN (b.drop 1) (wide (b.getD 0 0).toNat)).1<CJ (b.getD 0 0).toNat then (0,0,111) else ((fxN (b.drop 1) (wide (b.getD 0 0).toNat)).1,1+wide (b.getD 0 0).toNat,0)) else (0,0,(fxN (b.drop 1) (wide (b.getD 0 0).toNat)).2.2)
theorem Dz (b:Byt) (k:Nat) (hk:k≤8):(fxN b k).1<18446744073709551616∧(fxN b k).2.1≤8∧(fxN b k).2.2≤200:=by
 unfold fxN
 split
 ·exact ⟨by decide,by decide,by decide⟩
 ·refine ⟨?_,hk,Nat.zero_le _⟩
  have h:=Cm (b.take k)
  have h2:256 ^ (b.take k).length≤256 ^ 8:=Nat.pow_le_pow_right dZ (by rw [List.length_take]; omega)
  exact Nat.lt_of_lt_of_le h h2
theorem EP (c:Nat):wide c≤8∧1≤wide c:=by unfold wide; split <;> (try split) <;> omega
theorem Qq (c:Nat):CJ c<18446744073709551616:=by unfold CJ; split <;> (try split) <;> omega
theorem K0 (w:World) (v:Value) (b:Byt) (hb0:b≠[]) (hc:253≤(b.getD 0 0).toNat) (hv:BytR (rdW w) v b):AL 251 #[v] w (Ai w (t3V (lgN b))):=by
 have hv0:=hv
 obtain ⟨A,n,cp,rfl,h2,h3,h4,h5⟩:=hv
 obtain ⟨x,hx⟩:=xE (b.getD 0 0)
 have hx0:b[0]? = some x:=by rw [hx,List.getD_eq_getElem?_getD,List.getElem?_eq_getElem (List.length_pos_iff.2 hb0)]; rfl
 have hn1:1≤n:=by have:=List.length_pos_iff.2 hb0; omega
 obtain ⟨c,hcx⟩:=xE x.toNat
 have hc1:c<256:=by rw [hcx]; exact x.toNat_lt
 obtain ⟨f,hf⟩:=xE (fxN (b.drop 1) (wide c))
 have hlg:lgN b=if f.2.2=0 then (if f.1<CJ c then (0,0,111) else (f.1,1+wide c,0)) else (0,0,f.2.2):=by unfold lgN; rw [← hx, ← hcx, ← hf]
 rw [← hx, ← hcx] at hc
 rw [hlg]
 obtain ⟨hf1,hf2,hf3⟩:f.1<18446744073709551616∧f.2.1≤8∧f.2.2≤200:=by rw [hf]; exact Dz _ _ (EP c).1
 obtain ⟨g,o,rfl,hq⟩:=h5 hb0
 obtain ⟨A1,hA1⟩:∃ A1,sliced (some ⟨g,o,none⟩) 1 n cp 1=.slice A1 (n - 1) (cp - 1):=⟨_,rfl⟩
 have hv1:BytR (rdW w) (.slice A1 (n - 1) (cp - 1)) (b.drop 1):=by rw [← hA1]; exact hv0.drop hn1
 have hwc:=EP c
 have hlc:=Qq c
 clear hlg
 have hfx:=hf
 clear hf
 refine Sy.enter (args:=[.slice (some ⟨g,o,none⟩) n cp]) Tryz.func251 J kL<|sC<|sP (uZ 0)<|sP (.int .i64 0)<|sP (.int .i64 0)<|sA<|sP (.int .i64 8)<|sP (uZ 4294967296)<|sG<|Sy.seq<|DN [(0,.slice (some ⟨g,o,none⟩) n cp),(5,iZ (wide c)),(6,uZ ((CJ c:Nat):Int))] [] ?_ ?_
 ·refine sC ?_
  refine sp J<|sS (.pointer (some ⟨g,o+0*1,none⟩)) (Quiet.pure (BJ 27 _ _ _ (some ⟨g,o,none⟩) g o n cp 0 1 .i64 J J J J Aw kF hn1))<|sS (.int .u8 (c:Int)) (Quiet.thereOne g (o+0*1) 5 _ _ J kR (hq 0 x hx0).1 _ (by rw [hcx]; exact (hq 0 x hx0).2) uy5 J)<|sG<|Sy.block<|sC ?_
  obtain ⟨b1,hb1⟩:=xE (decide (c=253))
  refine sS (.bool b1) (Quiet.pure (AE .eql _ _ _ .u8 _ _ _ J J J (Aa _ _ _ _ _ (by rw [hb1]; exact decide_eq_decide.2 om))))<|sp J<|sG ?_
  cases b1
  case' true =>
   obtain rfl:c=253:=of_decide_eq_true hb1.symm
   refine sT<|Sy.region<|sP (.int .i64 2)<|sP (uZ 253)<|Sy.nil<|Sy.in_ ?_
   exact A_ ac3 (λ_ h=>h)
  have l1:=dN hb1
  refine sU<|sC ?_
  obtain ⟨b2,hb2⟩:=xE (decide (c=254))
  refine sS (.bool b2) (Quiet.pure (AE .eql _ _ _ .u8 _ _ _ J J J (Aa _ _ _ _ _ (by rw [hb2]; exact decide_eq_decide.2 om))))<|sp J<|sG ?_
  cases b2
  case' true =>
   obtain rfl:c=254:=of_decide_eq_true hb2.symm
   refine sT<|Sy.region<|sP (.int .i64 4)<|sP (uZ 65536)<|Sy.nil<|Sy.in_ ?_
   exact A_ ac3 (λ_ h=>h)
  have l2:=dN hb2
  obtain rfl:c=255:=om
  refine sU<|Sy.skip<|Sy.in_ ?_
  exact A_ ac3 (λ_ h=>h)
 refine sB<|sp J<|sS (.slice A1 (n - 1) (cp - 1)) (Quiet.pure (λw=>by rw [← hA1]; exact KB _ _ _ n cp 1 J J J hn1 w))<|sp J<|sS (t3V f) (qg (λw' hw=>by rw [hfx]; exact Dm w' _ _ _ hwc.1 hwc.2 (hv1.at hw)))<|sp J<|sp J<|sp J<|sp J<|sp J<|sp J<|sp J<|sG<|Sy.seq ?_
 obtain ⟨e1,he1⟩:=xE (if f.2.2=0 then (if f.1<CJ c then 111 else 0) else f.2.2)
 refine DN [(5,iZ (wide c)),(7,uZ ((f.1:Nat):Int)),(9,iZ e1)] [] ?_ ?_
 ·refine sC ?_
  obtain ⟨b1,hb1⟩:=xE (decide (f.2.2=0))
  refine sp J<|sS (.bool b1) (qeq J J J hb1)<|sp J ?_
  cases b1
  ·have l1:=dN hb1
   rw [if_neg l1] at he1
   refine sN<|sN<|sN<|sP (.bool false)<|sG<|sU<|Sy.skip ?_
   rw [he1]
   exact A_ ac3 (λ_ h=>h)
  ·have l1:=dY hb1
   rw [if_pos l1] at he1
   obtain ⟨b2,hb2⟩:=xE (decide (f.1<CJ c))
   refine sp J<|sp J<|sS (.bool b2) (Quiet.pure (AE .lss _ _ _ .u64 _ _ _ J J J (DF _ _ _ _ _ (by rw [hb2]; exact decide_eq_decide.2 om))))<|sP (.bool b2)<|sG ?_
   cases b2
   ·have l2:=dN hb2
    rw [if_neg l2] at he1
    refine sU<|Sy.skip ?_
    have e2:e1=f.2.2:=by rw [he1,l1]
    rw [e2]
    exact A_ ac3 (λ_ h=>h)
   ·have l2:=dY hb2
    rw [if_pos l2] at he1
    refine sT<|Sy.region<|sP (.int .i64 111)<|Sy.nil ?_
    rw [he1]
    exact A_ ac3 (λ_ h=>h)
 have he2:e1≤200:=by rw [he1]; split <;> (try split) <;> omega
 refine Sy.then_<|Sy.seq<|sC ?_
 obtain ⟨b1,hb1⟩:=xE (decide (e1≠0))
 refine sp J<|sS (.bool b1) (qne J J J hb1)<|sG ?_
 cases b1
 ·have l1:e1=0:=Decidable.of_not_not (of_decide_eq_false hb1.symm)
  have l2:f.2.2=0∧¬ f.1<CJ c:=by
   rw [he1] at l1
   by_cases h:f.2.2=0
   ·rw [if_pos h] at l1
    by_cases h':f.1<CJ c
    ·rw [if_pos h'] at l1; cases l1
    ·exact ⟨h,h'⟩
   ·rw [if_neg h] at l1; exact (h l1).elim
  rw [if_pos l2.1,if_neg l2.2]
  refine sU<|Sy.skip<|sB<|sp J<|sp J<|sS (iZ (1+wide c)) (qad J J J)<|sp J<|sp J<|sP (.int .i64 0)<|sG<|Sy.ret ?_
  exact Sy.ret3 J (.inl (show _=_ by kernel_rfl)) (.inl (show _=_ by kernel_rfl)) (.inl (show _=_ by kernel_rfl))
 ·have l1:=dY hb1
  have l2:(if f.2.2=0 then (if f.1<CJ c then (0,0,111) else (f.1,1+wide c,0)) else (0,0,f.2.2))=(0,0,e1):=by
   rw [he1] at l1 ⊢
   by_cases h:f.2.2=0
   ·rw [if_pos h] at l1
    rw [if_pos h,if_pos h]
    by_cases h':f.1<CJ c
    ·rw [if_pos h',if_pos h']
    ·rw [if_neg h'] at l1; exact (l1 J).elim
   ·rw [if_neg h,if_neg h]
  rw [l2]
  refine sT<|sC<|sp J<|sP (uZ 0)<|sP (.int .i64 0)<|sp J<|sG<|Sy.ret<|Sy.then_ret ?_
  exact Sy.ret3 J (.inl (show _=_ by kernel_rfl)) (.inl (show _=_ by kernel_rfl)) (.inl (show _=_ by kernel_rfl))
theorem Sl (b:Byt):(lgN b).1<18446744073709551616∧(lgN b).2.1≤9∧(lgN b).2.2≤200:=by
 have h:=Dz (b.drop 1) (wide (b.getD 0 0).toNat) (EP _).1
 have h2:=EP (b.getD 0 0).toNat
 unfold lgN
 split
 ·split
  ·exact ⟨by decide,by decide,by decide⟩
  ·exact ⟨h.1,by show 1+_≤9; omega,Nat.zero_le _⟩
 ·exact ⟨(show 0<18446744073709551616 by decide),(show 0≤9 by decide),h.2.2⟩
def vrG (b:Byt):Nat×Nat×Nat:=if 253≤(fxN b 1).1 then lgN b else fxN b 1
def vrN (b:Byt) (most:Nat):Nat×Nat×Nat:=if (vrG b).2.2=0∧most<(vrG b).1 then (0,0,112) else vrG b
theorem Hi (b:Byt):(vrG b).1<18446744073709551616∧(vrG b).2.1≤9∧(vrG b).2.2≤200:=by
 have h:=Dz b 1 dZ
 unfold vrG
 split
 ·exact Sl b
 ·exact ⟨h.1,Nat.le_succ_of_le h.2.1,h.2.2⟩
theorem Hh (b:Byt) (most:Nat):(vrN b most).1<18446744073709551616∧(vrN b most).2.1≤9∧(vrN b most).2.2≤200:=by
 unfold vrN
 split
 ·exact ⟨by decide,by decide,by decide⟩
 ·exact Hi b
theorem Ic {b:Byt} {k:Nat} (h:(fxN b k).2.2=0):BT k b=some ((fxN b k).1,b.drop (fxN b k).2.1)∧(fxN b k).2.1≤b.length∧(fxN b k).2.1=k:=by
 unfold fxN at h ⊢
 by_cases hl:b.length<k
 ·rw [if_pos hl] at h; cases h
 ·rw [if_neg hl]
  refine ⟨?_,by show k≤_; omega,rfl⟩
  unfold BT
  rw [bind_some (show An k b=some (b.take k,b.drop k) from if_pos om)]
  rfl
theorem NZ {b:Byt} {k:Nat} (h:(fxN b k).2.2≠0):BT k b=none:=by
 unfold fxN at h
 by_cases hl:b.length<k
 ·unfold BT
  exact bind_none (show An k b=none from if_neg om)
 ·rw [if_neg hl] at h; exact (h J).elim
def Gz:Ps Nat:=AH (BT 1) λc=>if c<253 then BF c else HH c
theorem Hw (most:Nat):Fj most=AH Gz λn=>AH (BH (decide (n≤most))) λ_=>BF n:=rfl
theorem Fu {b:Byt} {u:UInt8} {l:Byt} (hb:b=u::l):fxN b 1=(u.toNat,1,0):=by
 subst hb
 unfold fxN
 rw [if_neg (by simp)]
 simp [said]
theorem SU {b:Byt} {u:UInt8} {l:Byt} (hb:b=u::l):BT 1 b=some (u.toNat,l):=by
 have h:=Ic (b:=b) (k:=1) (by rw [Fu hb])
 rw [Fu hb] at h
 rw [h.1,hb]
 rfl
theorem KN (b:Byt):((vrG b).2.2=0→Gz b=some ((vrG b).1,b.drop (vrG b).2.1)∧(vrG b).2.1≤b.length)∧((vrG b).2.2≠0→Gz b=none):=by
 cases b with
 | nil =>
  have e:vrG []=(0,0,110):=rfl
  rw [e]
  exact ⟨λh=>(by cases h),λ_=>rfl⟩
 | cons u l =>
  have hu:=u.toNat_lt
  have h1:=Fu (rfl:u::l=u::l)
  have h2:=SU (rfl:u::l=u::l)
  unfold vrG
  rw [h1]
  by_cases hc:253≤u.toNat
  ·rw [if_pos (show 253≤(u.toNat,1,0).1 from hc)]
   have e1:Gz (u::l)=HH u.toNat l:=by
    unfold Gz
    rw [bind_some h2,if_neg om]
   rw [e1]
   unfold lgN HH
   show ((if (fxN l (wide u.toNat)).2.2=0 then _ else _:Nat×Nat×Nat).2.2=0→_)∧_
   obtain ⟨f,hf⟩:=xE (fxN l (wide u.toNat))
   have hy:=@Ic l (wide u.toNat)
   have hn:=@NZ l (wide u.toNat)
   show ((if (fxN l (wide u.toNat)).2.2=0 then (if (fxN l (wide u.toNat)).1<CJ u.toNat then (0,0,111) else ((fxN l (wide u.toNat)).1,1+wide u.toNat,0)) else (0,0,(fxN l (wide u.toNat)).2.2):Nat×Nat×Nat).2.2=0→AH (BT (wide u.toNat)) (λn=>AH (BH (decide (CJ u.toNat≤n))) λ_=>BF n) l=some ((if (fxN l (wide u.toNat)).2.2=0 then (if (fxN l (wide u.toNat)).1<CJ u.toNat then (0,0,111) else ((fxN l (wide u.toNat)).1,1+wide u.toNat,0)) else (0,0,(fxN l (wide u.toNat)).2.2):Nat×Nat×Nat).1,(u::l).drop (if (fxN l (wide u.toNat)).2.2=0 then (if (fxN l (wide u.toNat)).1<CJ u.toNat then (0,0,111) else ((fxN l (wide u.toNat)).1,1+wide u.toNat,0)) else (0,0,(fxN l (wide u.toNat)).2.2):Nat×Nat×Nat).2.1)∧(if (fxN l (wide u.toNat)).2.2=0 then (if (fxN l (wide u.toNat)).1<CJ u.toNat then (0,0,111) else ((fxN l (wide u.toNat)).1,1+wide u.toNat,0)) else (0,0,(fxN l (wide u.toNat)).2.2):Nat×Nat×Nat).2.1≤(u::l).length)∧((if (fxN l (wide u.toNat)).2.2=0 then (if (fxN l (wide u.toNat)).1<CJ u.toNat then (0,0,111) else ((fxN l (wide u.toNat)).1,1+wide u.toNat,0)) else (0,0,(fxN l (wide u.toNat)).2.2):Nat×Nat×Nat).2.2≠0→AH (BT (wide u.toNat)) (λn=>AH (BH (decide (CJ u.toNat≤n))) λ_=>BF n) l=none)
   rw [← hf] at hy hn ⊢
   by_cases h0:f.2.2=0
   ·obtain ⟨q1,q2,q3⟩:=hy h0
    rw [if_pos h0]
    by_cases h3:f.1<CJ u.toNat
    ·rw [if_pos h3]
     refine ⟨λh=>(by cases h),λ_=>?_⟩
     rw [bind_some q1]
     exact bind_none (show BH _ _=none by unfold BH; rw [decide_eq_false om]; rfl)
    ·rw [if_neg h3]
     refine ⟨λ_=>⟨?_,by show 1+wide u.toNat≤l.length+1; omega⟩,λh=>(h J).elim⟩
     rw [bind_some q1,bind_some (show BH _ _=some ((),_) by unfold BH; rw [decide_eq_true om]; rfl),q3,Nat.add_comm 1]
     rfl
   ·rw [if_neg h0]
    refine ⟨λh=>(h0 h).elim,λ_=>bind_none (hn h0)⟩
  ·rw [if_neg (show ¬ 253≤(u.toNat,1,0).1 from hc)]
   refine ⟨λ_=>⟨?_,by show 1≤l.length+1; omega⟩,λh=>(h J).elim⟩
   unfold Gz
   rw [bind_some h2,if_pos om]
   rfl
theorem JV {b:Byt} {most:Nat} (h:(vrN b most).2.2=0):Fj most b=some ((vrN b most).1,b.drop (vrN b most).2.1)∧(vrN b most).2.1≤b.length∧(vrN b most).1≤most:=by
 have q:=KN b
 unfold vrN at h ⊢
 by_cases hc:(vrG b).2.2=0∧most<(vrG b).1
 ·rw [if_pos hc] at h; cases h
 ·rw [if_neg hc] at h ⊢
  obtain ⟨q1,q2⟩:=q.1 h
  refine ⟨?_,q2,by omega⟩
  rw [Hw,bind_some q1,bind_some (show BH _ _=some ((),_) by unfold BH; rw [decide_eq_true om]; rfl)]
  rfl
theorem PE {b:Byt} {most:Nat} (h:(vrN b most).2.2≠0):Fj most b=none:=by
 have q:=KN b
 unfold vrN at h
 rw [Hw]
 by_cases h0:(vrG b).2.2=0
 ·by_cases hm:most<(vrG b).1
  ·rw [bind_some (q.1 h0).1]
   exact bind_none (show BH _ _=none by unfold BH; rw [decide_eq_false om]; rfl)
  ·rw [if_neg (λx=>hm x.2)] at h; exact (h h0).elim
 ·exact bind_none (q.2 h0)
theorem Iw (w:World) (v:Value) (b:Byt) (most:Nat) (hm:most<18446744073709551616) (hv:BytR (rdW w) v b):AL 226 #[v,uZ (most:Int)] w (Ai w (t3V (vrN b most))):=by
 obtain ⟨f,hf⟩:=xE (fxN b 1)
 have hff:=Dz b 1 dZ
 obtain ⟨r,hr⟩:=xE (vrG b)
 have hrf:=Hi b
 have hvr:vrN b most=if r.2.2=0∧most<r.1 then (0,0,112) else r:=by unfold vrN; rw [← hr]
 have hrf2:r=if 253≤f.1 then lgN b else f:=by rw [hr,hf]; rfl
 rw [← hr] at hrf
 rw [← hf] at hff
 rw [hvr]
 have hb0:253≤f.1→b≠[]∧253≤(b.getD 0 0).toNat:=λh=>by
  cases b with
  | nil=>rw [hf] at h; simp [fxN] at h
  | cons u l=>rw [hf,Fu J] at h; exact ⟨by simp,h⟩
 have hfx:=hf
 clear hf hvr hr
 refine Sy.enter (args:=[v,uZ (most:Int)]) Tryz.func226 J kL<|sC<|sP (uZ 0)<|sP (.int .i64 0)<|sP (.int .i64 0)<|sA<|sp J<|sS (t3V f) (qg (λw' hw=>by rw [hfx]; exact Dm w' _ _ 1 dZ dZ (hv.at hw)))<|sp J<|sp J<|sp J<|sp J<|sp J<|sp J<|sp J<|sG<|Sy.seq<|DN [(1,uZ (most:Int)),(7,uZ ((r.1:Nat):Int)),(8,iZ r.2.1),(9,iZ r.2.2)] [] ?_ ?_
 ·refine sC ?_
  obtain ⟨b1,hb1⟩:=xE (decide (253≤f.1))
  refine sp J<|sS (.bool b1) (Quiet.pure (AE .geq _ _ _ .u64 _ _ _ J J J (Dy _ _ _ _ _ (by rw [hb1]; exact decide_eq_decide.2 om))))<|sG ?_
  cases b1
  ·rw [if_neg (of_decide_eq_false hb1.symm)] at hrf2
   refine sU<|Sy.skip ?_
   rw [hrf2]
   exact A_ ac4 (λ_ h=>h)
  ·have l1:=dY hb1
   rw [if_pos l1] at hrf2
   refine sT<|Sy.region<|sp J<|sS (t3V r) (qg (λw' hw=>by rw [hrf2]; exact K0 w' _ _ (hb0 l1).1 (hb0 l1).2 (hv.at hw)))<|sp J<|sp J<|sp J<|sp J<|sp J<|sp J<|sp J<|Sy.nil ?_
   exact A_ ac4 (λ_ h=>h)
 clear hrf2 hfx
 refine Sy.then_<|Sy.seq<|sC ?_
 obtain ⟨b1,hb1⟩:=xE (decide (r.2.2=0))
 refine sp J<|sS (.bool b1) (qeq J J J hb1)<|sp J ?_
 cases b1
 ·have l1:=dN hb1
  rw [if_neg (λh=>l1 h.1)]
  refine sN<|sN<|sN<|sP (.bool false)<|sG<|sU<|Sy.skip<|sB<|sp J<|sp J<|sp J<|sp J<|sp J<|sp J<|sG<|Sy.ret ?_
  exact Sy.ret3 J (.inl (show _=_ by kernel_rfl)) (.inl (show _=_ by kernel_rfl)) (.inl (show _=_ by kernel_rfl))
 have l1:=dY hb1
 obtain ⟨b2,hb2⟩:=xE (decide (most<r.1))
 refine sp J<|sp J<|sS (.bool b2) (Quiet.pure (AE .gtr _ _ _ .u64 _ _ _ J J J (Dx _ _ _ _ _ (by rw [hb2]; exact decide_eq_decide.2 om))))<|sP (.bool b2)<|sG ?_
 cases b2
 ·have l2:=dN hb2
  rw [if_neg (λh=>l2 h.2)]
  refine sU<|Sy.skip<|sB<|sp J<|sp J<|sp J<|sp J<|sp J<|sp J<|sG<|Sy.ret ?_
  exact Sy.ret3 J (.inl (show _=_ by kernel_rfl)) (.inl (show _=_ by kernel_rfl)) (.inl (show _=_ by kernel_rfl))
 ·have l2:=dY hb2
  rw [if_pos ⟨l1,l2⟩]
  refine sT<|sC<|sP (uZ 0)<|sP (.int .i64 0)<|sP (.int .i64 112)<|sG<|Sy.ret<|Sy.then_ret ?_
  exact Sy.ret3 J (.inl (show _=_ by kernel_rfl)) (.inl (show _=_ by kernel_rfl)) (.inl (show _=_ by kernel_rfl))
theorem Ox {F:AJ} {o:Oper} (x y:Operand) (ts:Array TypeId) (k:Nat) (ho:o.op=.call { callee:=.builtin .max,args:=#[x,y],argTypes:=ts }) (hx:evF F x=.int .i64 (k:Int)) (hy:evF F y=.int .i64 0) (w:World):(execOp (evF F) o).run Tryz.prog w=.ok (.value (.int .i64 (k:Int))) w:=by
 have h:(if (0:Int)>(k:Int) then (0:Int) else (k:Int))=(k:Int):=if_neg om
 unfold execOp
 simp only [ho,resolve,invoke,builtin,Sem.run_bind,Sem.run_pure,Result.andThen_ok,List.map_toArray,List.map_cons,List.map_nil,hx,hy,Builtin.max_,Builtin.max2,List.foldlM,h]
theorem HJ (w:World) (v:Value) (b:Byt) (most:Nat) (hm:most<9223372036854775808) (hv:BytR (rdW w) v b):AL 192 #[v,.int .i64 (most:Int)] w (Ai w (t3V (vrN b most))):=by
 obtain ⟨r,hr⟩:=xE (vrN b most)
 have hrf:=Hh b most
 rw [← hr] at hrf ⊢
 refine Sy.enter (args:=[v,.int .i64 (most:Int)]) Tryz.func192 J kL<|sC<|sP (uZ 0)<|sP (.int .i64 0)<|sP (.int .i64 0)<|sA<|sp J<|sp J<|sS (.int .i64 (most:Int)) (Quiet.pure (Ox _ _ _ most J J J))<|sS (uZ (most:Int)) (Quiet.pure (λw=>DG w _ _ _ most om J J))<|sS (t3V r) (qg (λw' hw=>by rw [hr]; exact Iw w' _ _ most om (hv.at hw)))<|sp J<|sp J<|sp J<|sp J<|sp J<|sp J<|sp J<|sG<|Sy.seq<|sC ?_
 obtain ⟨b1,hb1⟩:=xE (decide (r.2.2=0))
 refine sp J<|sS (.bool b1) (qeq J J J hb1)<|sp J ?_
 cases b1
 ·refine sN<|sN<|sP (.bool false) ?_
  refine sG<|sU<|Sy.skip<|sB<|sp J<|sp J<|sp J<|sp J<|sp J<|sp J<|sG<|Sy.ret ?_
  exact Sy.ret3 J (.inl (show _=_ by kernel_rfl)) (.inl (show _=_ by kernel_rfl)) (.inl (show _=_ by kernel_rfl))
 ·refine sp J<|sS (.bool false) (Quiet.pure (AE .lss _ _ _ .i64 _ _ _ J J J (DF _ _ _ _ _ (decide_eq_false om))))<|sP (.bool false) ?_
  refine sG<|sU<|Sy.skip<|sB<|sp J<|sp J<|sp J<|sp J<|sp J<|sp J<|sG<|Sy.ret ?_
  exact Sy.ret3 J (.inl (show _=_ by kernel_rfl)) (.inl (show _=_ by kernel_rfl)) (.inl (show _=_ by kernel_rfl))
abbrev RQ (gr:Nat) (sl:Value) (e:Nat) (R:AA):AA:=(gr,253,#[sl,.int .i64 (e:Int)])::R
def Rdd {α:Type} (p:Ps α) (val:α→Value→Prop) (w0:Base) (gr:Nat) (R S:AA) (s:RS) (v:Value) (M:AA):Prop :=
 ∃ x s' sl,After p s x s'∧val x v∧s'.e≤200∧s'.rest.length≤s.rest.length∧BytR (rdC w0 S) sl s'.rest∧M=RQ gr sl s'.e R
def Uw {α:Type} (p:Ps α) (val:α→Value→AA→Prop) (w0:Base) (gr:Nat) (R S:AA) (s:RS) (v:Value) (M:AA):Prop :=
 ∃ x s' sl N,After p s x s'∧val x v N∧s'.e≤200∧s'.rest.length≤s.rest.length∧BytR (rdC w0 S) sl s'.rest∧M=RQ gr sl s'.e (R++N)
theorem Ih (w0:Base) (gr:Nat) (sl:Value) (e0 e:Nat) (he0:e0≤200) (R:AA) (w:World) (hw:St w0 w (RQ gr sl e0 R)) :
  AL 152 #[ptr gr,.int .i64 (e:Int)] w (AQ w0 (λ_ M=>M=RQ gr sl (if e0=0 then e else e0) R)):=by
 refine Sy.enterT (args:=[ptr gr,.int .i64 (e:Int)]) hw Tryz.func152 J kL<|sC ?_
 obtain ⟨b1,hb1⟩:=xE (decide (e0=0))
 refine sp J<|sp J<|sP (pT gr 1)<|sS (.int .i64 (e0:Int)) (qc 0 1 J J En)<|sS (.bool b1) (qeq J J J hb1)<|sG ?_
 cases b1
 ·rw [if_neg (of_decide_eq_false hb1.symm)]
  refine sU<|Sy.skip ?_
  exact Sy.retT0 J (RQ gr sl e0 R) (λ_ h=>h) (λ_=>by rfl)
 ·rw [if_pos (of_decide_eq_true hb1.symm)]
  refine sT<|Sy.region<|sp J<|sp J<|sp J<|sP (pT gr 1)<|sw 0 J #[sl,.int .i64 (e:Int)] (wO 1 28 (.int .i64 (e:Int)) J)<|Sy.nil ?_
  exact Sy.retT0 J (RQ gr sl e R) (λ_ h=>h) (λ_=>by rfl)
theorem B0 (p:Ps Nat) (w0:Base) (gr:Nat) (sl:Value) (s:RS) (R S:AA) (hS:∀ b∈S,b∈R) (n k e:Nat) (he0:s.e≤200) (he:e≤200) (hk:k≤200) (hn:n<18446744073709551616) (hy:e=0→p s.rest=some (n,s.rest.drop k)∧k≤s.rest.length) (hno:e≠0→p s.rest=none) (hv:BytR (rdC w0 S) sl s.rest) (w:World) (hw:St w0 w (RQ gr sl s.e R)) :
  AL 161 #[ptr gr,uZ (n:Int),.int .i64 (k:Int),.int .i64 (e:Int)] w (AQ w0 (Rdd p (λx v=>v=uZ (x:Int)∧x≤n) w0 gr R S s)):=by
 have hv0:=hv
 obtain ⟨A,m,cp,rfl,h2,h3,h4,h5⟩:=hv
 refine Sy.enterT (args:=[ptr gr,uZ (n:Int),.int .i64 (k:Int),.int .i64 (e:Int)]) hw Tryz.func161 J kL<|sC<|sP (uZ 0)<|sA<|sp J<|sp J<|Sy.callT (λw hw=>Ih w0.inn gr (.slice A m cp) s.e e he0 R w hw) (λv M hM=>?_)
 subst hM
 obtain ⟨e1,he1⟩:=xE (if s.e=0 then e else s.e)
 rw [← he1]
 have he2:e1≤200:=by rw [he1]; split <;> omega
 refine sG<|Sy.seq<|sC ?_
 obtain ⟨b1,hb1⟩:=xE (decide (e1≠0))
 refine sp J<|sp J<|sP (pT gr 1)<|sS (.int .i64 (e1:Int)) (qc 0 1 J J En)<|sS (.bool b1) (qne J J J hb1)<|sG ?_
 cases b1
 ·have l1:e1=0:=Decidable.of_not_not (of_decide_eq_false hb1.symm)
  have l2:s.e=0∧e=0:=by
   rw [he1] at l1
   by_cases h:s.e=0
   ·rw [if_pos h] at l1; exact ⟨h,l1⟩
   ·rw [if_neg h] at l1; exact (h l1).elim
  obtain ⟨q1,q2⟩:=hy l2.2
  obtain ⟨A1,hA1⟩:∃ A1,sliced A k m cp 1=.slice A1 (m - k) (cp - k):=⟨_,rfl⟩
  have hv1:BytR (rdC w0 S) (.slice A1 (m - k) (cp - k)) (s.rest.drop k):=by rw [← hA1]; exact hv0.drop om
  refine sU<|Sy.skip<|sB<|sp J<|sp J<|sp J<|sP (pT gr 0)<|sS (.slice A m cp) (qc 0 0 J J Aw)<|sp J<|sS (.slice A1 (m - k) (cp - k)) (Quiet.pure (λw=>by rw [← hA1]; exact KB _ _ _ m cp k J J J om w))<|sp J<|sP (pT gr 0)<|sw 0 J #[.slice A1 (m - k) (cp - k),.int .i64 (e1:Int)] (wO 0 27 (.slice A1 (m - k) (cp - k)) J)<|sA<|sp J<|sp J<|sG<|Sy.ret<|Sy.retT1 (RQ gr (.slice A1 (m - k) (cp - k)) e1 R) rfl (.inl (show _=_ by kernel_rfl)) (λ_ h=>h) ⟨n,⟨s.rest.drop k,e1⟩,_,⟨λh=>(h l2.1).elim,λy r _ hp=>?_,λ_ hp=>?_⟩,⟨rfl,Nat.le_refl _⟩,he2,?_,hv1,rfl⟩
  ·rw [q1] at hp; cases hp; exact ⟨rfl,by rw [l1]⟩
  ·rw [q1] at hp; cases hp
  ·show (s.rest.drop k).length≤_; rw [List.length_drop]; omega
 ·have l1:=dY hb1
  refine sT<|sC<|sP (uZ 0)<|sG<|Sy.ret<|Sy.then_ret<|Sy.retT1 (RQ gr (.slice A m cp) e1 R) rfl (.inl (show _=_ by kernel_rfl)) (λ_ h=>h) ⟨0,⟨s.rest,e1⟩,_,⟨λ_=>l1,λy r h0 hp=>?_,λ_ _=>l1⟩,⟨rfl,Nat.zero_le _⟩,he2,Nat.le_refl _,hv0,rfl⟩
  rw [he1,if_pos h0] at l1
  rw [hno l1] at hp; cases hp
theorem Oo (w0:Base) (gr:Nat) (sl:Value) (s:RS) (R S:AA) (hS:∀ b∈S,b∈R) (he0:s.e≤200) (hv:BytR (rdC w0 S) sl s.rest) (w:World) (hw:St w0 w (RQ gr sl s.e R)) :
  AL 99 #[ptr gr] w (AQ w0 (Rdd (BT 8) (λx v=>v=uZ (x:Int)∧x<18446744073709551616) w0 gr R S s)):=by
 obtain ⟨f,hf⟩:=xE (fxN s.rest 8)
 obtain ⟨q1,q2,q3⟩:=Dz s.rest 8 dZ
 have hy:=@Ic s.rest 8
 have hno:=@NZ s.rest 8
 rw [← hf] at q1 q2 q3 hy hno
 refine Sy.enterT (args:=[ptr gr]) hw Tryz.func99 J kL<|sC<|sP (uZ 0)<|sA<|sp J<|sp J<|sp J<|sP (pT gr 0)<|sS sl (qc 0 0 J J Aw)<|sS (t3V f) (qg (λw' hw=>by rw [hf]; exact Dm w' _ _ 8 dZ dZ (hv.le (Ad (w0:=w0.inn) hw (λ_ h=>List.mem_cons_of_mem _ (hS _ h))))))<|sp J<|sp J<|sp J<|Sy.callT (λw hw=>B0 (BT 8) w0.inn gr sl s R S hS f.1 f.2.1 f.2.2 he0 q3 om q1 (λh=>⟨(hy h).1,(hy h).2.1⟩) hno hv w hw) (λv M hM=>?_)
 obtain ⟨x,s',sl',hA,⟨rfl,hx⟩,h2,h3,h4,rfl⟩:=hM
 refine sp J<|sG<|Sy.ret ?_
 exact Sy.retT1 (RQ gr sl' s'.e R) rfl (.inl (show _=_ by kernel_rfl)) (λ_ h=>h) ⟨x,s',sl',hA,⟨rfl,by omega⟩,h2,h3,h4,rfl⟩
theorem O8 (w0:Base) (gr:Nat) (sl:Value) (s:RS) (R S:AA) (hS:∀ b∈S,b∈R) (he0:s.e≤200) (hv:BytR (rdC w0 S) sl s.rest) (w:World) (hw:St w0 w (RQ gr sl s.e R)) :
  AL 153 #[ptr gr] w (AQ w0 (Rdd (BT 1) (λx v=>v=bv (UInt8.ofNat x)∧x<256) w0 gr R S s)):=by
 obtain ⟨f,hf⟩:=xE (fxN s.rest 1)
 obtain ⟨q1,q2,q3⟩:=Dz s.rest 1 dZ
 have hy:=@Ic s.rest 1
 have hno:=@NZ s.rest 1
 have hlt:f.1<256:=by
  rw [hf]
  unfold fxN
  split
  ·decide
  ·have h:=Cm (s.rest.take 1)
   have h2:256 ^ (s.rest.take 1).length≤256 ^ 1:=Nat.pow_le_pow_right dZ (by rw [List.length_take]; omega)
   exact Nat.lt_of_lt_of_le h h2
 rw [← hf] at q1 q2 q3 hy hno
 refine Sy.enterT (args:=[ptr gr]) hw Tryz.func153 J kL<|sC<|sP (.int .u8 0)<|sA<|sp J<|sp J<|sp J<|sP (pT gr 0)<|sS sl (qc 0 0 J J Aw)<|sS (t3V f) (qg (λw' hw=>by rw [hf]; exact Dm w' _ _ 1 dZ dZ (hv.le (Ad (w0:=w0.inn) hw (λ_ h=>List.mem_cons_of_mem _ (hS _ h))))))<|sp J<|sp J<|sp J<|Sy.callT (λw hw=>B0 (BT 1) w0.inn gr sl s R S hS f.1 f.2.1 f.2.2 he0 q3 om q1 (λh=>⟨(hy h).1,(hy h).2.1⟩) hno hv w hw) (λv M hM=>?_)
 obtain ⟨x,s',sl',hA,⟨rfl,hx⟩,h2,h3,h4,rfl⟩:=hM
 refine sS (bv (UInt8.ofNat x)) (Quiet.pure (λw=>E5 w _ _ _ x om J J))<|sp J<|sG<|Sy.ret ?_
 exact Sy.retT1 (RQ gr sl' s'.e R) rfl (.inl (show _=_ by kernel_rfl)) (λ_ h=>h) ⟨x,s',sl',hA,⟨rfl,by omega⟩,h2,h3,h4,rfl⟩
theorem Hv {b:Byt} (h:(vrG b).2.2≠0):(vrG b).1=0:=by
 have fz:∀ {b:Byt} {k:Nat},(fxN b k).2.2≠0→(fxN b k).1=0:=λ{b k} h=>by
  unfold fxN at h ⊢
  split at h
  ·rename_i hl; rw [if_pos hl]
  ·exact (h J).elim
 unfold vrG at h ⊢
 by_cases hc:253≤(fxN b 1).1
 ·rw [if_pos hc] at h ⊢
  unfold lgN at h ⊢
  by_cases h1:(fxN (b.drop 1) (wide (b.getD 0 0).toNat)).2.2=0
  ·rw [if_pos h1] at h ⊢
   by_cases h2:(fxN (b.drop 1) (wide (b.getD 0 0).toNat)).1<CJ (b.getD 0 0).toNat
   ·rw [if_pos h2]
   ·rw [if_neg h2] at h; exact (h J).elim
  ·rw [if_neg h1]
 ·rw [if_neg hc] at h ⊢
  exact fz h
theorem GX (w:World) (F:AJ) (o:Oper) (x:Operand) (k:Nat) (hk:k<9223372036854775808) (ho:o.op=.convert 22 3 x) (hx:evF F x=.int .u64 (k:Int)):(execOp (evF F) o).run Tryz.prog w=.ok (.value (iZ k)) w:=by
 have h:(convert 22 3 (.int .u64 (k:Int))).run Tryz.prog w=.ok (iZ k) w:=by
  go_simp
  exact BI om om
 unfold execOp
 simp only [ho,hx,Sem.run_bind,h,Result.andThen_ok,Sem.run_pure]
theorem JP (w0:Base) (gr:Nat) (sl:Value) (s:RS) (R S:AA) (hS:∀ b∈S,b∈R) (most:Nat) (hm:most<1000000) (he0:s.e≤200) (hv:BytR (rdC w0 S) sl s.rest) (w:World) (hw:St w0 w (RQ gr sl s.e R)) :
  AL 200 #[ptr gr,.int .i64 (most:Int)] w (AQ w0 (Rdd (Fj most) (λx v=>v=.int .i64 (x:Int)∧x≤most) w0 gr R S s)):=by
 obtain ⟨f,hf⟩:=xE (vrN s.rest most)
 obtain ⟨q1,q2,q3⟩:=Hh s.rest most
 have hy:=@JV s.rest most
 have hno:=@PE s.rest most
 have hlt:f.1≤most:=by
  by_cases h:f.2.2=0
  ·rw [hf] at h ⊢; exact (hy h).2.2
  ·rw [hf] at h ⊢
   have q:=Hi s.rest
   unfold vrN at h ⊢
   by_cases hc:(vrG s.rest).2.2=0∧most<(vrG s.rest).1
   ·rw [if_pos hc]; exact Nat.zero_le _
   ·rw [if_neg hc] at h ⊢
    rw [Hv h]; exact Nat.zero_le _
 rw [← hf] at q1 q2 q3 hy hno
 refine Sy.enterT (args:=[ptr gr,.int .i64 (most:Int)]) hw Tryz.func200 J kL<|sC<|sP (.int .i64 0)<|sA<|sp J<|sp J<|sp J<|sP (pT gr 0)<|sS sl (qc 0 0 J J Aw)<|sp J<|sS (t3V f) (qg (λw' hw=>by rw [hf]; exact HJ w' _ _ most om (hv.le (Ad (w0:=w0.inn) hw (λ_ h=>List.mem_cons_of_mem _ (hS _ h))))))<|sp J<|sp J<|sp J<|Sy.callT (λw hw=>B0 (Fj most) w0.inn gr sl s R S hS f.1 f.2.1 f.2.2 he0 q3 om q1 (λh=>⟨(hy h).1,(hy h).2.1⟩) hno hv w hw) (λv M hM=>?_)
 obtain ⟨x,s',sl',hA,⟨rfl,hx⟩,h2,h3,h4,rfl⟩:=hM
 refine sS (.int .i64 (x:Int)) (Quiet.pure (λw=>GX w _ _ _ x om J J))<|sp J<|sG<|Sy.ret ?_
 exact Sy.retT1 (RQ gr sl' s'.e R) rfl (.inl (show _=_ by kernel_rfl)) (λ_ h=>h) ⟨x,s',sl',hA,⟨rfl,by omega⟩,h2,h3,h4,rfl⟩
theorem D0 (w0:Base) (gr:Nat) (sl:Value) (e:Nat) (R:AA) {L:AA} (hL:(gr,253,#[sl,.int .i64 (e:Int)])∈L) (w:World) (hw:St w0 w L) :
  AL 164 #[ptr gr] w (Ai w (.int .i64 (e:Int))):=by
 have hb:=(hw.blk _ _ _ hL).2
 have hlt:=hb.lt
 refine Sy.enter (args:=[ptr gr]) Tryz.func164 J kL<|sC<|sP (.int .i64 0)<|sA<|sp J<|sp J<|sP (pT gr 1)<|sS (.int .i64 (e:Int)) (Quiet.thereOne gr 1 28 _ _ J kR hlt _ (hb.cell 1) En J)<|sp J<|sG<|Sy.ret ?_
 exact rV (.int .i64 (e:Int)) J
theorem Nc (w0:Base) (gr:Nat) (sl:Value) (s:RS) (R:AA) (he0:s.e≤200) (hv:BytR (rdC w0 R) sl s.rest) {L:AA} (hL:(gr,253,#[sl,.int .i64 (s.e:Int)])∈L) (w:World) (hw:St w0 w L) :
  AL 68 #[ptr gr] w (Ai w (iZ (if s.e=0∧0<s.rest.length then 113 else s.e))):=by
 have hb:=(hw.blk _ _ _ hL).2
 have hlt:=hb.lt
 obtain ⟨A,m,cp,rfl,h2,h3,h4,h5⟩:=hv
 obtain ⟨e,he⟩:=xE s.e
 rw [← he] at he0 hb ⊢
 rw [h2]
 refine Sy.enter (args:=[ptr gr]) Tryz.func68 J kL<|sC<|sP (.int .i64 0)<|sG<|Sy.seq<|sC ?_
 obtain ⟨b1,hb1⟩:=xE (decide (e=0))
 refine sp J<|sp J<|sP (pT gr 1)<|sS (.int .i64 (e:Int)) (Quiet.thereOne gr 1 28 _ _ J kR hlt _ (hb.cell 1) En J)<|sS (.bool b1) (qeq J J J hb1)<|sp J ?_
 cases b1
 ·have l1:=dN hb1
  rw [if_neg (λh=>l1 h.1)]
  refine sN<|sN<|sN<|sN<|sN<|sN<|sP (.bool false)<|sG<|sU<|Sy.skip<|sB<|sp J<|sp J<|sP (pT gr 1)<|sS (.int .i64 (e:Int)) (Quiet.thereOne gr 1 28 _ _ J kR hlt _ (hb.cell 1) En J)<|sp J<|sG<|Sy.ret ?_
  exact rV (.int .i64 (e:Int)) J
 ·have l1:=dY hb1
  obtain ⟨b2,hb2⟩:=xE (decide (0<m))
  refine sp J<|sp J<|sP (pT gr 0)<|sS (.slice A m cp) (Quiet.thereOne gr 0 27 _ _ J kR hlt _ (hb.cell 0) Aw J)<|sP (.int .i64 (m:Int))<|sS (.bool b2) (qgt J J J hb2)<|sP (.bool b2)<|sG ?_
  cases b2
  ·have l2:=dN hb2
   rw [if_neg (λh=>l2 h.2)]
   refine sU<|Sy.skip<|sB<|sp J<|sp J<|sP (pT gr 1)<|sS (.int .i64 (e:Int)) (Quiet.thereOne gr 1 28 _ _ J kR hlt _ (hb.cell 1) En J)<|sp J<|sG<|Sy.ret ?_
   exact rV (.int .i64 (e:Int)) J
  ·have l2:=dY hb2
   rw [if_pos ⟨l1,l2⟩]
   refine sT<|sC<|sP (.int .i64 113)<|sG<|Sy.ret<|Sy.then_ret ?_
   exact rV (.int .i64 113) rfl
theorem JF (p:Ps Byt) (w0:Base) (gr:Nat) (sl:Value) (s:RS) (R S:AA) (hS:∀ b∈S,b∈R) (f t e:Nat) (he0:s.e≤200) (he:e≤200) (hl:s.rest.length≤70368744177664) (hy:e=0→f≤t∧t≤s.rest.length∧p s.rest=some ((s.rest.drop f).take (t - f),s.rest.drop t)) (hno:e≠0→p s.rest=none) (hv:BytR (rdC w0 S) sl s.rest) (w:World) (hw:St w0 w (RQ gr sl s.e R)) :
  AL 193 #[ptr gr,.int .i64 (f:Int),.int .i64 (t:Int),.int .i64 (e:Int)] w (AQ w0 (Uw p (λx v N=>ByN x v N∧(v=.slice none 0 0∧N=[]∧x=[]∨x.length=t - f)) w0 gr R S s)):=by
 have hv0:=hv
 obtain ⟨A,m,cp,rfl,h2,h3,h4,h5⟩:=hv
 refine Sy.enterT (args:=[ptr gr,.int .i64 (f:Int),.int .i64 (t:Int),.int .i64 (e:Int)]) hw Tryz.func193 J kL<|sC<|sP (.slice none 0 0)<|sA<|sp J<|sp J<|Sy.callT (λw hw=>Ih w0.inn gr (.slice A m cp) s.e e he0 R w hw) (λv M hM=>?_)
 subst hM
 obtain ⟨e1,he1⟩:=xE (if s.e=0 then e else s.e)
 rw [← he1]
 have he2:e1≤200:=by rw [he1]; split <;> omega
 refine sG<|Sy.seq<|sC ?_
 obtain ⟨b1,hb1⟩:=xE (decide (e1≠0))
 refine sp J<|sp J<|sP (pT gr 1)<|sS (.int .i64 (e1:Int)) (qc 0 1 J J En)<|sS (.bool b1) (qne J J J hb1)<|sG ?_
 cases b1
 ·have l1:e1=0:=Decidable.of_not_not (of_decide_eq_false hb1.symm)
  have l2:s.e=0∧e=0:=by
   rw [he1] at l1
   by_cases h:s.e=0
   ·rw [if_pos h] at l1; exact ⟨h,l1⟩
   ·rw [if_neg h] at l1; exact (h l1).elim
  obtain ⟨q1,q2,q3⟩:=hy l2.2
  obtain ⟨A1,hA1⟩:∃ A1,sliced A t m cp 1=.slice A1 (m - t) (cp - t):=⟨_,rfl⟩
  have hv1:BytR (rdC w0 S) (.slice A1 (m - t) (cp - t)) (s.rest.drop t):=by rw [← hA1]; exact hv0.drop om
  obtain ⟨A2,hA2⟩:∃ A2,sliced A f t cp 1=.slice A2 (t - f) (cp - f):=⟨_,rfl⟩
  obtain ⟨x,hx⟩:=xE ((s.rest.drop f).take (t - f))
  have hv2:BytR (rdC w0 S) (.slice A2 (t - f) (cp - f)) x:=by rw [← hA2,hx]; exact hv0.slice q1 om
  rw [← hx] at q3
  have hxl:x.length≤70368744177664:=by rw [hx,List.length_take,List.length_drop]; omega
  refine sU<|Sy.skip<|sB<|sp J<|sp J<|sP (pT gr 0)<|sS (.slice A m cp) (qc 0 0 J J Aw)<|sp J<|sp J<|sS (.slice A2 (t - f) (cp - f)) (Quiet.pure (λw=>by rw [← hA2]; exact LE _ _ _ _ m cp f t J J J J q1 om w))<|Sy.callN kR 96 #[.slice A2 (t - f) (cp - f)] kF (ByN x) (λw' hw=>G2 w' _ x (hv2.le (Ad (w0:=w0.inn) hw (λ_ h=>List.mem_cons_of_mem _ (hS _ h)))) hxl) (λu N hN=>?_)
  refine sp J<|sA<|sp J<|sp J<|sp J<|sP (pT gr 0)<|sS (.slice A m cp) (qc 0 0 J J Aw)<|sp J<|sS (.slice A1 (m - t) (cp - t)) (Quiet.pure (λw=>by rw [← hA1]; exact KB _ _ _ m cp t J J J om w))<|sp J<|sP (pT gr 0)<|sw 0 J #[.slice A1 (m - t) (cp - t),.int .i64 (e1:Int)] (wO 0 27 (.slice A1 (m - t) (cp - t)) J)<|sA<|sp J<|sp J<|sG<|Sy.ret<|Sy.retT1 (RQ gr (.slice A1 (m - t) (cp - t)) e1 (R++N)) J (.inl (show _=_ by kernel_rfl)) (λ_ h=>h) ⟨x,⟨s.rest.drop t,e1⟩,_,N,⟨λh=>(h l2.1).elim,λy r _ hp=>?_,λ_ hp=>?_⟩,⟨hN,.inr (by rw [hx,List.length_take,List.length_drop]; omega)⟩,he2,?_,hv1,rfl⟩
  ·rw [q3] at hp; cases hp; exact ⟨rfl,by rw [l1]⟩
  ·rw [q3] at hp; cases hp
  ·show (s.rest.drop t).length≤_; rw [List.length_drop]; omega
 ·have l1:=dY hb1
  refine sT<|sC<|sP (.slice none 0 0)<|sG<|Sy.ret<|Sy.then_ret<|Sy.retT1 (RQ gr (.slice A m cp) e1 R) rfl (.inl (show _=_ by kernel_rfl)) (λ_ h=>h) ⟨[],⟨s.rest,e1⟩,_,[],⟨λ_=>l1,λy r h0 hp=>?_,λ_ _=>l1⟩,⟨⟨none,0,0,rfl,Slc.Is.nil _ _⟩,.inl ⟨rfl,rfl,rfl⟩⟩,he2,Nat.le_refl _,hv0,by rw [List.append_nil]⟩
  rw [he1,if_pos h0] at l1
  rw [hno l1] at hp; cases hp
def XAt (C:Rdr) (g f:Nat) (cs:List Value):Prop:=∀ i u,cs[i]? = some u→C g (f+i) u
theorem XAt.le {C D:Rdr} (hl:Le C D) {g f:Nat} {cs:List Value} (h:XAt C g f cs):XAt D g f cs:=λi u hu=>hl _ _ _ (h i u hu)
theorem XAt.left {C:Rdr} {g f:Nat} {a b:List Value} (h:XAt C g f (a++b)):XAt C g f a:=λi u hu=>h i u (by rw [List.getElem?_append_left (List.getElem?_eq_some_iff.1 hu).1]; exact hu)
theorem XAt.right {C:Rdr} {g f n:Nat} {a b:List Value} (h:XAt C g f (a++b)) (hn:a.length=n):XAt C g (f+n) b:=λi u hu=>by
 subst hn
 rw [Nat.add_assoc]
 exact h _ u (by rw [List.getElem?_append_right om,Nat.add_sub_cancel_left]; exact hu)
theorem XAt.one {C:Rdr} {g f:Nat} {v:Value} {l:List Value} (h:XAt C g f (v::l)):C g f v:=h 0 v J
theorem XAt.tail {C:Rdr} {g f:Nat} {v:Value} {l:List Value} (h:XAt C g f (v::l)):XAt C g (f+1) l:=h.right (a:=[v]) J
theorem XAt.byt {C:Rdr} {g f n:Nat} {x:Byt} (h:XAt C g f (x.map bv)) (hn:x.length=n) (hm:n≤1000000):BytR C (.slice (some ⟨g,f,none⟩) n n) x :=
 ⟨_,_,_,rfl,hn,Nat.le_refl _,by simp only [maxLen]; omega,λ_=>⟨g,f,rfl,λj u hu=>h j (bv u) (by rw [List.getElem?_map,hu]; rfl)⟩⟩
section
variable {P:Program} {w0:Base} {F:AJ} {L R:AA} {o:Oper}
theorem AK {x:Operand} {d:TypeDesc} {ty:TypeId} {v:Value} {g f:Nat} (hc:rdC w0 R g f v) (hR:∀ b∈R,b∈L) (ho:o.op=.load ty x) (hu:P.underlying ty=some d) (hx:evF F x=pT g f:=by kernel_rfl) (hd:d.isRow=false:=by rfl):Quiet P w0 F L o v:=λw hw=>by
 have hc:w.cell? ⟨g,f,none⟩=some v:=(Ad hw hR _ _ _ hc).2
 have ha:(isAgg ty).run P w=.ok false w:=by
  cases d <;> first | (cases hd; done) | simp [isAgg,underlying,hu]
 unfold Cr execOp
 simp only [ho,hx,Instr.loadAt,Instr.sureAddr,Sem.run_bind,Sem.run_pure,Result.andThen_ok,loadVar,ha,Bool.false_eq_true,if_false,run_load,hc]
 exact ⟨trivial,Gr.refl _⟩
theorem BQ {x:Operand} {d:TypeDesc} {ty:TypeId} {g f k:Nat} {cs:List Value} (hc:XAt (rdC w0 R) g f cs) (hR:∀ b∈R,b∈L) (hl:cs.length=k) (ho:o.op=.load ty x) (hu:P.underlying ty=some d) (hx:evF F x=pT g f:=by kernel_rfl) (hd:d.isRow=true:=by rfl) (hi:(P.info? ty).map (·.size)=some k:=by kernel_rfl):Quiet P w0 F L o (.agg cs.toArray):=λw hw=>by
 have hl:=run_loadVar_mid (P:=P) w g f ty cs d (λj u hj=>(Ad hw hR _ _ _ (hc j u hj)).2) hu hd (by rw [hi,hl])
 unfold Cr execOp
 simp only [ho,hx,Instr.loadAt,Instr.sureAddr,Sem.run_bind,Sem.run_pure,Result.andThen_ok,hl]
 exact ⟨trivial,Gr.refl _⟩
end
theorem permCW {c w:Nat×TypeId×Array Value} {A R:AA}:(c::([w]++(A++R))).Perm ([w]++(A++(c::R))):=by
 have h1:(c::([w]++(A++R))).Perm (w::(c::(A++R))):=List.Perm.swap _ _ _
 exact h1.trans (List.Perm.cons w List.perm_middle.symm)
abbrev CWS (gc gw:Nat) (bad:Bool) (s:Slc) (R:AA):AA:=(gc,134,#[ptr gw,.pointer none,.bool bad])::WS gw s R
def WrC (gc gw:Nat) (R:AA) (ok:Bool) (e:Byt) (k:Nat) (bad:Bool) (b:Byt) (_:Value) (M:AA):Prop:=∃ s' bad' b',Wrote ok e k bad b bad' b'∧BS s' b'∧M=CWS gc gw bad' s' R
theorem Ba {gc gw:Nat} {bad:Bool} {s:Slc} {R:AA}:∀ x∈R,x∈CWS gc gw bad s R:=λx hx=>List.mem_cons_of_mem _ (List.mem_append_right _ (List.mem_append_right _ hx))
theorem DD (w0:Base) (gc:Nat) (a c:Value) {L:AA} (hL:(gc,134,#[a,.pointer none,c])∈L) (w:World) (hw:St w0 w L):AL 100 #[ptr gc] w (Ai w (.bool false)):=by
 have hb:=(hw.blk _ _ _ hL).2
 have hlt:=hb.lt
 refine Sy.enter (args:=[ptr gc]) Tryz.func100 J kL<|sC<|sP (.bool false)<|sA<|sp J<|sp J<|sP (pT gc 1)<|sS (.pointer none) (Quiet.thereOne gc 1 132 _ _ J kR hlt _ (hb.cell 1) CV J)<|sP (.bool false)<|sp J<|sG<|Sy.ret ?_
 exact rV (.bool false) rfl
theorem B2 (w0:Base) (gc gw:Nat) (bad h:Bool) (s:Slc) (R:AA) (w:World) (hw:St w0 w (CWS gc gw bad s R)) :
  AL 90 #[ptr gc,.bool h] w (AQ w0 (λ_ M=>M=CWS gc gw (bad || !h) s R)):=by
 refine Sy.enterT (args:=[ptr gc,.bool h]) hw Tryz.func90 J kL<|Sy.block<|sC<|sp J<|sp J<|sG ?_
 cases h
 ·rw [show (bad || !false)=true by cases bad <;> rfl]
  refine sU<|sC<|sp J<|sS (.bool false) (qg (λw hw=>DD w0.inn gc _ _ (List.mem_cons_self ..) w hw))<|sp J<|sG<|sU<|Sy.region<|sp J<|sp J<|sP (pT gc 2)<|sw 0 J #[ptr gw,.pointer none,.bool true] (wO 2 4 (.bool true) rfl)<|Sy.nil<|Sy.in_ ?_
  exact Sy.retT0 J (CWS gc gw true s R) (λ_ h=>h) (λ_=>by rfl)
 ·rw [show (bad || !true)=bad by cases bad <;> rfl]
  refine sT<|Sy.skip<|Sy.in_ ?_
  exact Sy.retT0 J (CWS gc gw bad s R) (λ_ h=>h) (λ_=>by rfl)
theorem Kf (w0:Base) (gc gw:Nat) (bad:Bool) (s:Slc) (R:AA) (b x:Byt) (v:Value) (hv:BytR (rdC w0 R) v x) (hb:BS s b) (hl:b.length+x.length≤70368744177000) (w:World) (hw:St w0 w (CWS gc gw bad s R)) :
  AL 139 #[ptr gc,v] w (AQ w0 (WrC gc gw R true x x.length bad b)):=by
 refine Sy.enterT (args:=[ptr gc,v]) hw Tryz.func139 J kL<|sC<|sp J<|sS (.bool false) (qg (λw hw=>DD w0.inn gc _ _ (List.mem_cons_self ..) w hw))<|sG<|sU<|Sy.region<|sp J<|sp J<|sP (pT gc 0)<|sS (ptr gw) (qc 0 0 J J Fa)<|sp J<|Sy.callT (λw hw=>Mv w0.inn gw s ((gc,134,#[ptr gw,.pointer none,.bool bad])::R) b x v (hv.le (EV (λ_ h=>List.mem_cons_of_mem _ h))) hb om w (hw.perm permCW)) (λu M hM=>?_)
 obtain ⟨s1,hs1,rfl⟩:=hM
 refine Sy.permS permCW.symm<|Sy.nil ?_
 exact Sy.retT0 J (CWS gc gw bad s1 R) (λ_ h=>h) (λ_=>⟨s1,bad,b++x,Wrote.raw x bad b (Nat.le_refl _),hs1,rfl⟩)
theorem Cx (w0:Base) (gc gw gx f:Nat) (bad:Bool) (s:Slc) (R:AA) (b x:Byt) (hx:x.length=32) (hc:XAt (rdC w0 R) gx f (x.map bv)) (hb:BS s b) (hl:b.length+32≤70368744177000) (w:World) (hw:St w0 w (CWS gc gw bad s R)) :
  AL 87 #[ptr gc,pT gx f] w (AQ w0 (WrC gc gw R true x 32 bad b)):=by
 refine Sy.enterT (args:=[ptr gc,pT gx f]) hw Tryz.func87 J kL<|Sy.region<|sp J<|sp J<|sp J<|sP (.slice (some ⟨gx,f,none⟩) 32 32)<|Sy.callT (λw hw=>Kf w0.inn gc gw bad s R b x _ (hc.byt hx dZ) hb om w hw) (λu M hM=>?_)
 obtain ⟨s1,bad1,b1,h1,h2,rfl⟩:=hM
 refine Sy.nil ?_
 exact Sy.retT0 J (CWS gc gw bad1 s1 R) (λ_ h=>h) (λ_=>⟨s1,bad1,b1,hx ▸ h1,h2,rfl⟩)
theorem Fm (w0:Base) (gc gw gx f:Nat) (bad:Bool) (s:Slc) (R:AA) (b:Byt) (n:Nat) (hn:n<18446744073709551616) (hc:rdC w0 R gx f (uZ (n:Int))) (hb:BS s b) (hl:b.length+8≤70368744177000) (w:World) (hw:St w0 w (CWS gc gw bad s R)) :
  AL 59 #[ptr gc,pT gx f] w (AQ w0 (WrC gc gw R true (nb 8 n) 8 bad b)):=by
 have item:∀ w,St w0.inn w (CWS gc gw bad s R)→AL 97 #[ptr gc,pT gx f,.func (.func 98) #[] #[],.func (.func 99) #[] #[]] w (AQ w0.inn (WrC gc gw R true (nb 8 n) 8 bad b)):=λw hw=>by
  refine Sy.enterT (args:=[ptr gc,pT gx f,.func (.func 98) #[] #[],.func (.func 99) #[] #[]]) hw Tryz.func97 J kL<|sC<|sp J<|sS (.bool false) (qg (λw hw=>DD w0.inn gc _ _ (List.mem_cons_self ..) w hw))<|sG<|sU<|Sy.regionD (λj=>j == 8) kR<|sa 0 J J<|sa 1 J J<|sa 2 J J<|sb 3 J (pT gc 0)<|sD 4 J (ptr gw) (qc 0 0 J J Fa)<|sa 5 J J<|sa 6 J J<|sD 7 J (uZ (n:Int)) (AK (R:=R) hc Ba J CD)<|Sy.soleD 8 J (λQ2 hq2=>?_)
  refine Sy.callT (λw hw=>Qi w0.inn gw s ((gc,134,#[ptr gw,.pointer none,.bool bad])::R) b n hn hb om w (hw.perm permCW)) (λu M hM=>?_)
  obtain ⟨s1,hs1,rfl⟩:=hM
  refine Sy.permS permCW.symm<|hq2 _ _<|sE ?_
  exact Sy.retT0 J (CWS gc gw bad s1 R) (λ_ h=>h) (λ_=>⟨s1,bad,b++nb 8 n,Wrote.raw _ bad b (by rw [B1]; exact Nat.le_refl _),hs1,rfl⟩)
 refine Sy.enterT (args:=[ptr gc,pT gx f]) hw Tryz.func59 J kL<|Sy.region<|sp J<|sp J<|Sy.callT (λw hw=>item w hw) (λu M hM=>?_)
 obtain ⟨s1,bad1,b1,h1,h2,rfl⟩:=hM
 refine Sy.nil ?_
 exact Sy.retT0 J (CWS gc gw bad1 s1 R) (λ_ h=>h) (λ_=>⟨s1,bad1,b1,h1,h2,rfl⟩)
def LstR {α:Type} (C:Rdr) (k:Nat) (rep:Rdr→List Value→α→Prop) (v:Value) (l:List α):Prop:=∃ A n cp,v=.slice A n cp∧l.length=n∧n≤cp∧cp≤maxLen∧(l≠[]→∃ g o,A=some ⟨g,o,none⟩∧∀ j x,l[j]? = some x→∃ cs:List Value,cs.length=k∧(∀ u∈cs,u.oneCell'=true)∧rep C cs x∧XAt C g (o+j*k) cs)
def BN {α:Type} (rep:Rdr→List Value→α→Prop):Prop:=∀ {C D:Rdr} {cs:List Value} {x:α},Le C D→rep C cs x→rep D cs x
theorem LstR.le {α:Type} {C D:Rdr} {k:Nat} {rep:Rdr→List Value→α→Prop} (hm:BN rep) {v:Value} {l:List α} (hl:Le C D) (h:LstR C k rep v l):LstR D k rep v l:=by
 obtain ⟨A,n,cp,h1,h2,h3,h4,h5⟩:=h
 refine ⟨A,n,cp,h1,h2,h3,h4,λhne=>?_⟩
 obtain ⟨g,o,e,hq⟩:=h5 hne
 refine ⟨g,o,e,λj x hx=>?_⟩
 obtain ⟨cs,q1,q2,q3,q4⟩:=hq j x hx
 exact ⟨cs,q1,q2,hm hl q3,q4.le hl⟩
def PutC {α:Type} (fn:FuncId) (k:Nat) (rep:Rdr→List Value→α→Prop) (ok:α→Bool) (enc:α→Byt) (wt:α→Nat):Prop :=
 ∀ (w0:Base) (gc gw gx f:Nat) (bad:Bool) (s:Slc) (R:AA) (b:Byt) (cs:List Value) (x:α),rep (rdC w0 R) cs x→cs.length=k→XAt (rdC w0 R) gx f cs→BS s b→b.length+wt x≤70368744170000→∀ w,St w0 w (CWS gc gw bad s R) →
  Calls Tryz.prog fn #[ptr gc,pT gx f] w (AQ w0 (WrC gc gw R (ok x) (enc x) (wt x) bad b))
theorem eqCW {gc gw:Nat} {bad:Bool} {s:Slc} {R N:AA}:CWS gc gw bad s R++N=CWS gc gw bad s (R++N):=by
 show _::(([_]++(s.bl++R))++N)=_::([_]++(s.bl++(R++N)))
 rw [List.append_assoc,List.append_assoc]
theorem GU {w0:Base} {w:World} {gc gw:Nat} {bad:Bool} {s:Slc} {R N:AA} (h:St w0 w (CWS gc gw bad s (R++N))):St w0 w (CWS gc gw bad s R):=by
 rw [← eqCW] at h
 exact h.less (List.sublist_append_left _ _)
theorem J7 {w0:Base} {R:AA} {g:Nat} {t:TypeId} {cs:List Value} (h:(g,t,cs.toArray)∈R):XAt (rdC w0 R) g 0 cs:=λi u hu=>.inr ⟨t,cs.toArray,h,by rw [Nat.zero_add,List.getElem?_toArray]; exact hu⟩
theorem CM {w0:Base} {R:AA} {g:Nat} {t:TypeId} {v:Value} (h:(g,t,#[v])∈R):rdC w0 R g 0 v:=.inr ⟨t,#[v],h,rfl⟩
theorem Eh {R:AA} {b:Nat×TypeId×Array Value}:b∈R++[b]:=List.mem_append_right _ (List.mem_singleton.2 J)
theorem inA {R N:AA} {b:Nat×TypeId×Array Value} (h:b∈R):b∈R++N:=List.mem_append_left _ h
theorem Aq {P:Program} {F:AJ} {o:Oper} {t:TypeId} {x:Operand} {cs:List Value} {k:Nat} (ho:o.op=.box t x) (hx:evF F x=.agg cs.toArray) (hi:(P.info? t).map (·.size)=some k) (hl:cs.length=k) (w:World):(execOp (evF F) o).run P w=.ok (.value (ptr w.heap.size)) (w.alloc (.cells cs.toArray t)):=by
 unfold execOp
 simp only [ho,hx,Sem.run_bind,Instr.box]
 simp [newVar,newRow,Value.cells,ptr,Result.andThen]
end Wr
end
section
namespace Sy
open Go.RowKit
section
variable {P:Program} {w0:Base} {n:Nat} {Q:Exit→Act→World→Prop} {F:AJ} {L:AA}
theorem retGM2 {w1:World} {fn:Func} {r s:ResultVar} {v u:Value} {R:Value→AA→Prop} (M:AA) (hr:fn.results=#[r,s]) (h:Has P F L r v) (k:Has P F L s u) (hM:∀ w,St (Base.of w1) w L→St (Base.of w1) w M) (hR:R (.tuple #[v,u]) M):X (Base.of w1) n (bodyPost P fn (BD w1 R)) F L .ret:=λa w ha hw=>by
 refine bodyPost_ret (v:=.tuple #[v,u]) ?_ ha.1 ⟨_,M,rfl,hR,hw.below,λg t cs hm=>(hM w hw).blk g t cs hm,(hM w hw).apart⟩
 rcases Res.run h ha hw with ⟨t,rfl,e1⟩ | ⟨t,ty,ad,rfl,e1,e2⟩ <;> rcases Res.run k ha hw with ⟨t',rfl,f1⟩ | ⟨t',ty',ad',rfl,f1,f2⟩ <;> simp [results,Result.andThen, *]
theorem St.none {w:World} (h:St w0 w L):St w0 w []:=h.less (List.nil_sublist _)
end
section
variable {pre A B C D M N:AA}
end
end Sy
end
section
namespace Wr
open Go.RowKit Sy
def G5 (_:Rdr) (cs:List Value) (o:MOut):Prop:=cs=.int .u64 (o.value:Int)::o.claim.map bv∧o.value<18446744073709551616∧o.claim.length=32
theorem J5:BN G5:=λ_ h=>h
def G4 (C:Rdr) (cs:List Value) (t:MTx):Prop:=∃ v,cs=[.int .u64 (t.nonce:Int),v]∧t.nonce<18446744073709551616∧LstR C 33 G5 v t.outs
theorem Qd:BN G4:=λhl ⟨v,h1,h2,h3⟩=>⟨v,h1,h2,LstR.le (rep:=G5) J5 hl h3⟩
theorem Ol:PutC 134 33 G5 (λ_=>true) Tq (λ_=>40):=λw0 gc gw gx f bad s R b cs x hx _ hc hb hl w hw=>by
 obtain ⟨rfl,h1,h2⟩:=hx
 refine Sy.enterT (args:=[ptr gc,pT gx f]) hw Tryz.func134 J kL<|sC<|sp J<|sp J<|sp J<|sP (pT gx f)<|Sy.callT (λw hw=>Fm w0.inn gc gw gx f bad s R b x.value h1 hc.one hb om w hw) (λu M hM=>?_)
 obtain ⟨s1,bad1,b1,q1,q2,rfl⟩:=hM
 have l1:=q1.len
 refine Sy.nil<|Sy.then_<|Sy.region<|sp J<|sp J<|sp J<|sP (pT gx (f+1))<|Sy.callT (λw hw=>Cx w0.inn gc gw gx (f+1) bad1 s1 R b1 x.claim h2 hc.tail q2 om w hw) (λu M hM=>?_)
 obtain ⟨s2,bad2,b2,q3,q4,rfl⟩:=hM
 refine Sy.nil ?_
 exact Sy.retT0 J (CWS gc gw bad2 s2 R) (λ_ h=>h) (λ_=>⟨s2,bad2,b2,q1.then_ q3,q4,rfl⟩)
def T3 (t:MTx):Nat:=8+(9+(t.outs.map λ_=>40).sum)
theorem DP {α:Type} (l:List α):l.all (λ_=>true)=true:=by rw [List.all_eq_true]; exact λ_ _=>rfl
def BytE (ok:Bool) (e:Byt) (v:Value) (M:AA):Prop:=(ok=true∧∃ u,v=.tuple #[u,.int .i64 0]∧ByN e u M)∨(ok=false∧v=.tuple #[.slice none 0 0,.int .i64 120]∧M=[])
theorem BS.nil:BS nilS []:=Slc.Is.nil _ _
theorem Nv {α:Type} {rep:Rdr→List Value→α→Prop} {ok:α→Bool} {enc:α→Byt} {wt:α→Nat} (hm:BN rep) (hp:PutC 76 2 rep ok enc wt) (w:World) (cs:List Value) (x:α) (hx:rep (rdW w) cs x) (hl:cs.length=2) (hwt:wt x≤70368744170000) :
  AL 75 #[.agg cs.toArray,.func (.func 76) #[] #[]] w (BD w (BytE (ok x) (enc x))):=by
 refine Sy.enter (args:=[.agg cs.toArray,.func (.func 76) #[] #[]]) Tryz.func75 J kL<|sC<|sM 101 cs.toArray (λgx=>?_) kR (λw=>Aq J J kZ hl w)
 refine sP (.slice none 0 0)<|sP (.int .i64 0)<|sA<|Sy.callN kR 57 #[] kF _ (λw _=>J2 w) (λv M hM=>?_)
 obtain ⟨gw,rfl,rfl⟩:=hM
 refine sP (.agg #[ptr gw,.pointer none,.bool false])<|sM 134 #[ptr gw,.pointer none,.bool false] (λgc=>?_)
 refine sp J<|sA<|Sy.permS (M:=CWS gc gw false nilS [(gx,101,cs.toArray)]) (Sy.perm_at [2,1,0] kZ (by rfl))<|sp J<|sp J<|Sy.callT (λw' hw=>hp (Base.of w) gc gw gx 0 false nilS [(gx,101,cs.toArray)] [] cs x (hm EF hx) hl (J7 (List.mem_singleton.2 J)) BS.nil (by show 0+_≤_; omega) w' hw) (λv M hM=>?_)
 obtain ⟨s,bad,b,q1,q2,rfl⟩:=hM
 have hbl:b.length≤wt x:=by have:=q1.len; simpa using this
 refine sG<|Sy.seq<|sC<|sp J<|sp J<|sP (pT gc 2)<|sS (.bool bad) (qc 0 2 J J uy4)<|sG ?_
 cases bad
 ·have hok:ok x=true:=by
   have e:=q1.bad
   cases h:ok x with
   | true=>rfl
   | false=>rw [h] at e; cases e
  obtain rfl:b=enc x:=by have:=q1.bytes rfl; simpa using this
  refine sU<|Sy.skip<|sB<|sp J<|sp J<|sP (pT gc 0)<|sS (ptr gw) (qc 0 0 J J Fa)<|Sy.callT (λw' hw=>bytes_any (Base.of w) gw s ((gc,134,#[ptr gw,.pointer none,.bool false])::[(gx,101,cs.toArray)]) (enc x) q2 om w' (hw.perm permCW)) (λv M hM=>?_)
  obtain ⟨N,hN,rfl⟩:=hM
  refine sp J<|sP (.int .i64 0)<|sG<|Sy.ret ?_
  exact Sy.retGM2 N J (.inl (show _=_ by kernel_rfl)) (.inl (show _=_ by kernel_rfl)) (λ_ h=>h.less (List.sublist_append_right _ _)) (.inl ⟨hok,v,rfl,hN⟩)
 ·have hok:ok x=false:=by
   have e:=q1.bad
   cases h:ok x with
   | false=>rfl
   | true=>rw [h] at e; cases e
  refine sT<|sC<|sP (.slice none 0 0)<|sP (.int .i64 120)<|sG<|Sy.ret<|Sy.then_ret ?_
  exact Sy.retGM2 [] rfl (.inl (show _=_ by kernel_rfl)) (.inl (show _=_ by kernel_rfl)) (λ_ h=>h.none) (.inr ⟨hok,rfl,rfl⟩)
theorem Ul {α:Type} {rep:Rdr→List Value→α→Prop} {ok:α→Bool} {enc:α→Byt} {wt:α→Nat} (hm:BN rep) (hp:PutC 76 2 rep ok enc wt) (w:World) (cs:List Value) (x:α) (hx:rep (rdW w) cs x) (hl:cs.length=2) (hwt:wt x≤70368744170000) :
  AL 35 #[.agg cs.toArray] w (BD w (BytE (ok x) (enc x))):=by
 refine Sy.enter (args:=[.agg cs.toArray]) Tryz.func35 J kL<|sC<|sM 101 cs.toArray (λgx=>?_) kR (λw=>Aq J J kZ hl w)
 refine sP (.slice none 0 0)<|sP (.int .i64 0)<|sA<|sS (.agg cs.toArray) (BQ (R:=[(gx,101,cs.toArray)]) (J7 (List.mem_singleton.2 J)) (λ_ h=>h) hl J H2)<|Sy.callN kR 75 #[.agg cs.toArray,.func (.func 76) #[] #[]] kF (BytE (ok x) (enc x)) (λw' hw=>Nv (rep:=rep) hm hp w' cs x (hm (λg o u h=>Ad (R:=[]) hw (λ_ h=>by cases h) g o u (.inl h)) hx) hl hwt) (λv M hM=>?_)
 have hv:∃ a e:Value,v=.tuple #[a,e]:=by
  rcases hM with ⟨_,u,rfl,_⟩ | ⟨_,rfl,_⟩ <;> exact ⟨_,_,rfl⟩
 obtain ⟨a,e,rfl⟩:=hv
 refine sp J<|sp J<|sp J<|sp J<|sG<|Sy.ret ?_
 exact Sy.retGM2 M J (.inl (show _=_ by kernel_rfl)) (.inl (show _=_ by kernel_rfl)) (λ_ h=>h.less (List.sublist_append_right _ _)) hM
theorem Di {A z v Z:List Value} {f:Nat} (hf:A.length=f) (hz:z.length=v.length):B' (A++(z++Z)).toArray f v=(A++(v++Z)).toArray:=by
 subst hf
 rw [I9 _ _ _ (by simp [hz])]
 rw [List.take_left, ← List.drop_drop,List.drop_left, ← hz,List.drop_left]
theorem Bt {A Z:List Value} {z v:Value} {f:Nat} (hf:A.length=f):(A++(z::Z)).toArray.setIfInBounds f v=(A++(v::Z)).toArray:=by
 subst hf
 rw [List.setIfInBounds_toArray,List.set_append_right _ _ (Nat.le_refl _),Nat.sub_self]
 rfl
section
variable {P:Program} {w0:Base} {F:AJ} {L R:AA} {o:Oper}
theorem Tz (d s:Operand) (dT sT e:TypeId) (ho:o.op=.call { callee:=.builtin .copy,args:=#[d,s],argTypes:=#[dT,sT] }) (hu:P.underlying dT=some (.slice e)) (hsz:(P.info? e).map (·.size)=some 1)
  (i g f dl dc:Nat) (t:TypeId) (cs cs':Array Value) (hL:L[i]? = some (g,t,cs)) (hd:evF F d=.slice (some ⟨g,f,none⟩) dl dc) (gx fx n cp:Nat) (hs:evF F s=.slice (some ⟨gx,fx,none⟩) n cp) (x:Byt) (hx:XAt (rdC w0 R) gx fx (x.map bv)) (hR:∀ b∈R,b∈L) (hn:x.length=n) (hdl:n=dl) (hfit:f+n≤cs.size) (hcs:B' cs f (x.map bv)=cs'):WritesV P w0 F L o g t cs' (goInt n):=λw hw=>by
 subst hdl
 have hb:=hw.get hL
 have hl:(x.map bv).length=n:=by rw [List.length_map,hn]
 have hth:=hb.there f (x.map bv).length (by rw [hl]; exact hfit)
 have hr:=run_copy_cells (P:=P) w dT sT o.type e g f n dc ⟨gx,fx,none⟩ n cp (x.map bv) hu hsz (by rw [hl]; exact (Nat.min_self n).symm) (λq u hq=>by
  rw [CC]
  exact (Ad hw hR _ _ _ (hx q u hq)).2) (λq hq=>(hth q hq).1) (λq hq=>(hth q hq).2) (λu hu=>by obtain ⟨y,_,rfl⟩:=List.mem_map.1 hu; rfl)
 rw [hl] at hr
 refine ⟨_,?_,DE (x.map bv) f w (World.grownBy.refl w (some g)),hcs ▸ Blk.setCells (x.map bv) f w cs hb⟩
 unfold execOp
 simp only [ho,resolve,invoke,builtin,Sem.run_bind,Sem.run_pure,Result.andThen_ok,List.map_toArray,List.map_cons,List.map_nil,hs,hd,hr]
end
abbrev CRS (gc gr gx:Nat) (tx:TypeId) (cs:List Value) (sl:Value) (e:Nat) (R:AA):AA:=(gc,134,#[.pointer none,ptr gr,.bool false])::(gx,tx,cs.toArray)::RQ gr sl e R
theorem permCR {a b c:Nat×TypeId×Array Value} {R:AA}:(a::b::c::R).Perm (c::a::b::R):=(List.Perm.cons a (List.Perm.swap c b R)).trans (List.Perm.swap c a _)
theorem I2 {gc gr gx:Nat} {tx:TypeId} {cs:List Value} {sl:Value} {e:Nat} {R:AA}:∀ x∈R,x∈CRS gc gr gx tx cs sl e R:=λx hx=>List.mem_cons_of_mem _ (List.mem_cons_of_mem _ (List.mem_cons_of_mem _ hx))
def RdT {α:Type} (k:Nat) (rep:Rdr→List Value→α→Prop) (p:Ps α) (w0:Base) (gc gr gx:Nat) (tx:TypeId) (A Z:List Value) (s:RS) (R S:AA) (_:Value) (M:AA):Prop :=
 ∃ x s' sl' cs N,After p s x s'∧cs.length=k∧(∀ u∈cs,u.oneCell'=true)∧rep (rdB N) cs x∧s'.e≤200∧s'.rest.length≤s.rest.length∧BytR (rdC w0 S) sl' s'.rest∧M=CRS gc gr gx tx (A++(cs++Z)) sl' s'.e (R++N)
def B7 {α:Type} (fn:FuncId) (k:Nat) (zc:List Value) (rep:Rdr→List Value→α→Prop) (p:Ps α):Prop :=
 ∀ (w0:Base) (gc gr gx f:Nat) (tx:TypeId) (A Z:List Value) (sl:Value) (s:RS) (R S:AA),(∀ b∈S,b∈R)→A.length=f→s.e≤200→s.rest.length≤70368744177664→BytR (rdC w0 S) sl s.rest→∀ w,St w0 w (CRS gc gr gx tx (A++(zc++Z)) sl s.e R) →
  Calls Tryz.prog fn #[ptr gc,pT gx f] w (AQ w0 (RdT k rep p w0 gc gr gx tx A Z s R S))
theorem After.as {α:Type} {p:Ps α} {s s':RS} {x d:α} (h:After p s x s') (hd:∀ r,p s.rest=some (x,r)→d=x):After p s d s':=⟨h.bad,λy r h0 hp=>by
 obtain ⟨rfl,q⟩:=h.yes y r h0 hp
 exact ⟨hd r hp,q⟩,h.no⟩
theorem Kg (w0:Base) (gr:Nat) (sl:Value) (s:RS) (R S:AA) (hS:∀ b∈S,b∈R) (n:Nat) (hn:n≤1000000) (he0:s.e≤200) (hl:s.rest.length≤70368744177664) (hv:BytR (rdC w0 S) sl s.rest) (w:World) (hw:St w0 w (RQ gr sl s.e R)) :
  AL 188 #[ptr gr,.int .i64 (n:Int)] w (AQ w0 (Uw (An n) (λx v N=>ByN x v N∧(v=.slice none 0 0∧N=[]∧x=[]∨x.length=n)) w0 gr R S s)):=by
 have hv0:=hv
 obtain ⟨A,m,cp,rfl,h2,h3,h4,h5⟩:=hv
 obtain ⟨e,he⟩:=xE (if m<n then 110 else 0)
 have he2:e≤200:=by rw [he]; split <;> omega
 refine Sy.enterT (args:=[ptr gr,.int .i64 (n:Int)]) hw Tryz.func188 J kL<|sC<|sP (.slice none 0 0)<|sA<|sP (.int .i64 0)<|sG<|Sy.seq<|DN [(0,ptr gr),(1,.int .i64 (n:Int)),(5,.int .i64 (e:Int))] (RQ gr (.slice A m cp) s.e R) ?_ ?_
 ·refine sC ?_
  refine sp J<|sS (.bool false) (Quiet.pure (AE .lss _ _ _ .i64 _ _ _ J J J (DF _ _ _ _ _ (decide_eq_false om))))<|sG<|sU<|sC ?_
  obtain ⟨b1,hb1⟩:=xE (decide (m<n))
  refine sp J<|sp J<|sp J<|sP (pT gr 0)<|sS (.slice A m cp) (qc 0 0 J J Aw)<|sP (.int .i64 (m:Int))<|sS (.bool b1) (qgt J J J hb1)<|sG ?_
  cases b1
  ·rw [if_neg (of_decide_eq_false hb1.symm)] at he
   rw [he]
   refine sU<|Sy.skip ?_
   exact A_ ac3 (λ_ h=>h)
  ·rw [if_pos (of_decide_eq_true hb1.symm)] at he
   rw [he]
   refine sT<|Sy.region<|sP (.int .i64 110)<|Sy.nil ?_
   exact A_ ac3 (λ_ h=>h)
 refine sB<|sp J<|sp J<|sp J<|Sy.callT (λw hw=>JF (An n) w0.inn gr (.slice A m cp) s R S hS 0 n e he0 he2 hl (λh=>?_) (λh=>?_) hv0 w hw) (λv M hM=>?_)
 ·have hm:¬ m<n:=λhlt=>by rw [if_pos hlt] at he; omega
  exact ⟨Nat.zero_le _,by omega,by rw [List.drop_zero,Nat.sub_zero]; exact if_pos om⟩
 ·have hm:m<n:=by
   rcases Nat.lt_or_ge m n with hlt | hge
   ·exact hlt
   ·rw [if_neg om] at he; exact (h he).elim
  exact if_neg om
 obtain ⟨x,s',sl',N,hA,⟨hN,hx⟩,q2,q3,q4,rfl⟩:=hM
 refine sp J<|sG<|Sy.ret ?_
 exact Sy.retT1 (RQ gr sl' s'.e (R++N)) J (.inl (show _=_ by kernel_rfl)) (λ_ h=>h) ⟨x,s',sl',N,hA,⟨hN,hx⟩,q2,q3,q4,rfl⟩
theorem Cs (w0:Base) (gc gr:Nat) (a c:Value) {L:AA} (hL:(gc,134,#[a,ptr gr,c])∈L) (w:World) (hw:St w0 w L):AL 100 #[ptr gc] w (Ai w (.bool true)):=by
 have hb:=(hw.blk _ _ _ hL).2
 have hlt:=hb.lt
 refine Sy.enter (args:=[ptr gc]) Tryz.func100 J kL<|sC<|sP (.bool false)<|sA<|sp J<|sp J<|sP (pT gc 1)<|sS (ptr gr) (Quiet.thereOne gc 1 132 _ _ J kR hlt _ (hb.cell 1) CV J)<|sP (.bool true)<|sp J<|sG<|Sy.ret ?_
 exact rV (.bool true) rfl
theorem Nk (w:World) (F:AJ) (o:Oper) (d s:Operand) (g f n:Nat) (ho:o.op=.call { callee:=.builtin .copy,args:=#[d,s],argTypes:=#[27,27] }) (hd:evF F d=.slice (some ⟨g,f,none⟩) n n) (hs:evF F s=.slice none 0 0):(execOp (evF F) o).run Tryz.prog w=.ok (.value (.int .i64 0)) w:=by
 have e:(Builtin.copy_ #[27,27] o.type #[.slice (some ⟨g,f,none⟩) n n,.slice none 0 0]).run Tryz.prog w=.ok (.int .i64 0) w:=by
  have h0:Nat.min 0 n=0:=Nat.zero_min n
  have hu:Tryz.prog.underlying 27=some (.slice 5):=kZ
  have hs:(sizeOf 5).run Tryz.prog w=.ok 1 w:=kZ
  unfold Builtin.copy_
  simp [run_underlying hu,Builtin.lenOf,Builtin.firstCells,h0,hs,storeCells,goInt,Result.andThen]
 unfold execOp
 simp only [ho,resolve,invoke,builtin,Sem.run_bind,Sem.run_pure,Result.andThen_ok,List.map_toArray,List.map_cons,List.map_nil,hd,hs,e]
def TY (_:Rdr) (cs:List Value) (n:Nat):Prop:=cs=[.int .u64 (n:Int)]∧n<18446744073709551616
def Bj (_:Rdr) (cs:List Value) (x:Byt):Prop:=cs=x.map bv∧x.length=32
def Z32:List Value:=(List.replicate 32 (0:UInt8)).map bv
theorem Fo:B7 59 1 [uZ 0] TY (BT 8):=λw0 gc gr gx f tx A Z sl s R S hS hA he hl hv w hw=>by
 have item:∀ w,St w0.inn w (CRS gc gr gx tx (A++([Value.int .u64 0]++Z)) sl s.e R)→AL 97 #[ptr gc,pT gx f,.func (.func 98) #[] #[],.func (.func 99) #[] #[]] w (AQ w0.inn (RdT 1 TY (BT 8) w0.inn gc gr gx tx A Z s R S)):=λw hw=>by
  refine Sy.enterT (args:=[ptr gc,pT gx f,.func (.func 98) #[] #[],.func (.func 99) #[] #[]]) hw Tryz.func97 J kL<|sC<|sp J<|sS (.bool true) (qg (λw hw=>Cs w0.inn gc gr _ _ (List.mem_cons_self ..) w hw))<|sG<|sT<|Sy.region<|sp J<|sp J<|sp J<|sp J<|sP (pT gc 1)<|sS (ptr gr) (qc 0 1 J J CV)<|Sy.callT (λw hw=>Oo w0.inn gr sl s ((gc,134,#[.pointer none,ptr gr,.bool false])::(gx,tx,(A++([Value.int .u64 0]++Z)).toArray)::R) S (λb h=>List.mem_cons_of_mem _ (List.mem_cons_of_mem _ (hS b h))) he hv w (hw.perm permCR)) (λu M hM=>?_)
  obtain ⟨x,s',sl',q1,⟨rfl,q2⟩,q3,q4,q5,rfl⟩:=hM
  refine Sy.permS permCR.symm<|sp J<|sw 1 J (A++([Value.int .u64 (x:Int)]++Z)).toArray (Writes.one f 22 (uZ (x:Int)) _ _ J kR kR kR J J (by rw [List.size_toArray,List.length_append,hA]; exact Nat.lt_add_of_pos_right (Nat.succ_pos _)) (Bt hA))<|Sy.nil ?_
  exact Sy.retT0 J (CRS gc gr gx tx (A++([Value.int .u64 (x:Int)]++Z)) sl' s'.e R) (λ_ h=>h) (λ_=>⟨x,s',sl',[Value.int .u64 (x:Int)],[],q1,rfl,λu hu=>by rw [List.mem_singleton.1 hu]; rfl,⟨rfl,q2⟩,q3,q4,q5,by rw [List.append_nil]⟩)
 refine Sy.enterT (args:=[ptr gc,pT gx f]) hw Tryz.func59 J kL<|Sy.region<|sp J<|sp J<|Sy.callT (λw hw=>item w hw) (λu M hM=>?_)
 refine Sy.nil ?_
 have hM':=hM
 obtain ⟨x,s',sl',cs,N,q1,q2,q3,q4,q5,q6,q7,rfl⟩:=hM'
 exact Sy.retT0 J _ (λ_ h=>h) (λ_=>hM)
theorem Cn:Z32.length=32:=rfl
theorem T2 (x:Byt) (h:x.length=32):Z32.length=(x.map bv).length:=by rw [List.length_map,h]; rfl
theorem Tb (w0:Base) (gc gr gx f:Nat) (tx:TypeId) (A Z:List Value) (sl:Value) (s:RS) (R S:AA) (hS:∀ b∈S,b∈R) (hA:A.length=f) (he:s.e≤200) (hl:s.rest.length≤70368744177664) (hv:BytR (rdC w0 S) sl s.rest) (w:World) (hw:St w0 w (CRS gc gr gx tx (A++(Z32++Z)) sl s.e R)) :
  AL 139 #[ptr gc,.slice (some ⟨gx,f,none⟩) 32 32] w (AQ w0 (RdT 32 Bj (An 32) w0 gc gr gx tx A Z s R S)):=by
 refine Sy.enterT (args:=[ptr gc,.slice (some ⟨gx,f,none⟩) 32 32]) hw Tryz.func139 J kL<|sC<|sp J<|sS (.bool true) (qg (λw hw=>Cs w0.inn gc gr _ _ (List.mem_cons_self ..) w hw))<|sG<|sT<|Sy.region<|sp J<|sp J<|sp J<|sP (pT gc 1)<|sS (ptr gr) (qc 0 1 J J CV)<|sp J<|sP (.int .i64 32)<|Sy.callT (λw hw=>Kg w0.inn gr sl s ((gc,134,#[.pointer none,ptr gr,.bool false])::(gx,tx,(A++(Z32++Z)).toArray)::R) S (λb h=>List.mem_cons_of_mem _ (List.mem_cons_of_mem _ (hS b h))) 32 dZ he hl hv w (hw.perm permCR)) (λu M hM=>?_)
 obtain ⟨x,s',sl',N,q1,⟨q2,q2'⟩,q3,q4,q5,rfl⟩:=hM
 refine Sy.permS (M:=CRS gc gr gx tx (A++(Z32++Z)) sl' s'.e (R++N)) permCR.symm ?_
 rcases q2' with ⟨rfl,rfl,rfl⟩ | hx
 ·refine sS (.int .i64 0) (Quiet.pure (λw=>Nk w _ _ _ _ gx f 32 J J J)) ?_
  refine Sy.nil ?_
  exact Sy.retT0 J (CRS gc gr gx tx (A++(Z32++Z)) sl' s'.e (R++[])) (λ_ h=>h) (λ_=>⟨List.replicate 32 0,s',sl',Z32,[],q1.as (λr hp=>by have:=(EB hp).1; cases this),rfl,λu hu=>by obtain ⟨y,_,rfl⟩:=List.mem_map.1 hu; rfl,⟨rfl,rfl⟩,q3,q4,q5,rfl⟩)
 ·have hb:=q2.byt
  obtain ⟨B,n,cp,rfl,h2,h3,h4,h5⟩:=hb
  obtain ⟨gb,ob,rfl,hq⟩:=h5 (by intro e; rw [e] at hx; cases hx)
  obtain rfl:32=n:=om
  refine Sy.writeV kR 1 gx tx _ (A++(x.map bv++Z)).toArray (.int .i64 32) rfl (Tz (R:=N) _ _ 27 27 5 J Aw kR 1 gx f 32 32 tx _ _ J J gb ob 32 cp J x (λj u hj=>.inr (by
   rw [List.getElem?_map] at hj
   cases hxj:x[j]? with
   | none=>rw [hxj] at hj; cases hj
   | some y=>rw [hxj] at hj; cases hj; exact hq j y hxj)) (λb h=>I2 b (List.mem_append_right _ h)) hx J (by rw [List.size_toArray,List.length_append,List.length_append,hA,Cn]; omega) (Di hA (T2 x hx))) ?_
  refine Sy.nil ?_
  exact Sy.retT0 J (CRS gc gr gx tx (A++(x.map bv++Z)) sl' s'.e (R++N)) (λ_ h=>h) (λ_=>⟨x,s',sl',x.map bv,N,q1,by rw [List.length_map,hx],λu hu=>by obtain ⟨y,_,rfl⟩:=List.mem_map.1 hu; rfl,⟨rfl,hx⟩,q3,q4,q5,rfl⟩)
theorem Cy:B7 87 32 Z32 Bj (An 32):=λw0 gc gr gx f tx A Z sl s R S hS hA he hl hv w hw=>by
 refine Sy.enterT (args:=[ptr gc,pT gx f]) hw Tryz.func87 J kL<|Sy.region<|sp J<|sp J<|sp J<|sP (.slice (some ⟨gx,f,none⟩) 32 32)<|Sy.callT (λw hw=>Tb w0.inn gc gr gx f tx A Z sl s R S hS hA he hl hv w hw) (λu M hM=>?_)
 refine Sy.nil ?_
 exact Sy.retT0 J _ (λ_ h=>h) (λ_=>hM)
end Wr
end
section
namespace Sy
open Go.RowKit
section
variable {r:Nat→Slc} {n i:Nat} {pre A B C D M N T:AA} {b b':Nat×TypeId×Array Value} {v:Value} {w0:Base} {w:World}
end
section
variable {L M:AA} {w0:Base} {w:World}
theorem flat_perm {ls ms:List AA} (is:List Nat) (hi:is.isPerm (List.range ls.length)=true) (hm:is.map (λi=>ls[i]?)=ms.map some) (hL:L=ls.flatten) (hM:M=ms.flatten):L.Perm M:=by
 rw [hL,hM]
 exact (perm_at is hi hm).flatten
theorem St.parts {ls ms:List AA} (os:List AA) (is:List Nat) (hi:is.isPerm (List.range ls.length)=true) (hm:is.map (λi=>ls[i]?)=(ms++os).map some) (hL:L=ls.flatten) (hM:M=ms.flatten) (hw:St w0 w L):St w0 w M:=by
 have h1:L.Perm (M++os.flatten):=by
  rw [hL,hM, ← List.flatten_append]
  exact (perm_at is hi hm).flatten
 exact (hw.perm h1).less (List.sublist_append_left _ _)
end
section
variable {f:Nat→List Value} {s m k o:Nat} {sp:List Value}
end
section
variable {r:Nat→Slc} {n i:Nat} {pre M R D E:AA} {b:Nat×TypeId×Array Value} {v:Value} {w0:Base} {w:World}
end
end Sy
end
end Go.Proofs.YtdbcombmmnihbaaGreat
