/-
  Texts of ours, put together: CrvG, CrvH, CurveBackL, SymT, SymQ, SymW, SymU, WirA, WirB, WirC, WirD, WirE, WirF, WirG, WirH, WirI, WirJ, SymS, WirK, WirL, WirM, SymP, SymN, WirN.
-/
import Derived.Test.YtgggdbjakcpanaaGreatDoorNX2
set_option linter.unusedVariables false
set_option linter.unusedSimpArgs false
namespace Go.Proofs.YtgggdbjakcpanaaGreatDoor
section
namespace Cu
open Go.RowKit Sy
set_option maxRecDepth 100000
set_option maxHeartbeats 4000000
theorem enc_none (w:World) (x y:Nat) (i:Bool) (hx:x<K4) (hy:y<K4) (h:dec x y i=none):Calls Tryz.prog 222 #[pv x y i] w (Gets w (.agg ((encS none).map bv).toArray)):=by
 refine Sy.enter (args:=[pv x y i]) Tryz.func222 rfl kL ?_
 refine sC ?_
 refine sM 73 (pcs x y i) (λg0=>?_)
 refine Sy.make kR 353 (Zl 33).toArray ptr kF (λg1=>?_)
 refine sA ?_
 refine Sy.make kR 353 (Zl 33).toArray ptr kF (λg2=>?_)
 refine sA ?_
 refine sS (pv x y i) (qL 0 g0 0 9 73 73 (pcs x y i) rfl Tryz.underlying73)<|sS (pv 0 0 true) (qF 261 #[pv x y i] (λw=>by have hrr:=right_c w x y i lK lK; rw [h] at hrr; exact hrr))<|sW 0 g0 73 (pcs x y i) (pcs 0 0 true) (wS 0 73 (pcs 0 0 true) rfl) ?_
 refine sG<|Sy.seq<|Sy.seq ?_
 refine Sy.regionD (λj=>false) kR ?_
 refine sD 0 rfl (pv 0 0 true) (qL 0 g0 0 9 73 73 (pcs 0 0 true) rfl Tryz.underlying73)<|sD 1 rfl (pv 0 0 true) (qF 225 #[] (zero_c))<|sD 2 rfl (.bool true) (Quiet.pure (λw=>eql_pt w _ _ _ _ 0 0 true 0 0 true rfl rfl rfl (by decide) (by decide) (by decide) (by decide))) ?_
 refine sI ?_
 refine sT<|sC ?_
 refine sS (.agg ((Zl 33):List Value).toArray) (Quiet.load 2 g2 0 33 353 353 (Zl 33).toArray _ _ rfl kR kR Tryz.underlying353 rfl kR _ kR kL) ?_
 refine Sy.write kR 1 g1 353 (Zl 33).toArray (Zl 33).toArray kR (Writes.store 0 353 (Zl 33).toArray _ _ rfl kR kR kR kL kR kR) ?_
 refine sG<|Sy.ret<|Sy.then_ret ?_
 rw [show (.agg ((encS none).map bv).toArray:Value)=.agg ((Zl 33):List Value).toArray from by kernel_rfl]
 exact Sy.ret1 (v:=.agg ((Zl 33):List Value).toArray) rfl (.inl (Res.cell (ty':=353) g1 1 (Zl 33).toArray _ kR kR Tryz.underlying353 rfl kR kR))
theorem enc_some (w:World) (x y:Nat) (i:Bool) (hx:x<K4) (hy:y<K4) (u v:Fp) (h:dec x y i=some (u,v)):Calls Tryz.prog 222 #[pv x y i] w (Gets w (.agg ((encS (some (u,v))).map bv).toArray)):=by
 obtain ⟨a0,a1,a2,a3,a4,a5,a6,a7,a8,a9,a10,a11,a12,a13,a14,a15,a16,a17,a18,a19,a20,a21,a22,a23,a24,a25,a26,a27,a28,a29,a30,a31,hm⟩:=list32 (bytesS u.val) (bytesS_length _)
 have cB:∀ w,Calls Tryz.prog 263 #[fv u.val] w (Gets w (.agg ((bv a0::bv a1::[bv a2,bv a3,bv a4,bv a5,bv a6,bv a7,bv a8,bv a9,bv a10,bv a11,bv a12,bv a13,bv a14,bv a15,bv a16,bv a17,bv a18,bv a19,bv a20,bv a21,bv a22,bv a23,bv a24,bv a25,bv a26,bv a27,bv a28,bv a29,bv a30,bv a31]):List Value).toArray)):=λw=>by
  have hh:=bytes_any w u.val (lt4 u)
  rw [Nat.mod_eq_of_lt u.isLt,hm] at hh
  exact hh
 refine Sy.enter (args:=[pv x y i]) Tryz.func222 rfl kL ?_
 refine sC ?_
 refine sM 73 (pcs x y i) (λg0=>?_)
 refine Sy.make kR 353 (Zl 33).toArray ptr kF (λg1=>?_)
 refine sA ?_
 refine Sy.make kR 353 (Zl 33).toArray ptr kF (λg2=>?_)
 refine sA ?_
 refine sS (pv x y i) (qL 0 g0 0 9 73 73 (pcs x y i) rfl Tryz.underlying73)<|sS (pv u.val v.val false) (qF 261 #[pv x y i] (λw=>by have hrr:=right_c w x y i lK lK; rw [h] at hrr; exact hrr))<|sW 0 g0 73 (pcs x y i) (pcs u.val v.val false) (wS 0 73 (pcs u.val v.val false) rfl) ?_
 refine sG<|Sy.seq<|Sy.seq ?_
 refine Sy.regionD (λj=>false) kR ?_
 refine sD 0 rfl (pv u.val v.val false) (qL 0 g0 0 9 73 73 (pcs u.val v.val false) rfl Tryz.underlying73)<|sD 1 rfl (pv 0 0 true) (qF 225 #[] (zero_c))<|sD 2 rfl (.bool false) (Quiet.pure (λw=>eql_pt_ne w _ _ _ _ _ _ _ _ _ _ rfl rfl rfl lK lK lK lK (by decide))) ?_
 refine sI ?_
 refine sU<|Sy.skip<|sB ?_
 refine sP (.pointer (some ⟨g2,0,none⟩)) ?_
 refine Sy.write kR 2 g2 353 (Zl 33).toArray (.int .u8 2::Zl 32).toArray kR (wO 0 5 (.int .u8 2) rfl) ?_
 refine sG<|Sy.seq<|sC ?_
 refine sP (.pointer (some ⟨g0,4,none⟩))<|sS (fv v.val) (qL 0 g0 4 4 73 71 (pcs u.val v.val false) rfl Tryz.underlying71) ?_
 obtain ⟨b1,hb1⟩:∃ z:Bool,z=decide (v.val%pM%2=1):=⟨_,rfl⟩
 refine sS (.bool b1) (qF 262 #[fv v.val] (λw=>by rw [hb1]; exact odd_any w v.val lK)) ?_
 refine sG ?_
 cases b1
 ·refine sU<|Sy.skip<|sB ?_
  refine sP (.pointer (some ⟨g0,0,none⟩))<|sS (fv u.val) (qL 0 g0 0 4 73 71 (pcs u.val v.val false) rfl Tryz.underlying71)<|sS (.agg ((bv a0::bv a1::[bv a2,bv a3,bv a4,bv a5,bv a6,bv a7,bv a8,bv a9,bv a10,bv a11,bv a12,bv a13,bv a14,bv a15,bv a16,bv a17,bv a18,bv a19,bv a20,bv a21,bv a22,bv a23,bv a24,bv a25,bv a26,bv a27,bv a28,bv a29,bv a30,bv a31]):List Value).toArray) (qF 263 #[fv u.val] (cB)) ?_
  refine Sy.make kR 27 (Zl 32).toArray ptr kF (λg3=>?_)
  refine Sy.write kR 3 g3 27 (Zl 32).toArray (bv a0::bv a1::[bv a2,bv a3,bv a4,bv a5,bv a6,bv a7,bv a8,bv a9,bv a10,bv a11,bv a12,bv a13,bv a14,bv a15,bv a16,bv a17,bv a18,bv a19,bv a20,bv a21,bv a22,bv a23,bv a24,bv a25,bv a26,bv a27,bv a28,bv a29,bv a30,bv a31]).toArray kR (Writes.store 0 27 (bv a0::bv a1::[bv a2,bv a3,bv a4,bv a5,bv a6,bv a7,bv a8,bv a9,bv a10,bv a11,bv a12,bv a13,bv a14,bv a15,bv a16,bv a17,bv a18,bv a19,bv a20,bv a21,bv a22,bv a23,bv a24,bv a25,bv a26,bv a27,bv a28,bv a29,bv a30,bv a31]).toArray _ _ rfl kR kR kR kL kR kR) ?_
  refine sH (λj=>j == 2) ?_
  refine sZ 0 rfl (.slice (some ⟨g2,1,none⟩) 32 32)<|sZ 1 rfl (.slice (some ⟨g3,0,none⟩) 32 32) ?_
  refine Sy.writeVD 2 rfl kR (by rfl) kR 2 g2 353 (.int .u8 2::Zl 32).toArray (.int .u8 2::bv a0::bv a1::[bv a2,bv a3,bv a4,bv a5,bv a6,bv a7,bv a8,bv a9,bv a10,bv a11,bv a12,bv a13,bv a14,bv a15,bv a16,bv a17,bv a18,bv a19,bv a20,bv a21,bv a22,bv a23,bv a24,bv a25,bv a26,bv a27,bv a28,bv a29,bv a30,bv a31]).toArray (.int .i64 32) kR (WritesV.copy _ _ 29 29 _ rfl Tryz.underlying29 kR 2 g2 1 32 32 353 (.int .u8 2::Zl 32).toArray (.int .u8 2::bv a0::bv a1::[bv a2,bv a3,bv a4,bv a5,bv a6,bv a7,bv a8,bv a9,bv a10,bv a11,bv a12,bv a13,bv a14,bv a15,bv a16,bv a17,bv a18,bv a19,bv a20,bv a21,bv a22,bv a23,bv a24,bv a25,bv a26,bv a27,bv a28,bv a29,bv a30,bv a31]).toArray kR kR 3 g3 0 32 32 27 (bv a0::bv a1::[bv a2,bv a3,bv a4,bv a5,bv a6,bv a7,bv a8,bv a9,bv a10,bv a11,bv a12,bv a13,bv a14,bv a15,bv a16,bv a17,bv a18,bv a19,bv a20,bv a21,bv a22,bv a23,bv a24,bv a25,bv a26,bv a27,bv a28,bv a29,bv a30,bv a31]).toArray kR kR (bv a0::bv a1::[bv a2,bv a3,bv a4,bv a5,bv a6,bv a7,bv a8,bv a9,bv a10,bv a11,bv a12,bv a13,bv a14,bv a15,bv a16,bv a17,bv a18,bv a19,bv a20,bv a21,bv a22,bv a23,bv a24,bv a25,bv a26,bv a27,bv a28,bv a29,bv a30,bv a31]) kR kR (all_one _ kR) kL kR) ?_
  refine sE ?_
  refine sB ?_
  refine sS (.agg ((.int .u8 2::bv a0::bv a1::[bv a2,bv a3,bv a4,bv a5,bv a6,bv a7,bv a8,bv a9,bv a10,bv a11,bv a12,bv a13,bv a14,bv a15,bv a16,bv a17,bv a18,bv a19,bv a20,bv a21,bv a22,bv a23,bv a24,bv a25,bv a26,bv a27,bv a28,bv a29,bv a30,bv a31]):List Value).toArray) (Quiet.load 2 g2 0 33 353 353 (.int .u8 2::bv a0::bv a1::[bv a2,bv a3,bv a4,bv a5,bv a6,bv a7,bv a8,bv a9,bv a10,bv a11,bv a12,bv a13,bv a14,bv a15,bv a16,bv a17,bv a18,bv a19,bv a20,bv a21,bv a22,bv a23,bv a24,bv a25,bv a26,bv a27,bv a28,bv a29,bv a30,bv a31]).toArray _ _ rfl kR kR Tryz.underlying353 rfl kR _ kR kL) ?_
  refine Sy.write kR 1 g1 353 (Zl 33).toArray (.int .u8 2::bv a0::bv a1::[bv a2,bv a3,bv a4,bv a5,bv a6,bv a7,bv a8,bv a9,bv a10,bv a11,bv a12,bv a13,bv a14,bv a15,bv a16,bv a17,bv a18,bv a19,bv a20,bv a21,bv a22,bv a23,bv a24,bv a25,bv a26,bv a27,bv a28,bv a29,bv a30,bv a31]).toArray kR (Writes.store 0 353 (.int .u8 2::bv a0::bv a1::[bv a2,bv a3,bv a4,bv a5,bv a6,bv a7,bv a8,bv a9,bv a10,bv a11,bv a12,bv a13,bv a14,bv a15,bv a16,bv a17,bv a18,bv a19,bv a20,bv a21,bv a22,bv a23,bv a24,bv a25,bv a26,bv a27,bv a28,bv a29,bv a30,bv a31]).toArray _ _ rfl kR kR kR kL kR kR) ?_
  refine sG<|Sy.ret ?_
  rw [show (.agg ((encS (some (u,v))).map bv).toArray:Value)=.agg ((.int .u8 2::bv a0::bv a1::[bv a2,bv a3,bv a4,bv a5,bv a6,bv a7,bv a8,bv a9,bv a10,bv a11,bv a12,bv a13,bv a14,bv a15,bv a16,bv a17,bv a18,bv a19,bv a20,bv a21,bv a22,bv a23,bv a24,bv a25,bv a26,bv a27,bv a28,bv a29,bv a30,bv a31]):List Value).toArray from by
   have e:encS (some (u,v))=(if v.val%2=1 then 3 else 2)::bytesS u.val:=rfl
   rw [e,hm,if_neg (by have q:=hb1.symm; rw [Nat.mod_eq_of_lt v.isLt] at q; exact of_decide_eq_false q)]
   rfl]
  exact Sy.ret1 (v:=.agg ((.int .u8 2::bv a0::bv a1::[bv a2,bv a3,bv a4,bv a5,bv a6,bv a7,bv a8,bv a9,bv a10,bv a11,bv a12,bv a13,bv a14,bv a15,bv a16,bv a17,bv a18,bv a19,bv a20,bv a21,bv a22,bv a23,bv a24,bv a25,bv a26,bv a27,bv a28,bv a29,bv a30,bv a31]):List Value).toArray) rfl (.inl (Res.cell (ty':=353) g1 1 (.int .u8 2::bv a0::bv a1::[bv a2,bv a3,bv a4,bv a5,bv a6,bv a7,bv a8,bv a9,bv a10,bv a11,bv a12,bv a13,bv a14,bv a15,bv a16,bv a17,bv a18,bv a19,bv a20,bv a21,bv a22,bv a23,bv a24,bv a25,bv a26,bv a27,bv a28,bv a29,bv a30,bv a31]).toArray _ kR kR Tryz.underlying353 rfl kR kR))
 ·refine sT<|Sy.region ?_
  refine sP (.pointer (some ⟨g2,0,none⟩)) ?_
  refine Sy.write kR 2 g2 353 (.int .u8 2::Zl 32).toArray (.int .u8 3::Zl 32).toArray kR (wO 0 5 (.int .u8 3) rfl) ?_
  refine sA ?_
  refine sP (.pointer (some ⟨g0,0,none⟩))<|sS (fv u.val) (qL 0 g0 0 4 73 71 (pcs u.val v.val false) rfl Tryz.underlying71)<|sS (.agg ((bv a0::bv a1::[bv a2,bv a3,bv a4,bv a5,bv a6,bv a7,bv a8,bv a9,bv a10,bv a11,bv a12,bv a13,bv a14,bv a15,bv a16,bv a17,bv a18,bv a19,bv a20,bv a21,bv a22,bv a23,bv a24,bv a25,bv a26,bv a27,bv a28,bv a29,bv a30,bv a31]):List Value).toArray) (qF 263 #[fv u.val] (cB)) ?_
  refine Sy.make kR 27 (Zl 32).toArray ptr kF (λg4=>?_)
  refine Sy.write kR 3 g4 27 (Zl 32).toArray (bv a0::bv a1::[bv a2,bv a3,bv a4,bv a5,bv a6,bv a7,bv a8,bv a9,bv a10,bv a11,bv a12,bv a13,bv a14,bv a15,bv a16,bv a17,bv a18,bv a19,bv a20,bv a21,bv a22,bv a23,bv a24,bv a25,bv a26,bv a27,bv a28,bv a29,bv a30,bv a31]).toArray kR (Writes.store 0 27 (bv a0::bv a1::[bv a2,bv a3,bv a4,bv a5,bv a6,bv a7,bv a8,bv a9,bv a10,bv a11,bv a12,bv a13,bv a14,bv a15,bv a16,bv a17,bv a18,bv a19,bv a20,bv a21,bv a22,bv a23,bv a24,bv a25,bv a26,bv a27,bv a28,bv a29,bv a30,bv a31]).toArray _ _ rfl kR kR kR kL kR kR) ?_
  refine sH (λj=>j == 2) ?_
  refine sZ 0 rfl (.slice (some ⟨g2,1,none⟩) 32 32)<|sZ 1 rfl (.slice (some ⟨g4,0,none⟩) 32 32) ?_
  refine Sy.writeVD 2 rfl kR (by rfl) kR 2 g2 353 (.int .u8 3::Zl 32).toArray (.int .u8 3::bv a0::bv a1::[bv a2,bv a3,bv a4,bv a5,bv a6,bv a7,bv a8,bv a9,bv a10,bv a11,bv a12,bv a13,bv a14,bv a15,bv a16,bv a17,bv a18,bv a19,bv a20,bv a21,bv a22,bv a23,bv a24,bv a25,bv a26,bv a27,bv a28,bv a29,bv a30,bv a31]).toArray (.int .i64 32) kR (WritesV.copy _ _ 29 29 _ rfl Tryz.underlying29 kR 2 g2 1 32 32 353 (.int .u8 3::Zl 32).toArray (.int .u8 3::bv a0::bv a1::[bv a2,bv a3,bv a4,bv a5,bv a6,bv a7,bv a8,bv a9,bv a10,bv a11,bv a12,bv a13,bv a14,bv a15,bv a16,bv a17,bv a18,bv a19,bv a20,bv a21,bv a22,bv a23,bv a24,bv a25,bv a26,bv a27,bv a28,bv a29,bv a30,bv a31]).toArray kR kR 3 g4 0 32 32 27 (bv a0::bv a1::[bv a2,bv a3,bv a4,bv a5,bv a6,bv a7,bv a8,bv a9,bv a10,bv a11,bv a12,bv a13,bv a14,bv a15,bv a16,bv a17,bv a18,bv a19,bv a20,bv a21,bv a22,bv a23,bv a24,bv a25,bv a26,bv a27,bv a28,bv a29,bv a30,bv a31]).toArray kR kR (bv a0::bv a1::[bv a2,bv a3,bv a4,bv a5,bv a6,bv a7,bv a8,bv a9,bv a10,bv a11,bv a12,bv a13,bv a14,bv a15,bv a16,bv a17,bv a18,bv a19,bv a20,bv a21,bv a22,bv a23,bv a24,bv a25,bv a26,bv a27,bv a28,bv a29,bv a30,bv a31]) kR kR (all_one _ kR) kL kR) ?_
  refine sE ?_
  refine sB ?_
  refine sS (.agg ((.int .u8 3::bv a0::bv a1::[bv a2,bv a3,bv a4,bv a5,bv a6,bv a7,bv a8,bv a9,bv a10,bv a11,bv a12,bv a13,bv a14,bv a15,bv a16,bv a17,bv a18,bv a19,bv a20,bv a21,bv a22,bv a23,bv a24,bv a25,bv a26,bv a27,bv a28,bv a29,bv a30,bv a31]):List Value).toArray) (Quiet.load 2 g2 0 33 353 353 (.int .u8 3::bv a0::bv a1::[bv a2,bv a3,bv a4,bv a5,bv a6,bv a7,bv a8,bv a9,bv a10,bv a11,bv a12,bv a13,bv a14,bv a15,bv a16,bv a17,bv a18,bv a19,bv a20,bv a21,bv a22,bv a23,bv a24,bv a25,bv a26,bv a27,bv a28,bv a29,bv a30,bv a31]).toArray _ _ rfl kR kR Tryz.underlying353 rfl kR _ kR kL) ?_
  refine Sy.write kR 1 g1 353 (Zl 33).toArray (.int .u8 3::bv a0::bv a1::[bv a2,bv a3,bv a4,bv a5,bv a6,bv a7,bv a8,bv a9,bv a10,bv a11,bv a12,bv a13,bv a14,bv a15,bv a16,bv a17,bv a18,bv a19,bv a20,bv a21,bv a22,bv a23,bv a24,bv a25,bv a26,bv a27,bv a28,bv a29,bv a30,bv a31]).toArray kR (Writes.store 0 353 (.int .u8 3::bv a0::bv a1::[bv a2,bv a3,bv a4,bv a5,bv a6,bv a7,bv a8,bv a9,bv a10,bv a11,bv a12,bv a13,bv a14,bv a15,bv a16,bv a17,bv a18,bv a19,bv a20,bv a21,bv a22,bv a23,bv a24,bv a25,bv a26,bv a27,bv a28,bv a29,bv a30,bv a31]).toArray _ _ rfl kR kR kR kL kR kR) ?_
  refine sG<|Sy.ret ?_
  rw [show (.agg ((encS (some (u,v))).map bv).toArray:Value)=.agg ((.int .u8 3::bv a0::bv a1::[bv a2,bv a3,bv a4,bv a5,bv a6,bv a7,bv a8,bv a9,bv a10,bv a11,bv a12,bv a13,bv a14,bv a15,bv a16,bv a17,bv a18,bv a19,bv a20,bv a21,bv a22,bv a23,bv a24,bv a25,bv a26,bv a27,bv a28,bv a29,bv a30,bv a31]):List Value).toArray from by
   have e:encS (some (u,v))=(if v.val%2=1 then 3 else 2)::bytesS u.val:=rfl
   rw [e,hm,if_pos (by have q:=hb1.symm; rw [Nat.mod_eq_of_lt v.isLt] at q; exact of_decide_eq_true q)]
   rfl]
  exact Sy.ret1 (v:=.agg ((.int .u8 3::bv a0::bv a1::[bv a2,bv a3,bv a4,bv a5,bv a6,bv a7,bv a8,bv a9,bv a10,bv a11,bv a12,bv a13,bv a14,bv a15,bv a16,bv a17,bv a18,bv a19,bv a20,bv a21,bv a22,bv a23,bv a24,bv a25,bv a26,bv a27,bv a28,bv a29,bv a30,bv a31]):List Value).toArray) rfl (.inl (Res.cell (ty':=353) g1 1 (.int .u8 3::bv a0::bv a1::[bv a2,bv a3,bv a4,bv a5,bv a6,bv a7,bv a8,bv a9,bv a10,bv a11,bv a12,bv a13,bv a14,bv a15,bv a16,bv a17,bv a18,bv a19,bv a20,bv a21,bv a22,bv a23,bv a24,bv a25,bv a26,bv a27,bv a28,bv a29,bv a30,bv a31]).toArray _ kR kR Tryz.underlying353 rfl kR kR))
theorem enc_any (w:World) (x y:Nat) (i:Bool) (hx:x<K4) (hy:y<K4):Calls Tryz.prog 222 #[pv x y i] w (Gets w (.agg ((encS (dec x y i)).map bv).toArray)):=by
 rcases h:dec x y i with _ | ⟨u,v⟩
 ·exact enc_none w x y i hx hy h
 ·exact enc_some w x y i hx hy u v h
end Cu
end
section
namespace Cu
open Go.RowKit Sy
set_option maxRecDepth 100000
set_option maxHeartbeats 4000000
end Cu
end
section
namespace Cu
open Go.RowKit Sy
theorem setAll_all:∀ (vs:List Value) (o:Nat) (cs:Array Value),o+vs.length=cs.size→setAll cs o vs=(cs.toList.take o++vs).toArray
 | [],o,cs,h=>by
  rw [List.append_nil,List.take_of_length_le (by simp at h ⊢; omega)]
  simp [setAll]
 | v::r,o,cs,h=>by
  have hlt:o<cs.size:=by simp at h; omega
  rw [setAll,setAll_all r (o+1) _ (by simp at h ⊢; omega)]
  congr 1
  rw [Array.toList_setIfInBounds,List.take_set,List.take_succ_eq_append_getElem (by simpa using hlt),List.set_append_right _ _ (by rw [List.length_take]; exact Nat.min_le_left _ _)]
  have:(cs.toList.take o).length=o:=by simp; omega
  simp [this]
end Cu
end
section
namespace Sy
open Go.RowKit
section
variable {P:Program} {w0:Base} {n:Nat} {F:Slots} {L:Blocks} {o:Oper}
theorem exec_atO (t e:TypeId) (x kx:Operand) (A:Option Addr) (g f len cap k s:Nat) (ki:IntKind) (hA:A=some ⟨g,f,none⟩) (ho:o.op=.indexAddr t x kx) (hx:evF F x=.slice A len cap) (hkx:evF F kx=.int ki (k:Int)) (ht:P.underlying t=some (.slice e)) (hsz:∀ w,(sizeOf e).run P w=.ok s w) (hk:k<len) (w:World) :
  (execOp (evF F) o).run P w=.ok (.value (.pointer (some ⟨g,f+k*s,none⟩))) w:=by
 subst hA
 exact exec_at t e x kx g f len cap k s ki ho hx hkx ht hsz hk w
theorem Writes.row {g:Nat} {t:TypeId} {cs:Array Value} (ty:TypeId) (c:List Value) (m:Nat) (x y:Operand) (ho:o.op=.store ty x y) (hx:evF F x=.pointer (some ⟨g,0,none⟩)) (hy:evF F y=.agg c.toArray) (hi:(P.info? ty).map (·.size)=some m) (hc:c.length=m) (hs:cs.size=m) (h1:∀ u∈c,u.oneCell'=true):Writes P F o g t cs c.toArray :=
 Writes.store 0 ty c.toArray x y ho hx hy (by rw [hi,List.size_toArray,hc]) (by rw [List.size_toArray,hc,hs,Nat.zero_add]; exact Nat.le_refl _) (by rw [List.all_toArray,List.all_eq_true]; exact h1) (by
  have:=Cu.setAll_all c 0 cs (by omega)
  simpa using this)
theorem Quiet.mid (i g f k:Nat) (t ty:TypeId) (cs m:List Value) (d:TypeDesc) (x:Operand) (ho:o.op=.load ty x) (hx:evF F x=.pointer (some ⟨g,f,none⟩)) (hL:L[i]? = some (g,t,cs.toArray)) (hu:P.underlying ty=some d) (hd:d.isRow=true) (hi:(P.info? ty).map (·.size)=some k) (hm:(cs.drop f).take k=m) (hk:f+k≤cs.length):Quiet P w0 F L o (.agg m.toArray) :=
 Quiet.load i g f k t ty cs.toArray d x ho hx hL hu hd hi _ (by rw [← hm]) (by simpa using hk)
end
end Sy
end
section
namespace Sy
open Go.RowKit
structure Slc where
 v:Value
 bl:Blocks
structure Slc.Is (r:Slc) (e:TypeId) (sz:Nat) (xs:List (List Value)):Prop where
 len:∀ x∈xs,x.length=sz
 one:∀ x∈xs, ∀ u∈x,u.oneCell'=true
 row:(xs=[]∧r=⟨.slice none 0 0,[]⟩)∨∃ g cap sp,r=⟨.slice (some ⟨g,0,none⟩) xs.length cap,[(g,e,(xs.flatten++sp).toArray)]⟩∧sp.length+xs.length*sz=cap*sz∧xs.length≤cap∧cap≤maxLen
theorem Slc.Is.nil (e:TypeId) (sz:Nat):Slc.Is ⟨.slice none 0 0,[]⟩ e sz []:=⟨λ_ h=>(by cases h),λ_ h=>(by cases h),.inl ⟨rfl,rfl⟩⟩
theorem flat_len' {sz:Nat}:∀ {xs:List (List Value)},(∀ x∈xs,x.length=sz)→xs.flatten.length=xs.length*sz
 | [],_=>by simp
 | x::xs,h=>by
  rw [List.flatten_cons,List.length_append,h x (List.mem_cons_self ..),flat_len' λy hy=>h y (List.mem_cons_of_mem _ hy),List.length_cons,Nat.add_mul,Nat.one_mul,Nat.add_comm]
theorem flat_at' {sz:Nat}:∀ {xs:List (List Value)} (sp:List Value),(∀ x∈xs,x.length=sz)→∀ (j:Nat) (x:List Value),xs[j]? = some x→((xs.flatten++sp).drop (j*sz)).take sz=x
 | [],_,_,_,_,h=>by simp at h
 | y::xs,sp,h,0,x,hx=>by
  have hy:=h y (List.mem_cons_self ..)
  simp only [List.getElem?_cons_zero,Option.some.injEq] at hx
  subst hx
  rw [Nat.zero_mul,List.drop_zero,List.flatten_cons,List.append_assoc,List.take_append_of_le_length (by omega),List.take_of_length_le (by omega)]
 | y::xs,sp,h,j+1,x,hx=>by
  have hy:=h y (List.mem_cons_self ..)
  rw [List.getElem?_cons_succ] at hx
  have ih:=flat_at' sp (λz hz=>h z (List.mem_cons_of_mem _ hz)) j x hx
  rw [List.flatten_cons,List.append_assoc,List.drop_append,hy,List.drop_of_length_le (by rw [hy,Nat.add_mul,Nat.one_mul]; omega),List.nil_append,Nat.add_mul,Nat.one_mul,Nat.add_sub_cancel]
  exact ih
section
variable {P:Program} {w0:Base} {n:Nat} {Q:Exit→Act→World→Prop} {F:Slots} {pre T:Blocks} {ops:Array Oper} {o:Oper} {l:List Oper}
theorem appendR (hg:good ops n F o=true) (ts e:TypeId) (inf:TypeInfo) (z:Value) (sz by_:Nat) (ht:P.underlying ts=some (.slice e)) (hinf:P.info? e=some inf) (hz:inf.zero=some z) (hs1:inf.size=sz) (hb1:inf.bytes=by_) (hzs:z.cells.size=sz) (h0:0<sz)
  (s x:Operand) (ho:o.op=.call { callee:=.builtin .append,args:=#[s,x],argTypes:=#[ts,ts] })
  {r:Slc} {xs:List (List Value)} (hr:r.Is e sz xs) (hs:evF F s=r.v) (y:List Value) (hy:y.length=sz) (hy1:∀ u∈y,u.oneCell'=true)
  (j gx:Nat) (tx:TypeId) (hx:evF F x=.slice (some ⟨gx,0,none⟩) 1 1) (hLx:(pre++(r.bl++T))[j]? = some (gx,tx,y.toArray)) (hsmall:(xs.length+1)*by_≤140737488355328) (h63:xs.length+1≤maxLen)
  (h:∀ r':Slc,r'.Is e sz (xs++[y])→wpS P w0 n ops Q (putF F o.dst r'.v) (pre++(r'.bl++T)) l):wpS P w0 n ops Q F (pre++(r.bl++T)) (o::l):=by
 have hfrom:From w0 (pre++(r.bl++T)) (some ⟨gx,0,none⟩) y:=From.blk hLx (by simp)
 have hlen:∀ u∈xs++[y],u.length=sz:=λu hu=>by
  rcases List.mem_append.1 hu with hu | hu
  ·exact hr.len u hu
  ·rw [List.mem_singleton.1 hu]; exact hy
 have hone:∀ u∈xs++[y], ∀ v∈u,v.oneCell'=true:=λu hu=>by
  rcases List.mem_append.1 hu with hu | hu
  ·exact hr.one u hu
  ·rw [List.mem_singleton.1 hu]; exact hy1
 rcases hr.row with ⟨rfl,rfl⟩ | ⟨g,cap,sp,rfl,q1,q2,q3⟩
 ·refine appendGNil hg ts e inf z sz by_ ht hinf hz hs1 hb1 hzs h0 s x ho hs (some ⟨gx,0,none⟩) 1 1 y hx hfrom (by omega) (by decide) hy1 (by simpa using hsmall) (by simpa using h63) (λg' cap' sp' h1 h2 h3=>?_)
  have hq:=h ⟨.slice (some ⟨g',0,none⟩) 1 cap',[(g',e,(y++sp').toArray)]⟩ ⟨hlen,hone,.inr ⟨g',cap',sp',by simp,by simpa using h1,by simpa using h2,h3⟩⟩
  exact permS (by
   rw [List.nil_append,List.append_assoc]
   exact (List.perm_append_comm (l₁:=T) (l₂:=[(g',e,(y++sp').toArray)])).append_left pre) hq
 ·have hi:(pre++([(g,e,(xs.flatten++sp).toArray)]++T))[pre.length]? = some (g,e,(xs.flatten++sp).toArray):=by
   rw [List.getElem?_append_right (Nat.le_refl _),Nat.sub_self]
   rfl
  refine appendG hg ts e inf z sz by_ ht hinf hz hs1 hb1 hzs h0 s x ho pre.length g xs.length cap xs.flatten sp hs hi (flat_len' hr.len) q1 q3 (some ⟨gx,0,none⟩) 1 1 y hx hfrom (by omega) (Nat.le_refl _) hy1 hsmall h63 (λg' cap' sp' h1 h2 h3=>?_)
  have hq:=h ⟨.slice (some ⟨g',0,none⟩) (xs.length+1) cap',[(g',e,(xs.flatten++y++sp').toArray)]⟩ ⟨hlen,hone,.inr ⟨g',cap',sp',by simp,by simpa using h1,by simpa using h2,h3⟩⟩
  have he:(pre++([(g,e,(xs.flatten++sp).toArray)]++T)).set pre.length (g',e,(xs.flatten++y++sp').toArray)=pre++([(g',e,(xs.flatten++y++sp').toArray)]++T):=by
   rw [List.set_append_right _ _ (Nat.le_refl _),Nat.sub_self]
   rfl
  rw [he]
  exact hq
theorem movT {b:Nat×TypeId×Array Value} (h:wpS P w0 n ops Q F ((pre++[b])++T) l):wpS P w0 n ops Q F ((pre++T)++[b]) l :=
 permS (by
  rw [List.append_assoc,List.append_assoc]
  exact (List.perm_append_comm (l₁:=T) (l₂:=[b])).append_left pre) h
theorem setT {i:Nat} {b:Nat×TypeId×Array Value} (h:wpS P w0 n ops Q F ((pre.set i b)++T) l) (hi:Nat.ble (i+1) pre.length=true:=by kernel_rfl):wpS P w0 n ops Q F ((pre++T).set i b) l:=by
 rw [List.set_append_left _ _ (Nat.le_of_ble_eq_true hi)]
 exact h
theorem loopT {L:Blocks} {Y:Type} {c:Code} (N:Nat) (FF:Nat→Y→Slots) (LL:Nat→Y→Blocks) (H:Nat→Y→Prop) (x0:Y) (h0:H 0 x0) (hF:∀ p∈FF 0 x0,F.lookup p.1=some p.2) (hL:∀ w,St w0 w L→St w0 w (LL 0 x0))
  (hr:∀ k x,k≤N→H k x→wpC P w0 n (Exit.then (NextX w0 n N FF LL H k) Q) (FF k x) (LL k x) c):wpC P w0 n Q F L (.loop c) :=
 loopI N (λk a w=>∃ x,H k x∧Fr w0.ds a n (FF k x)∧St w0 w (LL k x)) (λ_ w ha hw=>⟨x0,h0,ha.all hF,hL w hw⟩)
  λk hk a w ⟨x,hx,ha,hw⟩=>hr k x hk hx a w ha hw
theorem againT {L:Blocks} {Y:Type} {N:Nat} {FF:Nat→Y→Slots} {LL:Nat→Y→Blocks} {H:Nat→Y→Prop} {k:Nat} {R:Exit→Act→World→Prop} (y:Y) (hk:k<N) (hy:H (k+1) y) (hF:∀ p∈FF (k+1) y,F.lookup p.1=some p.2) (hL:∀ w,St w0 w L→St w0 w (LL (k+1) y)) :
  X w0 n (Exit.then (NextX w0 n N FF LL H k) R) F L .normal:=λ_ w ha hw=>⟨hk,y,hy,ha.all hF,hL w hw⟩
theorem Slc.Is.cells {r:Slc} {e:TypeId} {sz:Nat} {xs:List (List Value)} (h:r.Is e sz xs):r.v.cells=#[r.v]∧r.v.oneCell'=true:=by
 rcases h.row with ⟨rfl,rfl⟩ | ⟨g,cap,sp,rfl,_⟩ <;> exact ⟨rfl,rfl⟩
end
theorem fold_all:∀ (c:List Value) (off k:Nat) (cs:Array Value),(c.zipIdx k).foldl (λcs x=>cs.setIfInBounds (off+x.2) x.1) cs=setAll cs (off+k) c
 | [],_,_,_=>rfl
 | v::c,off,k,cs=>by
  rw [List.zipIdx_cons,List.foldl_cons,fold_all c off (k+1)]
  rfl
theorem fill_one {place:Nat→Option (Nat×Nat)} {cs:Array Value} {c:List Value} {n:Nat} (hp:place 0=some (0,n)) (hc:c.length=n) (hs:cs.size=n):Instr.fill place cs [(0,.agg c.toArray)]=some c.toArray:=by
 unfold Instr.fill
 rw [hp]
 simp only [Value.cells,List.size_toArray,hc,hs,Nat.zero_add,ne_eq,not_true_eq_false,decide_false,Bool.false_or]
 rw [if_neg (by simp)]
 unfold Instr.fill
 have h1:c.toArray.zipIdx.foldl (λcs (x:Value×Nat)=>cs.setIfInBounds (0+x.2) x.1) cs=setAll cs (0+0) c:=by
  rw [← fold_all c 0 0 cs, ← Array.foldl_toList,Array.toList_zipIdx]
 have h2:=Cu.setAll_all c 0 cs (by omega)
 simp only [Nat.zero_add] at h1
 rw [h1,h2]
 simp
section
variable {P:Program} {w0:Base} {F:Slots} {L:Blocks} {o:Oper}
theorem Makes.one (t e:TypeId) (ie:TypeInfo) (z:Value) (s:Nat) (x:Operand) (c:List Value) (ho:o.op=.buildSlice t 1 #[(0,x)]) (hx:evF F x=.agg c.toArray) (ht:P.underlying t=some (.slice e)) (hi:P.info? e=some ie) (hz:ie.zero=some z) (hs:ie.size=s) (hc:c.length=s) (h0:0<s) (hb:s≤16777216) :
  Makes P F o e c.toArray (λg=>.slice (some ⟨g,0,none⟩) 1 1):=λw=>by
 subst hs
 have hr:=run_buildSlice (P:=P) w t e 1 #[(0,.agg c.toArray)] c.toArray ie z ht hi hz (by omega) (by omega) (fill_one (by simp) hc (by simp))
 unfold execOp
 simp only [ho,Sem.run_bind,List.map_toArray,List.map_cons,List.map_nil,hx,hr,Result.andThen_ok,Sem.run_pure]
theorem exec_upto (t:TypeId) (x hx':Operand) (g f len cap hi s:Nat) (kh:IntKind) (ho:o.op=.slice t x none (some hx') none) (hx:evF F x=.slice (some ⟨g,f,none⟩) len cap) (hh:evF F hx'=.int kh (hi:Int)) (ht:P.underlying t=some (.slice (P.elem t))) (hsz:∀ w,(sizeOf (P.elem t)).run P w=.ok s w) (h1:hi≤cap) (w:World) :
  (execOp (evF F) o).run P w=.ok (.value (.slice (some ⟨g,f,none⟩) hi cap)) w:=by
 have e:(Instr.sliceAt t (.slice (some ⟨g,f,none⟩) len cap) none (some (.int kh (hi:Int))) none).run P w=.ok (.slice (some ⟨g,f,none⟩) hi cap) w:=by
  rw [run_sliceAt_slice w t _ _ _ _ ht]
  simp [Instr.slice,run_underlying ht,Instr.sliceBounds,Instr.sliceBound,asIntOf,h1,hsz,Result.andThen,Addr.add]
 unfold execOp
 simp only [ho,hx,hh,Option.map_some,Option.map_none,e,Sem.run_bind,Sem.run_pure,Result.andThen_ok]
end
theorem Slc.Is.mk' {g nn cap:Nat} {e:TypeId} {sz:Nat} {xs:List (List Value)} {cs:List Value} (hl:∀ x∈xs,x.length=sz) (h1:∀ x∈xs, ∀ u∈x,u.oneCell'=true) (hn:xs.length=nn) (hc:cs.take (nn*sz)=xs.flatten) (hs:cs.length=cap*sz) (hle:nn≤cap) (hm:cap≤maxLen):Slc.Is ⟨.slice (some ⟨g,0,none⟩) nn cap,[(g,e,cs.toArray)]⟩ e sz xs:=by
 subst hn
 refine ⟨hl,h1,.inr ⟨g,cap,cs.drop (xs.length*sz),?_,?_,hle,hm⟩⟩
 ·rw [← hc,List.take_append_drop]
 ·have:=Nat.mul_le_mul_right sz hle
  rw [List.length_drop]
  omega
end Sy
end
section
namespace Sy
open Go.RowKit
section
variable {P:Program} {w0:Base} {n:Nat} {Q:Exit→Act→World→Prop} {F:Slots} {L M:Blocks} {ops:Array Oper} {ex:Nat→Bool} {fuel:Nat} {listed:Array Bool} {pre T:Blocks}
theorem permD (p:L.Perm M) (h:wpD P w0 n ops Q ex F M fuel listed):wpD P w0 n ops Q ex F L fuel listed:=λa w ha hw=>h a w ha (hw.perm p)
theorem mov_perm {b:Nat×TypeId×Array Value}:((pre++T)++[b]).Perm ((pre++[b])++T):=by
 rw [List.append_assoc,List.append_assoc]
 exact (List.perm_append_comm (l₁:=T) (l₂:=[b])).append_left pre
theorem movTD {b:Nat×TypeId×Array Value} (h:wpD P w0 n ops Q ex F ((pre++[b])++T) fuel listed):wpD P w0 n ops Q ex F ((pre++T)++[b]) fuel listed:=permD mov_perm h
theorem setTD {i:Nat} {b:Nat×TypeId×Array Value} (h:wpD P w0 n ops Q ex F ((pre.set i b)++T) fuel listed) (hi:Nat.ble (i+1) pre.length=true:=by kernel_rfl):wpD P w0 n ops Q ex F ((pre++T).set i b) fuel listed:=by
 rw [List.set_append_left _ _ (Nat.le_of_ble_eq_true hi)]
 exact h
def onlyQ (Q:Exit→Act→World→Prop) (K:Act→World→Prop):Exit→Act→World→Prop
 | .normal=>K
 | .panic c=>Q (.panic c)
 | _=>λ_ _=>False
theorem wp_only {o:Oper} {a:Act} {w:World} {K' K:Act→World→Prop} (h:o.wp P a w K (onlyQ Q K')):o.wp P a w K Q:=by
 unfold Oper.wp at *
 generalize (execOp a.eval o).run P w=r at *
 cases r with
 | ok x w' =>
  cases x <;> simp only [Oper.upon] at h ⊢ <;>
   first
    | exact h
    | exact Calls.mono h (λe w'' he=>by cases e <;> first | exact he | (obtain ⟨_,_,q⟩:=he; exact q.elim))
 | halt x w'=>cases x <;> simp only [Oper.upon] at h ⊢ <;> exact h
theorem soleD (k:Nat) {oi:Oper} (hi0:ops.toList[k]? = some oi) (h:∀ Q',(∀ F' L',wpD P w0 n ops Q ex F' L' fuel (listed.setIfInBounds k true)→wpS P w0 n ops Q' F' L' [])→wpS P w0 n ops Q' F L [oi])
  (hg:wantedF ops F oi=some true:=by kernel_rfl) (hr:Region.ready .any ops listed=[k]:=by kernel_rfl) (hex:ex k=true:=by rfl):wpD P w0 n ops Q ex F L (fuel+1) listed:=λa w ha hw =>
 wpAnyG_sole k hi0 hr (ha.wanted hg) λw1 h1 K hK=>by
  have q:=h (onlyQ Q K) (λF' L' hd a' w' ha' hw'=>wpList_nil (hK _ _ (λe=>by rw [hex] at e; cases e) (hd a' w' ha' hw'))) a w1 ha (hw.gr h1)
  unfold wpList at q
  rw [if_pos (ha.wanted hg)] at q
  rcases q with q | ⟨_,a',w',q⟩
  ·exact wp_only (K':=K) q
  ·exact q.elim
end
def nilS:Slc:=⟨.slice none 0 0,[]⟩
section
variable {r:Nat→Slc} {n i:Nat} {x:Slc}
end
section
variable {w0:Base} {w:World} {pre a T M N:Blocks}
end
section
variable {P:Program} {w0:Base} {F:Slots} {L:Blocks} {o:Oper}
end
end Sy
end
section
namespace Sy
open Go.RowKit
section
variable {P:Program} {w0:Base} {n:Nat} {Q:Exit→Act→World→Prop} {F:Slots} {L pre T:Blocks} {ops:Array Oper} {o:Oper} {l:List Oper}
theorem appendM (hg:good ops n F o=true) (ts e:TypeId) (inf:TypeInfo) (z:Value) (sz by_:Nat) (ht:P.underlying ts=some (.slice e)) (hinf:P.info? e=some inf) (hz:inf.zero=some z) (hs1:inf.size=sz) (hb1:inf.bytes=by_) (hzs:z.cells.size=sz) (h0:0<sz)
  (s x:Operand) (ho:o.op=.call { callee:=.builtin .append,args:=#[s,x],argTypes:=#[ts,ts] })
  {r:Slc} {xs ys:List (List Value)} (hr:r.Is e sz xs) (hs:evF F s=r.v) (hy:∀ y∈ys,y.length=sz) (hy1:∀ y∈ys, ∀ u∈y,u.oneCell'=true)
  (A:Option Addr) (m c:Nat) (hm:ys.length=m) (hmc:m≤c) (hx:evF F x=.slice A m c) (hf:∀ r:Slc,From w0 (pre++(r.bl++T)) A ys.flatten) (hsmall:(xs.length+m)*by_≤140737488355328) (h63:xs.length+m≤maxLen)
  (h:∀ r':Slc,r'.Is e sz (xs++ys)→wpS P w0 n ops Q (putF F o.dst r'.v) (pre++(r'.bl++T)) l):wpS P w0 n ops Q F (pre++(r.bl++T)) (o::l):=by
 have hlen:∀ u∈xs++ys,u.length=sz:=λu hu=>(List.mem_append.1 hu).elim (hr.len u) (hy u)
 have hone:∀ u∈xs++ys, ∀ v∈u,v.oneCell'=true:=λu hu=>(List.mem_append.1 hu).elim (hr.one u) (hy1 u)
 have hyl:ys.flatten.length=m*sz:=by rw [flat_len' hy,hm]
 have hyo:∀ u∈ys.flatten,u.oneCell'=true:=λu hu=>by
  obtain ⟨y,h1,h2⟩:=List.mem_flatten.1 hu
  exact hy1 y h1 u h2
 rcases hr.row with ⟨rfl,rfl⟩ | ⟨g,cap,sp,rfl,q1,q2,q3⟩
 ·rcases Nat.eq_zero_or_pos m with rfl | hm0
  ·obtain rfl:ys=[]:=List.eq_nil_of_length_eq_zero hm
   intro a w ha hw
   obtain ⟨k1,_,k3,_⟩:=good_spec hg
   refine wpList_step λK hK=>?_
   rw [if_pos (ha.wanted k1)]
   have hfc:(Builtin.firstCells inf.size 0 (.slice A 0 c)).run P w=.ok #[] w:=by
    cases A with
    | none=>simp [Builtin.firstCells,Sem.run_pure]
    | some a=>simpa using run_firstCells_some (P:=P) w inf.size 0 a 0 c [] (by simp) (λj u hj=>by cases hj)
   have hrn:(Builtin.append_ #[ts,ts] o.type #[.slice none 0 0,.slice A 0 c]).run P w=.ok (.slice none 0 0) w:=by
    simp [Builtin.append_,run_underlying ht,sizeOf,typeInfo,hinf,Builtin.lenOf,hfc]
   unfold Oper.wp
   rw [good_exec hg ha]
   unfold execOp
   simp only [ho,resolve,invoke,builtin,Sem.run_bind,Sem.run_pure,Result.andThen_ok,List.map_toArray,List.map_cons,List.map_nil,hs,hx,hrn]
   exact hK _ _ (h nilS (Slc.Is.nil e sz) _ _ (ha.put k3 _) hw)
  ·refine appendGNil hg ts e inf z sz by_ ht hinf hz hs1 hb1 hzs h0 s x ho hs A m c ys.flatten hx (hf _) hyl hm0 hyo (by simpa using hsmall) (by simpa using h63) (λg' cap' sp' h1 h2 h3=>?_)
   have hq:=h ⟨.slice (some ⟨g',0,none⟩) m cap',[(g',e,(ys.flatten++sp').toArray)]⟩ ⟨hlen,hone,.inr ⟨g',cap',sp',by simp [hm],by simpa [hm] using h1,by simpa [hm] using h2,h3⟩⟩
   exact permS (by
    rw [List.nil_append,List.append_assoc]
    exact (List.perm_append_comm (l₁:=T) (l₂:=[(g',e,(ys.flatten++sp').toArray)])).append_left pre) hq
 ·have hi:(pre++([(g,e,(xs.flatten++sp).toArray)]++T))[pre.length]? = some (g,e,(xs.flatten++sp).toArray):=by
   rw [List.getElem?_append_right (Nat.le_refl _),Nat.sub_self]
   rfl
  refine appendG hg ts e inf z sz by_ ht hinf hz hs1 hb1 hzs h0 s x ho pre.length g xs.length cap xs.flatten sp hs hi (flat_len' hr.len) q1 q3 A m c ys.flatten hx (hf ⟨.slice none 0 0,[(g,e,(xs.flatten++sp).toArray)]⟩) hyl hmc hyo hsmall h63 (λg' cap' sp' h1 h2 h3=>?_)
  have hq:=h ⟨.slice (some ⟨g',0,none⟩) (xs.length+m) cap',[(g',e,(xs.flatten++ys.flatten++sp').toArray)]⟩ ⟨hlen,hone,.inr ⟨g',cap',sp',by simp [hm],by simpa [hm] using h1,by simpa [hm] using h2,h3⟩⟩
  have he:(pre++([(g,e,(xs.flatten++sp).toArray)]++T)).set pre.length (g',e,(xs.flatten++ys.flatten++sp').toArray)=pre++([(g',e,(xs.flatten++ys.flatten++sp').toArray)]++T):=by
   rw [List.set_append_right _ _ (Nat.le_refl _),Nat.sub_self]
   rfl
  rw [he]
  exact hq
end
theorem retGM {P:Program} {w1:World} {n:Nat} {F:Slots} {L:Blocks} {fn:Func} {r:ResultVar} {v:Value} {R:Value→Blocks→Prop} (M:Blocks) (hr:fn.results=#[r]) (h:Has P F L r v) (hM:∀ w,St (Base.of w1) w L→St (Base.of w1) w M) (hR:R v M):X (Base.of w1) n (bodyPost P fn (GetsN w1 R)) F L .ret:=λa w ha hw=>by
 refine bodyPost_ret (v:=v) ?_ ha.1 ⟨v,M,rfl,hR,hw.below,λg t cs hm=>(hM w hw).blk g t cs hm,(hM w hw).apart⟩
 rcases Res.run h ha hw with ⟨t,rfl,e1⟩ | ⟨t,ty,ad,rfl,e1,e2⟩ <;> simp [results,Result.andThen, *]
end Sy
end
section
namespace Wr
abbrev Byt:=List UInt8
def nb:Nat→Nat→Byt
 | 0,_=>[]
 | k+1,n=>UInt8.ofNat (n / 256 ^ k)::nb k n
theorem nb_len (k n:Nat):(nb k n).length=k:=by induction k with | zero=>rfl | succ k ih=>simp [nb,ih]
def said (l:Byt):Nat:=l.foldl (λa b=>256*a+b.toNat) 0
theorem foldl_said (l:Byt) (a:Nat):l.foldl (λa b=>256*a+b.toNat) a=a*256 ^ l.length+said l:=by
 induction l generalizing a with
 | nil=>simp [said]
 | cons b l ih =>
  unfold said
  rw [List.foldl_cons,List.foldl_cons,ih,ih,List.length_cons,Nat.pow_succ,Nat.mul_zero,Nat.zero_add,Nat.add_mul,Nat.add_assoc]
  congr 1
  rw [Nat.mul_comm 256 a,Nat.mul_assoc,Nat.mul_comm 256]
theorem said_cons (b:UInt8) (l:Byt):said (b::l)=b.toNat*256 ^ l.length+said l:=by
 rw [← foldl_said]; unfold said; rw [List.foldl_cons,Nat.mul_zero,Nat.zero_add]
theorem said_snoc (l:Byt) (b:UInt8):said (l++[b])=256*said l+b.toNat:=by simp [said]
theorem said_lt (l:Byt):said l<256 ^ l.length:=by
 induction l with
 | nil=>exact Nat.lt_of_lt_of_le Nat.zero_lt_one (Nat.le_refl _)
 | cons b l ih =>
  rw [said_cons,List.length_cons,Nat.pow_succ]
  have h:b.toNat≤255:=by have:=b.toNat_lt; omega
  have h2:b.toNat*256 ^ l.length≤255*256 ^ l.length:=Nat.mul_le_mul_right _ h
  omega
def varB (n:Nat):Byt:=if n<253 then [UInt8.ofNat n] else if n<65536 then 253::nb 2 n else if n<4294967296 then 254::nb 4 n else 255::nb 8 n
theorem varB_len (n:Nat):(varB n).length≤9:=by
 unfold varB
 repeat' split
 all_goals simp only [List.length_cons,List.length_nil,nb_len]; omega
abbrev Ps (α:Type):=Byt→Option (α×Byt)
def takeP (n:Nat):Ps Byt:=λl=>if n≤l.length then some (l.take n,l.drop n) else none
def retP {α:Type} (x:α):Ps α:=λl=>some (x,l)
def bindP {α β:Type} (p:Ps α) (q:α→Ps β):Ps β:=λl=>match p l with | none=>none | some (x,r)=>q x r
def mustP (b:Bool):Ps Unit:=λl=>if b then some ((),l) else none
def numP (k:Nat):Ps Nat:=bindP (takeP k) λb=>retP (said b)
def wide (c:Nat):Nat:=if c=253 then 2 else if c=254 then 4 else 8
def least (c:Nat):Nat:=if c=253 then 253 else if c=254 then 65536 else 4294967296
def longP (c:Nat):Ps Nat:=bindP (numP (wide c)) λn=>bindP (mustP (decide (least c≤n))) λ_=>retP n
def varP (most:Nat):Ps Nat:=bindP (bindP (numP 1) λc=>if c<253 then retP c else longP c) λn=>bindP (mustP (decide (n≤most))) λ_=>retP n
def repP {α:Type} (p:Ps α):Nat→Ps (List α)
 | 0=>retP []
 | n+1=>bindP p λx=>bindP (repP p n) λl=>retP (x::l)
def listP {α:Type} (most:Nat) (p:Ps α):Ps (List α):=bindP (varP most) (repP p)
def allP {α:Type} (p:Ps α) (l:Byt):Option α:=match p l with | some (x,[])=>some x | _=>none
structure RS where
 rest:Byt
 e:Nat
structure After {α:Type} (p:Ps α) (s:RS) (x:α) (s':RS):Prop where
 bad:s.e≠0→s'.e≠0
 yes:∀ y r,s.e=0→p s.rest=some (y,r)→x=y∧s'=⟨r,0⟩
 no:s.e=0→p s.rest=none→s'.e≠0
theorem After.bind {α β:Type} {p:Ps α} {q:α→Ps β} {s s1 s2:RS} {x:α} {y:β} (h:After p s x s1) (k:After (q x) s1 y s2):After (bindP p q) s y s2:=by
 refine ⟨λh0=>k.bad (h.bad h0),λz r h0 hz=>?_,λh0 hz=>?_⟩
 ·unfold bindP at hz
  cases hp:p s.rest with
  | none=>rw [hp] at hz; cases hz
  | some u =>
   obtain ⟨x1,r1⟩:=u
   obtain ⟨rfl,rfl⟩:=h.yes x1 r1 h0 hp
   rw [hp] at hz
   exact k.yes z r rfl hz
 ·unfold bindP at hz
  cases hp:p s.rest with
  | none=>exact k.bad (h.no h0 hp)
  | some u =>
   obtain ⟨x1,r1⟩:=u
   obtain ⟨rfl,rfl⟩:=h.yes x1 r1 h0 hp
   rw [hp] at hz
   exact k.no rfl hz
theorem After.ret {α:Type} (x:α) (s:RS):After (retP x) s x s:=⟨λh=>h,λy r h0 h=>by cases s; cases h; cases h0; exact ⟨rfl,rfl⟩,λ_ h=>by cases h⟩
theorem After.ok {α:Type} {p:Ps α} {s s':RS} {x:α} (h:After p s x s') (h0:s.e=0) (h1:s'.e=0):p s.rest=some (x,s'.rest):=by
 cases hp:p s.rest with
 | none=>exact absurd h1 (h.no h0 hp)
 | some u=>obtain ⟨y,r⟩:=u; obtain ⟨rfl,rfl⟩:=h.yes y r h0 hp; rfl
structure Wrote (ok:Bool) (e:Byt) (k:Nat) (bad:Bool) (b:Byt) (bad':Bool) (b':Byt):Prop where
 bad:bad'=(bad || !ok)
 bytes:bad'=false→b'=b++e
 len:b'.length≤b.length+k
theorem Wrote.then_ {o1 o2:Bool} {e1 e2:Byt} {k1 k2:Nat} {x y z:Bool} {a b c:Byt} (h:Wrote o1 e1 k1 x a y b) (g:Wrote o2 e2 k2 y b z c):Wrote (o1 && o2) (e1++e2) (k1+k2) x a z c:=by
 refine ⟨?_,λhz=>?_,?_⟩
 ·rw [g.bad,h.bad]; cases x <;> cases o1 <;> cases o2 <;> rfl
 ·have hy:y=false:=by
   have q:=g.bad
   rw [hz] at q
   cases y with
   | false=>rfl
   | true=>cases q
  rw [g.bytes hz,h.bytes hy,List.append_assoc]
 ·have:=h.len; have:=g.len; omega
theorem Wrote.must (ok:Bool) (x:Bool) (b:Byt):Wrote ok [] 0 x b (x || !ok) b:=⟨rfl,λ_=>(List.append_nil b).symm,Nat.le_refl _⟩
theorem Wrote.raw (e:Byt) (x:Bool) (b:Byt) {k:Nat} (hk:e.length≤k):Wrote true e k x b x (b++e):=⟨by cases x <;> rfl,λ_=>rfl,by rw [List.length_append]; omega⟩
structure MOut where
 value:Nat
 claim:Byt
def encMO (o:MOut):Byt:=nb 8 o.value++o.claim
def rdMO:Ps MOut:=bindP (numP 8) λv=>bindP (takeP 32) λc=>retP ⟨v,c⟩
structure MTx where
 nonce:Nat
 outs:List MOut
def encL {α:Type} (f:α→Byt) (l:List α):Byt:=varB l.length++l.flatMap f
def okMT (t:MTx):Bool:=decide (t.outs.length≤16)
def encMT (t:MTx):Byt:=nb 8 t.nonce++encL encMO t.outs
def rdMT:Ps MTx:=bindP (numP 8) λn=>bindP (listP 16 rdMO) λl=>retP ⟨n,l⟩
structure MHd where
 prev:Byt
 root:Byt
 height:Nat
 nonce:Nat
def encMH (h:MHd):Byt:=h.prev++(h.root++(nb 8 h.height++nb 8 h.nonce))
theorem bind_some {α β:Type} {p:Ps α} {q:α→Ps β} {l r:Byt} {x:α} (h:p l=some (x,r)):bindP p q l=q x r:=by unfold bindP; rw [h]
theorem bind_none {α β:Type} {p:Ps α} {q:α→Ps β} {l:Byt} (h:p l=none):bindP p q l=none:=by unfold bindP; rw [h]
theorem repP_snoc {α:Type} (p:Ps α) (i:Nat) (s:Byt):repP p (i+1) s=bindP (repP p i) (λl=>bindP p λx=>retP (l++[x])) s:=by
 induction i generalizing s with
 | zero =>
  show bindP p (λx=>bindP (repP p 0) λl=>retP (x::l)) s=_
  cases h:p s with
  | none=>rw [bind_none h]; symm; rw [bind_some (show repP p 0 s=some ([],s) from rfl),bind_none h]
  | some u=>obtain ⟨x,r⟩:=u; rw [bind_some h,bind_some (show repP p 0 r=some ([],r) from rfl),bind_some (show repP p 0 s=some ([],s) from rfl),bind_some h]; rfl
 | succ i ih =>
  show bindP p (λx=>bindP (repP p (i+1)) λl=>retP (x::l)) s=_
  cases h:p s with
  | none=>rw [bind_none h,bind_none (show repP p (i+1) s=none from bind_none h)]
  | some u =>
   obtain ⟨x,r⟩:=u
   rw [bind_some h]
   cases h2:repP p i r with
   | none =>
    rw [bind_none (show repP p (i+1) r=none by rw [ih,bind_none h2]),bind_none]
    show bindP p _ s=none
    rw [bind_some h,bind_none h2]
   | some u2 =>
    obtain ⟨l,r2⟩:=u2
    have e:repP p (i+1) s=some (x::l,r2):=by
     show bindP p _ s=_
     rw [bind_some h,bind_some h2]; rfl
    rw [bind_some e]
    cases h3:p r2 with
    | none=>rw [bind_none h3,bind_none]; rw [ih,bind_some h2,bind_none h3]
    | some u3 =>
     obtain ⟨y,r3⟩:=u3
     rw [bind_some h3,bind_some (show repP p (i+1) r=some (l++[y],r3) by rw [ih,bind_some h2,bind_some h3]; rfl)]
     rfl
theorem repP_none {α:Type} {p:Ps α} {s:Byt} {i:Nat} (h:repP p i s=none):∀ j,i≤j→repP p j s=none:=by
 intro j hj
 obtain ⟨k,rfl⟩:∃ k,j=i+k:=⟨j - i,by omega⟩
 clear hj
 induction k with
 | zero=>exact h
 | succ k ih=>rw [← Nat.add_assoc,repP_snoc,bind_none ih]
theorem take_len {n:Nat} {l b r:Byt} (h:takeP n l=some (b,r)):b.length=n∧l=b++r:=by
 unfold takeP at h
 by_cases hn:n≤l.length
 ·rw [if_pos hn] at h
  obtain ⟨rfl,rfl⟩:l.take n=b∧l.drop n=r:=by simpa using h
  exact ⟨by rw [List.length_take]; omega,(List.take_append_drop n l).symm⟩
 ·rw [if_neg hn] at h; cases h
end Wr
end
section
namespace Wr
open Go.RowKit Sy
set_option maxRecDepth 100000
set_option maxHeartbeats 4000000
abbrev Rdr:=Nat→Nat→Value→Prop
def Le (C D:Rdr):Prop:=∀ g o v,C g o v→D g o v
def rdW (w:World):Rdr:=λg o v=>g<w.heap.size∧w.cell? ⟨g,o,none⟩=some v
def rdB (M:Blocks):Rdr:=λg o v=>∃ t cs,(g,t,cs)∈M∧cs[o]? = some v
def rdC (w0:Base) (R:Blocks):Rdr:=λg o v=>rdW w0.world g o v∨rdB R g o v
theorem rdB_le {M N:Blocks} (h:∀ b∈M,b∈N):Le (rdB M) (rdB N):=λ_ _ _ ⟨t,cs,hm,hc⟩=>⟨t,cs,h _ hm,hc⟩
theorem rdC_le {w0:Base} {M N:Blocks} (h:∀ b∈M,b∈N):Le (rdC w0 M) (rdC w0 N):=λg o v hv=>hv.imp id (rdB_le h g o v)
theorem rdC_world {w0:Base} {w:World} {L R:Blocks} (hw:St w0 w L) (hR:∀ b∈R,b∈L):Le (rdC w0 R) (rdW w):=by
 rintro g o v (⟨hg,hc⟩ | ⟨t,cs,hm,hc⟩)
 ·exact ⟨Nat.lt_of_lt_of_le hg hw.below.size,(Below.cell (p:=⟨g,o,none⟩) hw.below hg).trans hc⟩
 ·have hb:=(hw.blk g t cs (hR _ hm)).2
  exact ⟨hb.lt,(hb.cell o).trans hc⟩
theorem rdW_base {w:World} {R:Blocks}:Le (rdW w) (rdC (Base.of w) R):=λ_ _ _ h=>.inl h
theorem rdB_base {w0:Base} {R:Blocks}:Le (rdB R) (rdC w0 R):=λ_ _ _ h=>.inr h
def BytR (C:Rdr) (v:Value) (b:Byt):Prop:=∃ A n cp,v=.slice A n cp∧b.length=n∧n≤cp∧cp≤maxLen∧(b≠[]→∃ g o,A=some ⟨g,o,none⟩∧∀ j u,b[j]? = some u→C g (o+j) (bv u))
theorem BytR.le {C D:Rdr} (hl:Le C D) {v:Value} {b:Byt} (h:BytR C v b):BytR D v b:=by
 obtain ⟨A,n,cp,h1,h2,h3,h4,h5⟩:=h
 exact ⟨A,n,cp,h1,h2,h3,h4,λhb=>by obtain ⟨g,o,e,hq⟩:=h5 hb; exact ⟨g,o,e,λj u hu=>hl _ _ _ (hq j u hu)⟩⟩
theorem BytR.nil (C:Rdr):BytR C (.slice none 0 0) []:=⟨none,0,0,rfl,rfl,Nat.le_refl _,Nat.zero_le _,λh=>(h rfl).elim⟩
def byL (b:Byt):List (List Value):=b.map λu=>[bv u]
theorem byL_flat (b:Byt):(byL b).flatten=b.map bv:=by induction b with | nil=>rfl | cons u b ih=>show bv u::(byL b).flatten=bv u::b.map bv; rw [ih]
theorem byL_len (b:Byt):(byL b).length=b.length:=List.length_map _
theorem byL_app (a b:Byt):byL (a++b)=byL a++byL b:=List.map_append
theorem byL_one (b:Byt):∀ y∈byL b,y.length=1:=λy hy=>by obtain ⟨u,_,rfl⟩:=List.mem_map.1 hy; rfl
theorem byL_oneC (b:Byt):∀ y∈byL b, ∀ u∈y,u.oneCell'=true:=λy hy u hu=>by
 obtain ⟨w,_,rfl⟩:=List.mem_map.1 hy
 rw [List.mem_singleton.1 hu]; rfl
theorem BytR.from {w0:Base} {L R:Blocks} {A:Option Addr} {n cp:Nat} {b:Byt} (h:BytR (rdC w0 R) (.slice A n cp) b) (hR:∀ x∈R,x∈L):From w0 L A (byL b).flatten:=λw hw=>by
 obtain ⟨A',n',cp',e,h2,h3,h4,h5⟩:=h
 injection e with e1 e2 e3
 subst e1
 rw [byL_flat]
 cases b with
 | nil=>exact .inl rfl
 | cons u b =>
  obtain ⟨g,o,rfl,hq⟩:=h5 (by simp)
  refine .inr ⟨_,rfl,λj v hj=>?_⟩
  rw [addr_off]
  rw [List.getElem?_map] at hj
  cases hx:(u::b)[j]? with
  | none=>rw [hx] at hj; cases hj
  | some x =>
   rw [hx] at hj
   cases hj
   exact (rdC_world hw hR _ _ _ (hq j x hx)).2
theorem Slc_byt {r:Slc} {e:TypeId} {b:Byt} (h:r.Is e 1 (byL b)):BytR (rdB r.bl) r.v b:=by
 rcases h.row with ⟨e1,rfl⟩ | ⟨g,cap,sp,rfl,h1,h2,h3⟩
 ·have:b=[]:=by cases b with | nil=>rfl | cons=>cases e1
  rw [this]
  exact BytR.nil _
 ·rw [byL_len] at h1 h2
  refine ⟨_,_,_,rfl,(byL_len b).symm,by rw [byL_len]; exact h2,h3,λ_=>⟨g,0,rfl,λj u hu=>⟨e,_,List.mem_singleton.2 rfl,?_⟩⟩⟩
  have hl:=(List.getElem?_eq_some_iff.1 hu).1
  rw [byL_flat,Nat.zero_add,List.getElem?_toArray,List.getElem?_append_left (by simpa using hl),List.getElem?_map,hu]
  rfl
section
variable {P:Program} {w0:Base} {n:Nat} {Q:Exit→Act→World→Prop} {F:Slots} {L:Blocks} {ops:Array Oper} {o:Oper} {ex:Nat→Bool} {fuel:Nat} {listed:Array Bool}
theorem sa (i:Nat) {oi:Oper} (hi0:ops.toList[i]? = some oi) {v:Value} (hl:opV F oi.op=some v) (h:wpD P w0 n ops Q ex (putF F oi.dst v) L fuel (listed.setIfInBounds i true)) (hc:canTakeA .any ops listed i=true:=by kernel_rfl) (hg:good ops n F oi=true:=by kernel_rfl)
  (hQ:∀ c v a w,Q (.panic c) (a.put oi.dst v) w→Q (.panic c) a w:=by exact λ_ _ _ _ h=>h):wpD P w0 n ops Q ex F L (fuel+1) listed:=stepDA i hi0 hc hQ hg v (opV_run hl) h
theorem sb (i:Nat) {oi:Oper} (hi0:ops.toList[i]? = some oi) (v:Value) (h:wpD P w0 n ops Q ex (putF F oi.dst v) L fuel (listed.setIfInBounds i true)) (hp:∀ w,(execOp (evF F) oi).run P w=.ok (.value v) w:=by intro _; kernel_rfl) (hc:canTakeA .any ops listed i=true:=by kernel_rfl) (hg:good ops n F oi=true:=by kernel_rfl)
  (hQ:∀ c v a w,Q (.panic c) (a.put oi.dst v) w→Q (.panic c) a w:=by exact λ_ _ _ _ h=>h):wpD P w0 n ops Q ex F L (fuel+1) listed:=stepDA i hi0 hc hQ hg v hp h
theorem sv (i:Nat) {oi:Oper} (hi0:ops.toList[i]? = some oi) (v:Value) (hp:∀ w,(execOp (evF F) oi).run P w=.ok (.value v) w) (h:wpD P w0 n ops Q ex (putF F oi.dst v) L fuel (listed.setIfInBounds i true)) (hc:canTakeA .any ops listed i=true:=by kernel_rfl) (hg:good ops n F oi=true:=by kernel_rfl)
  (hQ:∀ c v a w,Q (.panic c) (a.put oi.dst v) w→Q (.panic c) a w:=by exact λ_ _ _ _ h=>h):wpD P w0 n ops Q ex F L (fuel+1) listed:=stepDA i hi0 hc hQ hg v hp h
theorem se (i:Nat) (bs:List Nat) {oi:Oper} (hi0:ops.toList[i]? = some oi) (v:Value) (hq:Quiet P w0 F L oi v) (h:wpD P w0 n ops Q ex (putF F oi.dst v) L fuel (listed.setIfInBounds i true)) (hc:canTakeB .any ops listed ex i bs=true:=by kernel_rfl) (hg:good ops n F oi=true:=by kernel_rfl)
  (hQ:∀ c v a w,Q (.panic c) (a.put oi.dst v) w→Q (.panic c) a w:=by exact λ_ _ _ _ h=>h):wpD P w0 n ops Q ex F L (fuel+1) listed:=stepDB i bs hi0 hc hQ hg v hq h
theorem keep1 {a b:Nat×TypeId×Array Value} {A:Blocks} {w:World} (h:St w0 w ([a,b]++A)):St w0 w ([a]++A):=h.less (((List.Sublist.refl A).cons b).cons_cons a)
end
end Wr
end
section
namespace Wr
open Go.RowKit Sy
set_option maxRecDepth 100000
set_option maxHeartbeats 4000000
theorem conv_6u8 (w:World) (F:Slots) (o:Oper) (x:Operand) (k:Nat) (hk:k<18446744073709551616) (ho:o.op=.convert 22 5 x) (hx:evF F x=.int .u64 (k:Int)):(execOp (evF F) o).run Tryz.prog w=.ok (.value (bv (UInt8.ofNat k))) w:=by
 have h:(convert 22 5 (.int .u64 (k:Int))).run Tryz.prog w=.ok (bv (UInt8.ofNat k)) w:=by
  have e:(UInt8.ofNat k).toNat=k%256:=by rw [UInt8.toNat_ofNat']
  unfold bv
  rw [e]
  go_simp
  show (k:Int)%256=((k%256:Nat):Int)
  omega
 unfold execOp
 simp only [ho,hx,Sem.run_bind,h,Result.andThen_ok,Sem.run_pure]
theorem conv_i6 (w:World) (F:Slots) (o:Oper) (x:Operand) (k:Nat) (hk:k<18446744073709551616) (ho:o.op=.convert 3 22 x) (hx:evF F x=.int .i64 (k:Int)):(execOp (evF F) o).run Tryz.prog w=.ok (.value (.int .u64 ((k:Nat):Int))) w:=by
 have h:(convert 3 22 (.int .i64 (k:Int))).run Tryz.prog w=.ok (.int .u64 ((k:Nat):Int)) w:=by
  go_simp
  exact wrap_u64 (by omega) (by omega)
 unfold execOp
 simp only [ho,hx,Sem.run_bind,h,Result.andThen_ok,Sem.run_pure]
theorem conv_86 (w:World) (F:Slots) (o:Oper) (x:Operand) (u:UInt8) (ho:o.op=.convert 5 22 x) (hx:evF F x=bv u):(execOp (evF F) o).run Tryz.prog w=.ok (.value (.int .u64 ((u.toNat:Nat):Int))) w:=by
 have hu:=u.toNat_lt
 have e:(convert 5 22 (.int .u8 ((u.toNat:Nat):Int))).run Tryz.prog w=.ok (.int .u64 ((u.toNat:Nat):Int)) w:=by
  go_simp
  exact wrap_u64 (by omega) (by omega)
 unfold execOp
 simp only [ho,hx,bv,e,Sem.run_bind,Sem.run_pure,Result.andThen_ok]
theorem exec_shr (t:TypeId) (x y:Operand) {yt:TypeId} (F:Slots) (o:Oper) (n k:Nat) (hk:k≤64) (ho:o.op=.binOp .shr t x y yt) (hx:evF F x=.int .u64 (n:Int)) (hy:evF F y=.int .i64 (k:Int)) (w:World):(execOp (evF F) o).run Tryz.prog w=.ok (.value (.int .u64 ((n / 2 ^ k:Nat):Int))) w :=
 exec_int .shr t x y .u64 (n:Int) (k:Int) _ ho hx hy (int_shr t .u64 .i64 _ _ _ (by omega) (by
  rw [Int.toNat_natCast,show min k IntKind.u64.bits=k from Nat.min_eq_left (show k≤64 from hk),Int.fdiv_eq_ediv_of_nonneg _ (by exact_mod_cast Nat.zero_le _)]
  rw [Int.natCast_ediv,Int.natCast_pow]; rfl)) w
abbrev BS (s:Slc) (b:Byt):Prop:=s.Is 5 1 (byL b)
abbrev WS (gw:Nat) (s:Slc) (R:Blocks):Blocks:=[(gw,193,#[s.v])]++(s.bl++R)
def Wr (gw:Nat) (R:Blocks) (b:Byt) (_:Value) (M:Blocks):Prop:=∃ s,BS s b∧M=WS gw s R
theorem nb_take (k n:Nat):∀ j,j<k→(nb k n).take (j+1)=(nb k n).take j++[UInt8.ofNat (n / 256 ^ (k - 1 - j))]:=by
 induction k with
 | zero=>intro j h; omega
 | succ k ih =>
  intro j h
  cases j with
  | zero=>simp [nb]
  | succ j =>
   simp only [nb,List.take_succ_cons,List.cons_append]
   rw [ih j (by omega),show k+1 - 1 - (j+1)=k - 1 - j by omega]
theorem fixed_any (w0:Base) (gw:Nat) (s:Slc) (R:Blocks) (b:Byt) (n sz:Nat) (hn:n<18446744073709551616) (hsz:sz≤8) (hb:BS s b) (hl:b.length≤70368744177664) (w:World) (hw:St w0 w (WS gw s R)) :
  Calls Tryz.prog 168 #[ptr gw,.int .u64 (n:Int),.int .i64 (sz:Int)] w (Turns w0 (Wr gw R (b++nb sz n))):=by
 refine Sy.enterT (args:=[ptr gw,.int .u64 (n:Int),.int .i64 (sz:Int)]) hw Tryz.func168 rfl kL ?_
 refine sC ?_
 refine sp rfl<|sS (.int .i64 ((sz:Int) - 1)) (Quiet.pure (exec_int .sub _ _ _ .i64 _ _ _ rfl rfl rfl (int_sub _ _ _ _ _ (wrap_i64 (by omega) (by omega)))))<|sp rfl ?_
 refine sG<|Sy.block ?_
 refine Sy.loopT (Y:=Slc×Int) sz (λk y=>[(0,ptr gw),(1,.int .u64 (n:Int)),(6,.int .i64 y.2)]) (λk y=>WS gw y.1 R) (λk y=>BS y.1 (b++(nb sz n).take k)∧y.2=(sz:Int) - 1 - (k:Int)) (s,(sz:Int) - 1) ⟨by rw [List.take_zero,List.append_nil]; exact hb,by omega⟩ (all_cons kR (all_cons kR (all_cons kR all_nil))) (λ_ h=>h) (λk y hk hy=>?_)
 obtain ⟨y,z⟩:=y
 obtain ⟨hy,hz⟩:=hy
 dsimp only at hy hz ⊢
 refine Sy.seq<|sC ?_
 obtain ⟨b1,hb1⟩:∃ z:Bool,z=decide (k<sz):=⟨_,rfl⟩
 refine sp rfl<|sS (.bool b1) (Quiet.pure (exec_int .geq _ _ _ .i64 _ _ _ rfl rfl rfl (int_geq _ _ _ _ _ (by rw [hb1]; exact decide_eq_decide.2 (by omega))))) ?_
 refine sG ?_
 cases b1
 case' false =>
  have l1:¬ k<sz:=of_decide_eq_false hb1.symm
  obtain rfl:k=sz:=by omega
  refine sU<|Sy.exit<|Sy.then_exit<|Sy.then_exit<|Sy.in_exit ?_
  rw [List.take_of_length_le (by rw [nb_len]; exact Nat.le_refl _)] at hy
  exact Sy.retT0 rfl (WS gw y R) (λ_ h=>h) (λ_=>⟨y,hy,rfl⟩)
 case' true =>
  have l1:k<sz:=of_decide_eq_true hb1.symm
  refine sT<|Sy.skip<|Sy.then_<|Sy.seq<|Sy.block ?_
  obtain ⟨m,hm⟩:∃ m:Nat,m=sz - 1 - k:=⟨_,rfl⟩
  have hzm:z=(m:Int):=by omega
  obtain ⟨x,hx⟩:∃ x,x=UInt8.ofNat (n / 2 ^ (8*m)):=⟨_,rfl⟩
  have hd:n / 2 ^ (8*m)<18446744073709551616:=Nat.lt_of_le_of_lt (Nat.div_le_self _ _) hn
  have hlen:(b++(nb sz n).take k).length≤b.length+8:=by rw [List.length_append,List.length_take]; omega
  refine Sy.regionD (λj=>j == 11 || j == 14) kR ?_
  refine sa 0 rfl rfl<|sa 1 rfl rfl<|sa 2 rfl rfl<|sb 3 rfl (.pointer (some ⟨gw,0,none⟩))<|sD 4 rfl y.v (qc 0 0 rfl rfl Tryz.underlying29)<|sa 5 rfl rfl<|sa 6 rfl rfl ?_
  refine sv 7 rfl (.int .i64 ((8*m:Nat):Int)) (exec_int .mul _ _ _ .i64 _ _ _ rfl rfl rfl (int_mul _ _ _ _ _ ((wrap_i64 (by omega) (by omega)).trans (by omega)))) ?_
  refine sv 8 rfl (.int .u64 ((n / 2 ^ (8*m):Nat):Int)) (exec_shr _ _ _ _ _ n (8*m) (by omega) rfl rfl rfl) ?_
  refine sv 9 rfl (bv x) (λw=>by rw [hx]; exact conv_6u8 w _ _ _ _ hd rfl rfl) ?_
  refine Sy.makeD 10 rfl kR kR 5 #[bv x] (λg=>.slice (some ⟨g,0,none⟩) 1 1) kF (λg1=>?_)
  refine Sy.movTD ?_
  refine Sy.soleD 11 rfl (λQ2 hq2=>?_)
  refine Sy.appendR kR 29 5 _ _ 1 1 Tryz.underlying29 Cu.info_u8 rfl rfl rfl rfl (by decide) _ _ rfl hy kR [bv x] rfl (λu hu=>by rw [List.mem_singleton.1 hu]; rfl) 1 g1 5 kR kR (by rw [byL_len]; omega) (by rw [byL_len]; simp only [maxLen]; omega) (λr hr=>?_)
  refine hq2 _ _ ?_
  refine sa 12 rfl rfl<|sb 13 rfl (.pointer (some ⟨gw,0,none⟩))<|sx 14 rfl 0 rfl #[r.v] (Writes.one 0 29 r.v _ _ rfl kR kR kR hr.cells.1 hr.cells.2 Nat.zero_lt_one kR) ?_
  refine Sy.setTD ?_
  refine sE ?_
  refine Sy.in_<|Sy.then_<|Sy.region ?_
  refine sp rfl<|sS (.int .i64 (z - 1)) (Quiet.pure (exec_int .sub _ _ _ .i64 _ _ _ rfl rfl rfl (int_sub _ _ _ _ _ (wrap_i64 (by omega) (by omega)))))<|sp rfl ?_
  refine Sy.nil ?_
  have hr':BS r (b++(nb sz n).take (k+1)):=by
   have e:byL (b++(nb sz n).take (k+1))=byL (b++(nb sz n).take k)++[[bv x]]:=by
    rw [nb_take sz n k l1, ← List.append_assoc,byL_app (b++(nb sz n).take k),hx,hm,Nat.pow_mul]
    rfl
   show r.Is 5 1 _
   rw [e]
   exact hr
  exact Sy.againT (r,z - 1) l1 ⟨hr',by show z - 1=_; omega⟩ (all_cons kR (all_cons kR (all_cons kR all_nil))) (λw h=>keep1 h)
theorem nb_one (x:UInt8):nb 1 x.toNat=[x]:=by
 unfold nb nb
 rw [Nat.pow_zero,Nat.div_one]
 congr 1
 exact UInt8.ofNat_toNat
theorem byte_any (w0:Base) (gw:Nat) (s:Slc) (R:Blocks) (b:Byt) (x:UInt8) (hb:BS s b) (hl:b.length≤70368744177664) (w:World) (hw:St w0 w (WS gw s R)) :
  Calls Tryz.prog 176 #[ptr gw,bv x] w (Turns w0 (Wr gw R (b++[x]))):=by
 refine Sy.enterT (args:=[ptr gw,bv x]) hw Tryz.func176 rfl kL ?_
 refine Sy.region ?_
 refine sp rfl<|sp rfl<|sS (.int .u64 ((x.toNat:Nat):Int)) (Quiet.pure (λw=>conv_86 w _ _ _ x rfl rfl)) ?_
 have hx:=x.toNat_lt
 refine Sy.callT (λw hw=>fixed_any _ gw s R b x.toNat 1 (by omega) (by decide) hb hl w hw) (λv M hM=>?_)
 obtain ⟨s1,hs1,rfl⟩:=hM
 refine Sy.nil ?_
 rw [nb_one] at hs1
 exact Sy.retT0 rfl (WS gw s1 R) (λ_ h=>h) (λ_=>⟨s1,hs1,rfl⟩)
theorem long_any (w0:Base) (gw:Nat) (s:Slc) (R:Blocks) (b:Byt) (n:Nat) (hn:n<18446744073709551616) (hb:BS s b) (hl:b.length≤70368744177664) (w:World) (hw:St w0 w (WS gw s R)) :
  Calls Tryz.prog 105 #[ptr gw,.int .u64 (n:Int)] w (Turns w0 (Wr gw R (b++nb 8 n))):=by
 refine Sy.enterT (args:=[ptr gw,.int .u64 (n:Int)]) hw Tryz.func105 rfl kL ?_
 refine Sy.region ?_
 refine sp rfl<|sp rfl ?_
 refine Sy.callT (λw hw=>fixed_any _ gw s R b n 8 hn (by decide) hb hl w hw) (λv M hM=>?_)
 obtain ⟨s1,hs1,rfl⟩:=hM
 refine Sy.nil ?_
 exact Sy.retT0 rfl (WS gw s1 R) (λ_ h=>h) (λ_=>⟨s1,hs1,rfl⟩)
theorem var_any (w0:Base) (gw:Nat) (s:Slc) (R:Blocks) (b:Byt) (n:Nat) (hn:n<18446744073709551616) (hb:BS s b) (hl:b.length≤70368744177000) (w:World) (hw:St w0 w (WS gw s R)) :
  Calls Tryz.prog 174 #[ptr gw,.int .u64 (n:Int)] w (Turns w0 (Wr gw R (b++varB n))):=by
 refine Sy.enterT (args:=[ptr gw,.int .u64 (n:Int)]) hw Tryz.func174 rfl kL ?_
 refine Sy.block<|sC ?_
 obtain ⟨b1,hb1⟩:∃ z:Bool,z=decide (n<253):=⟨_,rfl⟩
 refine sp rfl<|sS (.bool b1) (Quiet.pure (exec_int .lss _ _ _ .u64 _ _ _ rfl rfl rfl (int_lss _ _ _ _ _ (by rw [hb1]; exact decide_eq_decide.2 (by omega)))))<|sp rfl ?_
 refine sG ?_
 cases b1
 case' true =>
  have l1:n<253:=of_decide_eq_true hb1.symm
  refine sT<|Sy.region ?_
  obtain ⟨x,hx⟩:∃ x,x=UInt8.ofNat n:=⟨_,rfl⟩
  refine sp rfl<|sp rfl<|sS (bv x) (Quiet.pure (λw=>by rw [hx]; exact conv_6u8 w _ _ _ _ hn rfl rfl)) ?_
  refine Sy.callT (λw hw=>byte_any _ gw s R b x hb (by omega) w hw) (λv M hM=>?_)
  obtain ⟨s1,hs1,rfl⟩:=hM
  refine Sy.nil<|Sy.in_ ?_
  have e:varB n=[x]:=by unfold varB; rw [if_pos l1,hx]
  rw [← e] at hs1
  exact Sy.retT0 rfl (WS gw s1 R) (λ_ h=>h) (λ_=>⟨s1,hs1,rfl⟩)
 have l1:¬ n<253:=of_decide_eq_false hb1.symm
 refine sU<|sC ?_
 obtain ⟨b2,hb2⟩:∃ z:Bool,z=decide (n<65536):=⟨_,rfl⟩
 refine sp rfl<|sS (.bool b2) (Quiet.pure (exec_int .lss _ _ _ .u64 _ _ _ rfl rfl rfl (int_lss _ _ _ _ _ (by rw [hb2]; exact decide_eq_decide.2 (by omega)))))<|sp rfl ?_
 refine sG ?_
 cases b2
 case' true =>
  have l2:n<65536:=of_decide_eq_true hb2.symm
  refine sT<|sC ?_
  refine sp rfl ?_
  refine Sy.callT (λw hw=>byte_any _ gw s R b 253 hb (by omega) w hw) (λv M hM=>?_)
  obtain ⟨s1,hs1,rfl⟩:=hM
  refine Sy.nil<|Sy.then_<|Sy.region ?_
  refine sp rfl<|sp rfl ?_
  refine Sy.callT (λw hw=>fixed_any _ gw s1 R (b++[253]) n 2 hn (by decide) hs1 (by rw [List.length_append,List.length_singleton]; omega) w hw) (λv M hM=>?_)
  obtain ⟨s2,hs2,rfl⟩:=hM
  refine Sy.nil<|Sy.in_ ?_
  have e:b++varB n=b++[253]++nb 2 n:=by unfold varB; rw [if_neg l1,if_pos l2,List.append_assoc]; rfl
  rw [← e] at hs2
  exact Sy.retT0 rfl (WS gw s2 R) (λ_ h=>h) (λ_=>⟨s2,hs2,rfl⟩)
 have l2:¬ n<65536:=of_decide_eq_false hb2.symm
 refine sU<|sC ?_
 obtain ⟨b3,hb3⟩:∃ z:Bool,z=decide (n<4294967296):=⟨_,rfl⟩
 refine sp rfl<|sS (.bool b3) (Quiet.pure (exec_int .lss _ _ _ .u64 _ _ _ rfl rfl rfl (int_lss _ _ _ _ _ (by rw [hb3]; exact decide_eq_decide.2 (by omega)))))<|sp rfl ?_
 refine sG ?_
 cases b3
 case' true =>
  have l3:n<4294967296:=of_decide_eq_true hb3.symm
  refine sT<|sC ?_
  refine sp rfl ?_
  refine Sy.callT (λw hw=>byte_any _ gw s R b 254 hb (by omega) w hw) (λv M hM=>?_)
  obtain ⟨s1,hs1,rfl⟩:=hM
  refine Sy.nil<|Sy.then_<|Sy.region ?_
  refine sp rfl<|sp rfl ?_
  refine Sy.callT (λw hw=>fixed_any _ gw s1 R (b++[254]) n 4 hn (by decide) hs1 (by rw [List.length_append,List.length_singleton]; omega) w hw) (λv M hM=>?_)
  obtain ⟨s2,hs2,rfl⟩:=hM
  refine Sy.nil<|Sy.in_ ?_
  have e:b++varB n=b++[254]++nb 4 n:=by unfold varB; rw [if_neg l1,if_neg l2,if_pos l3,List.append_assoc]; rfl
  rw [← e] at hs2
  exact Sy.retT0 rfl (WS gw s2 R) (λ_ h=>h) (λ_=>⟨s2,hs2,rfl⟩)
 have l3:¬ n<4294967296:=of_decide_eq_false hb3.symm
 refine sU<|sC ?_
 refine sp rfl ?_
 refine Sy.callT (λw hw=>byte_any _ gw s R b 255 hb (by omega) w hw) (λv M hM=>?_)
 obtain ⟨s1,hs1,rfl⟩:=hM
 refine Sy.nil<|Sy.then_<|Sy.region ?_
 refine sp rfl<|sp rfl ?_
 refine Sy.callT (λw hw=>fixed_any _ gw s1 R (b++[255]) n 8 hn (by decide) hs1 (by rw [List.length_append,List.length_singleton]; omega) w hw) (λv M hM=>?_)
 obtain ⟨s2,hs2,rfl⟩:=hM
 refine Sy.nil<|Sy.in_ ?_
 have e:b++varB n=b++[255]++nb 8 n:=by unfold varB; rw [if_neg l1,if_neg l2,if_neg l3,List.append_assoc]; rfl
 rw [← e] at hs2
 exact Sy.retT0 rfl (WS gw s2 R) (λ_ h=>h) (λ_=>⟨s2,hs2,rfl⟩)
theorem raw_any (w0:Base) (gw:Nat) (s:Slc) (R:Blocks) (b x:Byt) (v:Value) (hv:BytR (rdC w0 R) v x) (hb:BS s b) (hl:b.length+x.length≤70368744177664) (w:World) (hw:St w0 w (WS gw s R)) :
  Calls Tryz.prog 195 #[ptr gw,v] w (Turns w0 (Wr gw R (b++x))):=by
 have hv':=hv
 obtain ⟨A,n,cp,rfl,h2,h3,h4,h5⟩:=hv'
 refine Sy.enterT (args:=[ptr gw,.slice A n cp]) hw Tryz.func195 rfl kL ?_
 refine Sy.region ?_
 refine sp rfl<|sp rfl<|sp rfl<|sP (.pointer (some ⟨gw,0,none⟩))<|sS s.v (qc 0 0 rfl rfl Tryz.underlying29)<|sp rfl ?_
 refine Sy.appendM kR 29 5 _ _ 1 1 Tryz.underlying29 Cu.info_u8 rfl rfl rfl rfl (by decide) _ _ rfl hb kR (byL_one x) (byL_oneC x) A n cp (by rw [byL_len,h2]) h3 kR (λr=>BytR.from (w0:=w0.inn) hv (λy hy=>List.mem_append_right _ (List.mem_append_right _ hy))) (by rw [byL_len]; omega) (by rw [byL_len]; simp only [maxLen]; omega) (λr hr=>?_)
 rw [← byL_app] at hr
 refine sp rfl<|sP (.pointer (some ⟨gw,0,none⟩))<|sw 0 rfl #[r.v] (Writes.one 0 29 r.v _ _ rfl kR kR kR hr.cells.1 hr.cells.2 Nat.zero_lt_one kR) ?_
 refine Sy.setT ?_
 refine Sy.nil ?_
 exact Sy.retT0 rfl (WS gw r R) (λ_ h=>h) (λ_=>⟨r,hr,rfl⟩)
theorem text_any (w0:Base) (gw:Nat) (s:Slc) (R:Blocks) (b x:Byt) (v:Value) (hv:BytR (rdC w0 R) v x) (hb:BS s b) (hl:b.length+x.length≤70368744177000) (w:World) (hw:St w0 w (WS gw s R)) :
  Calls Tryz.prog 188 #[ptr gw,v] w (Turns w0 (Wr gw R (b++(varB x.length++x)))):=by
 have hv':=hv
 obtain ⟨A,n,cp,rfl,h2,h3,h4,h5⟩:=hv'
 refine Sy.enterT (args:=[ptr gw,.slice A n cp]) hw Tryz.func188 rfl kL ?_
 refine sC ?_
 refine sp rfl<|sp rfl<|sP (.int .i64 (n:Int))<|sS (.int .u64 ((n:Nat):Int)) (Quiet.pure (λw=>conv_i6 w _ _ _ n (by simp only [maxLen] at h4; omega) rfl rfl)) ?_
 refine Sy.callT (λw hw=>var_any _ gw s R b n (by simp only [maxLen] at h4; omega) hb (by omega) w hw) (λv M hM=>?_)
 obtain ⟨s1,hs1,rfl⟩:=hM
 have hn:=varB_len n
 refine Sy.nil<|Sy.then_<|Sy.region ?_
 refine sp rfl<|sp rfl ?_
 refine Sy.callT (λw hw=>raw_any w0.inn gw s1 R (b++varB n) x (.slice A n cp) hv hs1 (by rw [List.length_append]; omega) w hw) (λv M hM=>?_)
 obtain ⟨s2,hs2,rfl⟩:=hM
 refine Sy.nil ?_
 rw [List.append_assoc, ← h2] at hs2
 exact Sy.retT0 rfl (WS gw s2 R) (λ_ h=>h) (λ_=>⟨s2,hs2,rfl⟩)
end Wr
end
section
namespace Wr
open Go.RowKit Sy
set_option maxRecDepth 100000
set_option maxHeartbeats 4000000
def ByN (x:Byt) (v:Value) (M:Blocks):Prop:=∃ A n cp,v=.slice A n cp∧BS ⟨.slice A n cp,M⟩ x
theorem BS.as {r:Slc} {x:Byt} (h:BS r x):ByN x r.v r.bl:=by
 obtain ⟨A,n,cp,e,_⟩:=Slc_byt h
 refine ⟨A,n,cp,e,?_⟩
 rw [← e]
 exact h
theorem ByN.byt {x:Byt} {v:Value} {M:Blocks} (h:ByN x v M):BytR (rdB M) v x:=by
 obtain ⟨A,n,cp,rfl,h⟩:=h
 exact Slc_byt h
theorem clone_any (w:World) (v:Value) (x:Byt) (hv:BytR (rdW w) v x) (hl:x.length≤70368744177664):Calls Tryz.prog 103 #[v] w (GetsN w (ByN x)):=by
 have hv':=hv.le (rdW_base (R:=[]))
 obtain ⟨A,n,cp,rfl,h2,h3,h4,h5⟩:=hv
 refine Sy.enter (args:=[.slice A n cp]) Tryz.func103 rfl kL ?_
 refine sC ?_
 refine sP (.slice none 0 0) ?_
 refine sG<|Sy.seq<|sC ?_
 cases A with
 | none =>
  have hx:x=[]:=by
   cases x with
   | nil=>rfl
   | cons a l=>obtain ⟨g,o,e,_⟩:=h5 (by simp); cases e
  subst hx
  refine sp rfl<|sP (.bool true) ?_
  refine sG<|sT<|sC ?_
  refine sP (.slice none 0 0) ?_
  refine sG<|Sy.ret<|Sy.then_ret ?_
  exact Sy.retGM [] rfl (.inl (show _=_ by kernel_rfl)) (λ_ h=>h) ⟨none,0,0,rfl,Slc.Is.nil _ _⟩
 | some a =>
  refine sp rfl<|sP (.bool false) ?_
  refine sG<|sU<|Sy.skip<|sB ?_
  refine Sy.make kR 5 #[] (λg=>.slice (some ⟨g,0,none⟩) 0 0) kF (λg=>?_)
  refine sp rfl ?_
  have h0:BS ⟨.slice (some ⟨g,0,none⟩) 0 0,[(g,5,#[])]⟩ []:=⟨λ_ h=>(by cases h),λ_ h=>(by cases h),.inr ⟨g,0,[],rfl,rfl,Nat.le_refl _,Nat.zero_le _⟩⟩
  refine Sy.appendM (pre:=[]) (T:=[]) kR 29 5 _ _ 1 1 Tryz.underlying29 Cu.info_u8 rfl rfl rfl rfl (by decide) _ _ rfl h0 kR (byL_one x) (byL_oneC x) (some a) n cp (by rw [byL_len,h2]) h3 kR (λr=>BytR.from hv' (λy hy=>by cases hy)) (by rw [byL_len]; show (0+n)*1≤_; omega) (by rw [byL_len]; show 0+n≤_; simp only [maxLen]; omega) (λr hr=>?_)
  refine sp rfl ?_
  refine sG<|Sy.ret ?_
  have hr':BS r x:=hr
  exact Sy.retGM r.bl rfl (.inl (show _=_ by kernel_rfl)) (λ_ h=>by simpa using h) hr'.as
theorem new_any (w:World):Calls Tryz.prog 59 #[] w (GetsN w (λv M=>∃ g,v=ptr g∧M=[(g,193,#[.slice none 0 0])])):=by
 refine Sy.enter (args:=[]) Tryz.func59 rfl kL ?_
 refine sC ?_
 refine sP (.pointer none) ?_
 refine sA ?_
 refine sP (.agg #[.slice none 0 0])<|sM 193 #[.slice none 0 0] (λg=>?_)
 refine sp rfl ?_
 refine sG<|Sy.ret ?_
 exact Sy.retGM [(g,193,#[.slice none 0 0])] rfl (.inl (show _=_ by kernel_rfl)) (λ_ h=>h) ⟨g,rfl,rfl⟩
theorem bytes_any (w0:Base) (gw:Nat) (s:Slc) (R:Blocks) (b:Byt) (hb:BS s b) (hl:b.length≤70368744177664) (w:World) (hw:St w0 w (WS gw s R)) :
  Calls Tryz.prog 60 #[ptr gw] w (Turns w0 (λv M=>∃ N,ByN b v N∧M=WS gw s R++N)):=by
 refine Sy.enterT (args:=[ptr gw]) hw Tryz.func60 rfl kL ?_
 refine sC ?_
 refine sP (.slice none 0 0) ?_
 refine sA ?_
 refine sp rfl<|sp rfl<|sP (.pointer (some ⟨gw,0,none⟩))<|sS s.v (qc 0 0 rfl rfl Tryz.underlying29) ?_
 refine Sy.callN kR 103 #[s.v] kF (ByN b) (λw hw=>clone_any w s.v b ((Slc_byt hb).le (λg o v h=>rdC_world (w0:=w0.inn) hw (R:=s.bl) (λx hx=>by simp [hx]) g o v (.inr h))) hl) (λv M hM=>?_)
 refine sp rfl ?_
 refine sG<|Sy.ret ?_
 exact Sy.retT1 (WS gw s R++M) rfl (.inl (show _=_ by kernel_rfl)) (λ_ h=>h) ⟨M,hM,rfl⟩
theorem read_any (w:World) (v:Value) (x:Byt) (hv:BytR (rdW w) v x) (hl:x.length≤70368744177664):Calls Tryz.prog 66 #[v] w (GetsN w (λv M=>∃ g u N,ByN x u N∧v=ptr g∧M=(g,231,#[u,.int .i64 0])::N)):=by
 refine Sy.enter (args:=[v]) Tryz.func66 rfl kL ?_
 refine sC ?_
 refine sP (.pointer none) ?_
 refine sA ?_
 refine sp rfl ?_
 refine Sy.callN kR 103 #[v] kF (ByN x) (λw' hw=>clone_any w' v x (hv.le (λg o u h=>rdC_world (R:=[]) hw (λ_ h=>by cases h) g o u (.inl h))) hl) (λu M hM=>?_)
 have hM':=hM
 obtain ⟨A,n,cp,rfl,_⟩:=hM'
 refine sP (.agg #[.slice A n cp,.int .i64 0])<|sM 231 #[.slice A n cp,.int .i64 0] (λg=>?_)
 refine sp rfl ?_
 refine sG<|Sy.ret ?_
 exact Sy.retGM ((g,231,#[.slice A n cp,.int .i64 0])::M) rfl (.inl (show _=_ by kernel_rfl)) (λ_ h=>h.perm (List.perm_append_comm (l₁:=M))) ⟨g,_,M,hM,rfl,rfl⟩
end Wr
end
section
namespace Wr
open Go.RowKit Sy
set_option maxRecDepth 100000
set_option maxHeartbeats 4000000
theorem BytR.slice {C:Rdr} {A:Option Addr} {n cp:Nat} {b:Byt} (h:BytR C (.slice A n cp) b) {l m:Nat} (hl:l≤m) (hm:m≤n):BytR C (sliced A l m cp 1) ((b.drop l).take (m - l)):=by
 obtain ⟨A',n',cp',e,h2,h3,h4,h5⟩:=h
 injection e with e1 e2 e3
 subst e1 e2 e3
 refine ⟨_,_,_,rfl,by rw [List.length_take,List.length_drop]; omega,by omega,by omega,λhne=>?_⟩
 have hb:b≠[]:=λe=>hne (by rw [e]; simp)
 have hlt:l<m:=by
  rcases Nat.lt_or_ge l m with h | h
  ·exact h
  ·exact (hne (by rw [show m - l=0 by omega,List.take_zero])).elim
 obtain ⟨g,o,rfl,hq⟩:=h5 hb
 refine ⟨g,o+l,?_,λj u hj=>?_⟩
 ·rw [if_neg (by omega),Option.map_some,addr_off,Nat.mul_one]
 ·have hj':j<m - l:=by
   have:=(List.getElem?_eq_some_iff.1 hj).1
   rw [List.length_take] at this; omega
  rw [List.getElem?_take_of_lt hj',List.getElem?_drop] at hj
  rw [Nat.add_assoc]
  exact hq _ _ hj
theorem BytR.drop {C:Rdr} {A:Option Addr} {n cp:Nat} {b:Byt} (h:BytR C (.slice A n cp) b) {l:Nat} (hl:l≤n):BytR C (sliced A l n cp 1) (b.drop l):=by
 have q:=h.slice hl (Nat.le_refl n)
 obtain ⟨A',n',cp',e,h2,_⟩:=h
 injection e with e1 e2 e3
 subst e1 e2 e3
 rw [List.take_of_length_le (by rw [List.length_drop]; omega)] at q
 exact q
theorem exec_sl {F:Slots} {o:Oper} (x kx:Operand) (A:Option Addr) (n cp k:Nat) (ho:o.op=.slice 29 x (some kx) none none) (hx:evF F x=.slice A n cp) (hk:evF F kx=.int .i64 (k:Int)) (h:k≤n) (w:World):(execOp (evF F) o).run Tryz.prog w=.ok (.value (sliced A k n cp 1)) w:=by
 have ht:Tryz.prog.underlying 29=some (.slice (Tryz.prog.elem 29)):=by kernel_rfl
 have e:(Instr.sliceAt 29 (.slice A n cp) (some (.int .i64 (k:Int))) none none).run Tryz.prog w=.ok (sliced A k n cp 1) w:=by
  rw [run_sliceAt_slice w 29 _ _ _ _ ht,run_slice_l w 29 A n cp ht .i64 k (by omega) (by omega)]
  have hs:(sizeOf (Tryz.prog.elem 29)).run Tryz.prog w=.ok 1 w:=by kernel_rfl
  rw [hs,Result.andThen_ok,Int.toNat_natCast]
 unfold execOp
 simp only [ho,hx,hk,Option.map_some,Option.map_none,e,Sem.run_bind,Sem.run_pure,Result.andThen_ok]
theorem exec_slh {F:Slots} {o:Oper} (x kx hx':Operand) (A:Option Addr) (n cp k m:Nat) (ho:o.op=.slice 29 x (some kx) (some hx') none) (hx:evF F x=.slice A n cp) (hk:evF F kx=.int .i64 (k:Int)) (hm:evF F hx'=.int .i64 (m:Int)) (h:k≤m) (h2:m≤cp) (w:World):(execOp (evF F) o).run Tryz.prog w=.ok (.value (sliced A k m cp 1)) w:=by
 have ht:Tryz.prog.underlying 29=some (.slice (Tryz.prog.elem 29)):=by kernel_rfl
 have e:(Instr.sliceAt 29 (.slice A n cp) (some (.int .i64 (k:Int))) (some (.int .i64 (m:Int))) none).run Tryz.prog w=.ok (sliced A k m cp 1) w:=by
  rw [run_sliceAt_slice w 29 _ _ _ _ ht,run_slice_lh w 29 A n cp ht .i64 .i64 k m (by omega) (by omega) (by omega)]
  have hs:(sizeOf (Tryz.prog.elem 29)).run Tryz.prog w=.ok 1 w:=by kernel_rfl
  rw [hs,Result.andThen_ok,Int.toNat_natCast,Int.toNat_natCast]
 unfold execOp
 simp only [ho,hx,hk,hm,Option.map_some,Option.map_none,e,Sem.run_bind,Sem.run_pure,Result.andThen_ok]
theorem int_or8 (t:TypeId) (a c:Nat) (ha:a<72057594037927936) (hc:c<256) (w:World):(binOp .or t (.int .u64 ((a*256:Nat):Int)) (.int .u64 (c:Int))).run Tryz.prog w=.ok (.int .u64 ((256*a+c:Nat):Int)) w:=by
 have e:((BitVec.ofInt IntKind.u64.bits ((a*256:Nat):Int) ||| BitVec.ofInt IntKind.u64.bits (c:Int)).toNat:Nat)=256*a+c:=by
  show ((BitVec.ofInt 64 ((a*256:Nat):Int) ||| BitVec.ofInt 64 (c:Int)).toNat)=_
  rw [BitVec.toNat_or,BitVec.ofInt_natCast,BitVec.ofInt_natCast,BitVec.toNat_ofNat,BitVec.toNat_ofNat,Nat.mod_eq_of_lt (by omega),Nat.mod_eq_of_lt (by omega),Nat.mul_comm]
  exact (Nat.two_pow_add_eq_or_of_lt (i:=8) hc a).symm
 have h:IntKind.u64.wrap (((BitVec.ofInt IntKind.u64.bits ((a*256:Nat):Int) ||| BitVec.ofInt IntKind.u64.bits (c:Int)).toNat:Nat):Int)=((256*a+c:Nat):Int):=by
  rw [e]; exact wrap_u64 (by omega) (by omega)
 simp only [binOp,ne_eq,not_true_eq_false,if_false,Op.intBits,Sem.run_pure]
 rw [h]
theorem int_shl8 (t:TypeId) (a:Nat) (ha:a<72057594037927936) (w:World):(binOp .shl t (.int .u64 (a:Int)) (.int .u64 8)).run Tryz.prog w=.ok (.int .u64 ((a*256:Nat):Int)) w:=by
 have h:IntKind.u64.wrap ((a:Int)*2 ^ min (8:Int).toNat IntKind.u64.bits)=((a*256:Nat):Int):=by
  rw [show (2:Int) ^ min (8:Int).toNat IntKind.u64.bits=256 from rfl,Int.natCast_mul]
  exact wrap_u64 (by omega) (by omega)
 simp only [binOp,Op.shift,if_neg (show ¬ (8:Int)<0 by omega),Sem.run_pure,h]
abbrev t3V (x:Nat×Nat×Nat):Value:=.tuple #[.int .u64 (x.1:Int),.int .i64 (x.2.1:Int),.int .i64 (x.2.2:Int)]
def fxN (b:Byt) (k:Nat):Nat×Nat×Nat:=if b.length<k then (0,0,110) else (said (b.take k),k,0)
theorem said_take (b:Byt) (i:Nat) (u:UInt8) (h:b[i]? = some u):said (b.take (i+1))=256*said (b.take i)+u.toNat:=by
 rw [List.take_add_one,h]
 exact said_snoc _ _
theorem said_lt8 (b:Byt) (i:Nat) (hi:i≤7):said (b.take i)<72057594037927936:=by
 have h:=said_lt (b.take i)
 have h2:256 ^ (b.take i).length≤256 ^ 7:=Nat.pow_le_pow_right (by decide) (by rw [List.length_take]; omega)
 exact Nat.lt_of_lt_of_le h h2
theorem fixedR_any (w:World) (v:Value) (b:Byt) (k:Nat) (hk:k≤8) (h1:1≤k) (hv:BytR (rdW w) v b):Calls Tryz.prog 170 #[v,.int .i64 (k:Int)] w (Gets w (t3V (fxN b k))):=by
 obtain ⟨A,n,cp,rfl,h2,h3,h4,h5⟩:=hv
 refine Sy.enter (args:=[.slice A n cp,.int .i64 (k:Int)]) Tryz.func170 rfl kL ?_
 refine sC ?_
 refine sP (.int .u64 0)<|sP (.int .i64 0)<|sP (.int .i64 0) ?_
 refine sG<|Sy.seq<|sC ?_
 obtain ⟨b1,hb1⟩:∃ z:Bool,z=decide (n<k):=⟨_,rfl⟩
 refine sp rfl<|sP (.int .i64 (n:Int))<|sp rfl<|sS (.bool b1) (Quiet.pure (exec_int .lss _ _ _ .i64 _ _ _ rfl rfl rfl (int_lss _ _ _ _ _ (by rw [hb1]; exact decide_eq_decide.2 (by omega))))) ?_
 refine sG ?_
 cases b1
 case' true =>
  have l1:n<k:=of_decide_eq_true hb1.symm
  refine sT<|sC ?_
  refine sP (.int .u64 0)<|sP (.int .i64 0)<|sP (.int .i64 110) ?_
  refine sG<|Sy.ret<|Sy.then_ret ?_
  have e:fxN b k=(0,0,110):=by unfold fxN; rw [if_pos (by omega)]
  rw [e]
  exact Sy.ret3 rfl (.inl (show _=_ by kernel_rfl)) (.inl (show _=_ by kernel_rfl)) (.inl (show _=_ by kernel_rfl))
 have l1:¬ n<k:=of_decide_eq_false hb1.symm
 have e:fxN b k=(said (b.take k),k,0):=by unfold fxN; rw [if_neg (by omega)]
 rw [e]
 obtain ⟨g,o,rfl,hq⟩:=h5 (by intro e; rw [e] at h2; simp at h2; omega)
 refine sU<|Sy.skip<|sB ?_
 refine sP (.int .u64 0) ?_
 refine sG<|Sy.seq<|sC ?_
 refine sp rfl<|sp rfl<|sS (.slice (some ⟨g,o,none⟩) k cp) (Quiet.pure (exec_upto 29 _ _ g o n cp k 1 .i64 rfl rfl rfl (by kernel_rfl) kF (by omega)))<|sP (.int .i64 (k:Int))<|sP (.int .i64 0) ?_
 refine sG<|Sy.block ?_
 refine Sy.loopT (Y:=Nat×Value) k (λi y=>[(1,.int .i64 (k:Int)),(7,.int .u64 (y.1:Int)),(16,.slice (some ⟨g,o,none⟩) k cp),(17,.int .i64 (k:Int)),(18,.int .i64 (i:Int))]) (λ_ _=>[]) (λi y=>y.1=said (b.take i)) (0,.bool true) rfl (all_cons kR (all_cons kR (all_cons kR (all_cons kR (all_cons kR all_nil))))) (λ_ h=>h) (λi y hi hy=>?_)
 obtain ⟨a,z⟩:=y
 dsimp only at hy ⊢
 refine sC ?_
 obtain ⟨b2,hb2⟩:∃ z:Bool,z=decide (i<k):=⟨_,rfl⟩
 refine sS (.bool b2) (Quiet.pure (exec_int .lss _ _ _ .i64 _ _ _ rfl rfl rfl (int_lss _ _ _ _ _ (by rw [hb2]; exact decide_eq_decide.2 (by omega))))) ?_
 refine sG<|Sy.seq ?_
 cases b2
 case' false =>
  have l2:¬ i<k:=of_decide_eq_false hb2.symm
  obtain rfl:i=k:=by omega
  refine sU<|Sy.exit<|Sy.then_exit<|Sy.then_exit<|Sy.in_exit<|Sy.then_<|sC ?_
  refine sp rfl<|sp rfl<|sp rfl<|sp rfl<|sP (.int .i64 0) ?_
  refine sG<|Sy.ret ?_
  rw [← hy]
  exact Sy.ret3 rfl (.inl (show _=_ by kernel_rfl)) (.inl (show _=_ by kernel_rfl)) (.inl (show _=_ by kernel_rfl))
 have l2:i<k:=of_decide_eq_true hb2.symm
 obtain ⟨u,hu⟩:∃ u,b[i]? = some u:=⟨_,List.getElem?_eq_getElem (by omega)⟩
 have ha:a<72057594037927936:=by rw [hy]; exact said_lt8 b i (by omega)
 have hu2:=u.toNat_lt
 refine sT<|Sy.skip<|Sy.then_<|Sy.seq<|Sy.block<|sC ?_
 refine sS (.pointer (some ⟨g,o+i*1,none⟩)) (Quiet.pure (exec_atO 29 _ _ _ (some ⟨g,o,none⟩) g o k cp i 1 .i64 rfl rfl rfl rfl Tryz.underlying29 kF l2))<|sS (bv u) (Quiet.thereOne g (o+i*1) 5 _ _ rfl kR (hq i u hu).1 _ (by rw [Nat.mul_one]; exact (hq i u hu).2) Tryz.underlying5 rfl)<|sp rfl ?_
 refine Sy.nil<|Sy.then_<|Sy.region ?_
 refine sp rfl<|sS (.int .u64 ((a*256:Nat):Int)) (Quiet.pure (exec_int .shl _ _ _ .u64 _ _ _ rfl rfl rfl (int_shl8 _ a ha)))<|sp rfl<|sS (.int .u64 ((u.toNat:Nat):Int)) (Quiet.pure (λw=>conv_86 w _ _ _ u rfl rfl))<|sS (.int .u64 ((256*a+u.toNat:Nat):Int)) (Quiet.pure (exec_int .or _ _ _ .u64 _ _ _ rfl rfl rfl (int_or8 _ a _ ha hu2)))<|sp rfl ?_
 refine Sy.nil<|Sy.in_<|Sy.then_<|Sy.region ?_
 refine sS (.int .i64 ((i+1:Nat):Int)) (Quiet.pure (exec_int .add _ _ _ .i64 _ _ _ rfl rfl rfl (int_add _ _ _ _ _ ((wrap_i64 (by omega) (by omega)).trans (by omega)))))<|sp rfl ?_
 refine Sy.nil ?_
 exact Sy.againT (256*a+u.toNat,.bool true) l2 (by show 256*a+u.toNat=_; rw [hy,said_take b i u hu]) (all_cons kR (all_cons kR (all_cons kR (all_cons kR (all_cons kR all_nil))))) (λw h=>h)
end Wr
end
section
namespace Wr
open Go.RowKit Sy
set_option maxRecDepth 100000
set_option maxHeartbeats 4000000
section
variable {P:Program} {w0:Base} {n:Nat} {Q:Exit→Act→World→Prop} {F:Slots} {L:Blocks}
def Meet (w0:Base) (n:Nat) (G:Slots) (M:Blocks):Exit→Act→World→Prop
 | .normal,a,w=>Fr w0.ds a n G∧St w0 w M
 | _,_,_=>False
theorem cutC {x:Code} (G:Slots) (M:Blocks) (h1:wpC P w0 n (Meet w0 n G M) F L x) (h2:X w0 n Q G M .normal):wpC P w0 n Q F L x:=λa w ha hw =>
 wpIn_mono (h1 a w ha hw) λe a w hq=>by
  cases e with
  | normal=>exact h2 a w hq.1 hq.2
  | _=>exact hq.elim
theorem meet {G:Slots} {M:Blocks} (hF:∀ p∈G,F.lookup p.1=some p.2) (hL:∀ w,St w0 w L→St w0 w M):X w0 n (Meet w0 n G M) F L .normal:=λ_ w ha hw=>⟨ha.all hF,hL w hw⟩
end
theorem BytR.at {w w':World} {L:Blocks} {v:Value} {b:Byt} (h:BytR (rdW w) v b) (hw:St (Base.of w) w' L):BytR (rdW w') v b:=h.le λg o u hu=>rdC_world (R:=[]) hw (λ_ h=>by cases h) g o u (.inl hu)
def lgN (b:Byt):Nat×Nat×Nat:=if (fxN (b.drop 1) (wide (b.getD 0 0).toNat)).2.2=0 then (if (fxN (b.drop 1) (wide (b.getD 0 0).toNat)).1<least (b.getD 0 0).toNat then (0,0,111) else ((fxN (b.drop 1) (wide (b.getD 0 0).toNat)).1,1+wide (b.getD 0 0).toNat,0)) else (0,0,(fxN (b.drop 1) (wide (b.getD 0 0).toNat)).2.2)
theorem fxN_fit (b:Byt) (k:Nat) (hk:k≤8):(fxN b k).1<18446744073709551616∧(fxN b k).2.1≤8∧(fxN b k).2.2≤200:=by
 unfold fxN
 split
 ·exact ⟨by decide,by decide,by decide⟩
 ·refine ⟨?_,hk,Nat.zero_le _⟩
  have h:=said_lt (b.take k)
  have h2:256 ^ (b.take k).length≤256 ^ 8:=Nat.pow_le_pow_right (by decide) (by rw [List.length_take]; omega)
  exact Nat.lt_of_lt_of_le h h2
theorem wide_le (c:Nat):wide c≤8∧1≤wide c:=by unfold wide; split <;> (try split) <;> omega
theorem least_le (c:Nat):least c<18446744073709551616:=by unfold least; split <;> (try split) <;> omega
theorem longerR_any (w:World) (v:Value) (b:Byt) (hb0:b≠[]) (hc:253≤(b.getD 0 0).toNat) (hv:BytR (rdW w) v b):Calls Tryz.prog 301 #[v] w (Gets w (t3V (lgN b))):=by
 have hv0:=hv
 obtain ⟨A,n,cp,rfl,h2,h3,h4,h5⟩:=hv
 obtain ⟨x,hx⟩:∃ x,x=b.getD 0 0:=⟨_,rfl⟩
 have hx0:b[0]? = some x:=by rw [hx,List.getD_eq_getElem?_getD,List.getElem?_eq_getElem (List.length_pos_iff.2 hb0)]; rfl
 have hn1:1≤n:=by have:=List.length_pos_iff.2 hb0; omega
 obtain ⟨c,hcx⟩:∃ c,c=x.toNat:=⟨_,rfl⟩
 have hc1:c<256:=by rw [hcx]; exact x.toNat_lt
 obtain ⟨f,hf⟩:∃ f,f=fxN (b.drop 1) (wide c):=⟨_,rfl⟩
 have hlg:lgN b=if f.2.2=0 then (if f.1<least c then (0,0,111) else (f.1,1+wide c,0)) else (0,0,f.2.2):=by unfold lgN; rw [← hx, ← hcx, ← hf]
 rw [← hx, ← hcx] at hc
 rw [hlg]
 obtain ⟨hf1,hf2,hf3⟩:f.1<18446744073709551616∧f.2.1≤8∧f.2.2≤200:=by rw [hf]; exact fxN_fit _ _ (wide_le c).1
 obtain ⟨g,o,rfl,hq⟩:=h5 hb0
 obtain ⟨A1,hA1⟩:∃ A1,sliced (some ⟨g,o,none⟩) 1 n cp 1=.slice A1 (n - 1) (cp - 1):=⟨_,rfl⟩
 have hv1:BytR (rdW w) (.slice A1 (n - 1) (cp - 1)) (b.drop 1):=by rw [← hA1]; exact hv0.drop hn1
 have hwc:=wide_le c
 have hlc:=least_le c
 clear hlg
 have hfx:=hf
 clear hf
 refine Sy.enter (args:=[.slice (some ⟨g,o,none⟩) n cp]) Tryz.func301 rfl kL ?_
 refine sC ?_
 refine sP (.int .u64 0)<|sP (.int .i64 0)<|sP (.int .i64 0) ?_
 refine sA ?_
 refine sP (.int .i64 8)<|sP (.int .u64 4294967296) ?_
 refine sG<|Sy.seq ?_
 refine cutC [(0,.slice (some ⟨g,o,none⟩) n cp),(5,.int .i64 ((wide c:Nat):Int)),(6,.int .u64 ((least c:Nat):Int))] [] ?_ ?_
 ·refine sC ?_
  refine sp rfl<|sS (.pointer (some ⟨g,o+0*1,none⟩)) (Quiet.pure (exec_atO 29 _ _ _ (some ⟨g,o,none⟩) g o n cp 0 1 .i64 rfl rfl rfl rfl Tryz.underlying29 kF hn1))<|sS (.int .u8 (c:Int)) (Quiet.thereOne g (o+0*1) 5 _ _ rfl kR (hq 0 x hx0).1 _ (by rw [hcx]; exact (hq 0 x hx0).2) Tryz.underlying5 rfl) ?_
  refine sG<|Sy.block<|sC ?_
  obtain ⟨b1,hb1⟩:∃ z:Bool,z=decide (c=253):=⟨_,rfl⟩
  refine sS (.bool b1) (Quiet.pure (exec_int .eql _ _ _ .u8 _ _ _ rfl rfl rfl (int_eql _ _ _ _ _ (by rw [hb1]; exact decide_eq_decide.2 (by omega)))))<|sp rfl ?_
  refine sG ?_
  cases b1
  case' true =>
   obtain rfl:c=253:=of_decide_eq_true hb1.symm
   refine sT<|Sy.region ?_
   refine sP (.int .i64 2)<|sP (.int .u64 253) ?_
   refine Sy.nil<|Sy.in_ ?_
   exact meet (all_cons kR (all_cons kR (all_cons kR all_nil))) (λ_ h=>h)
  have l1:c≠253:=of_decide_eq_false hb1.symm
  refine sU<|sC ?_
  obtain ⟨b2,hb2⟩:∃ z:Bool,z=decide (c=254):=⟨_,rfl⟩
  refine sS (.bool b2) (Quiet.pure (exec_int .eql _ _ _ .u8 _ _ _ rfl rfl rfl (int_eql _ _ _ _ _ (by rw [hb2]; exact decide_eq_decide.2 (by omega)))))<|sp rfl ?_
  refine sG ?_
  cases b2
  case' true =>
   obtain rfl:c=254:=of_decide_eq_true hb2.symm
   refine sT<|Sy.region ?_
   refine sP (.int .i64 4)<|sP (.int .u64 65536) ?_
   refine Sy.nil<|Sy.in_ ?_
   exact meet (all_cons kR (all_cons kR (all_cons kR all_nil))) (λ_ h=>h)
  have l2:c≠254:=of_decide_eq_false hb2.symm
  obtain rfl:c=255:=by omega
  refine sU<|Sy.skip<|Sy.in_ ?_
  exact meet (all_cons kR (all_cons kR (all_cons kR all_nil))) (λ_ h=>h)
 refine sB ?_
 refine sp rfl<|sS (.slice A1 (n - 1) (cp - 1)) (Quiet.pure (λw=>by rw [← hA1]; exact exec_sl _ _ _ n cp 1 rfl rfl rfl hn1 w))<|sp rfl<|sS (t3V f) (qg (λw' hw=>by rw [hfx]; exact fixedR_any w' _ _ _ hwc.1 hwc.2 (hv1.at hw)))<|sp rfl<|sp rfl<|sp rfl<|sp rfl<|sp rfl<|sp rfl<|sp rfl ?_
 refine sG<|Sy.seq ?_
 obtain ⟨e1,he1⟩:∃ e1,e1=if f.2.2=0 then (if f.1<least c then 111 else 0) else f.2.2:=⟨_,rfl⟩
 refine cutC [(5,.int .i64 ((wide c:Nat):Int)),(7,.int .u64 ((f.1:Nat):Int)),(9,.int .i64 ((e1:Nat):Int))] [] ?_ ?_
 ·refine sC ?_
  obtain ⟨b1,hb1⟩:∃ z:Bool,z=decide (f.2.2=0):=⟨_,rfl⟩
  refine sp rfl<|sS (.bool b1) (Quiet.pure (exec_int .eql _ _ _ .i64 _ _ _ rfl rfl rfl (int_eql _ _ _ _ _ (by rw [hb1]; exact decide_eq_decide.2 (by omega)))))<|sp rfl ?_
  cases b1
  ·have l1:f.2.2≠0:=of_decide_eq_false hb1.symm
   rw [if_neg l1] at he1
   refine sN<|sN<|sN<|sP (.bool false) ?_
   refine sG<|sU<|Sy.skip ?_
   rw [he1]
   exact meet (all_cons kR (all_cons kR (all_cons kR all_nil))) (λ_ h=>h)
  ·have l1:f.2.2=0:=of_decide_eq_true hb1.symm
   rw [if_pos l1] at he1
   obtain ⟨b2,hb2⟩:∃ z:Bool,z=decide (f.1<least c):=⟨_,rfl⟩
   refine sp rfl<|sp rfl<|sS (.bool b2) (Quiet.pure (exec_int .lss _ _ _ .u64 _ _ _ rfl rfl rfl (int_lss _ _ _ _ _ (by rw [hb2]; exact decide_eq_decide.2 (by omega)))))<|sP (.bool b2) ?_
   refine sG ?_
   cases b2
   ·have l2:¬ f.1<least c:=of_decide_eq_false hb2.symm
    rw [if_neg l2] at he1
    refine sU<|Sy.skip ?_
    have e2:e1=f.2.2:=by rw [he1,l1]
    rw [e2]
    exact meet (all_cons kR (all_cons kR (all_cons kR all_nil))) (λ_ h=>h)
   ·have l2:f.1<least c:=of_decide_eq_true hb2.symm
    rw [if_pos l2] at he1
    refine sT<|Sy.region ?_
    refine sP (.int .i64 111) ?_
    refine Sy.nil ?_
    rw [he1]
    exact meet (all_cons kR (all_cons kR (all_cons kR all_nil))) (λ_ h=>h)
 have he2:e1≤200:=by rw [he1]; split <;> (try split) <;> omega
 refine Sy.then_<|Sy.seq<|sC ?_
 obtain ⟨b1,hb1⟩:∃ z:Bool,z=decide (e1≠0):=⟨_,rfl⟩
 refine sp rfl<|sS (.bool b1) (Quiet.pure (exec_int .neq _ _ _ .i64 _ _ _ rfl rfl rfl (int_neq _ _ _ _ _ (by rw [hb1]; exact decide_eq_decide.2 (by omega))))) ?_
 refine sG ?_
 cases b1
 ·have l1:e1=0:=Decidable.of_not_not (of_decide_eq_false hb1.symm)
  have l2:f.2.2=0∧¬ f.1<least c:=by
   rw [he1] at l1
   by_cases h:f.2.2=0
   ·rw [if_pos h] at l1
    by_cases h':f.1<least c
    ·rw [if_pos h'] at l1; cases l1
    ·exact ⟨h,h'⟩
   ·rw [if_neg h] at l1; exact (h l1).elim
  rw [if_pos l2.1,if_neg l2.2]
  refine sU<|Sy.skip<|sB ?_
  refine sp rfl<|sp rfl<|sS (.int .i64 ((1+wide c:Nat):Int)) (Quiet.pure (exec_int .add _ _ _ .i64 _ _ _ rfl rfl rfl (int_add _ _ _ _ _ ((wrap_i64 (by omega) (by omega)).trans (by omega)))))<|sp rfl<|sp rfl<|sP (.int .i64 0) ?_
  refine sG<|Sy.ret ?_
  exact Sy.ret3 rfl (.inl (show _=_ by kernel_rfl)) (.inl (show _=_ by kernel_rfl)) (.inl (show _=_ by kernel_rfl))
 ·have l1:e1≠0:=of_decide_eq_true hb1.symm
  have l2:(if f.2.2=0 then (if f.1<least c then (0,0,111) else (f.1,1+wide c,0)) else (0,0,f.2.2))=(0,0,e1):=by
   rw [he1] at l1 ⊢
   by_cases h:f.2.2=0
   ·rw [if_pos h] at l1
    rw [if_pos h,if_pos h]
    by_cases h':f.1<least c
    ·rw [if_pos h',if_pos h']
    ·rw [if_neg h'] at l1; exact (l1 rfl).elim
   ·rw [if_neg h,if_neg h]
  rw [l2]
  refine sT<|sC ?_
  refine sp rfl<|sP (.int .u64 0)<|sP (.int .i64 0)<|sp rfl ?_
  refine sG<|Sy.ret<|Sy.then_ret ?_
  exact Sy.ret3 rfl (.inl (show _=_ by kernel_rfl)) (.inl (show _=_ by kernel_rfl)) (.inl (show _=_ by kernel_rfl))
end Wr
end
section
namespace Wr
open Go.RowKit Sy
set_option maxRecDepth 100000
set_option maxHeartbeats 4000000
theorem lgN_fit (b:Byt):(lgN b).1<18446744073709551616∧(lgN b).2.1≤9∧(lgN b).2.2≤200:=by
 have h:=fxN_fit (b.drop 1) (wide (b.getD 0 0).toNat) (wide_le _).1
 have h2:=wide_le (b.getD 0 0).toNat
 unfold lgN
 split
 ·split
  ·exact ⟨by decide,by decide,by decide⟩
  ·exact ⟨h.1,by show 1+_≤9; omega,Nat.zero_le _⟩
 ·exact ⟨(show 0<18446744073709551616 by decide),(show 0≤9 by decide),h.2.2⟩
def vrG (b:Byt):Nat×Nat×Nat:=if 253≤(fxN b 1).1 then lgN b else fxN b 1
def vrN (b:Byt) (most:Nat):Nat×Nat×Nat:=if (vrG b).2.2=0∧most<(vrG b).1 then (0,0,112) else vrG b
theorem vrG_fit (b:Byt):(vrG b).1<18446744073709551616∧(vrG b).2.1≤9∧(vrG b).2.2≤200:=by
 have h:=fxN_fit b 1 (by decide)
 unfold vrG
 split
 ·exact lgN_fit b
 ·exact ⟨h.1,Nat.le_succ_of_le h.2.1,h.2.2⟩
theorem vrN_fit (b:Byt) (most:Nat):(vrN b most).1<18446744073709551616∧(vrN b most).2.1≤9∧(vrN b most).2.2≤200:=by
 unfold vrN
 split
 ·exact ⟨by decide,by decide,by decide⟩
 ·exact vrG_fit b
theorem fx_yes {b:Byt} {k:Nat} (h:(fxN b k).2.2=0):numP k b=some ((fxN b k).1,b.drop (fxN b k).2.1)∧(fxN b k).2.1≤b.length∧(fxN b k).2.1=k:=by
 unfold fxN at h ⊢
 by_cases hl:b.length<k
 ·rw [if_pos hl] at h; cases h
 ·rw [if_neg hl]
  refine ⟨?_,by show k≤_; omega,rfl⟩
  unfold numP
  rw [bind_some (show takeP k b=some (b.take k,b.drop k) from if_pos (by omega))]
  rfl
theorem fx_no {b:Byt} {k:Nat} (h:(fxN b k).2.2≠0):numP k b=none:=by
 unfold fxN at h
 by_cases hl:b.length<k
 ·unfold numP
  exact bind_none (show takeP k b=none from if_neg (by omega))
 ·rw [if_neg hl] at h; exact (h rfl).elim
def frontP:Ps Nat:=bindP (numP 1) λc=>if c<253 then retP c else longP c
theorem varP_front (most:Nat):varP most=bindP frontP λn=>bindP (mustP (decide (n≤most))) λ_=>retP n:=rfl
theorem fx_one {b:Byt} {u:UInt8} {l:Byt} (hb:b=u::l):fxN b 1=(u.toNat,1,0):=by
 subst hb
 unfold fxN
 rw [if_neg (by simp)]
 simp [said]
theorem num_one {b:Byt} {u:UInt8} {l:Byt} (hb:b=u::l):numP 1 b=some (u.toNat,l):=by
 have h:=fx_yes (b:=b) (k:=1) (by rw [fx_one hb])
 rw [fx_one hb] at h
 rw [h.1,hb]
 rfl
theorem vrG_spec (b:Byt):((vrG b).2.2=0→frontP b=some ((vrG b).1,b.drop (vrG b).2.1)∧(vrG b).2.1≤b.length)∧((vrG b).2.2≠0→frontP b=none):=by
 cases b with
 | nil =>
  have e:vrG []=(0,0,110):=rfl
  rw [e]
  exact ⟨λh=>(by cases h),λ_=>rfl⟩
 | cons u l =>
  have hu:=u.toNat_lt
  have h1:=fx_one (rfl:u::l=u::l)
  have h2:=num_one (rfl:u::l=u::l)
  unfold vrG
  rw [h1]
  by_cases hc:253≤u.toNat
  ·rw [if_pos (show 253≤(u.toNat,1,0).1 from hc)]
   have e1:frontP (u::l)=longP u.toNat l:=by
    unfold frontP
    rw [bind_some h2,if_neg (by omega)]
   rw [e1]
   unfold lgN longP
   show ((if (fxN l (wide u.toNat)).2.2=0 then _ else _:Nat×Nat×Nat).2.2=0→_)∧_
   obtain ⟨f,hf⟩:∃ f,f=fxN l (wide u.toNat):=⟨_,rfl⟩
   have hy:=@fx_yes l (wide u.toNat)
   have hn:=@fx_no l (wide u.toNat)
   show ((if (fxN l (wide u.toNat)).2.2=0 then (if (fxN l (wide u.toNat)).1<least u.toNat then (0,0,111) else ((fxN l (wide u.toNat)).1,1+wide u.toNat,0)) else (0,0,(fxN l (wide u.toNat)).2.2):Nat×Nat×Nat).2.2=0→bindP (numP (wide u.toNat)) (λn=>bindP (mustP (decide (least u.toNat≤n))) λ_=>retP n) l=some ((if (fxN l (wide u.toNat)).2.2=0 then (if (fxN l (wide u.toNat)).1<least u.toNat then (0,0,111) else ((fxN l (wide u.toNat)).1,1+wide u.toNat,0)) else (0,0,(fxN l (wide u.toNat)).2.2):Nat×Nat×Nat).1,(u::l).drop (if (fxN l (wide u.toNat)).2.2=0 then (if (fxN l (wide u.toNat)).1<least u.toNat then (0,0,111) else ((fxN l (wide u.toNat)).1,1+wide u.toNat,0)) else (0,0,(fxN l (wide u.toNat)).2.2):Nat×Nat×Nat).2.1)∧(if (fxN l (wide u.toNat)).2.2=0 then (if (fxN l (wide u.toNat)).1<least u.toNat then (0,0,111) else ((fxN l (wide u.toNat)).1,1+wide u.toNat,0)) else (0,0,(fxN l (wide u.toNat)).2.2):Nat×Nat×Nat).2.1≤(u::l).length)∧((if (fxN l (wide u.toNat)).2.2=0 then (if (fxN l (wide u.toNat)).1<least u.toNat then (0,0,111) else ((fxN l (wide u.toNat)).1,1+wide u.toNat,0)) else (0,0,(fxN l (wide u.toNat)).2.2):Nat×Nat×Nat).2.2≠0→bindP (numP (wide u.toNat)) (λn=>bindP (mustP (decide (least u.toNat≤n))) λ_=>retP n) l=none)
   rw [← hf] at hy hn ⊢
   by_cases h0:f.2.2=0
   ·obtain ⟨q1,q2,q3⟩:=hy h0
    rw [if_pos h0]
    by_cases h3:f.1<least u.toNat
    ·rw [if_pos h3]
     refine ⟨λh=>(by cases h),λ_=>?_⟩
     rw [bind_some q1]
     exact bind_none (show mustP _ _=none by unfold mustP; rw [decide_eq_false (by omega)]; rfl)
    ·rw [if_neg h3]
     refine ⟨λ_=>⟨?_,by show 1+wide u.toNat≤l.length+1; omega⟩,λh=>(h rfl).elim⟩
     rw [bind_some q1,bind_some (show mustP _ _=some ((),_) by unfold mustP; rw [decide_eq_true (by omega)]; rfl),q3,Nat.add_comm 1]
     rfl
   ·rw [if_neg h0]
    refine ⟨λh=>(h0 h).elim,λ_=>bind_none (hn h0)⟩
  ·rw [if_neg (show ¬ 253≤(u.toNat,1,0).1 from hc)]
   refine ⟨λ_=>⟨?_,by show 1≤l.length+1; omega⟩,λh=>(h rfl).elim⟩
   unfold frontP
   rw [bind_some h2,if_pos (by omega)]
   rfl
theorem vr_yes {b:Byt} {most:Nat} (h:(vrN b most).2.2=0):varP most b=some ((vrN b most).1,b.drop (vrN b most).2.1)∧(vrN b most).2.1≤b.length∧(vrN b most).1≤most:=by
 have q:=vrG_spec b
 unfold vrN at h ⊢
 by_cases hc:(vrG b).2.2=0∧most<(vrG b).1
 ·rw [if_pos hc] at h; cases h
 ·rw [if_neg hc] at h ⊢
  obtain ⟨q1,q2⟩:=q.1 h
  refine ⟨?_,q2,by omega⟩
  rw [varP_front,bind_some q1,bind_some (show mustP _ _=some ((),_) by unfold mustP; rw [decide_eq_true (by omega)]; rfl)]
  rfl
theorem vr_no {b:Byt} {most:Nat} (h:(vrN b most).2.2≠0):varP most b=none:=by
 have q:=vrG_spec b
 unfold vrN at h
 rw [varP_front]
 by_cases h0:(vrG b).2.2=0
 ·by_cases hm:most<(vrG b).1
  ·rw [bind_some (q.1 h0).1]
   exact bind_none (show mustP _ _=none by unfold mustP; rw [decide_eq_false (by omega)]; rfl)
  ·rw [if_neg (λx=>hm x.2)] at h; exact (h h0).elim
 ·exact bind_none (q.2 h0)
theorem variableR_any (w:World) (v:Value) (b:Byt) (most:Nat) (hm:most<18446744073709551616) (hv:BytR (rdW w) v b):Calls Tryz.prog 269 #[v,.int .u64 (most:Int)] w (Gets w (t3V (vrN b most))):=by
 obtain ⟨f,hf⟩:∃ f,f=fxN b 1:=⟨_,rfl⟩
 have hff:=fxN_fit b 1 (by decide)
 obtain ⟨r,hr⟩:∃ r,r=vrG b:=⟨_,rfl⟩
 have hrf:=vrG_fit b
 have hvr:vrN b most=if r.2.2=0∧most<r.1 then (0,0,112) else r:=by unfold vrN; rw [← hr]
 have hrf2:r=if 253≤f.1 then lgN b else f:=by rw [hr,hf]; rfl
 rw [← hr] at hrf
 rw [← hf] at hff
 rw [hvr]
 have hb0:253≤f.1→b≠[]∧253≤(b.getD 0 0).toNat:=λh=>by
  cases b with
  | nil=>rw [hf] at h; simp [fxN] at h
  | cons u l=>rw [hf,fx_one rfl] at h; exact ⟨by simp,h⟩
 have hfx:=hf
 clear hf hvr hr
 refine Sy.enter (args:=[v,.int .u64 (most:Int)]) Tryz.func269 rfl kL ?_
 refine sC ?_
 refine sP (.int .u64 0)<|sP (.int .i64 0)<|sP (.int .i64 0) ?_
 refine sA ?_
 refine sp rfl<|sS (t3V f) (qg (λw' hw=>by rw [hfx]; exact fixedR_any w' _ _ 1 (by decide) (by decide) (hv.at hw)))<|sp rfl<|sp rfl<|sp rfl<|sp rfl<|sp rfl<|sp rfl<|sp rfl ?_
 refine sG<|Sy.seq ?_
 refine cutC [(1,.int .u64 (most:Int)),(7,.int .u64 ((r.1:Nat):Int)),(8,.int .i64 ((r.2.1:Nat):Int)),(9,.int .i64 ((r.2.2:Nat):Int))] [] ?_ ?_
 ·refine sC ?_
  obtain ⟨b1,hb1⟩:∃ z:Bool,z=decide (253≤f.1):=⟨_,rfl⟩
  refine sp rfl<|sS (.bool b1) (Quiet.pure (exec_int .geq _ _ _ .u64 _ _ _ rfl rfl rfl (int_geq _ _ _ _ _ (by rw [hb1]; exact decide_eq_decide.2 (by omega))))) ?_
  refine sG ?_
  cases b1
  ·rw [if_neg (of_decide_eq_false hb1.symm)] at hrf2
   refine sU<|Sy.skip ?_
   rw [hrf2]
   exact meet (all_cons kR (all_cons kR (all_cons kR (all_cons kR all_nil)))) (λ_ h=>h)
  ·have l1:253≤f.1:=of_decide_eq_true hb1.symm
   rw [if_pos l1] at hrf2
   refine sT<|Sy.region ?_
   refine sp rfl<|sS (t3V r) (qg (λw' hw=>by rw [hrf2]; exact longerR_any w' _ _ (hb0 l1).1 (hb0 l1).2 (hv.at hw)))<|sp rfl<|sp rfl<|sp rfl<|sp rfl<|sp rfl<|sp rfl<|sp rfl ?_
   refine Sy.nil ?_
   exact meet (all_cons kR (all_cons kR (all_cons kR (all_cons kR all_nil)))) (λ_ h=>h)
 clear hrf2 hfx
 refine Sy.then_<|Sy.seq<|sC ?_
 obtain ⟨b1,hb1⟩:∃ z:Bool,z=decide (r.2.2=0):=⟨_,rfl⟩
 refine sp rfl<|sS (.bool b1) (Quiet.pure (exec_int .eql _ _ _ .i64 _ _ _ rfl rfl rfl (int_eql _ _ _ _ _ (by rw [hb1]; exact decide_eq_decide.2 (by omega)))))<|sp rfl ?_
 cases b1
 ·have l1:r.2.2≠0:=of_decide_eq_false hb1.symm
  rw [if_neg (λh=>l1 h.1)]
  refine sN<|sN<|sN<|sP (.bool false) ?_
  refine sG<|sU<|Sy.skip<|sB ?_
  refine sp rfl<|sp rfl<|sp rfl<|sp rfl<|sp rfl<|sp rfl ?_
  refine sG<|Sy.ret ?_
  exact Sy.ret3 rfl (.inl (show _=_ by kernel_rfl)) (.inl (show _=_ by kernel_rfl)) (.inl (show _=_ by kernel_rfl))
 have l1:r.2.2=0:=of_decide_eq_true hb1.symm
 obtain ⟨b2,hb2⟩:∃ z:Bool,z=decide (most<r.1):=⟨_,rfl⟩
 refine sp rfl<|sp rfl<|sS (.bool b2) (Quiet.pure (exec_int .gtr _ _ _ .u64 _ _ _ rfl rfl rfl (int_gtr _ _ _ _ _ (by rw [hb2]; exact decide_eq_decide.2 (by omega)))))<|sP (.bool b2) ?_
 refine sG ?_
 cases b2
 ·have l2:¬ most<r.1:=of_decide_eq_false hb2.symm
  rw [if_neg (λh=>l2 h.2)]
  refine sU<|Sy.skip<|sB ?_
  refine sp rfl<|sp rfl<|sp rfl<|sp rfl<|sp rfl<|sp rfl ?_
  refine sG<|Sy.ret ?_
  exact Sy.ret3 rfl (.inl (show _=_ by kernel_rfl)) (.inl (show _=_ by kernel_rfl)) (.inl (show _=_ by kernel_rfl))
 ·have l2:most<r.1:=of_decide_eq_true hb2.symm
  rw [if_pos ⟨l1,l2⟩]
  refine sT<|sC ?_
  refine sP (.int .u64 0)<|sP (.int .i64 0)<|sP (.int .i64 112) ?_
  refine sG<|Sy.ret<|Sy.then_ret ?_
  exact Sy.ret3 rfl (.inl (show _=_ by kernel_rfl)) (.inl (show _=_ by kernel_rfl)) (.inl (show _=_ by kernel_rfl))
theorem exec_max0 {F:Slots} {o:Oper} (x y:Operand) (ts:Array TypeId) (k:Nat) (ho:o.op=.call { callee:=.builtin .max,args:=#[x,y],argTypes:=ts }) (hx:evF F x=.int .i64 (k:Int)) (hy:evF F y=.int .i64 0) (w:World):(execOp (evF F) o).run Tryz.prog w=.ok (.value (.int .i64 (k:Int))) w:=by
 have h:(if (0:Int)>(k:Int) then (0:Int) else (k:Int))=(k:Int):=if_neg (by omega)
 unfold execOp
 simp only [ho,resolve,invoke,builtin,Sem.run_bind,Sem.run_pure,Result.andThen_ok,List.map_toArray,List.map_cons,List.map_nil,hx,hy,Builtin.max_,Builtin.max2,List.foldlM,h]
theorem lengthR_any (w:World) (v:Value) (b:Byt) (most:Nat) (hm:most<9223372036854775808) (hv:BytR (rdW w) v b):Calls Tryz.prog 226 #[v,.int .i64 (most:Int)] w (Gets w (t3V (vrN b most))):=by
 obtain ⟨r,hr⟩:∃ r,r=vrN b most:=⟨_,rfl⟩
 have hrf:=vrN_fit b most
 rw [← hr] at hrf ⊢
 refine Sy.enter (args:=[v,.int .i64 (most:Int)]) Tryz.func226 rfl kL ?_
 refine sC ?_
 refine sP (.int .u64 0)<|sP (.int .i64 0)<|sP (.int .i64 0) ?_
 refine sA ?_
 refine sp rfl<|sp rfl<|sS (.int .i64 (most:Int)) (Quiet.pure (exec_max0 _ _ _ most rfl rfl rfl))<|sS (.int .u64 (most:Int)) (Quiet.pure (λw=>conv_i6 w _ _ _ most (by omega) rfl rfl))<|sS (t3V r) (qg (λw' hw=>by rw [hr]; exact variableR_any w' _ _ most (by omega) (hv.at hw)))<|sp rfl<|sp rfl<|sp rfl<|sp rfl<|sp rfl<|sp rfl<|sp rfl ?_
 refine sG<|Sy.seq<|sC ?_
 obtain ⟨b1,hb1⟩:∃ z:Bool,z=decide (r.2.2=0):=⟨_,rfl⟩
 refine sp rfl<|sS (.bool b1) (Quiet.pure (exec_int .eql _ _ _ .i64 _ _ _ rfl rfl rfl (int_eql _ _ _ _ _ (by rw [hb1]; exact decide_eq_decide.2 (by omega)))))<|sp rfl ?_
 cases b1
 ·refine sN<|sN<|sP (.bool false) ?_
  refine sG<|sU<|Sy.skip<|sB ?_
  refine sp rfl<|sp rfl<|sp rfl<|sp rfl<|sp rfl<|sp rfl ?_
  refine sG<|Sy.ret ?_
  exact Sy.ret3 rfl (.inl (show _=_ by kernel_rfl)) (.inl (show _=_ by kernel_rfl)) (.inl (show _=_ by kernel_rfl))
 ·refine sp rfl<|sS (.bool false) (Quiet.pure (exec_int .lss _ _ _ .i64 _ _ _ rfl rfl rfl (int_lss _ _ _ _ _ (decide_eq_false (by omega)))))<|sP (.bool false) ?_
  refine sG<|sU<|Sy.skip<|sB ?_
  refine sp rfl<|sp rfl<|sp rfl<|sp rfl<|sp rfl<|sp rfl ?_
  refine sG<|Sy.ret ?_
  exact Sy.ret3 rfl (.inl (show _=_ by kernel_rfl)) (.inl (show _=_ by kernel_rfl)) (.inl (show _=_ by kernel_rfl))
end Wr
end
section
namespace Wr
open Go.RowKit Sy
set_option maxRecDepth 100000
set_option maxHeartbeats 4000000
abbrev RQ (gr:Nat) (sl:Value) (e:Nat) (R:Blocks):Blocks:=(gr,231,#[sl,.int .i64 (e:Int)])::R
def Rdd {α:Type} (p:Ps α) (val:α→Value→Prop) (w0:Base) (gr:Nat) (R S:Blocks) (s:RS) (v:Value) (M:Blocks):Prop :=
 ∃ x s' sl,After p s x s'∧val x v∧s'.e≤200∧s'.rest.length≤s.rest.length∧BytR (rdC w0 S) sl s'.rest∧M=RQ gr sl s'.e R
def RddN {α:Type} (p:Ps α) (val:α→Value→Blocks→Prop) (w0:Base) (gr:Nat) (R S:Blocks) (s:RS) (v:Value) (M:Blocks):Prop :=
 ∃ x s' sl N,After p s x s'∧val x v N∧s'.e≤200∧s'.rest.length≤s.rest.length∧BytR (rdC w0 S) sl s'.rest∧M=RQ gr sl s'.e (R++N)
theorem fail_any (w0:Base) (gr:Nat) (sl:Value) (e0 e:Nat) (he0:e0≤200) (R:Blocks) (w:World) (hw:St w0 w (RQ gr sl e0 R)) :
  Calls Tryz.prog 173 #[ptr gr,.int .i64 (e:Int)] w (Turns w0 (λ_ M=>M=RQ gr sl (if e0=0 then e else e0) R)):=by
 refine Sy.enterT (args:=[ptr gr,.int .i64 (e:Int)]) hw Tryz.func173 rfl kL ?_
 refine sC ?_
 obtain ⟨b1,hb1⟩:∃ z:Bool,z=decide (e0=0):=⟨_,rfl⟩
 refine sp rfl<|sp rfl<|sP (.pointer (some ⟨gr,1,none⟩))<|sS (.int .i64 (e0:Int)) (qc 0 1 rfl rfl Tryz.underlying39)<|sS (.bool b1) (Quiet.pure (exec_int .eql _ _ _ .i64 _ _ _ rfl rfl rfl (int_eql _ _ _ _ _ (by rw [hb1]; exact decide_eq_decide.2 (by omega))))) ?_
 refine sG ?_
 cases b1
 ·rw [if_neg (of_decide_eq_false hb1.symm)]
  refine sU<|Sy.skip ?_
  exact Sy.retT0 rfl (RQ gr sl e0 R) (λ_ h=>h) (λ_=>by rfl)
 ·rw [if_pos (of_decide_eq_true hb1.symm)]
  refine sT<|Sy.region ?_
  refine sp rfl<|sp rfl<|sp rfl<|sP (.pointer (some ⟨gr,1,none⟩))<|sw 0 rfl #[sl,.int .i64 (e:Int)] (wO 1 39 (.int .i64 (e:Int)) rfl) ?_
  refine Sy.nil ?_
  exact Sy.retT0 rfl (RQ gr sl e R) (λ_ h=>h) (λ_=>by rfl)
theorem number_any (p:Ps Nat) (w0:Base) (gr:Nat) (sl:Value) (s:RS) (R S:Blocks) (hS:∀ b∈S,b∈R) (n k e:Nat) (he0:s.e≤200) (he:e≤200) (hk:k≤200) (hn:n<18446744073709551616) (hy:e=0→p s.rest=some (n,s.rest.drop k)∧k≤s.rest.length) (hno:e≠0→p s.rest=none) (hv:BytR (rdC w0 S) sl s.rest) (w:World) (hw:St w0 w (RQ gr sl s.e R)) :
  Calls Tryz.prog 169 #[ptr gr,.int .u64 (n:Int),.int .i64 (k:Int),.int .i64 (e:Int)] w (Turns w0 (Rdd p (λx v=>v=.int .u64 (x:Int)∧x≤n) w0 gr R S s)):=by
 have hv0:=hv
 obtain ⟨A,m,cp,rfl,h2,h3,h4,h5⟩:=hv
 refine Sy.enterT (args:=[ptr gr,.int .u64 (n:Int),.int .i64 (k:Int),.int .i64 (e:Int)]) hw Tryz.func169 rfl kL ?_
 refine sC ?_
 refine sP (.int .u64 0) ?_
 refine sA ?_
 refine sp rfl<|sp rfl ?_
 refine Sy.callT (λw hw=>fail_any w0.inn gr (.slice A m cp) s.e e he0 R w hw) (λv M hM=>?_)
 subst hM
 obtain ⟨e1,he1⟩:∃ e1,e1=if s.e=0 then e else s.e:=⟨_,rfl⟩
 rw [← he1]
 have he2:e1≤200:=by rw [he1]; split <;> omega
 refine sG<|Sy.seq<|sC ?_
 obtain ⟨b1,hb1⟩:∃ z:Bool,z=decide (e1≠0):=⟨_,rfl⟩
 refine sp rfl<|sp rfl<|sP (.pointer (some ⟨gr,1,none⟩))<|sS (.int .i64 (e1:Int)) (qc 0 1 rfl rfl Tryz.underlying39)<|sS (.bool b1) (Quiet.pure (exec_int .neq _ _ _ .i64 _ _ _ rfl rfl rfl (int_neq _ _ _ _ _ (by rw [hb1]; exact decide_eq_decide.2 (by omega))))) ?_
 refine sG ?_
 cases b1
 ·have l1:e1=0:=Decidable.of_not_not (of_decide_eq_false hb1.symm)
  have l2:s.e=0∧e=0:=by
   rw [he1] at l1
   by_cases h:s.e=0
   ·rw [if_pos h] at l1; exact ⟨h,l1⟩
   ·rw [if_neg h] at l1; exact (h l1).elim
  obtain ⟨q1,q2⟩:=hy l2.2
  obtain ⟨A1,hA1⟩:∃ A1,sliced A k m cp 1=.slice A1 (m - k) (cp - k):=⟨_,rfl⟩
  have hv1:BytR (rdC w0 S) (.slice A1 (m - k) (cp - k)) (s.rest.drop k):=by rw [← hA1]; exact hv0.drop (by omega)
  refine sU<|Sy.skip<|sB ?_
  refine sp rfl<|sp rfl<|sp rfl<|sP (.pointer (some ⟨gr,0,none⟩))<|sS (.slice A m cp) (qc 0 0 rfl rfl Tryz.underlying29)<|sp rfl<|sS (.slice A1 (m - k) (cp - k)) (Quiet.pure (λw=>by rw [← hA1]; exact exec_sl _ _ _ m cp k rfl rfl rfl (by omega) w))<|sp rfl<|sP (.pointer (some ⟨gr,0,none⟩))<|sw 0 rfl #[.slice A1 (m - k) (cp - k),.int .i64 (e1:Int)] (wO 0 29 (.slice A1 (m - k) (cp - k)) rfl) ?_
  refine sA ?_
  refine sp rfl<|sp rfl ?_
  refine sG<|Sy.ret ?_
  refine Sy.retT1 (RQ gr (.slice A1 (m - k) (cp - k)) e1 R) rfl (.inl (show _=_ by kernel_rfl)) (λ_ h=>h) ⟨n,⟨s.rest.drop k,e1⟩,_,⟨λh=>(h l2.1).elim,λy r _ hp=>?_,λ_ hp=>?_⟩,⟨rfl,Nat.le_refl _⟩,he2,?_,hv1,rfl⟩
  ·rw [q1] at hp; cases hp; exact ⟨rfl,by rw [l1]⟩
  ·rw [q1] at hp; cases hp
  ·show (s.rest.drop k).length≤_; rw [List.length_drop]; omega
 ·have l1:e1≠0:=of_decide_eq_true hb1.symm
  refine sT<|sC ?_
  refine sP (.int .u64 0) ?_
  refine sG<|Sy.ret<|Sy.then_ret ?_
  refine Sy.retT1 (RQ gr (.slice A m cp) e1 R) rfl (.inl (show _=_ by kernel_rfl)) (λ_ h=>h) ⟨0,⟨s.rest,e1⟩,_,⟨λ_=>l1,λy r h0 hp=>?_,λ_ _=>l1⟩,⟨rfl,Nat.zero_le _⟩,he2,Nat.le_refl _,hv0,rfl⟩
  rw [he1,if_pos h0] at l1
  rw [hno l1] at hp; cases hp
theorem long9_any (w0:Base) (gr:Nat) (sl:Value) (s:RS) (R S:Blocks) (hS:∀ b∈S,b∈R) (he0:s.e≤200) (hv:BytR (rdC w0 S) sl s.rest) (w:World) (hw:St w0 w (RQ gr sl s.e R)) :
  Calls Tryz.prog 106 #[ptr gr] w (Turns w0 (Rdd (numP 8) (λx v=>v=.int .u64 (x:Int)∧x<18446744073709551616) w0 gr R S s)):=by
 obtain ⟨f,hf⟩:∃ f,f=fxN s.rest 8:=⟨_,rfl⟩
 obtain ⟨q1,q2,q3⟩:=fxN_fit s.rest 8 (by decide)
 have hy:=@fx_yes s.rest 8
 have hno:=@fx_no s.rest 8
 rw [← hf] at q1 q2 q3 hy hno
 refine Sy.enterT (args:=[ptr gr]) hw Tryz.func106 rfl kL ?_
 refine sC ?_
 refine sP (.int .u64 0) ?_
 refine sA ?_
 refine sp rfl<|sp rfl<|sp rfl<|sP (.pointer (some ⟨gr,0,none⟩))<|sS sl (qc 0 0 rfl rfl Tryz.underlying29)<|sS (t3V f) (qg (λw' hw=>by rw [hf]; exact fixedR_any w' _ _ 8 (by decide) (by decide) (hv.le (rdC_world (w0:=w0.inn) hw (λ_ h=>List.mem_cons_of_mem _ (hS _ h))))))<|sp rfl<|sp rfl<|sp rfl ?_
 refine Sy.callT (λw hw=>number_any (numP 8) w0.inn gr sl s R S hS f.1 f.2.1 f.2.2 he0 q3 (by omega) q1 (λh=>⟨(hy h).1,(hy h).2.1⟩) hno hv w hw) (λv M hM=>?_)
 obtain ⟨x,s',sl',hA,⟨rfl,hx⟩,h2,h3,h4,rfl⟩:=hM
 refine sp rfl ?_
 refine sG<|Sy.ret ?_
 exact Sy.retT1 (RQ gr sl' s'.e R) rfl (.inl (show _=_ by kernel_rfl)) (λ_ h=>h) ⟨x,s',sl',hA,⟨rfl,by omega⟩,h2,h3,h4,rfl⟩
theorem vrG_zero {b:Byt} (h:(vrG b).2.2≠0):(vrG b).1=0:=by
 have fz:∀ {b:Byt} {k:Nat},(fxN b k).2.2≠0→(fxN b k).1=0:=λ{b k} h=>by
  unfold fxN at h ⊢
  split at h
  ·rename_i hl; rw [if_pos hl]
  ·exact (h rfl).elim
 unfold vrG at h ⊢
 by_cases hc:253≤(fxN b 1).1
 ·rw [if_pos hc] at h ⊢
  unfold lgN at h ⊢
  by_cases h1:(fxN (b.drop 1) (wide (b.getD 0 0).toNat)).2.2=0
  ·rw [if_pos h1] at h ⊢
   by_cases h2:(fxN (b.drop 1) (wide (b.getD 0 0).toNat)).1<least (b.getD 0 0).toNat
   ·rw [if_pos h2]
   ·rw [if_neg h2] at h; exact (h rfl).elim
  ·rw [if_neg h1]
 ·rw [if_neg hc] at h ⊢
  exact fz h
theorem conv_6i (w:World) (F:Slots) (o:Oper) (x:Operand) (k:Nat) (hk:k<9223372036854775808) (ho:o.op=.convert 22 3 x) (hx:evF F x=.int .u64 (k:Int)):(execOp (evF F) o).run Tryz.prog w=.ok (.value (.int .i64 ((k:Nat):Int))) w:=by
 have h:(convert 22 3 (.int .u64 (k:Int))).run Tryz.prog w=.ok (.int .i64 ((k:Nat):Int)) w:=by
  go_simp
  exact wrap_i64 (by omega) (by omega)
 unfold execOp
 simp only [ho,hx,Sem.run_bind,h,Result.andThen_ok,Sem.run_pure]
theorem count_any (w0:Base) (gr:Nat) (sl:Value) (s:RS) (R S:Blocks) (hS:∀ b∈S,b∈R) (most:Nat) (hm:most<1000000) (he0:s.e≤200) (hv:BytR (rdC w0 S) sl s.rest) (w:World) (hw:St w0 w (RQ gr sl s.e R)) :
  Calls Tryz.prog 209 #[ptr gr,.int .i64 (most:Int)] w (Turns w0 (Rdd (varP most) (λx v=>v=.int .i64 (x:Int)∧x≤most) w0 gr R S s)):=by
 obtain ⟨f,hf⟩:∃ f,f=vrN s.rest most:=⟨_,rfl⟩
 obtain ⟨q1,q2,q3⟩:=vrN_fit s.rest most
 have hy:=@vr_yes s.rest most
 have hno:=@vr_no s.rest most
 have hlt:f.1≤most:=by
  by_cases h:f.2.2=0
  ·rw [hf] at h ⊢; exact (hy h).2.2
  ·rw [hf] at h ⊢
   have q:=vrG_fit s.rest
   unfold vrN at h ⊢
   by_cases hc:(vrG s.rest).2.2=0∧most<(vrG s.rest).1
   ·rw [if_pos hc]; exact Nat.zero_le _
   ·rw [if_neg hc] at h ⊢
    rw [vrG_zero h]; exact Nat.zero_le _
 rw [← hf] at q1 q2 q3 hy hno
 refine Sy.enterT (args:=[ptr gr,.int .i64 (most:Int)]) hw Tryz.func209 rfl kL ?_
 refine sC ?_
 refine sP (.int .i64 0) ?_
 refine sA ?_
 refine sp rfl<|sp rfl<|sp rfl<|sP (.pointer (some ⟨gr,0,none⟩))<|sS sl (qc 0 0 rfl rfl Tryz.underlying29)<|sp rfl<|sS (t3V f) (qg (λw' hw=>by rw [hf]; exact lengthR_any w' _ _ most (by omega) (hv.le (rdC_world (w0:=w0.inn) hw (λ_ h=>List.mem_cons_of_mem _ (hS _ h))))))<|sp rfl<|sp rfl<|sp rfl ?_
 refine Sy.callT (λw hw=>number_any (varP most) w0.inn gr sl s R S hS f.1 f.2.1 f.2.2 he0 q3 (by omega) q1 (λh=>⟨(hy h).1,(hy h).2.1⟩) hno hv w hw) (λv M hM=>?_)
 obtain ⟨x,s',sl',hA,⟨rfl,hx⟩,h2,h3,h4,rfl⟩:=hM
 refine sS (.int .i64 (x:Int)) (Quiet.pure (λw=>conv_6i w _ _ _ x (by omega) rfl rfl))<|sp rfl ?_
 refine sG<|Sy.ret ?_
 exact Sy.retT1 (RQ gr sl' s'.e R) rfl (.inl (show _=_ by kernel_rfl)) (λ_ h=>h) ⟨x,s',sl',hA,⟨rfl,by omega⟩,h2,h3,h4,rfl⟩
theorem err_any (w0:Base) (gr:Nat) (sl:Value) (e:Nat) (R:Blocks) {L:Blocks} (hL:(gr,231,#[sl,.int .i64 (e:Int)])∈L) (w:World) (hw:St w0 w L) :
  Calls Tryz.prog 172 #[ptr gr] w (Gets w (.int .i64 (e:Int))):=by
 have hb:=(hw.blk _ _ _ hL).2
 have hlt:=hb.lt
 refine Sy.enter (args:=[ptr gr]) Tryz.func172 rfl kL ?_
 refine sC ?_
 refine sP (.int .i64 0) ?_
 refine sA ?_
 refine sp rfl<|sp rfl<|sP (.pointer (some ⟨gr,1,none⟩))<|sS (.int .i64 (e:Int)) (Quiet.thereOne gr 1 39 _ _ rfl kR hlt _ (hb.cell 1) Tryz.underlying39 rfl)<|sp rfl ?_
 refine sG<|Sy.ret ?_
 exact rV (.int .i64 (e:Int)) rfl
theorem end_any (w0:Base) (gr:Nat) (sl:Value) (s:RS) (R:Blocks) (he0:s.e≤200) (hv:BytR (rdC w0 R) sl s.rest) {L:Blocks} (hL:(gr,231,#[sl,.int .i64 (s.e:Int)])∈L) (w:World) (hw:St w0 w L) :
  Calls Tryz.prog 67 #[ptr gr] w (Gets w (.int .i64 ((if s.e=0∧0<s.rest.length then 113 else s.e:Nat):Int))):=by
 have hb:=(hw.blk _ _ _ hL).2
 have hlt:=hb.lt
 obtain ⟨A,m,cp,rfl,h2,h3,h4,h5⟩:=hv
 obtain ⟨e,he⟩:∃ e,e=s.e:=⟨_,rfl⟩
 rw [← he] at he0 hb ⊢
 rw [h2]
 refine Sy.enter (args:=[ptr gr]) Tryz.func67 rfl kL ?_
 refine sC ?_
 refine sP (.int .i64 0) ?_
 refine sG<|Sy.seq<|sC ?_
 obtain ⟨b1,hb1⟩:∃ z:Bool,z=decide (e=0):=⟨_,rfl⟩
 refine sp rfl<|sp rfl<|sP (.pointer (some ⟨gr,1,none⟩))<|sS (.int .i64 (e:Int)) (Quiet.thereOne gr 1 39 _ _ rfl kR hlt _ (hb.cell 1) Tryz.underlying39 rfl)<|sS (.bool b1) (Quiet.pure (exec_int .eql _ _ _ .i64 _ _ _ rfl rfl rfl (int_eql _ _ _ _ _ (by rw [hb1]; exact decide_eq_decide.2 (by omega)))))<|sp rfl ?_
 cases b1
 ·have l1:e≠0:=of_decide_eq_false hb1.symm
  rw [if_neg (λh=>l1 h.1)]
  refine sN<|sN<|sN<|sN<|sN<|sN<|sP (.bool false) ?_
  refine sG<|sU<|Sy.skip<|sB ?_
  refine sp rfl<|sp rfl<|sP (.pointer (some ⟨gr,1,none⟩))<|sS (.int .i64 (e:Int)) (Quiet.thereOne gr 1 39 _ _ rfl kR hlt _ (hb.cell 1) Tryz.underlying39 rfl)<|sp rfl ?_
  refine sG<|Sy.ret ?_
  exact rV (.int .i64 (e:Int)) rfl
 ·have l1:e=0:=of_decide_eq_true hb1.symm
  obtain ⟨b2,hb2⟩:∃ z:Bool,z=decide (0<m):=⟨_,rfl⟩
  refine sp rfl<|sp rfl<|sP (.pointer (some ⟨gr,0,none⟩))<|sS (.slice A m cp) (Quiet.thereOne gr 0 29 _ _ rfl kR hlt _ (hb.cell 0) Tryz.underlying29 rfl)<|sP (.int .i64 (m:Int))<|sS (.bool b2) (Quiet.pure (exec_int .gtr _ _ _ .i64 _ _ _ rfl rfl rfl (int_gtr _ _ _ _ _ (by rw [hb2]; exact decide_eq_decide.2 (by omega)))))<|sP (.bool b2) ?_
  refine sG ?_
  cases b2
  ·have l2:¬ 0<m:=of_decide_eq_false hb2.symm
   rw [if_neg (λh=>l2 h.2)]
   refine sU<|Sy.skip<|sB ?_
   refine sp rfl<|sp rfl<|sP (.pointer (some ⟨gr,1,none⟩))<|sS (.int .i64 (e:Int)) (Quiet.thereOne gr 1 39 _ _ rfl kR hlt _ (hb.cell 1) Tryz.underlying39 rfl)<|sp rfl ?_
   refine sG<|Sy.ret ?_
   exact rV (.int .i64 (e:Int)) rfl
  ·have l2:0<m:=of_decide_eq_true hb2.symm
   rw [if_pos ⟨l1,l2⟩]
   refine sT<|sC ?_
   refine sP (.int .i64 113) ?_
   refine sG<|Sy.ret<|Sy.then_ret ?_
   exact rV (.int .i64 113) rfl
theorem piece_any (p:Ps Byt) (w0:Base) (gr:Nat) (sl:Value) (s:RS) (R S:Blocks) (hS:∀ b∈S,b∈R) (f t e:Nat) (he0:s.e≤200) (he:e≤200) (hl:s.rest.length≤70368744177664) (hy:e=0→f≤t∧t≤s.rest.length∧p s.rest=some ((s.rest.drop f).take (t - f),s.rest.drop t)) (hno:e≠0→p s.rest=none) (hv:BytR (rdC w0 S) sl s.rest) (w:World) (hw:St w0 w (RQ gr sl s.e R)) :
  Calls Tryz.prog 227 #[ptr gr,.int .i64 (f:Int),.int .i64 (t:Int),.int .i64 (e:Int)] w (Turns w0 (RddN p (λx v N=>ByN x v N∧(v=.slice none 0 0∧N=[]∧x=[]∨x.length=t - f)) w0 gr R S s)):=by
 have hv0:=hv
 obtain ⟨A,m,cp,rfl,h2,h3,h4,h5⟩:=hv
 refine Sy.enterT (args:=[ptr gr,.int .i64 (f:Int),.int .i64 (t:Int),.int .i64 (e:Int)]) hw Tryz.func227 rfl kL ?_
 refine sC ?_
 refine sP (.slice none 0 0) ?_
 refine sA ?_
 refine sp rfl<|sp rfl ?_
 refine Sy.callT (λw hw=>fail_any w0.inn gr (.slice A m cp) s.e e he0 R w hw) (λv M hM=>?_)
 subst hM
 obtain ⟨e1,he1⟩:∃ e1,e1=if s.e=0 then e else s.e:=⟨_,rfl⟩
 rw [← he1]
 have he2:e1≤200:=by rw [he1]; split <;> omega
 refine sG<|Sy.seq<|sC ?_
 obtain ⟨b1,hb1⟩:∃ z:Bool,z=decide (e1≠0):=⟨_,rfl⟩
 refine sp rfl<|sp rfl<|sP (.pointer (some ⟨gr,1,none⟩))<|sS (.int .i64 (e1:Int)) (qc 0 1 rfl rfl Tryz.underlying39)<|sS (.bool b1) (Quiet.pure (exec_int .neq _ _ _ .i64 _ _ _ rfl rfl rfl (int_neq _ _ _ _ _ (by rw [hb1]; exact decide_eq_decide.2 (by omega))))) ?_
 refine sG ?_
 cases b1
 ·have l1:e1=0:=Decidable.of_not_not (of_decide_eq_false hb1.symm)
  have l2:s.e=0∧e=0:=by
   rw [he1] at l1
   by_cases h:s.e=0
   ·rw [if_pos h] at l1; exact ⟨h,l1⟩
   ·rw [if_neg h] at l1; exact (h l1).elim
  obtain ⟨q1,q2,q3⟩:=hy l2.2
  obtain ⟨A1,hA1⟩:∃ A1,sliced A t m cp 1=.slice A1 (m - t) (cp - t):=⟨_,rfl⟩
  have hv1:BytR (rdC w0 S) (.slice A1 (m - t) (cp - t)) (s.rest.drop t):=by rw [← hA1]; exact hv0.drop (by omega)
  obtain ⟨A2,hA2⟩:∃ A2,sliced A f t cp 1=.slice A2 (t - f) (cp - f):=⟨_,rfl⟩
  obtain ⟨x,hx⟩:∃ x,x=(s.rest.drop f).take (t - f):=⟨_,rfl⟩
  have hv2:BytR (rdC w0 S) (.slice A2 (t - f) (cp - f)) x:=by rw [← hA2,hx]; exact hv0.slice q1 (by omega)
  rw [← hx] at q3
  have hxl:x.length≤70368744177664:=by rw [hx,List.length_take,List.length_drop]; omega
  refine sU<|Sy.skip<|sB ?_
  refine sp rfl<|sp rfl<|sP (.pointer (some ⟨gr,0,none⟩))<|sS (.slice A m cp) (qc 0 0 rfl rfl Tryz.underlying29)<|sp rfl<|sp rfl<|sS (.slice A2 (t - f) (cp - f)) (Quiet.pure (λw=>by rw [← hA2]; exact exec_slh _ _ _ _ m cp f t rfl rfl rfl rfl q1 (by omega) w)) ?_
  refine Sy.callN kR 103 #[.slice A2 (t - f) (cp - f)] kF (ByN x) (λw' hw=>clone_any w' _ x (hv2.le (rdC_world (w0:=w0.inn) hw (λ_ h=>List.mem_cons_of_mem _ (hS _ h)))) hxl) (λu N hN=>?_)
  refine sp rfl ?_
  refine sA ?_
  refine sp rfl<|sp rfl<|sp rfl<|sP (.pointer (some ⟨gr,0,none⟩))<|sS (.slice A m cp) (qc 0 0 rfl rfl Tryz.underlying29)<|sp rfl<|sS (.slice A1 (m - t) (cp - t)) (Quiet.pure (λw=>by rw [← hA1]; exact exec_sl _ _ _ m cp t rfl rfl rfl (by omega) w))<|sp rfl<|sP (.pointer (some ⟨gr,0,none⟩))<|sw 0 rfl #[.slice A1 (m - t) (cp - t),.int .i64 (e1:Int)] (wO 0 29 (.slice A1 (m - t) (cp - t)) rfl) ?_
  refine sA ?_
  refine sp rfl<|sp rfl ?_
  refine sG<|Sy.ret ?_
  refine Sy.retT1 (RQ gr (.slice A1 (m - t) (cp - t)) e1 (R++N)) rfl (.inl (show _=_ by kernel_rfl)) (λ_ h=>h) ⟨x,⟨s.rest.drop t,e1⟩,_,N,⟨λh=>(h l2.1).elim,λy r _ hp=>?_,λ_ hp=>?_⟩,⟨hN,.inr (by rw [hx,List.length_take,List.length_drop]; omega)⟩,he2,?_,hv1,rfl⟩
  ·rw [q3] at hp; cases hp; exact ⟨rfl,by rw [l1]⟩
  ·rw [q3] at hp; cases hp
  ·show (s.rest.drop t).length≤_; rw [List.length_drop]; omega
 ·have l1:e1≠0:=of_decide_eq_true hb1.symm
  refine sT<|sC ?_
  refine sP (.slice none 0 0) ?_
  refine sG<|Sy.ret<|Sy.then_ret ?_
  refine Sy.retT1 (RQ gr (.slice A m cp) e1 R) rfl (.inl (show _=_ by kernel_rfl)) (λ_ h=>h) ⟨[],⟨s.rest,e1⟩,_,[],⟨λ_=>l1,λy r h0 hp=>?_,λ_ _=>l1⟩,⟨⟨none,0,0,rfl,Slc.Is.nil _ _⟩,.inl ⟨rfl,rfl,rfl⟩⟩,he2,Nat.le_refl _,hv0,by rw [List.append_nil]⟩
  rw [he1,if_pos h0] at l1
  rw [hno l1] at hp; cases hp
end Wr
end
section
namespace Wr
open Go.RowKit Sy
set_option maxRecDepth 100000
set_option maxHeartbeats 4000000
def XAt (C:Rdr) (g f:Nat) (cs:List Value):Prop:=∀ i u,cs[i]? = some u→C g (f+i) u
theorem XAt.le {C D:Rdr} (hl:Le C D) {g f:Nat} {cs:List Value} (h:XAt C g f cs):XAt D g f cs:=λi u hu=>hl _ _ _ (h i u hu)
theorem XAt.left {C:Rdr} {g f:Nat} {a b:List Value} (h:XAt C g f (a++b)):XAt C g f a:=λi u hu=>h i u (by rw [List.getElem?_append_left (List.getElem?_eq_some_iff.1 hu).1]; exact hu)
theorem XAt.right {C:Rdr} {g f n:Nat} {a b:List Value} (h:XAt C g f (a++b)) (hn:a.length=n):XAt C g (f+n) b:=λi u hu=>by
 subst hn
 rw [Nat.add_assoc]
 exact h _ u (by rw [List.getElem?_append_right (by omega),Nat.add_sub_cancel_left]; exact hu)
theorem XAt.one {C:Rdr} {g f:Nat} {v:Value} {l:List Value} (h:XAt C g f (v::l)):C g f v:=h 0 v rfl
theorem XAt.tail {C:Rdr} {g f:Nat} {v:Value} {l:List Value} (h:XAt C g f (v::l)):XAt C g (f+1) l:=h.right (a:=[v]) rfl
theorem XAt.byt {C:Rdr} {g f n:Nat} {x:Byt} (h:XAt C g f (x.map bv)) (hn:x.length=n) (hm:n≤1000000):BytR C (.slice (some ⟨g,f,none⟩) n n) x :=
 ⟨_,_,_,rfl,hn,Nat.le_refl _,by simp only [maxLen]; omega,λ_=>⟨g,f,rfl,λj u hu=>h j (bv u) (by rw [List.getElem?_map,hu]; rfl)⟩⟩
section
variable {P:Program} {w0:Base} {F:Slots} {L R:Blocks} {o:Oper}
theorem cellC {x:Operand} {d:TypeDesc} {ty:TypeId} {v:Value} {g f:Nat} (hc:rdC w0 R g f v) (hR:∀ b∈R,b∈L) (ho:o.op=.load ty x) (hu:P.underlying ty=some d) (hx:evF F x=.pointer (some ⟨g,f,none⟩):=by kernel_rfl) (hd:d.isRow=false:=by rfl):Quiet P w0 F L o v:=λw hw=>by
 have hc:w.cell? ⟨g,f,none⟩=some v:=(rdC_world hw hR _ _ _ hc).2
 have ha:(isAgg ty).run P w=.ok false w:=by
  cases d <;> first | (cases hd; done) | simp [isAgg,underlying,hu]
 unfold Gives execOp
 simp only [ho,hx,Instr.loadAt,Instr.sureAddr,Sem.run_bind,Sem.run_pure,Result.andThen_ok,loadVar,ha,Bool.false_eq_true,if_false,run_load,hc]
 exact ⟨trivial,Gr.refl _⟩
theorem rowC {x:Operand} {d:TypeDesc} {ty:TypeId} {g f k:Nat} {cs:List Value} (hc:XAt (rdC w0 R) g f cs) (hR:∀ b∈R,b∈L) (hl:cs.length=k) (ho:o.op=.load ty x) (hu:P.underlying ty=some d) (hx:evF F x=.pointer (some ⟨g,f,none⟩):=by kernel_rfl) (hd:d.isRow=true:=by rfl) (hi:(P.info? ty).map (·.size)=some k:=by kernel_rfl):Quiet P w0 F L o (.agg cs.toArray):=λw hw=>by
 have hl:=run_loadVar_mid (P:=P) w g f ty cs d (λj u hj=>(rdC_world hw hR _ _ _ (hc j u hj)).2) hu hd (by rw [hi,hl])
 unfold Gives execOp
 simp only [ho,hx,Instr.loadAt,Instr.sureAddr,Sem.run_bind,Sem.run_pure,Result.andThen_ok,hl]
 exact ⟨trivial,Gr.refl _⟩
end
theorem permCW {c w:Nat×TypeId×Array Value} {A R:Blocks}:(c::([w]++(A++R))).Perm ([w]++(A++(c::R))):=by
 have h1:(c::([w]++(A++R))).Perm (w::(c::(A++R))):=List.Perm.swap _ _ _
 exact h1.trans (List.Perm.cons w (List.perm_middle.symm))
abbrev CWS (gc gw:Nat) (bad:Bool) (s:Slc) (R:Blocks):Blocks:=(gc,126,#[ptr gw,.pointer none,.bool bad])::WS gw s R
def WrC (gc gw:Nat) (R:Blocks) (ok:Bool) (e:Byt) (k:Nat) (bad:Bool) (b:Byt) (_:Value) (M:Blocks):Prop:=∃ s' bad' b',Wrote ok e k bad b bad' b'∧BS s' b'∧M=CWS gc gw bad' s' R
theorem inCW {gc gw:Nat} {bad:Bool} {s:Slc} {R:Blocks}:∀ x∈R,x∈CWS gc gw bad s R:=λx hx=>List.mem_cons_of_mem _ (List.mem_append_right _ (List.mem_append_right _ hx))
theorem reads_w (w0:Base) (gc:Nat) (a c:Value) {L:Blocks} (hL:(gc,126,#[a,.pointer none,c])∈L) (w:World) (hw:St w0 w L):Calls Tryz.prog 107 #[ptr gc] w (Gets w (.bool false)):=by
 have hb:=(hw.blk _ _ _ hL).2
 have hlt:=hb.lt
 refine Sy.enter (args:=[ptr gc]) Tryz.func107 rfl kL ?_
 refine sC ?_
 refine sP (.bool false) ?_
 refine sA ?_
 refine sp rfl<|sp rfl<|sP (.pointer (some ⟨gc,1,none⟩))<|sS (.pointer none) (Quiet.thereOne gc 1 124 _ _ rfl kR hlt _ (hb.cell 1) Tryz.underlying124 rfl)<|sP (.bool false)<|sp rfl ?_
 refine sG<|Sy.ret ?_
 exact rV (.bool false) rfl
theorem must_w (w0:Base) (gc gw:Nat) (bad h:Bool) (s:Slc) (R:Blocks) (w:World) (hw:St w0 w (CWS gc gw bad s R)) :
  Calls Tryz.prog 110 #[ptr gc,.bool h] w (Turns w0 (λ_ M=>M=CWS gc gw (bad || !h) s R)):=by
 refine Sy.enterT (args:=[ptr gc,.bool h]) hw Tryz.func110 rfl kL ?_
 refine Sy.block<|sC ?_
 refine sp rfl<|sp rfl ?_
 refine sG ?_
 cases h
 ·rw [show (bad || !false)=true by cases bad <;> rfl]
  refine sU<|sC ?_
  refine sp rfl<|sS (.bool false) (qg (λw hw=>reads_w w0.inn gc _ _ (List.mem_cons_self ..) w hw))<|sp rfl ?_
  refine sG<|sU<|Sy.region ?_
  refine sp rfl<|sp rfl<|sP (.pointer (some ⟨gc,2,none⟩))<|sw 0 rfl #[ptr gw,.pointer none,.bool true] (wO 2 4 (.bool true) rfl) ?_
  refine Sy.nil<|Sy.in_ ?_
  exact Sy.retT0 rfl (CWS gc gw true s R) (λ_ h=>h) (λ_=>by rfl)
 ·rw [show (bad || !true)=bad by cases bad <;> rfl]
  refine sT<|Sy.skip<|Sy.in_ ?_
  exact Sy.retT0 rfl (CWS gc gw bad s R) (λ_ h=>h) (λ_=>by rfl)
theorem raw_w (w0:Base) (gc gw:Nat) (bad:Bool) (s:Slc) (R:Blocks) (b x:Byt) (v:Value) (hv:BytR (rdC w0 R) v x) (hb:BS s b) (hl:b.length+x.length≤70368744177000) (w:World) (hw:St w0 w (CWS gc gw bad s R)) :
  Calls Tryz.prog 137 #[ptr gc,v] w (Turns w0 (WrC gc gw R true x x.length bad b)):=by
 refine Sy.enterT (args:=[ptr gc,v]) hw Tryz.func137 rfl kL ?_
 refine sC ?_
 refine sp rfl<|sS (.bool false) (qg (λw hw=>reads_w w0.inn gc _ _ (List.mem_cons_self ..) w hw)) ?_
 refine sG<|sU<|Sy.region ?_
 refine sp rfl<|sp rfl<|sP (.pointer (some ⟨gc,0,none⟩))<|sS (ptr gw) (qc 0 0 rfl rfl Tryz.underlying122)<|sp rfl ?_
 refine Sy.callT (λw hw=>raw_any w0.inn gw s ((gc,126,#[ptr gw,.pointer none,.bool bad])::R) b x v (hv.le (rdC_le (λ_ h=>List.mem_cons_of_mem _ h))) hb (by omega) w (hw.perm permCW)) (λu M hM=>?_)
 obtain ⟨s1,hs1,rfl⟩:=hM
 refine Sy.permS permCW.symm ?_
 refine Sy.nil ?_
 exact Sy.retT0 rfl (CWS gc gw bad s1 R) (λ_ h=>h) (λ_=>⟨s1,bad,b++x,Wrote.raw x bad b (Nat.le_refl _),hs1,rfl⟩)
theorem digest_w (w0:Base) (gc gw gx f:Nat) (bad:Bool) (s:Slc) (R:Blocks) (b x:Byt) (hx:x.length=32) (hc:XAt (rdC w0 R) gx f (x.map bv)) (hb:BS s b) (hl:b.length+32≤70368744177000) (w:World) (hw:St w0 w (CWS gc gw bad s R)) :
  Calls Tryz.prog 130 #[ptr gc,.pointer (some ⟨gx,f,none⟩)] w (Turns w0 (WrC gc gw R true x 32 bad b)):=by
 refine Sy.enterT (args:=[ptr gc,.pointer (some ⟨gx,f,none⟩)]) hw Tryz.func130 rfl kL ?_
 refine Sy.region ?_
 refine sp rfl<|sp rfl<|sp rfl<|sP (.slice (some ⟨gx,f,none⟩) 32 32) ?_
 refine Sy.callT (λw hw=>raw_w w0.inn gc gw bad s R b x _ (hc.byt hx (by decide)) hb (by omega) w hw) (λu M hM=>?_)
 obtain ⟨s1,bad1,b1,h1,h2,rfl⟩:=hM
 refine Sy.nil ?_
 exact Sy.retT0 rfl (CWS gc gw bad1 s1 R) (λ_ h=>h) (λ_=>⟨s1,bad1,b1,hx ▸ h1,h2,rfl⟩)
theorem long_w (w0:Base) (gc gw gx f:Nat) (bad:Bool) (s:Slc) (R:Blocks) (b:Byt) (n:Nat) (hn:n<18446744073709551616) (hc:rdC w0 R gx f (.int .u64 (n:Int))) (hb:BS s b) (hl:b.length+8≤70368744177000) (w:World) (hw:St w0 w (CWS gc gw bad s R)) :
  Calls Tryz.prog 61 #[ptr gc,.pointer (some ⟨gx,f,none⟩)] w (Turns w0 (WrC gc gw R true (nb 8 n) 8 bad b)):=by
 have item:∀ w,St w0.inn w (CWS gc gw bad s R)→Calls Tryz.prog 104 #[ptr gc,.pointer (some ⟨gx,f,none⟩),.func (.func 105) #[] #[],.func (.func 106) #[] #[]] w (Turns w0.inn (WrC gc gw R true (nb 8 n) 8 bad b)):=λw hw=>by
  refine Sy.enterT (args:=[ptr gc,.pointer (some ⟨gx,f,none⟩),.func (.func 105) #[] #[],.func (.func 106) #[] #[]]) hw Tryz.func104 rfl kL ?_
  refine sC ?_
  refine sp rfl<|sS (.bool false) (qg (λw hw=>reads_w w0.inn gc _ _ (List.mem_cons_self ..) w hw)) ?_
  refine sG<|sU ?_
  refine Sy.regionD (λj=>j == 8) kR ?_
  refine sa 0 rfl rfl<|sa 1 rfl rfl<|sa 2 rfl rfl<|sb 3 rfl (.pointer (some ⟨gc,0,none⟩))<|sD 4 rfl (ptr gw) (qc 0 0 rfl rfl Tryz.underlying122)<|sa 5 rfl rfl<|sa 6 rfl rfl<|sD 7 rfl (.int .u64 (n:Int)) (cellC (R:=R) hc inCW rfl Tryz.underlying22) ?_
  refine Sy.soleD 8 rfl (λQ2 hq2=>?_)
  refine Sy.callT (λw hw=>long_any w0.inn gw s ((gc,126,#[ptr gw,.pointer none,.bool bad])::R) b n hn hb (by omega) w (hw.perm permCW)) (λu M hM=>?_)
  obtain ⟨s1,hs1,rfl⟩:=hM
  refine Sy.permS permCW.symm ?_
  refine hq2 _ _ ?_
  refine sE ?_
  exact Sy.retT0 rfl (CWS gc gw bad s1 R) (λ_ h=>h) (λ_=>⟨s1,bad,b++nb 8 n,Wrote.raw _ bad b (by rw [nb_len]; exact Nat.le_refl _),hs1,rfl⟩)
 refine Sy.enterT (args:=[ptr gc,.pointer (some ⟨gx,f,none⟩)]) hw Tryz.func61 rfl kL ?_
 refine Sy.region ?_
 refine sp rfl<|sp rfl ?_
 refine Sy.callT (λw hw=>item w hw) (λu M hM=>?_)
 obtain ⟨s1,bad1,b1,h1,h2,rfl⟩:=hM
 refine Sy.nil ?_
 exact Sy.retT0 rfl (CWS gc gw bad1 s1 R) (λ_ h=>h) (λ_=>⟨s1,bad1,b1,h1,h2,rfl⟩)
end Wr
end
section
namespace Wr
open Go.RowKit Sy
set_option maxRecDepth 100000
set_option maxHeartbeats 4000000
def LstR {α:Type} (C:Rdr) (k:Nat) (rep:Rdr→List Value→α→Prop) (v:Value) (l:List α):Prop:=∃ A n cp,v=.slice A n cp∧l.length=n∧n≤cp∧cp≤maxLen∧(l≠[]→∃ g o,A=some ⟨g,o,none⟩∧∀ j x,l[j]? = some x→∃ cs:List Value,cs.length=k∧(∀ u∈cs,u.oneCell'=true)∧rep C cs x∧XAt C g (o+j*k) cs)
def Mono {α:Type} (rep:Rdr→List Value→α→Prop):Prop:=∀ {C D:Rdr} {cs:List Value} {x:α},Le C D→rep C cs x→rep D cs x
theorem LstR.le {α:Type} {C D:Rdr} {k:Nat} {rep:Rdr→List Value→α→Prop} (hm:Mono rep) {v:Value} {l:List α} (hl:Le C D) (h:LstR C k rep v l):LstR D k rep v l:=by
 obtain ⟨A,n,cp,h1,h2,h3,h4,h5⟩:=h
 refine ⟨A,n,cp,h1,h2,h3,h4,λhne=>?_⟩
 obtain ⟨g,o,e,hq⟩:=h5 hne
 refine ⟨g,o,e,λj x hx=>?_⟩
 obtain ⟨cs,q1,q2,q3,q4⟩:=hq j x hx
 exact ⟨cs,q1,q2,hm hl q3,q4.le hl⟩
def PutC {α:Type} (fn:FuncId) (k:Nat) (rep:Rdr→List Value→α→Prop) (ok:α→Bool) (enc:α→Byt) (wt:α→Nat):Prop :=
 ∀ (w0:Base) (gc gw gx f:Nat) (bad:Bool) (s:Slc) (R:Blocks) (b:Byt) (cs:List Value) (x:α),rep (rdC w0 R) cs x→cs.length=k→XAt (rdC w0 R) gx f cs→BS s b→b.length+wt x≤70368744170000→∀ w,St w0 w (CWS gc gw bad s R) →
  Calls Tryz.prog fn #[ptr gc,.pointer (some ⟨gx,f,none⟩)] w (Turns w0 (WrC gc gw R (ok x) (enc x) (wt x) bad b))
theorem eqCW {gc gw:Nat} {bad:Bool} {s:Slc} {R N:Blocks}:CWS gc gw bad s R++N=CWS gc gw bad s (R++N):=by
 show _::(([_]++(s.bl++R))++N)=_::([_]++(s.bl++(R++N)))
 rw [List.append_assoc,List.append_assoc]
theorem dropR {w0:Base} {w:World} {gc gw:Nat} {bad:Bool} {s:Slc} {R N:Blocks} (h:St w0 w (CWS gc gw bad s (R++N))):St w0 w (CWS gc gw bad s R):=by
 rw [← eqCW] at h
 exact h.less (List.sublist_append_left _ _)
theorem memX {w0:Base} {R:Blocks} {g:Nat} {t:TypeId} {cs:List Value} (h:(g,t,cs.toArray)∈R):XAt (rdC w0 R) g 0 cs:=λi u hu=>.inr ⟨t,cs.toArray,h,by rw [Nat.zero_add,List.getElem?_toArray]; exact hu⟩
theorem mem1 {w0:Base} {R:Blocks} {g:Nat} {t:TypeId} {v:Value} (h:(g,t,#[v])∈R):rdC w0 R g 0 v:=.inr ⟨t,#[v],h,rfl⟩
theorem lastR {R:Blocks} {b:Nat×TypeId×Array Value}:b∈R++[b]:=List.mem_append_right _ (List.mem_singleton.2 rfl)
theorem inA {R N:Blocks} {b:Nat×TypeId×Array Value} (h:b∈R):b∈R++N:=List.mem_append_left _ h
theorem run_boxR {P:Program} {F:Slots} {o:Oper} {t:TypeId} {x:Operand} {cs:List Value} {k:Nat} (ho:o.op=.box t x) (hx:evF F x=.agg cs.toArray) (hi:(P.info? t).map (·.size)=some k) (hl:cs.length=k) (w:World):(execOp (evF F) o).run P w=.ok (.value (ptr w.heap.size)) (w.alloc (.cells cs.toArray t)):=by
 unfold execOp
 simp only [ho,hx,Sem.run_bind,Instr.box]
 simp [newVar,newRow,Value.cells,ptr,Result.andThen]
end Wr
end
section
namespace Sy
open Go.RowKit
section
variable {P:Program} {w0:Base} {n:Nat} {Q:Exit→Act→World→Prop} {F:Slots} {L:Blocks}
theorem retGM2 {w1:World} {fn:Func} {r s:ResultVar} {v u:Value} {R:Value→Blocks→Prop} (M:Blocks) (hr:fn.results=#[r,s]) (h:Has P F L r v) (k:Has P F L s u) (hM:∀ w,St (Base.of w1) w L→St (Base.of w1) w M) (hR:R (.tuple #[v,u]) M):X (Base.of w1) n (bodyPost P fn (GetsN w1 R)) F L .ret:=λa w ha hw=>by
 refine bodyPost_ret (v:=.tuple #[v,u]) ?_ ha.1 ⟨_,M,rfl,hR,hw.below,λg t cs hm=>(hM w hw).blk g t cs hm,(hM w hw).apart⟩
 rcases Res.run h ha hw with ⟨t,rfl,e1⟩ | ⟨t,ty,ad,rfl,e1,e2⟩ <;> rcases Res.run k ha hw with ⟨t',rfl,f1⟩ | ⟨t',ty',ad',rfl,f1,f2⟩ <;> simp [results,Result.andThen, *]
theorem St.none {w:World} (h:St w0 w L):St w0 w []:=h.less (List.nil_sublist _)
end
section
variable {pre A B C D M N:Blocks}
end
end Sy
end
section
namespace Wr
open Go.RowKit Sy
set_option maxRecDepth 100000
set_option maxHeartbeats 4000000
def repMO (_:Rdr) (cs:List Value) (o:MOut):Prop:=cs=.int .u64 (o.value:Int)::o.claim.map bv∧o.value<18446744073709551616∧o.claim.length=32
theorem monoMO:Mono repMO:=λ_ h=>h
def repMT (C:Rdr) (cs:List Value) (t:MTx):Prop:=∃ v,cs=[.int .u64 (t.nonce:Int),v]∧t.nonce<18446744073709551616∧LstR C 33 repMO v t.outs
theorem monoMT:Mono repMT:=λhl ⟨v,h1,h2,h3⟩=>⟨v,h1,h2,LstR.le (rep:=repMO) monoMO hl h3⟩
def repMH (_:Rdr) (cs:List Value) (h:MHd):Prop:=cs=h.prev.map bv++(h.root.map bv++[.int .u64 (h.height:Int),.int .u64 (h.nonce:Int)])∧h.prev.length=32∧h.root.length=32∧h.height<18446744073709551616∧h.nonce<18446744073709551616
theorem monoMH:Mono repMH:=λ_ h=>h
theorem mainOut_w:PutC 143 33 repMO (λ_=>true) encMO (λ_=>40):=λw0 gc gw gx f bad s R b cs x hx _ hc hb hl w hw=>by
 obtain ⟨rfl,h1,h2⟩:=hx
 refine Sy.enterT (args:=[ptr gc,.pointer (some ⟨gx,f,none⟩)]) hw Tryz.func143 rfl kL ?_
 refine sC ?_
 refine sp rfl<|sp rfl<|sp rfl<|sP (.pointer (some ⟨gx,f,none⟩)) ?_
 refine Sy.callT (λw hw=>long_w w0.inn gc gw gx f bad s R b x.value h1 hc.one hb (by omega) w hw) (λu M hM=>?_)
 obtain ⟨s1,bad1,b1,q1,q2,rfl⟩:=hM
 have l1:=q1.len
 refine Sy.nil<|Sy.then_<|Sy.region ?_
 refine sp rfl<|sp rfl<|sp rfl<|sP (.pointer (some ⟨gx,f+1,none⟩)) ?_
 refine Sy.callT (λw hw=>digest_w w0.inn gc gw gx (f+1) bad1 s1 R b1 x.claim h2 hc.tail q2 (by omega) w hw) (λu M hM=>?_)
 obtain ⟨s2,bad2,b2,q3,q4,rfl⟩:=hM
 refine Sy.nil ?_
 exact Sy.retT0 rfl (CWS gc gw bad2 s2 R) (λ_ h=>h) (λ_=>⟨s2,bad2,b2,q1.then_ q3,q4,rfl⟩)
def wtMT (t:MTx):Nat:=8+(9+(t.outs.map λ_=>40).sum)
theorem all_true {α:Type} (l:List α):l.all (λ_=>true)=true:=by rw [List.all_eq_true]; exact λ_ _=>rfl
theorem mainHeader_w:PutC 89 66 repMH (λ_=>true) encMH (λ_=>80):=λw0 gc gw gx f bad s R b cs x hx _ hc hb hl w hw=>by
 obtain ⟨rfl,h1,h2,h3,h4⟩:=hx
 have e1:(x.prev.map bv).length=32:=by rw [List.length_map,h1]
 have e2:(x.root.map bv).length=32:=by rw [List.length_map,h2]
 have c1:=hc.right e1
 have c2:=c1.right e2
 refine Sy.enterT (args:=[ptr gc,.pointer (some ⟨gx,f,none⟩)]) hw Tryz.func89 rfl kL ?_
 refine sC ?_
 refine sp rfl<|sp rfl<|sp rfl<|sP (.pointer (some ⟨gx,f,none⟩)) ?_
 refine Sy.callT (λw hw=>digest_w w0.inn gc gw gx f bad s R b x.prev h1 hc.left hb (by omega) w hw) (λu M hM=>?_)
 obtain ⟨s1,bad1,b1,q1,p1,rfl⟩:=hM
 have l1:=q1.len
 refine Sy.nil<|sB ?_
 refine sp rfl<|sp rfl<|sp rfl<|sP (.pointer (some ⟨gx,f+32,none⟩)) ?_
 refine Sy.callT (λw hw=>digest_w w0.inn gc gw gx (f+32) bad1 s1 R b1 x.root h2 c1.left p1 (by omega) w hw) (λu M hM=>?_)
 obtain ⟨s2,bad2,b2,q2,p2,rfl⟩:=hM
 have l2:=q2.len
 refine Sy.nil<|sB ?_
 refine sp rfl<|sp rfl<|sp rfl<|sP (.pointer (some ⟨gx,f+32+32,none⟩)) ?_
 refine Sy.callT (λw hw=>long_w w0.inn gc gw gx (f+32+32) bad2 s2 R b2 x.height h3 c2.one p2 (by omega) w hw) (λu M hM=>?_)
 obtain ⟨s3,bad3,b3,q3,p3,rfl⟩:=hM
 have l3:=q3.len
 refine Sy.nil<|Sy.then_<|Sy.region ?_
 refine sp rfl<|sp rfl<|sp rfl<|sP (.pointer (some ⟨gx,f+32+32+1,none⟩)) ?_
 refine Sy.callT (λw hw=>long_w w0.inn gc gw gx (f+32+32+1) bad3 s3 R b3 x.nonce h4 c2.tail.one p3 (by omega) w hw) (λu M hM=>?_)
 obtain ⟨s4,bad4,b4,q4,p4,rfl⟩:=hM
 refine Sy.nil ?_
 exact Sy.retT0 rfl (CWS gc gw bad4 s4 R) (λ_ h=>h) (λ_=>⟨s4,bad4,b4,q1.then_ (q2.then_ (q3.then_ q4)),p4,rfl⟩)
def BytE (ok:Bool) (e:Byt) (v:Value) (M:Blocks):Prop:=(ok=true∧∃ u,v=.tuple #[u,.int .i64 0]∧ByN e u M)∨(ok=false∧v=.tuple #[.slice none 0 0,.int .i64 120]∧M=[])
theorem BS.nil:BS nilS []:=Slc.Is.nil _ _
theorem write_mtx {α:Type} {rep:Rdr→List Value→α→Prop} {ok:α→Bool} {enc:α→Byt} {wt:α→Nat} (hm:Mono rep) (hp:PutC 77 2 rep ok enc wt) (w:World) (cs:List Value) (x:α) (hx:rep (rdW w) cs x) (hl:cs.length=2) (hwt:wt x≤70368744170000) :
  Calls Tryz.prog 76 #[.agg cs.toArray,.func (.func 77) #[] #[]] w (GetsN w (BytE (ok x) (enc x))):=by
 refine Sy.enter (args:=[.agg cs.toArray,.func (.func 77) #[] #[]]) Tryz.func76 rfl kL ?_
 refine sC ?_
 refine sM 61 cs.toArray (λgx=>?_) kR (λw=>run_boxR rfl rfl (by kernel_rfl) hl w)
 refine sP (.slice none 0 0)<|sP (.int .i64 0) ?_
 refine sA ?_
 refine Sy.callN kR 59 #[] kF _ (λw _=>new_any w) (λv M hM=>?_)
 obtain ⟨gw,rfl,rfl⟩:=hM
 refine sP (.agg #[ptr gw,.pointer none,.bool false])<|sM 126 #[ptr gw,.pointer none,.bool false] (λgc=>?_)
 refine sp rfl ?_
 refine sA ?_
 refine Sy.permS (M:=CWS gc gw false nilS [(gx,61,cs.toArray)]) (Sy.perm_at [2,1,0] (by kernel_rfl) (by rfl)) ?_
 refine sp rfl<|sp rfl ?_
 refine Sy.callT (λw' hw=>hp (Base.of w) gc gw gx 0 false nilS [(gx,61,cs.toArray)] [] cs x (hm rdW_base hx) hl (memX (List.mem_singleton.2 rfl)) BS.nil (by show 0+_≤_; omega) w' hw) (λv M hM=>?_)
 obtain ⟨s,bad,b,q1,q2,rfl⟩:=hM
 have hbl:b.length≤wt x:=by have:=q1.len; simpa using this
 refine sG<|Sy.seq<|sC ?_
 refine sp rfl<|sp rfl<|sP (.pointer (some ⟨gc,2,none⟩))<|sS (.bool bad) (qc 0 2 rfl rfl Tryz.underlying4) ?_
 refine sG ?_
 cases bad
 ·have hok:ok x=true:=by
   have e:=q1.bad
   cases h:ok x with
   | true=>rfl
   | false=>rw [h] at e; cases e
  obtain rfl:b=enc x:=by have:=q1.bytes rfl; simpa using this
  refine sU<|Sy.skip<|sB ?_
  refine sp rfl<|sp rfl<|sP (.pointer (some ⟨gc,0,none⟩))<|sS (ptr gw) (qc 0 0 rfl rfl Tryz.underlying122) ?_
  refine Sy.callT (λw' hw=>bytes_any (Base.of w) gw s ((gc,126,#[ptr gw,.pointer none,.bool false])::[(gx,61,cs.toArray)]) (enc x) q2 (by omega) w' (hw.perm permCW)) (λv M hM=>?_)
  obtain ⟨N,hN,rfl⟩:=hM
  refine sp rfl<|sP (.int .i64 0) ?_
  refine sG<|Sy.ret ?_
  exact Sy.retGM2 N rfl (.inl (show _=_ by kernel_rfl)) (.inl (show _=_ by kernel_rfl)) (λ_ h=>h.less (List.sublist_append_right _ _)) (.inl ⟨hok,v,rfl,hN⟩)
 ·have hok:ok x=false:=by
   have e:=q1.bad
   cases h:ok x with
   | false=>rfl
   | true=>rw [h] at e; cases e
  refine sT<|sC ?_
  refine sP (.slice none 0 0)<|sP (.int .i64 120) ?_
  refine sG<|Sy.ret<|Sy.then_ret ?_
  exact Sy.retGM2 [] rfl (.inl (show _=_ by kernel_rfl)) (.inl (show _=_ by kernel_rfl)) (λ_ h=>h.none) (.inr ⟨hok,rfl,rfl⟩)
theorem ex_mtx {α:Type} {rep:Rdr→List Value→α→Prop} {ok:α→Bool} {enc:α→Byt} {wt:α→Nat} (hm:Mono rep) (hp:PutC 77 2 rep ok enc wt) (w:World) (cs:List Value) (x:α) (hx:rep (rdW w) cs x) (hl:cs.length=2) (hwt:wt x≤70368744170000) :
  Calls Tryz.prog 36 #[.agg cs.toArray] w (GetsN w (BytE (ok x) (enc x))):=by
 refine Sy.enter (args:=[.agg cs.toArray]) Tryz.func36 rfl kL ?_
 refine sC ?_
 refine sM 61 cs.toArray (λgx=>?_) kR (λw=>run_boxR rfl rfl (by kernel_rfl) hl w)
 refine sP (.slice none 0 0)<|sP (.int .i64 0) ?_
 refine sA ?_
 refine sS (.agg cs.toArray) (rowC (R:=[(gx,61,cs.toArray)]) (memX (List.mem_singleton.2 rfl)) (λ_ h=>h) hl rfl Tryz.underlying61) ?_
 refine Sy.callN kR 76 #[.agg cs.toArray,.func (.func 77) #[] #[]] kF (BytE (ok x) (enc x)) (λw' hw=>write_mtx (rep:=rep) hm hp w' cs x (hm (λg o u h=>rdC_world (R:=[]) hw (λ_ h=>by cases h) g o u (.inl h)) hx) hl hwt) (λv M hM=>?_)
 have hv:∃ a e:Value,v=.tuple #[a,e]:=by
  rcases hM with ⟨_,u,rfl,_⟩ | ⟨_,rfl,_⟩ <;> exact ⟨_,_,rfl⟩
 obtain ⟨a,e,rfl⟩:=hv
 refine sp rfl<|sp rfl<|sp rfl<|sp rfl ?_
 refine sG<|Sy.ret ?_
 exact Sy.retGM2 M rfl (.inl (show _=_ by kernel_rfl)) (.inl (show _=_ by kernel_rfl)) (λ_ h=>h.less (List.sublist_append_right _ _)) hM
theorem write_mhd {α:Type} {rep:Rdr→List Value→α→Prop} {ok:α→Bool} {enc:α→Byt} {wt:α→Nat} (hm:Mono rep) (hp:PutC 89 66 rep ok enc wt) (w:World) (cs:List Value) (x:α) (hx:rep (rdW w) cs x) (hl:cs.length=66) (hwt:wt x≤70368744170000) :
  Calls Tryz.prog 88 #[.agg cs.toArray,.func (.func 89) #[] #[]] w (GetsN w (BytE (ok x) (enc x))):=by
 refine Sy.enter (args:=[.agg cs.toArray,.func (.func 89) #[] #[]]) Tryz.func88 rfl kL ?_
 refine sC ?_
 refine sM 54 cs.toArray (λgx=>?_) kR (λw=>run_boxR rfl rfl (by kernel_rfl) hl w)
 refine sP (.slice none 0 0)<|sP (.int .i64 0) ?_
 refine sA ?_
 refine Sy.callN kR 59 #[] kF _ (λw _=>new_any w) (λv M hM=>?_)
 obtain ⟨gw,rfl,rfl⟩:=hM
 refine sP (.agg #[ptr gw,.pointer none,.bool false])<|sM 126 #[ptr gw,.pointer none,.bool false] (λgc=>?_)
 refine sp rfl ?_
 refine sA ?_
 refine Sy.permS (M:=CWS gc gw false nilS [(gx,54,cs.toArray)]) (Sy.perm_at [2,1,0] (by kernel_rfl) (by rfl)) ?_
 refine sp rfl<|sp rfl ?_
 refine Sy.callT (λw' hw=>hp (Base.of w) gc gw gx 0 false nilS [(gx,54,cs.toArray)] [] cs x (hm rdW_base hx) hl (memX (List.mem_singleton.2 rfl)) BS.nil (by show 0+_≤_; omega) w' hw) (λv M hM=>?_)
 obtain ⟨s,bad,b,q1,q2,rfl⟩:=hM
 have hbl:b.length≤wt x:=by have:=q1.len; simpa using this
 refine sG<|Sy.seq<|sC ?_
 refine sp rfl<|sp rfl<|sP (.pointer (some ⟨gc,2,none⟩))<|sS (.bool bad) (qc 0 2 rfl rfl Tryz.underlying4) ?_
 refine sG ?_
 cases bad
 ·have hok:ok x=true:=by
   have e:=q1.bad
   cases h:ok x with
   | true=>rfl
   | false=>rw [h] at e; cases e
  obtain rfl:b=enc x:=by have:=q1.bytes rfl; simpa using this
  refine sU<|Sy.skip<|sB ?_
  refine sp rfl<|sp rfl<|sP (.pointer (some ⟨gc,0,none⟩))<|sS (ptr gw) (qc 0 0 rfl rfl Tryz.underlying122) ?_
  refine Sy.callT (λw' hw=>bytes_any (Base.of w) gw s ((gc,126,#[ptr gw,.pointer none,.bool false])::[(gx,54,cs.toArray)]) (enc x) q2 (by omega) w' (hw.perm permCW)) (λv M hM=>?_)
  obtain ⟨N,hN,rfl⟩:=hM
  refine sp rfl<|sP (.int .i64 0) ?_
  refine sG<|Sy.ret ?_
  exact Sy.retGM2 N rfl (.inl (show _=_ by kernel_rfl)) (.inl (show _=_ by kernel_rfl)) (λ_ h=>h.less (List.sublist_append_right _ _)) (.inl ⟨hok,v,rfl,hN⟩)
 ·have hok:ok x=false:=by
   have e:=q1.bad
   cases h:ok x with
   | false=>rfl
   | true=>rw [h] at e; cases e
  refine sT<|sC ?_
  refine sP (.slice none 0 0)<|sP (.int .i64 120) ?_
  refine sG<|Sy.ret<|Sy.then_ret ?_
  exact Sy.retGM2 [] rfl (.inl (show _=_ by kernel_rfl)) (.inl (show _=_ by kernel_rfl)) (λ_ h=>h.none) (.inr ⟨hok,rfl,rfl⟩)
theorem ex_mhd {α:Type} {rep:Rdr→List Value→α→Prop} {ok:α→Bool} {enc:α→Byt} {wt:α→Nat} (hm:Mono rep) (hp:PutC 89 66 rep ok enc wt) (w:World) (cs:List Value) (x:α) (hx:rep (rdW w) cs x) (hl:cs.length=66) (hok:ok x=true) (hwt:wt x≤70368744170000) :
  Calls Tryz.prog 48 #[.agg cs.toArray] w (GetsN w (ByN (enc x))):=by
 refine Sy.enter (args:=[.agg cs.toArray]) Tryz.func48 rfl kL ?_
 refine sC ?_
 refine sM 54 cs.toArray (λgx=>?_) kR (λw=>run_boxR rfl rfl (by kernel_rfl) hl w)
 refine sP (.slice none 0 0) ?_
 refine sA ?_
 refine sS (.agg cs.toArray) (rowC (R:=[(gx,54,cs.toArray)]) (memX (List.mem_singleton.2 rfl)) (λ_ h=>h) hl rfl Tryz.underlying54) ?_
 refine Sy.callN kR 88 #[.agg cs.toArray,.func (.func 89) #[] #[]] kF (BytE (ok x) (enc x)) (λw' hw=>write_mhd (rep:=rep) hm hp w' cs x (hm (λg o u h=>rdC_world (R:=[]) hw (λ_ h=>by cases h) g o u (.inl h)) hx) hl hwt) (λv M hM=>?_)
 rcases hM with ⟨_,u,rfl,hN⟩ | ⟨h,_⟩
 ·refine sp rfl<|sp rfl<|sp rfl<|sp rfl<|sp rfl ?_
  refine sA ?_
  refine sp rfl<|sp rfl ?_
  refine sG<|Sy.ret ?_
  exact Sy.retGM M rfl (.inl (show _=_ by kernel_rfl)) (λ_ h=>h.less (List.sublist_append_right _ _)) hN
 ·rw [hok] at h; cases h
end Wr
end
section
namespace Wr
open Go.RowKit Sy
set_option maxRecDepth 100000
set_option maxHeartbeats 4000000
theorem setAll_mid {A z v Z:List Value} {f:Nat} (hf:A.length=f) (hz:z.length=v.length):setAll (A++(z++Z)).toArray f v=(A++(v++Z)).toArray:=by
 subst hf
 rw [setAll_is _ _ _ (by simp [hz])]
 rw [List.take_left, ← List.drop_drop,List.drop_left, ← hz,List.drop_left]
theorem set_mid {A Z:List Value} {z v:Value} {f:Nat} (hf:A.length=f):(A++(z::Z)).toArray.setIfInBounds f v=(A++(v::Z)).toArray:=by
 subst hf
 rw [List.setIfInBounds_toArray,List.set_append_right _ _ (Nat.le_refl _),Nat.sub_self]
 rfl
section
variable {P:Program} {w0:Base} {F:Slots} {L R:Blocks} {o:Oper}
theorem copyC (d s:Operand) (dT sT e:TypeId) (ho:o.op=.call { callee:=.builtin .copy,args:=#[d,s],argTypes:=#[dT,sT] }) (hu:P.underlying dT=some (.slice e)) (hsz:(P.info? e).map (·.size)=some 1)
  (i g f dl dc:Nat) (t:TypeId) (cs cs':Array Value) (hL:L[i]? = some (g,t,cs)) (hd:evF F d=.slice (some ⟨g,f,none⟩) dl dc) (gx fx n cp:Nat) (hs:evF F s=.slice (some ⟨gx,fx,none⟩) n cp) (x:Byt) (hx:XAt (rdC w0 R) gx fx (x.map bv)) (hR:∀ b∈R,b∈L) (hn:x.length=n) (hdl:n=dl) (hfit:f+n≤cs.size) (hcs:setAll cs f (x.map bv)=cs'):WritesV P w0 F L o g t cs' (goInt n):=λw hw=>by
 subst hdl
 have hb:=hw.get hL
 have hl:(x.map bv).length=n:=by rw [List.length_map,hn]
 have hth:=hb.there f (x.map bv).length (by rw [hl]; exact hfit)
 have hr:=run_copy_cells (P:=P) w dT sT o.type e g f n dc ⟨gx,fx,none⟩ n cp (x.map bv) hu hsz (by rw [hl]; exact (Nat.min_self n).symm) (λq u hq=>by
  rw [addr_off]
  exact (rdC_world hw hR _ _ _ (hx q u hq)).2) (λq hq=>(hth q hq).1) (λq hq=>(hth q hq).2) (λu hu=>by obtain ⟨y,_,rfl⟩:=List.mem_map.1 hu; rfl)
 rw [hl] at hr
 refine ⟨_,?_,only_setCells (x.map bv) f w (World.grownBy.refl w (some g)),hcs ▸ Blk.setCells (x.map bv) f w cs hb⟩
 unfold execOp
 simp only [ho,resolve,invoke,builtin,Sem.run_bind,Sem.run_pure,Result.andThen_ok,List.map_toArray,List.map_cons,List.map_nil,hs,hd,hr]
end
abbrev CRS (gc gr gx:Nat) (tx:TypeId) (cs:List Value) (sl:Value) (e:Nat) (R:Blocks):Blocks:=(gc,126,#[.pointer none,ptr gr,.bool false])::(gx,tx,cs.toArray)::RQ gr sl e R
theorem permCR {a b c:Nat×TypeId×Array Value} {R:Blocks}:(a::b::c::R).Perm (c::a::b::R):=(List.Perm.cons a (List.Perm.swap c b R)).trans (List.Perm.swap c a _)
theorem inCR {gc gr gx:Nat} {tx:TypeId} {cs:List Value} {sl:Value} {e:Nat} {R:Blocks}:∀ x∈R,x∈CRS gc gr gx tx cs sl e R:=λx hx=>List.mem_cons_of_mem _ (List.mem_cons_of_mem _ (List.mem_cons_of_mem _ hx))
def RdT {α:Type} (k:Nat) (rep:Rdr→List Value→α→Prop) (p:Ps α) (w0:Base) (gc gr gx:Nat) (tx:TypeId) (A Z:List Value) (s:RS) (R S:Blocks) (_:Value) (M:Blocks):Prop :=
 ∃ x s' sl' cs N,After p s x s'∧cs.length=k∧(∀ u∈cs,u.oneCell'=true)∧rep (rdB N) cs x∧s'.e≤200∧s'.rest.length≤s.rest.length∧BytR (rdC w0 S) sl' s'.rest∧M=CRS gc gr gx tx (A++(cs++Z)) sl' s'.e (R++N)
def GetC {α:Type} (fn:FuncId) (k:Nat) (zc:List Value) (rep:Rdr→List Value→α→Prop) (p:Ps α):Prop :=
 ∀ (w0:Base) (gc gr gx f:Nat) (tx:TypeId) (A Z:List Value) (sl:Value) (s:RS) (R S:Blocks),(∀ b∈S,b∈R)→A.length=f→s.e≤200→s.rest.length≤70368744177664→BytR (rdC w0 S) sl s.rest→∀ w,St w0 w (CRS gc gr gx tx (A++(zc++Z)) sl s.e R) →
  Calls Tryz.prog fn #[ptr gc,.pointer (some ⟨gx,f,none⟩)] w (Turns w0 (RdT k rep p w0 gc gr gx tx A Z s R S))
theorem After.as {α:Type} {p:Ps α} {s s':RS} {x d:α} (h:After p s x s') (hd:∀ r,p s.rest=some (x,r)→d=x):After p s d s':=⟨h.bad,λy r h0 hp=>by
 obtain ⟨rfl,q⟩:=h.yes y r h0 hp
 exact ⟨hd r hp,q⟩,h.no⟩
theorem raw9_any (w0:Base) (gr:Nat) (sl:Value) (s:RS) (R S:Blocks) (hS:∀ b∈S,b∈R) (n:Nat) (hn:n≤1000000) (he0:s.e≤200) (hl:s.rest.length≤70368744177664) (hv:BytR (rdC w0 S) sl s.rest) (w:World) (hw:St w0 w (RQ gr sl s.e R)) :
  Calls Tryz.prog 194 #[ptr gr,.int .i64 (n:Int)] w (Turns w0 (RddN (takeP n) (λx v N=>ByN x v N∧(v=.slice none 0 0∧N=[]∧x=[]∨x.length=n)) w0 gr R S s)):=by
 have hv0:=hv
 obtain ⟨A,m,cp,rfl,h2,h3,h4,h5⟩:=hv
 obtain ⟨e,he⟩:∃ e,e=if m<n then 110 else 0:=⟨_,rfl⟩
 have he2:e≤200:=by rw [he]; split <;> omega
 refine Sy.enterT (args:=[ptr gr,.int .i64 (n:Int)]) hw Tryz.func194 rfl kL ?_
 refine sC ?_
 refine sP (.slice none 0 0) ?_
 refine sA ?_
 refine sP (.int .i64 0) ?_
 refine sG<|Sy.seq ?_
 refine cutC [(0,ptr gr),(1,.int .i64 (n:Int)),(5,.int .i64 (e:Int))] (RQ gr (.slice A m cp) s.e R) ?_ ?_
 ·refine sC ?_
  refine sp rfl<|sS (.bool false) (Quiet.pure (exec_int .lss _ _ _ .i64 _ _ _ rfl rfl rfl (int_lss _ _ _ _ _ (decide_eq_false (by omega))))) ?_
  refine sG<|sU<|sC ?_
  obtain ⟨b1,hb1⟩:∃ z:Bool,z=decide (m<n):=⟨_,rfl⟩
  refine sp rfl<|sp rfl<|sp rfl<|sP (.pointer (some ⟨gr,0,none⟩))<|sS (.slice A m cp) (qc 0 0 rfl rfl Tryz.underlying29)<|sP (.int .i64 (m:Int))<|sS (.bool b1) (Quiet.pure (exec_int .gtr _ _ _ .i64 _ _ _ rfl rfl rfl (int_gtr _ _ _ _ _ (by rw [hb1]; exact decide_eq_decide.2 (by omega))))) ?_
  refine sG ?_
  cases b1
  ·rw [if_neg (of_decide_eq_false hb1.symm)] at he
   rw [he]
   refine sU<|Sy.skip ?_
   exact meet (all_cons kR (all_cons kR (all_cons kR all_nil))) (λ_ h=>h)
  ·rw [if_pos (of_decide_eq_true hb1.symm)] at he
   rw [he]
   refine sT<|Sy.region ?_
   refine sP (.int .i64 110) ?_
   refine Sy.nil ?_
   exact meet (all_cons kR (all_cons kR (all_cons kR all_nil))) (λ_ h=>h)
 refine sB ?_
 refine sp rfl<|sp rfl<|sp rfl ?_
 refine Sy.callT (λw hw=>piece_any (takeP n) w0.inn gr (.slice A m cp) s R S hS 0 n e he0 he2 hl (λh=>?_) (λh=>?_) hv0 w hw) (λv M hM=>?_)
 ·have hm:¬ m<n:=λhlt=>by rw [if_pos hlt] at he; omega
  exact ⟨Nat.zero_le _,by omega,by rw [List.drop_zero,Nat.sub_zero]; exact if_pos (by omega)⟩
 ·have hm:m<n:=by
   rcases Nat.lt_or_ge m n with hlt | hge
   ·exact hlt
   ·rw [if_neg (by omega)] at he; exact (h he).elim
  exact if_neg (by omega)
 obtain ⟨x,s',sl',N,hA,⟨hN,hx⟩,q2,q3,q4,rfl⟩:=hM
 refine sp rfl ?_
 refine sG<|Sy.ret ?_
 exact Sy.retT1 (RQ gr sl' s'.e (R++N)) rfl (.inl (show _=_ by kernel_rfl)) (λ_ h=>h) ⟨x,s',sl',N,hA,⟨hN,hx⟩,q2,q3,q4,rfl⟩
theorem reads_r (w0:Base) (gc gr:Nat) (a c:Value) {L:Blocks} (hL:(gc,126,#[a,ptr gr,c])∈L) (w:World) (hw:St w0 w L):Calls Tryz.prog 107 #[ptr gc] w (Gets w (.bool true)):=by
 have hb:=(hw.blk _ _ _ hL).2
 have hlt:=hb.lt
 refine Sy.enter (args:=[ptr gc]) Tryz.func107 rfl kL ?_
 refine sC ?_
 refine sP (.bool false) ?_
 refine sA ?_
 refine sp rfl<|sp rfl<|sP (.pointer (some ⟨gc,1,none⟩))<|sS (ptr gr) (Quiet.thereOne gc 1 124 _ _ rfl kR hlt _ (hb.cell 1) Tryz.underlying124 rfl)<|sP (.bool true)<|sp rfl ?_
 refine sG<|Sy.ret ?_
 exact rV (.bool true) rfl
theorem copyNil (w:World) (F:Slots) (o:Oper) (d s:Operand) (g f n:Nat) (ho:o.op=.call { callee:=.builtin .copy,args:=#[d,s],argTypes:=#[29,29] }) (hd:evF F d=.slice (some ⟨g,f,none⟩) n n) (hs:evF F s=.slice none 0 0):(execOp (evF F) o).run Tryz.prog w=.ok (.value (.int .i64 0)) w:=by
 have e:(Builtin.copy_ #[29,29] o.type #[.slice (some ⟨g,f,none⟩) n n,.slice none 0 0]).run Tryz.prog w=.ok (.int .i64 0) w:=by
  have h0:Nat.min 0 n=0:=Nat.zero_min n
  have hu:Tryz.prog.underlying 29=some (.slice 5):=by kernel_rfl
  have hs:(sizeOf 5).run Tryz.prog w=.ok 1 w:=by kernel_rfl
  unfold Builtin.copy_
  simp [run_underlying hu,Builtin.lenOf,Builtin.firstCells,h0,hs,storeCells,goInt,Result.andThen]
 unfold execOp
 simp only [ho,resolve,invoke,builtin,Sem.run_bind,Sem.run_pure,Result.andThen_ok,List.map_toArray,List.map_cons,List.map_nil,hd,hs,e]
end Wr
end
section
namespace Wr
open Go.RowKit Sy
set_option maxRecDepth 100000
set_option maxHeartbeats 4000000
def rep64 (_:Rdr) (cs:List Value) (n:Nat):Prop:=cs=[.int .u64 (n:Int)]∧n<18446744073709551616
def repDG (_:Rdr) (cs:List Value) (x:Byt):Prop:=cs=x.map bv∧x.length=32
def Z32:List Value:=(List.replicate 32 (0:UInt8)).map bv
theorem long_r:GetC 61 1 [.int .u64 0] rep64 (numP 8):=λw0 gc gr gx f tx A Z sl s R S hS hA he hl hv w hw=>by
 have item:∀ w,St w0.inn w (CRS gc gr gx tx (A++([Value.int .u64 0]++Z)) sl s.e R)→Calls Tryz.prog 104 #[ptr gc,.pointer (some ⟨gx,f,none⟩),.func (.func 105) #[] #[],.func (.func 106) #[] #[]] w (Turns w0.inn (RdT 1 rep64 (numP 8) w0.inn gc gr gx tx A Z s R S)):=λw hw=>by
  refine Sy.enterT (args:=[ptr gc,.pointer (some ⟨gx,f,none⟩),.func (.func 105) #[] #[],.func (.func 106) #[] #[]]) hw Tryz.func104 rfl kL ?_
  refine sC ?_
  refine sp rfl<|sS (.bool true) (qg (λw hw=>reads_r w0.inn gc gr _ _ (List.mem_cons_self ..) w hw)) ?_
  refine sG<|sT<|Sy.region ?_
  refine sp rfl<|sp rfl<|sp rfl<|sp rfl<|sP (.pointer (some ⟨gc,1,none⟩))<|sS (ptr gr) (qc 0 1 rfl rfl Tryz.underlying124) ?_
  refine Sy.callT (λw hw=>long9_any w0.inn gr sl s ((gc,126,#[.pointer none,ptr gr,.bool false])::(gx,tx,(A++([Value.int .u64 0]++Z)).toArray)::R) S (λb h=>List.mem_cons_of_mem _ (List.mem_cons_of_mem _ (hS b h))) he hv w (hw.perm permCR)) (λu M hM=>?_)
  obtain ⟨x,s',sl',q1,⟨rfl,q2⟩,q3,q4,q5,rfl⟩:=hM
  refine Sy.permS permCR.symm ?_
  refine sp rfl<|sw 1 rfl (A++([Value.int .u64 (x:Int)]++Z)).toArray (Writes.one f 22 (.int .u64 (x:Int)) _ _ rfl kR kR kR rfl rfl (by rw [List.size_toArray,List.length_append,hA]; exact Nat.lt_add_of_pos_right (Nat.succ_pos _)) (set_mid hA)) ?_
  refine Sy.nil ?_
  exact Sy.retT0 rfl (CRS gc gr gx tx (A++([Value.int .u64 (x:Int)]++Z)) sl' s'.e R) (λ_ h=>h) (λ_=>⟨x,s',sl',[Value.int .u64 (x:Int)],[],q1,rfl,λu hu=>by rw [List.mem_singleton.1 hu]; rfl,⟨rfl,q2⟩,q3,q4,q5,by rw [List.append_nil]⟩)
 refine Sy.enterT (args:=[ptr gc,.pointer (some ⟨gx,f,none⟩)]) hw Tryz.func61 rfl kL ?_
 refine Sy.region ?_
 refine sp rfl<|sp rfl ?_
 refine Sy.callT (λw hw=>item w hw) (λu M hM=>?_)
 refine Sy.nil ?_
 have hM':=hM
 obtain ⟨x,s',sl',cs,N,q1,q2,q3,q4,q5,q6,q7,rfl⟩:=hM'
 exact Sy.retT0 rfl _ (λ_ h=>h) (λ_=>hM)
theorem Z32_len:Z32.length=32:=rfl
theorem z32_is (x:Byt) (h:x.length=32):Z32.length=(x.map bv).length:=by rw [List.length_map,h]; rfl
theorem raw_r (w0:Base) (gc gr gx f:Nat) (tx:TypeId) (A Z:List Value) (sl:Value) (s:RS) (R S:Blocks) (hS:∀ b∈S,b∈R) (hA:A.length=f) (he:s.e≤200) (hl:s.rest.length≤70368744177664) (hv:BytR (rdC w0 S) sl s.rest) (w:World) (hw:St w0 w (CRS gc gr gx tx (A++(Z32++Z)) sl s.e R)) :
  Calls Tryz.prog 137 #[ptr gc,.slice (some ⟨gx,f,none⟩) 32 32] w (Turns w0 (RdT 32 repDG (takeP 32) w0 gc gr gx tx A Z s R S)):=by
 refine Sy.enterT (args:=[ptr gc,.slice (some ⟨gx,f,none⟩) 32 32]) hw Tryz.func137 rfl kL ?_
 refine sC ?_
 refine sp rfl<|sS (.bool true) (qg (λw hw=>reads_r w0.inn gc gr _ _ (List.mem_cons_self ..) w hw)) ?_
 refine sG<|sT<|Sy.region ?_
 refine sp rfl<|sp rfl<|sp rfl<|sP (.pointer (some ⟨gc,1,none⟩))<|sS (ptr gr) (qc 0 1 rfl rfl Tryz.underlying124)<|sp rfl<|sP (.int .i64 32) ?_
 refine Sy.callT (λw hw=>raw9_any w0.inn gr sl s ((gc,126,#[.pointer none,ptr gr,.bool false])::(gx,tx,(A++(Z32++Z)).toArray)::R) S (λb h=>List.mem_cons_of_mem _ (List.mem_cons_of_mem _ (hS b h))) 32 (by decide) he hl hv w (hw.perm permCR)) (λu M hM=>?_)
 obtain ⟨x,s',sl',N,q1,⟨q2,q2'⟩,q3,q4,q5,rfl⟩:=hM
 refine Sy.permS (M:=CRS gc gr gx tx (A++(Z32++Z)) sl' s'.e (R++N)) permCR.symm ?_
 rcases q2' with ⟨rfl,rfl,rfl⟩ | hx
 ·refine sS (.int .i64 0) (Quiet.pure (λw=>copyNil w _ _ _ _ gx f 32 rfl rfl rfl)) ?_
  refine Sy.nil ?_
  exact Sy.retT0 rfl (CRS gc gr gx tx (A++(Z32++Z)) sl' s'.e (R++[])) (λ_ h=>h) (λ_=>⟨List.replicate 32 0,s',sl',Z32,[],q1.as (λr hp=>by have:=(take_len hp).1; cases this),rfl,λu hu=>by obtain ⟨y,_,rfl⟩:=List.mem_map.1 hu; rfl,⟨rfl,rfl⟩,q3,q4,q5,rfl⟩)
 ·have hb:=q2.byt
  obtain ⟨B,n,cp,rfl,h2,h3,h4,h5⟩:=hb
  obtain ⟨gb,ob,rfl,hq⟩:=h5 (by intro e; rw [e] at hx; cases hx)
  obtain rfl:32=n:=by omega
  refine Sy.writeV kR 1 gx tx _ (A++(x.map bv++Z)).toArray (.int .i64 32) rfl (copyC (R:=N) _ _ 29 29 5 rfl Tryz.underlying29 kR 1 gx f 32 32 tx _ _ rfl rfl gb ob 32 cp rfl x (λj u hj=>.inr (by
   rw [List.getElem?_map] at hj
   cases hxj:x[j]? with
   | none=>rw [hxj] at hj; cases hj
   | some y=>rw [hxj] at hj; cases hj; exact hq j y hxj)) (λb h=>inCR b (List.mem_append_right _ h)) hx rfl (by rw [List.size_toArray,List.length_append,List.length_append,hA,Z32_len]; omega) (setAll_mid hA (z32_is x hx))) ?_
  refine Sy.nil ?_
  exact Sy.retT0 rfl (CRS gc gr gx tx (A++(x.map bv++Z)) sl' s'.e (R++N)) (λ_ h=>h) (λ_=>⟨x,s',sl',x.map bv,N,q1,by rw [List.length_map,hx],λu hu=>by obtain ⟨y,_,rfl⟩:=List.mem_map.1 hu; rfl,⟨rfl,hx⟩,q3,q4,q5,rfl⟩)
theorem digest_r:GetC 130 32 Z32 repDG (takeP 32):=λw0 gc gr gx f tx A Z sl s R S hS hA he hl hv w hw=>by
 refine Sy.enterT (args:=[ptr gc,.pointer (some ⟨gx,f,none⟩)]) hw Tryz.func130 rfl kL ?_
 refine Sy.region ?_
 refine sp rfl<|sp rfl<|sp rfl<|sP (.slice (some ⟨gx,f,none⟩) 32 32) ?_
 refine Sy.callT (λw hw=>raw_r w0.inn gc gr gx f tx A Z sl s R S hS hA he hl hv w hw) (λu M hM=>?_)
 refine Sy.nil ?_
 exact Sy.retT0 rfl _ (λ_ h=>h) (λ_=>hM)
end Wr
end
section
namespace Sy
open Go.RowKit
section
variable {r:Nat→Slc} {n i:Nat} {pre A B C D M N T:Blocks} {b b':Nat×TypeId×Array Value} {v:Value} {w0:Base} {w:World}
end
end Sy
end
section
namespace Sy
open Go.RowKit
section
variable {L M:Blocks} {w0:Base} {w:World}
theorem flat_perm {ls ms:List Blocks} (is:List Nat) (hi:is.isPerm (List.range ls.length)=true) (hm:is.map (λi=>ls[i]?)=ms.map some) (hL:L=ls.flatten) (hM:M=ms.flatten):L.Perm M:=by
 rw [hL,hM]
 exact (perm_at is hi hm).flatten
theorem St.parts {ls ms:List Blocks} (os:List Blocks) (is:List Nat) (hi:is.isPerm (List.range ls.length)=true) (hm:is.map (λi=>ls[i]?)=(ms++os).map some) (hL:L=ls.flatten) (hM:M=ms.flatten) (hw:St w0 w L):St w0 w M:=by
 have h1:L.Perm (M++os.flatten):=by
  rw [hL,hM, ← List.flatten_append]
  exact (perm_at is hi hm).flatten
 exact (hw.perm h1).less (List.sublist_append_left _ _)
end
section
variable {f:Nat→List Value} {s m k o:Nat} {sp:List Value}
end
section
variable {r:Nat→Slc} {n i:Nat} {pre M R D E:Blocks} {b:Nat×TypeId×Array Value} {v:Value} {w0:Base} {w:World}
end
end Sy
end
section
namespace Wr
open Go.RowKit Sy
set_option maxRecDepth 100000
set_option maxHeartbeats 4000000
abbrev CRN (gc gr:Nat) (sl:Value) (e:Nat) (R:Blocks):Blocks:=(gc,126,#[.pointer none,ptr gr,.bool false])::RQ gr sl e R
theorem permEl {c r a b:Nat×TypeId×Array Value} {R:Blocks}:((c::r::R)++[a]++[b]).Perm (c::b::r::a::R):=by
 have h1:((c::r::R)++[a]++[b]).Perm (b::(a::(c::r::R))):=by
  refine (List.perm_append_comm (l₁:=(c::r::R)++[a]) (l₂:=[b])).trans ?_
  exact List.Perm.cons b (List.perm_append_comm (l₁:=c::r::R) (l₂:=[a]))
 refine h1.trans ?_
 have h2:([b,a,c,r]++R).Perm ([c,b,r,a]++R):=(Sy.perm_at [2,0,3,1] (by kernel_rfl) (by rfl)).append_right R
 exact h2
def RdV {α:Type} (k:Nat) (rep:Rdr→List Value→α→Prop) (p:Ps α) (w0:Base) (gc gr:Nat) (s:RS) (R S:Blocks) (v:Value) (M:Blocks):Prop :=
 ∃ x s' sl' cs N,After p s x s'∧cs.length=k∧(∀ u∈cs,u.oneCell'=true)∧rep (rdB N) cs x∧v=.agg cs.toArray∧s'.e≤200∧s'.rest.length≤s.rest.length∧BytR (rdC w0 S) sl' s'.rest∧M=CRN gc gr sl' s'.e (R++N)
theorem swap12 {a b:Nat×TypeId×Array Value} {R:Blocks}:(a::b::R).Perm (b::a::R):=List.Perm.swap b a R
def RowsOk {α:Type} (e:TypeId) (k:Nat) (rep:Rdr→List Value→α→Prop) (r:Slc) (N:Blocks) (l:List α):Prop :=
 ∃ xs:List (List Value),r.Is e k xs∧xs.length=l.length∧∀ (j:Nat) (x:α),l[j]? = some x→∃ cs,xs[j]? = some cs∧rep (rdB N) cs x
theorem RowsOk.nil {α:Type} {e:TypeId} {k:Nat} {rep:Rdr→List Value→α→Prop} {N:Blocks}:RowsOk e k rep nilS N ([]:List α):=⟨[],Slc.Is.nil _ _,rfl,λj x h=>by cases h⟩
theorem RowsOk.more {α:Type} {e:TypeId} {k:Nat} {rep:Rdr→List Value→α→Prop} (hm:Mono rep) {r:Slc} {N N':Blocks} {l:List α} (h:RowsOk e k rep r N l) (hN:∀ b∈N,b∈N'):RowsOk e k rep r N' l:=by
 obtain ⟨xs,h1,h2,h3⟩:=h
 refine ⟨xs,h1,h2,λj x hx=>?_⟩
 obtain ⟨cs,q1,q2⟩:=h3 j x hx
 exact ⟨cs,q1,hm (rdB_le hN) q2⟩
theorem RowsOk.add {α:Type} {e:TypeId} {k:Nat} {rep:Rdr→List Value→α→Prop} {r':Slc} {N:Blocks} {l:List α} {xs:List (List Value)} {cs:List Value} {x:α} (h2:xs.length=l.length) (h3:∀ (j:Nat) (x:α),l[j]? = some x→∃ cs,xs[j]? = some cs∧rep (rdB N) cs x) (hr:r'.Is e k (xs++[cs])) (hx:rep (rdB N) cs x):RowsOk e k rep r' N (l++[x]):=by
 refine ⟨xs++[cs],hr,by simp [h2],λj y hy=>?_⟩
 rcases Nat.lt_or_ge j l.length with hlt | hge
 ·rw [List.getElem?_append_left hlt] at hy
  obtain ⟨c,q1,q2⟩:=h3 j y hy
  exact ⟨c,by rw [List.getElem?_append_left (by omega)]; exact q1,q2⟩
 ·rw [List.getElem?_append_right hge] at hy
  have hj:j - l.length=0:=by
   have:=(List.getElem?_eq_some_iff.1 hy).1
   simp at this; omega
  rw [hj] at hy
  simp at hy
  subst hy
  exact ⟨cs,by rw [List.getElem?_append_right (by omega),show j - xs.length=0 by omega]; rfl,hx⟩
theorem RowsOk.lst {α:Type} {e:TypeId} {k:Nat} {rep:Rdr→List Value→α→Prop} (hm:Mono rep) {r:Slc} {N:Blocks} {l:List α} (h:RowsOk e k rep r N l):LstR (rdB (N++r.bl)) k rep r.v l:=by
 obtain ⟨xs,h1,h2,h3⟩:=h
 rcases h1.row with ⟨rfl,rfl⟩ | ⟨g,cap,sp,rfl,q1,q2,q3⟩
 ·have:l=[]:=by cases l with | nil=>rfl | cons=>cases h2
  subst this
  exact ⟨none,0,0,rfl,rfl,Nat.le_refl _,Nat.zero_le _,λh=>(h rfl).elim⟩
 ·rw [h2] at q2
  refine ⟨_,_,_,by rw [h2],rfl,q2,q3,λ_=>⟨g,0,rfl,λj x hx=>?_⟩⟩
  obtain ⟨cs,c1,c2⟩:=h3 j x hx
  have hl:=h1.len _ (List.mem_of_getElem? c1)
  refine ⟨cs,hl,h1.one _ (List.mem_of_getElem? c1),hm (rdB_le λb hb=>List.mem_append_left _ hb) c2,λi u hu=>⟨e,_,List.mem_append_right _ (List.mem_singleton.2 rfl),?_⟩⟩
  have q:=flat_at' sp h1.len j cs c1
  have hi:i<k:=by rw [← hl]; exact (List.getElem?_eq_some_iff.1 hu).1
  rw [← q,List.getElem?_take_of_lt hi,List.getElem?_drop] at hu
  rw [Nat.zero_add,List.getElem?_toArray]
  exact hu
structure YL (α:Type) where
 l:List α
 r:Slc
 s:RS
 sl:Value
 N:Blocks
 x:Option α
theorem apZ {Z:Type} {w0 fz:World} {lp n:Nat} {F:Slots} {L:Blocks} {FA:Z→Slots} {LA:Z→Blocks} (z:Z) (hF:∀ p∈FA z,F.lookup p.1=some p.2) (hL:∀ w,St (rb w0 fz lp) w L→St (rb w0 fz lp) w (LA z)):X (rb w0 fz lp) n (APZ w0 fz lp n FA LA) F L .normal:=λ_ w ha hw=>⟨z,ha.all hF,hL w hw⟩
theorem bpZ {Y:Type} {w0 fz:World} {lp n:Nat} {F:Slots} {L:Blocks} {HR:Y→Prop} {LR:Y→Blocks} (y:Y) (h:HR y) (hL:∀ w,St (rb w0 fz lp) w L→St (rb w0 fz lp) w (LR y)):X (rb w0 fz lp) n (BPZ w0 fz lp HR LR) F L .normal:=λ_ w _ hw=>⟨y,h,hL w hw⟩
structure InvL {α:Type} (e:TypeId) (k:Nat) (rep:Rdr→List Value→α→Prop) (p:Ps α) (w0:Base) (S:Blocks) (m:Nat) (s1:RS) (i:Nat) (y:YL α):Prop where
 len:y.l.length=i
 rows:RowsOk e k rep y.r y.N y.l
 yes:y.s.e=0→s1.e=0∧repP p i s1.rest=some (y.l,y.s.rest)
 no:y.s.e≠0→s1.e≠0∨repP p m s1.rest=none
 e:y.s.e≤200
 rest:y.s.rest.length≤s1.rest.length
 byt:BytR (rdC w0 S) y.sl y.s.rest
theorem rep_step {α:Type} {p:Ps α} {i:Nat} {s s1 s':RS} {l:List α} {x:α} (h:repP p i s1.rest=some (l,s.rest)) (h0:s.e=0) (hA:After p s x s'):(s'.e=0→repP p (i+1) s1.rest=some (l++[x],s'.rest))∧(s'.e≠0→∀ m,i<m→repP p m s1.rest=none):=by
 refine ⟨λh1=>?_,λh1 m hm=>?_⟩
 ·rw [repP_snoc,bind_some h,bind_some (hA.ok h0 h1)]; rfl
 ·refine repP_none (i:=i+1) ?_ m hm
  rw [repP_snoc,bind_some h]
  cases hp:p s.rest with
  | none=>exact bind_none hp
  | some u=>obtain ⟨y,r⟩:=u; obtain ⟨_,hs⟩:=hA.yes y r h0 hp; rw [hs] at h1; exact (h1 rfl).elim
abbrev LBL (gc gr gl:Nat) (ts:TypeId) (r:Slc) (e:Nat) (sl:Value) (R N:Blocks):Blocks:=[(gc,126,#[.pointer none,ptr gr,.bool false]),(gr,231,#[sl,.int .i64 (e:Int)]),(gl,ts,#[r.v])]++(r.bl++(R++N))
theorem lbl_in {gc gr gl:Nat} {ts:TypeId} {r:Slc} {e:Nat} {sl:Value} {R N:Blocks}:∀ b∈R,b∈LBL gc gr gl ts r e sl R N:=λb hb=>List.mem_append_right _ (List.mem_append_right _ (List.mem_append_left _ hb))
def repL {α:Type} (k:Nat) (rep:Rdr→List Value→α→Prop) (C:Rdr) (cs:List Value) (l:List α):Prop:=∃ v,cs=[v]∧LstR C k rep v l
theorem LstR.cells {α:Type} {C:Rdr} {k:Nat} {rep:Rdr→List Value→α→Prop} {v:Value} {l:List α} (h:LstR C k rep v l):v.cells=#[v]∧v.oneCell'=true:=by
 obtain ⟨A,n,cp,rfl,_⟩:=h; exact ⟨rfl,rfl⟩
def RdL {α:Type} (k:Nat) (rep:Rdr→List Value→α→Prop) (p:Ps (List α)) (w0:Base) (gc gr:Nat) (s:RS) (R S:Blocks) (v:Value) (M:Blocks):Prop :=
 ∃ l s' sl' N,After p s l s'∧LstR (rdB N) k rep v l∧s'.e≤200∧s'.rest.length≤s.rest.length∧BytR (rdC w0 S) sl' s'.rest∧M=CRN gc gr sl' s'.e (R++N)
theorem permLB {c r g:Nat×TypeId×Array Value} {R M:Blocks}:((c::r::R)++[g]++M).Perm ([c,r,g]++(nilS.bl++((R++M)++[]))) :=
 Sy.flat_perm (ls:=[[c,r],R,[g],M]) (ms:=[[c,r],[g],R,M]) [0,2,1,3] (by kernel_rfl) (by rfl) (by simp) (by simp [nilS])
theorem swap23 {a b c:Nat×TypeId×Array Value} {R:Blocks}:(a::b::c::R).Perm (a::c::b::R):=List.Perm.cons a (List.Perm.swap c b R)
end Wr
end
end Go.Proofs.YtgggdbjakcpanaaGreatDoor
