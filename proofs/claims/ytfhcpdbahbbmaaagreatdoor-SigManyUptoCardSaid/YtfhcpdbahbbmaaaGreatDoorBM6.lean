/-
  Texts of ours, put together: SigA, ScEq, ScB32, SigB, SymX, SigC, SymV, ScProd, ScMul, Concat, SigD, SigE, CrvY, RefNumber, CrvE, CrvZ, SigF, SigG, ScNum, EcN.
-/
import Derived.Test.YtfhcpdbahbbmaaaGreatDoorBM5
set_option linter.unusedVariables false
set_option linter.unusedSimpArgs false
namespace Go.Proofs.YtfhcpdbahbbmaaaGreatDoor
section
namespace Cu
open Go.RowKit Sy
set_option maxRecDepth 100000
set_option maxHeartbeats 4000000
def evP (k : Nat) : Pt:=Ec.nm finv (k % Sc.pM) bP
theorem evP_on (k : Nat) : Ec.On (evP k):=bP_on.nm fld _
def evX : Pt → List UInt8
 | none => List.replicate 32 0
 | some (x,_) => bytesS x.val
theorem evX_length : ∀ P : Pt,(evX P).length = 32
 | none => rfl
 | some (x,_) => bytesS_length _
def evD (k : Nat) : Nat:=match evP k with
 | none => 0
 | some (_,y) => if y.val % 2 = 1 then Sc.negP k else k
theorem base_mul (w : World) (k : Nat) (hk : k < K4) : Calls Tryz.prog 93 #[fv k,pv gx.val gy.val false] w (Gets w (ptv (evP k))):=by
 have h:=mul_any w k gx.val gy.val false hk (lt4 _) (lt4 _)
 rw [show dec gx.val gy.val false = bP from dec_fin gx gy bP_on] at h
 exact h
theorem enc_pt (w : World) (u v : Fp) (h : v * v = u * u * u + 7) : Calls Tryz.prog 92 #[pv u.val v.val false] w (Gets w (.agg ((encS (some (u,v))).map bv).toArray)):=by
 have q:=enc_any w u.val v.val false (lt4 _) (lt4 _)
 rw [dec_fin u v h] at q
 exact q
theorem even_none (w : World) (k : Nat) (hk : k < K4) (h : evP k = none) : Calls Tryz.prog 39 #[fv k] w (Gets w (.tuple #[fv 0,.agg ((evX none).map bv).toArray,.bool false])):=by
 have cM : ∀ w,Calls Tryz.prog 93 #[fv k,pv gx.val gy.val false] w (Gets w (pv 0 0 true)):=fun w => by have q:=base_mul w k hk; rw [h] at q; exact q
 have cE : ∀ w,Calls Tryz.prog 92 #[pv 0 0 true] w (Gets w (.agg (Zl 33).toArray)):=fun w => by have q:=enc_any w 0 0 true (by decide) (by decide); rw [dec_zero] at q; exact q
 refine Sy.enter (args:=[fv k]) Tryz.func39 rfl kL ?_
 refine sC ?_
 refine sM 24 (fcs k) (fun g0 => ?_)
 refine sM 24 (fcs 0) (fun g1 => ?_)
 refine sM 31 (Zl 32).toArray (fun g2 => ?_)
 refine sP (.bool false) ?_
 refine sH (fun j => j == 5) ?_
 refine sD 0 rfl (fv k) (qL 0 g0 0 4 24 24 (fcs k) rfl Tryz.underlying24) <| sD 1 rfl (pv gx.val gy.val false) (qF 94 #[] (base_c)) <| sD 2 rfl (pv 0 0 true) (qF 93 #[fv k,pv gx.val gy.val false] (cM)) <| sD 3 rfl (.agg ((Zl 33) : List Value).toArray) (qF 92 #[pv 0 0 true] (cE)) ?_
 refine Sy.makeD 4 rfl kR kR 139 (Zl 33).toArray ptr kF (fun g3 => ?_)
 refine Sy.writeD 5 rfl kR (by rfl) kR 3 g3 139 (Zl 33).toArray (Zl 33).toArray kR (Writes.store 0 139 (Zl 33).toArray _ _ rfl kR kR kR kL kR kR) ?_
 refine sI ?_
 refine Sy.seq <| sC ?_
 refine sP (.pointer (some ⟨g3,0,none⟩)) <| sS (.int .u8 0) (Quiet.cell 3 g3 0 139 5 (Zl 33).toArray _ _ rfl kR kR Tryz.underlying5 rfl _ kR) ?_
 refine sG <| Sy.block <| sC ?_
 refine sP (.bool true) <| sP (.bool true) ?_
 refine sG <| sT <| sC ?_
 refine sP (fv 0) <| sP (.agg ((Zl 32) : List Value).toArray) <| sW 1 g1 24 (fcs 0) (fcs 0) (wS 0 24 (fcs 0) rfl) <| sW 2 g2 31 (Zl 32).toArray (Zl 32).toArray (wS 0 31 (Zl 32).toArray rfl) <| sP (.bool false) ?_
 refine sG <| Sy.ret <| Sy.in_ret <| Sy.then_ret ?_
 rw [show (.tuple #[fv 0,.agg ((evX none).map bv).toArray,.bool false] : Value) = .tuple #[fv 0,.agg ((Zl 32) : List Value).toArray,.bool false] from by kernel_rfl]
 exact Sy.ret3 (v:=fv 0) (u:=.agg ((Zl 32) : List Value).toArray) (x:=.bool false) rfl (.inl (Res.cell (ty':=24) g1 1 (fcs 0) _ kR kR Tryz.underlying24 rfl kR kR)) (.inl (Res.cell (ty':=31) g2 2 (Zl 32).toArray _ kR kR Tryz.underlying31 rfl kR kR)) (.inl (show _ = _ by kernel_rfl))
theorem even_2 (w : World) (k : Nat) (hk : k < K4) (u v : Fp) (h : evP k = some (u,v)) (ho : v * v = u * u * u + 7) (hv : v.val % 2 = 0) : Calls Tryz.prog 39 #[fv k] w (Gets w (.tuple #[fv k,.agg ((evX (some (u,v))).map bv).toArray,.bool true])):=by
 obtain ⟨a0,a1,a2,a3,a4,a5,a6,a7,a8,a9,a10,a11,a12,a13,a14,a15,a16,a17,a18,a19,a20,a21,a22,a23,a24,a25,a26,a27,a28,a29,a30,a31,hm⟩:=list32 (bytesS u.val) (bytesS_length _)
 have cM : ∀ w,Calls Tryz.prog 93 #[fv k,pv gx.val gy.val false] w (Gets w (pv u.val v.val false)):=fun w => by have q:=base_mul w k hk; rw [h] at q; exact q
 have cE : ∀ w,Calls Tryz.prog 92 #[pv u.val v.val false] w (Gets w (.agg ((.int .u8 2 :: bv a0 :: bv a1 :: [bv a2,bv a3,bv a4,bv a5,bv a6,bv a7,bv a8,bv a9,bv a10,bv a11,bv a12,bv a13,bv a14,bv a15,bv a16,bv a17,bv a18,bv a19,bv a20,bv a21,bv a22,bv a23,bv a24,bv a25,bv a26,bv a27,bv a28,bv a29,bv a30,bv a31]) : List Value).toArray)):=fun w => by
  have q:=enc_pt w u v ho
  rw [show encS (some (u,v)) = 2 :: bytesS u.val from by show (if v.val % 2 = 1 then (3 : UInt8) else 2) :: bytesS u.val = _; rw [if_neg (by omega)],hm] at q
  exact q
 refine Sy.enter (args:=[fv k]) Tryz.func39 rfl kL ?_
 refine sC ?_
 refine sM 24 (fcs k) (fun g0 => ?_)
 refine sM 24 (fcs 0) (fun g1 => ?_)
 refine sM 31 (Zl 32).toArray (fun g2 => ?_)
 refine sP (.bool false) ?_
 refine sH (fun j => j == 5) ?_
 refine sD 0 rfl (fv k) (qL 0 g0 0 4 24 24 (fcs k) rfl Tryz.underlying24) <| sD 1 rfl (pv gx.val gy.val false) (qF 94 #[] (base_c)) <| sD 2 rfl (pv u.val v.val false) (qF 93 #[fv k,pv gx.val gy.val false] (cM)) <| sD 3 rfl (.agg ((.int .u8 2 :: bv a0 :: bv a1 :: [bv a2,bv a3,bv a4,bv a5,bv a6,bv a7,bv a8,bv a9,bv a10,bv a11,bv a12,bv a13,bv a14,bv a15,bv a16,bv a17,bv a18,bv a19,bv a20,bv a21,bv a22,bv a23,bv a24,bv a25,bv a26,bv a27,bv a28,bv a29,bv a30,bv a31]) : List Value).toArray) (qF 92 #[pv u.val v.val false] (cE)) ?_
 refine Sy.makeD 4 rfl kR kR 139 (Zl 33).toArray ptr kF (fun g3 => ?_)
 refine Sy.writeD 5 rfl kR (by rfl) kR 3 g3 139 (Zl 33).toArray (.int .u8 2 :: bv a0 :: bv a1 :: [bv a2,bv a3,bv a4,bv a5,bv a6,bv a7,bv a8,bv a9,bv a10,bv a11,bv a12,bv a13,bv a14,bv a15,bv a16,bv a17,bv a18,bv a19,bv a20,bv a21,bv a22,bv a23,bv a24,bv a25,bv a26,bv a27,bv a28,bv a29,bv a30,bv a31]).toArray kR (Writes.store 0 139 (.int .u8 2 :: bv a0 :: bv a1 :: [bv a2,bv a3,bv a4,bv a5,bv a6,bv a7,bv a8,bv a9,bv a10,bv a11,bv a12,bv a13,bv a14,bv a15,bv a16,bv a17,bv a18,bv a19,bv a20,bv a21,bv a22,bv a23,bv a24,bv a25,bv a26,bv a27,bv a28,bv a29,bv a30,bv a31]).toArray _ _ rfl kR kR kR kL kR kR) ?_
 refine sI ?_
 refine Sy.seq <| sC ?_
 refine sP (.pointer (some ⟨g3,0,none⟩)) <| sS (.int .u8 2) (Quiet.cell 3 g3 0 139 5 (.int .u8 2 :: bv a0 :: bv a1 :: [bv a2,bv a3,bv a4,bv a5,bv a6,bv a7,bv a8,bv a9,bv a10,bv a11,bv a12,bv a13,bv a14,bv a15,bv a16,bv a17,bv a18,bv a19,bv a20,bv a21,bv a22,bv a23,bv a24,bv a25,bv a26,bv a27,bv a28,bv a29,bv a30,bv a31]).toArray _ _ rfl kR kR Tryz.underlying5 rfl _ kR) ?_
 refine sG <| Sy.block <| sC ?_
 refine sP (.bool false) <| sP (.bool false) ?_
 refine sG <| sU <| sC ?_
 refine sP (.bool false) <| sP (.bool false) ?_
 refine sG <| sU <| Sy.skip <| Sy.in_ ?_
 refine sR (fun j => j == 4 || j == 5) ?_
 refine sD 0 rfl (fv k) (qL 0 g0 0 4 24 24 (fcs k) rfl Tryz.underlying24) ?_
 refine Sy.joinD (fun gq => [(0,fv k),(1,.pointer (some ⟨g0,0,none⟩)),(2,.pointer (some ⟨g1,0,none⟩)),(3,.pointer (some ⟨g2,0,none⟩)),(4,.bool false),(5,.pointer (some ⟨g3,0,none⟩)),(6,fv k),(7,pv gx.val gy.val false),(8,pv u.val v.val false),(9,.agg ((.int .u8 2 :: bv a0 :: bv a1 :: [bv a2,bv a3,bv a4,bv a5,bv a6,bv a7,bv a8,bv a9,bv a10,bv a11,bv a12,bv a13,bv a14,bv a15,bv a16,bv a17,bv a18,bv a19,bv a20,bv a21,bv a22,bv a23,bv a24,bv a25,bv a26,bv a27,bv a28,bv a29,bv a30,bv a31]) : List Value).toArray),(10,.pointer (some ⟨g3,0,none⟩)),(11,.int .u8 2),(12,.bool false),(13,.bool false),(16,.bool false),(17,.bool false),(20,fv k),(21,.slice (some ⟨g3,1,none⟩) 32 32),(22,.pointer (some ⟨g3,1,none⟩)),(23,.agg ((bv a0 :: bv a1 :: [bv a2,bv a3,bv a4,bv a5,bv a6,bv a7,bv a8,bv a9,bv a10,bv a11,bv a12,bv a13,bv a14,bv a15,bv a16,bv a17,bv a18,bv a19,bv a20,bv a21,bv a22,bv a23,bv a24,bv a25,bv a26,bv a27,bv a28,bv a29,bv a30,bv a31]) : List Value).toArray)]) (fun gq => [(g0,24,(fcs k)),(g1,24,(fcs k)),(g2,31,(Zl 32).toArray),(g3,139,(.int .u8 2 :: bv a0 :: bv a1 :: [bv a2,bv a3,bv a4,bv a5,bv a6,bv a7,bv a8,bv a9,bv a10,bv a11,bv a12,bv a13,bv a14,bv a15,bv a16,bv a17,bv a18,bv a19,bv a20,bv a21,bv a22,bv a23,bv a24,bv a25,bv a26,bv a27,bv a28,bv a29,bv a30,bv a31]).toArray)]) 2 #[true,true,true,true,true,false,false] (fun gq => ?_) (fun fin => ?_)
 ·refine sX 5 rfl 2 g2 31 (Zl 32).toArray (bv a0 :: bv a1 :: [bv a2,bv a3,bv a4,bv a5,bv a6,bv a7,bv a8,bv a9,bv a10,bv a11,bv a12,bv a13,bv a14,bv a15,bv a16,bv a17,bv a18,bv a19,bv a20,bv a21,bv a22,bv a23,bv a24,bv a25,bv a26,bv a27,bv a28,bv a29,bv a30,bv a31]).toArray (wS 0 31 (bv a0 :: bv a1 :: [bv a2,bv a3,bv a4,bv a5,bv a6,bv a7,bv a8,bv a9,bv a10,bv a11,bv a12,bv a13,bv a14,bv a15,bv a16,bv a17,bv a18,bv a19,bv a20,bv a21,bv a22,bv a23,bv a24,bv a25,bv a26,bv a27,bv a28,bv a29,bv a30,bv a31]).toArray rfl) ?_
  refine Sy.anyOf [6] kR (by decide) (Sy.each1 ?_)
  refine Sy.oneQuiet rfl kR (.bool true) qP ?_
  refine sI ?_
  refine Sy.ret ?_
  rw [show (.tuple #[fv k,.agg ((evX (some (u,v))).map bv).toArray,.bool true] : Value) = .tuple #[fv k,.agg ((bv a0 :: bv a1 :: [bv a2,bv a3,bv a4,bv a5,bv a6,bv a7,bv a8,bv a9,bv a10,bv a11,bv a12,bv a13,bv a14,bv a15,bv a16,bv a17,bv a18,bv a19,bv a20,bv a21,bv a22,bv a23,bv a24,bv a25,bv a26,bv a27,bv a28,bv a29,bv a30,bv a31]) : List Value).toArray,.bool true] from by rw [show evX (some (u,v)) = bytesS u.val from rfl,hm]; rfl]
  exact Sy.ret3 (v:=fv k) (u:=.agg ((bv a0 :: bv a1 :: [bv a2,bv a3,bv a4,bv a5,bv a6,bv a7,bv a8,bv a9,bv a10,bv a11,bv a12,bv a13,bv a14,bv a15,bv a16,bv a17,bv a18,bv a19,bv a20,bv a21,bv a22,bv a23,bv a24,bv a25,bv a26,bv a27,bv a28,bv a29,bv a30,bv a31]) : List Value).toArray) (x:=.bool true) rfl (.inl (Res.cell (ty':=24) g1 1 (fcs k) _ kR kR Tryz.underlying24 rfl kR kR)) (.inl (Res.cell (ty':=31) g2 2 (bv a0 :: bv a1 :: [bv a2,bv a3,bv a4,bv a5,bv a6,bv a7,bv a8,bv a9,bv a10,bv a11,bv a12,bv a13,bv a14,bv a15,bv a16,bv a17,bv a18,bv a19,bv a20,bv a21,bv a22,bv a23,bv a24,bv a25,bv a26,bv a27,bv a28,bv a29,bv a30,bv a31]).toArray _ kR kR Tryz.underlying31 rfl kR kR)) (.inl (show _ = _ by kernel_rfl))
 ·refine Sy.anyOf [1,4] kR (by decide) (Sy.each2 ?_ ?_)
  ·refine Sy.oneQuiet rfl kR (.slice (some ⟨g3,1,none⟩) 32 32) qP ?_
   refine Sy.anyOf [2,4] kR (by decide) (Sy.each2 ?_ ?_)
   ·refine Sy.oneQuiet rfl kR (.pointer (some ⟨g3,1,none⟩)) qP ?_
    refine Sy.anyOf [3,4] kR (by decide) (Sy.each2 ?_ ?_)
    ·refine Sy.oneQuiet rfl kR (.agg ((bv a0 :: bv a1 :: [bv a2,bv a3,bv a4,bv a5,bv a6,bv a7,bv a8,bv a9,bv a10,bv a11,bv a12,bv a13,bv a14,bv a15,bv a16,bv a17,bv a18,bv a19,bv a20,bv a21,bv a22,bv a23,bv a24,bv a25,bv a26,bv a27,bv a28,bv a29,bv a30,bv a31]) : List Value).toArray) (Quiet.load 3 g3 1 32 139 31 (.int .u8 2 :: bv a0 :: bv a1 :: [bv a2,bv a3,bv a4,bv a5,bv a6,bv a7,bv a8,bv a9,bv a10,bv a11,bv a12,bv a13,bv a14,bv a15,bv a16,bv a17,bv a18,bv a19,bv a20,bv a21,bv a22,bv a23,bv a24,bv a25,bv a26,bv a27,bv a28,bv a29,bv a30,bv a31]).toArray _ _ rfl kR kR Tryz.underlying31 rfl kR _ kR kL) ?_
     refine Sy.anyOf [4] kR (by decide) (Sy.each1 ?_)
     ·refine Sy.oneWrite rfl (by rfl) kR 1 g1 24 (fcs 0) (fcs k) kR (wS 0 24 (fcs k) rfl) ?_
      exact Sy.leafI fin (fun i => 0) kR (all_cons kR (all_cons kR (all_cons kR (all_cons kR (all_cons kR (all_cons kR (all_cons kR (all_cons kR (all_cons kR (all_cons kR (all_cons kR (all_cons kR (all_cons kR (all_cons kR (all_cons kR (all_cons kR (all_cons kR (all_cons kR (all_cons kR (all_cons kR all_nil)))))))))))))))))))) kR
    ·refine Sy.oneWrite rfl (by rfl) kR 1 g1 24 (fcs 0) (fcs k) kR (wS 0 24 (fcs k) rfl) ?_
     refine Sy.anyOf [3] kR (by decide) (Sy.each1 ?_)
     ·refine Sy.oneQuiet rfl kR (.agg ((bv a0 :: bv a1 :: [bv a2,bv a3,bv a4,bv a5,bv a6,bv a7,bv a8,bv a9,bv a10,bv a11,bv a12,bv a13,bv a14,bv a15,bv a16,bv a17,bv a18,bv a19,bv a20,bv a21,bv a22,bv a23,bv a24,bv a25,bv a26,bv a27,bv a28,bv a29,bv a30,bv a31]) : List Value).toArray) (Quiet.load 3 g3 1 32 139 31 (.int .u8 2 :: bv a0 :: bv a1 :: [bv a2,bv a3,bv a4,bv a5,bv a6,bv a7,bv a8,bv a9,bv a10,bv a11,bv a12,bv a13,bv a14,bv a15,bv a16,bv a17,bv a18,bv a19,bv a20,bv a21,bv a22,bv a23,bv a24,bv a25,bv a26,bv a27,bv a28,bv a29,bv a30,bv a31]).toArray _ _ rfl kR kR Tryz.underlying31 rfl kR _ kR kL) ?_
      exact Sy.leafI fin (fun i => 0) kR (all_cons kR (all_cons kR (all_cons kR (all_cons kR (all_cons kR (all_cons kR (all_cons kR (all_cons kR (all_cons kR (all_cons kR (all_cons kR (all_cons kR (all_cons kR (all_cons kR (all_cons kR (all_cons kR (all_cons kR (all_cons kR (all_cons kR (all_cons kR all_nil)))))))))))))))))))) kR
   ·refine Sy.oneWrite rfl (by rfl) kR 1 g1 24 (fcs 0) (fcs k) kR (wS 0 24 (fcs k) rfl) ?_
    refine Sy.anyOf [2] kR (by decide) (Sy.each1 ?_)
    ·refine Sy.oneQuiet rfl kR (.pointer (some ⟨g3,1,none⟩)) qP ?_
     refine Sy.anyOf [3] kR (by decide) (Sy.each1 ?_)
     ·refine Sy.oneQuiet rfl kR (.agg ((bv a0 :: bv a1 :: [bv a2,bv a3,bv a4,bv a5,bv a6,bv a7,bv a8,bv a9,bv a10,bv a11,bv a12,bv a13,bv a14,bv a15,bv a16,bv a17,bv a18,bv a19,bv a20,bv a21,bv a22,bv a23,bv a24,bv a25,bv a26,bv a27,bv a28,bv a29,bv a30,bv a31]) : List Value).toArray) (Quiet.load 3 g3 1 32 139 31 (.int .u8 2 :: bv a0 :: bv a1 :: [bv a2,bv a3,bv a4,bv a5,bv a6,bv a7,bv a8,bv a9,bv a10,bv a11,bv a12,bv a13,bv a14,bv a15,bv a16,bv a17,bv a18,bv a19,bv a20,bv a21,bv a22,bv a23,bv a24,bv a25,bv a26,bv a27,bv a28,bv a29,bv a30,bv a31]).toArray _ _ rfl kR kR Tryz.underlying31 rfl kR _ kR kL) ?_
      exact Sy.leafI fin (fun i => 0) kR (all_cons kR (all_cons kR (all_cons kR (all_cons kR (all_cons kR (all_cons kR (all_cons kR (all_cons kR (all_cons kR (all_cons kR (all_cons kR (all_cons kR (all_cons kR (all_cons kR (all_cons kR (all_cons kR (all_cons kR (all_cons kR (all_cons kR (all_cons kR all_nil)))))))))))))))))))) kR
  ·refine Sy.oneWrite rfl (by rfl) kR 1 g1 24 (fcs 0) (fcs k) kR (wS 0 24 (fcs k) rfl) ?_
   refine Sy.anyOf [1] kR (by decide) (Sy.each1 ?_)
   ·refine Sy.oneQuiet rfl kR (.slice (some ⟨g3,1,none⟩) 32 32) qP ?_
    refine Sy.anyOf [2] kR (by decide) (Sy.each1 ?_)
    ·refine Sy.oneQuiet rfl kR (.pointer (some ⟨g3,1,none⟩)) qP ?_
     refine Sy.anyOf [3] kR (by decide) (Sy.each1 ?_)
     ·refine Sy.oneQuiet rfl kR (.agg ((bv a0 :: bv a1 :: [bv a2,bv a3,bv a4,bv a5,bv a6,bv a7,bv a8,bv a9,bv a10,bv a11,bv a12,bv a13,bv a14,bv a15,bv a16,bv a17,bv a18,bv a19,bv a20,bv a21,bv a22,bv a23,bv a24,bv a25,bv a26,bv a27,bv a28,bv a29,bv a30,bv a31]) : List Value).toArray) (Quiet.load 3 g3 1 32 139 31 (.int .u8 2 :: bv a0 :: bv a1 :: [bv a2,bv a3,bv a4,bv a5,bv a6,bv a7,bv a8,bv a9,bv a10,bv a11,bv a12,bv a13,bv a14,bv a15,bv a16,bv a17,bv a18,bv a19,bv a20,bv a21,bv a22,bv a23,bv a24,bv a25,bv a26,bv a27,bv a28,bv a29,bv a30,bv a31]).toArray _ _ rfl kR kR Tryz.underlying31 rfl kR _ kR kL) ?_
      exact Sy.leafI fin (fun i => 0) kR (all_cons kR (all_cons kR (all_cons kR (all_cons kR (all_cons kR (all_cons kR (all_cons kR (all_cons kR (all_cons kR (all_cons kR (all_cons kR (all_cons kR (all_cons kR (all_cons kR (all_cons kR (all_cons kR (all_cons kR (all_cons kR (all_cons kR (all_cons kR all_nil)))))))))))))))))))) kR
theorem even_3 (w : World) (k : Nat) (hk : k < K4) (u v : Fp) (h : evP k = some (u,v)) (ho : v * v = u * u * u + 7) (hv : v.val % 2 = 1) : Calls Tryz.prog 39 #[fv k] w (Gets w (.tuple #[fv (Sc.negP k),.agg ((evX (some (u,v))).map bv).toArray,.bool true])):=by
 obtain ⟨a0,a1,a2,a3,a4,a5,a6,a7,a8,a9,a10,a11,a12,a13,a14,a15,a16,a17,a18,a19,a20,a21,a22,a23,a24,a25,a26,a27,a28,a29,a30,a31,hm⟩:=list32 (bytesS u.val) (bytesS_length _)
 have cM : ∀ w,Calls Tryz.prog 93 #[fv k,pv gx.val gy.val false] w (Gets w (pv u.val v.val false)):=fun w => by have q:=base_mul w k hk; rw [h] at q; exact q
 have cE : ∀ w,Calls Tryz.prog 92 #[pv u.val v.val false] w (Gets w (.agg ((.int .u8 3 :: bv a0 :: bv a1 :: [bv a2,bv a3,bv a4,bv a5,bv a6,bv a7,bv a8,bv a9,bv a10,bv a11,bv a12,bv a13,bv a14,bv a15,bv a16,bv a17,bv a18,bv a19,bv a20,bv a21,bv a22,bv a23,bv a24,bv a25,bv a26,bv a27,bv a28,bv a29,bv a30,bv a31]) : List Value).toArray)):=fun w => by
  have q:=enc_pt w u v ho
  rw [show encS (some (u,v)) = 3 :: bytesS u.val from by show (if v.val % 2 = 1 then (3 : UInt8) else 2) :: bytesS u.val = _; rw [if_pos (by omega)],hm] at q
  exact q
 refine Sy.enter (args:=[fv k]) Tryz.func39 rfl kL ?_
 refine sC ?_
 refine sM 24 (fcs k) (fun g0 => ?_)
 refine sM 24 (fcs 0) (fun g1 => ?_)
 refine sM 31 (Zl 32).toArray (fun g2 => ?_)
 refine sP (.bool false) ?_
 refine sH (fun j => j == 5) ?_
 refine sD 0 rfl (fv k) (qL 0 g0 0 4 24 24 (fcs k) rfl Tryz.underlying24) <| sD 1 rfl (pv gx.val gy.val false) (qF 94 #[] (base_c)) <| sD 2 rfl (pv u.val v.val false) (qF 93 #[fv k,pv gx.val gy.val false] (cM)) <| sD 3 rfl (.agg ((.int .u8 3 :: bv a0 :: bv a1 :: [bv a2,bv a3,bv a4,bv a5,bv a6,bv a7,bv a8,bv a9,bv a10,bv a11,bv a12,bv a13,bv a14,bv a15,bv a16,bv a17,bv a18,bv a19,bv a20,bv a21,bv a22,bv a23,bv a24,bv a25,bv a26,bv a27,bv a28,bv a29,bv a30,bv a31]) : List Value).toArray) (qF 92 #[pv u.val v.val false] (cE)) ?_
 refine Sy.makeD 4 rfl kR kR 139 (Zl 33).toArray ptr kF (fun g3 => ?_)
 refine Sy.writeD 5 rfl kR (by rfl) kR 3 g3 139 (Zl 33).toArray (.int .u8 3 :: bv a0 :: bv a1 :: [bv a2,bv a3,bv a4,bv a5,bv a6,bv a7,bv a8,bv a9,bv a10,bv a11,bv a12,bv a13,bv a14,bv a15,bv a16,bv a17,bv a18,bv a19,bv a20,bv a21,bv a22,bv a23,bv a24,bv a25,bv a26,bv a27,bv a28,bv a29,bv a30,bv a31]).toArray kR (Writes.store 0 139 (.int .u8 3 :: bv a0 :: bv a1 :: [bv a2,bv a3,bv a4,bv a5,bv a6,bv a7,bv a8,bv a9,bv a10,bv a11,bv a12,bv a13,bv a14,bv a15,bv a16,bv a17,bv a18,bv a19,bv a20,bv a21,bv a22,bv a23,bv a24,bv a25,bv a26,bv a27,bv a28,bv a29,bv a30,bv a31]).toArray _ _ rfl kR kR kR kL kR kR) ?_
 refine sI ?_
 refine Sy.seq <| sC ?_
 refine sP (.pointer (some ⟨g3,0,none⟩)) <| sS (.int .u8 3) (Quiet.cell 3 g3 0 139 5 (.int .u8 3 :: bv a0 :: bv a1 :: [bv a2,bv a3,bv a4,bv a5,bv a6,bv a7,bv a8,bv a9,bv a10,bv a11,bv a12,bv a13,bv a14,bv a15,bv a16,bv a17,bv a18,bv a19,bv a20,bv a21,bv a22,bv a23,bv a24,bv a25,bv a26,bv a27,bv a28,bv a29,bv a30,bv a31]).toArray _ _ rfl kR kR Tryz.underlying5 rfl _ kR) ?_
 refine sG <| Sy.block <| sC ?_
 refine sP (.bool false) <| sP (.bool false) ?_
 refine sG <| sU <| sC ?_
 refine sP (.bool true) <| sP (.bool true) ?_
 refine sG <| sT <| Sy.region ?_
 refine sS (fv k) (qL 0 g0 0 4 24 24 (fcs k) rfl Tryz.underlying24) <| sS (fv (Sc.negP k)) (qF 95 #[fv k] (fun w => Sc.negF_any w k hk)) <| sW 0 g0 24 (fcs k) (fcs (Sc.negP k)) (wS 0 24 (fcs (Sc.negP k)) rfl) ?_
 refine Sy.nil <| Sy.in_ ?_
 refine sR (fun j => j == 4 || j == 5) ?_
 refine sD 0 rfl (fv (Sc.negP k)) (qL 0 g0 0 4 24 24 (fcs (Sc.negP k)) rfl Tryz.underlying24) ?_
 refine Sy.joinD (fun gq => [(0,fv k),(1,.pointer (some ⟨g0,0,none⟩)),(2,.pointer (some ⟨g1,0,none⟩)),(3,.pointer (some ⟨g2,0,none⟩)),(4,.bool false),(5,.pointer (some ⟨g3,0,none⟩)),(6,fv k),(7,pv gx.val gy.val false),(8,pv u.val v.val false),(9,.agg ((.int .u8 3 :: bv a0 :: bv a1 :: [bv a2,bv a3,bv a4,bv a5,bv a6,bv a7,bv a8,bv a9,bv a10,bv a11,bv a12,bv a13,bv a14,bv a15,bv a16,bv a17,bv a18,bv a19,bv a20,bv a21,bv a22,bv a23,bv a24,bv a25,bv a26,bv a27,bv a28,bv a29,bv a30,bv a31]) : List Value).toArray),(10,.pointer (some ⟨g3,0,none⟩)),(11,.int .u8 3),(12,.bool false),(13,.bool false),(16,.bool true),(17,.bool true),(18,fv k),(19,fv (Sc.negP k)),(20,fv (Sc.negP k)),(21,.slice (some ⟨g3,1,none⟩) 32 32),(22,.pointer (some ⟨g3,1,none⟩)),(23,.agg ((bv a0 :: bv a1 :: [bv a2,bv a3,bv a4,bv a5,bv a6,bv a7,bv a8,bv a9,bv a10,bv a11,bv a12,bv a13,bv a14,bv a15,bv a16,bv a17,bv a18,bv a19,bv a20,bv a21,bv a22,bv a23,bv a24,bv a25,bv a26,bv a27,bv a28,bv a29,bv a30,bv a31]) : List Value).toArray)]) (fun gq => [(g0,24,(fcs (Sc.negP k))),(g1,24,(fcs (Sc.negP k))),(g2,31,(Zl 32).toArray),(g3,139,(.int .u8 3 :: bv a0 :: bv a1 :: [bv a2,bv a3,bv a4,bv a5,bv a6,bv a7,bv a8,bv a9,bv a10,bv a11,bv a12,bv a13,bv a14,bv a15,bv a16,bv a17,bv a18,bv a19,bv a20,bv a21,bv a22,bv a23,bv a24,bv a25,bv a26,bv a27,bv a28,bv a29,bv a30,bv a31]).toArray)]) 2 #[true,true,true,true,true,false,false] (fun gq => ?_) (fun fin => ?_)
 ·refine sX 5 rfl 2 g2 31 (Zl 32).toArray (bv a0 :: bv a1 :: [bv a2,bv a3,bv a4,bv a5,bv a6,bv a7,bv a8,bv a9,bv a10,bv a11,bv a12,bv a13,bv a14,bv a15,bv a16,bv a17,bv a18,bv a19,bv a20,bv a21,bv a22,bv a23,bv a24,bv a25,bv a26,bv a27,bv a28,bv a29,bv a30,bv a31]).toArray (wS 0 31 (bv a0 :: bv a1 :: [bv a2,bv a3,bv a4,bv a5,bv a6,bv a7,bv a8,bv a9,bv a10,bv a11,bv a12,bv a13,bv a14,bv a15,bv a16,bv a17,bv a18,bv a19,bv a20,bv a21,bv a22,bv a23,bv a24,bv a25,bv a26,bv a27,bv a28,bv a29,bv a30,bv a31]).toArray rfl) ?_
  refine Sy.anyOf [6] kR (by decide) (Sy.each1 ?_)
  refine Sy.oneQuiet rfl kR (.bool true) qP ?_
  refine sI ?_
  refine Sy.ret ?_
  rw [show (.tuple #[fv (Sc.negP k),.agg ((evX (some (u,v))).map bv).toArray,.bool true] : Value) = .tuple #[fv (Sc.negP k),.agg ((bv a0 :: bv a1 :: [bv a2,bv a3,bv a4,bv a5,bv a6,bv a7,bv a8,bv a9,bv a10,bv a11,bv a12,bv a13,bv a14,bv a15,bv a16,bv a17,bv a18,bv a19,bv a20,bv a21,bv a22,bv a23,bv a24,bv a25,bv a26,bv a27,bv a28,bv a29,bv a30,bv a31]) : List Value).toArray,.bool true] from by rw [show evX (some (u,v)) = bytesS u.val from rfl,hm]; rfl]
  exact Sy.ret3 (v:=fv (Sc.negP k)) (u:=.agg ((bv a0 :: bv a1 :: [bv a2,bv a3,bv a4,bv a5,bv a6,bv a7,bv a8,bv a9,bv a10,bv a11,bv a12,bv a13,bv a14,bv a15,bv a16,bv a17,bv a18,bv a19,bv a20,bv a21,bv a22,bv a23,bv a24,bv a25,bv a26,bv a27,bv a28,bv a29,bv a30,bv a31]) : List Value).toArray) (x:=.bool true) rfl (.inl (Res.cell (ty':=24) g1 1 (fcs (Sc.negP k)) _ kR kR Tryz.underlying24 rfl kR kR)) (.inl (Res.cell (ty':=31) g2 2 (bv a0 :: bv a1 :: [bv a2,bv a3,bv a4,bv a5,bv a6,bv a7,bv a8,bv a9,bv a10,bv a11,bv a12,bv a13,bv a14,bv a15,bv a16,bv a17,bv a18,bv a19,bv a20,bv a21,bv a22,bv a23,bv a24,bv a25,bv a26,bv a27,bv a28,bv a29,bv a30,bv a31]).toArray _ kR kR Tryz.underlying31 rfl kR kR)) (.inl (show _ = _ by kernel_rfl))
 ·refine Sy.anyOf [1,4] kR (by decide) (Sy.each2 ?_ ?_)
  ·refine Sy.oneQuiet rfl kR (.slice (some ⟨g3,1,none⟩) 32 32) qP ?_
   refine Sy.anyOf [2,4] kR (by decide) (Sy.each2 ?_ ?_)
   ·refine Sy.oneQuiet rfl kR (.pointer (some ⟨g3,1,none⟩)) qP ?_
    refine Sy.anyOf [3,4] kR (by decide) (Sy.each2 ?_ ?_)
    ·refine Sy.oneQuiet rfl kR (.agg ((bv a0 :: bv a1 :: [bv a2,bv a3,bv a4,bv a5,bv a6,bv a7,bv a8,bv a9,bv a10,bv a11,bv a12,bv a13,bv a14,bv a15,bv a16,bv a17,bv a18,bv a19,bv a20,bv a21,bv a22,bv a23,bv a24,bv a25,bv a26,bv a27,bv a28,bv a29,bv a30,bv a31]) : List Value).toArray) (Quiet.load 3 g3 1 32 139 31 (.int .u8 3 :: bv a0 :: bv a1 :: [bv a2,bv a3,bv a4,bv a5,bv a6,bv a7,bv a8,bv a9,bv a10,bv a11,bv a12,bv a13,bv a14,bv a15,bv a16,bv a17,bv a18,bv a19,bv a20,bv a21,bv a22,bv a23,bv a24,bv a25,bv a26,bv a27,bv a28,bv a29,bv a30,bv a31]).toArray _ _ rfl kR kR Tryz.underlying31 rfl kR _ kR kL) ?_
     refine Sy.anyOf [4] kR (by decide) (Sy.each1 ?_)
     ·refine Sy.oneWrite rfl (by rfl) kR 1 g1 24 (fcs 0) (fcs (Sc.negP k)) kR (wS 0 24 (fcs (Sc.negP k)) rfl) ?_
      exact Sy.leafI fin (fun i => 0) kR (all_cons kR (all_cons kR (all_cons kR (all_cons kR (all_cons kR (all_cons kR (all_cons kR (all_cons kR (all_cons kR (all_cons kR (all_cons kR (all_cons kR (all_cons kR (all_cons kR (all_cons kR (all_cons kR (all_cons kR (all_cons kR (all_cons kR (all_cons kR (all_cons kR (all_cons kR all_nil)))))))))))))))))))))) kR
    ·refine Sy.oneWrite rfl (by rfl) kR 1 g1 24 (fcs 0) (fcs (Sc.negP k)) kR (wS 0 24 (fcs (Sc.negP k)) rfl) ?_
     refine Sy.anyOf [3] kR (by decide) (Sy.each1 ?_)
     ·refine Sy.oneQuiet rfl kR (.agg ((bv a0 :: bv a1 :: [bv a2,bv a3,bv a4,bv a5,bv a6,bv a7,bv a8,bv a9,bv a10,bv a11,bv a12,bv a13,bv a14,bv a15,bv a16,bv a17,bv a18,bv a19,bv a20,bv a21,bv a22,bv a23,bv a24,bv a25,bv a26,bv a27,bv a28,bv a29,bv a30,bv a31]) : List Value).toArray) (Quiet.load 3 g3 1 32 139 31 (.int .u8 3 :: bv a0 :: bv a1 :: [bv a2,bv a3,bv a4,bv a5,bv a6,bv a7,bv a8,bv a9,bv a10,bv a11,bv a12,bv a13,bv a14,bv a15,bv a16,bv a17,bv a18,bv a19,bv a20,bv a21,bv a22,bv a23,bv a24,bv a25,bv a26,bv a27,bv a28,bv a29,bv a30,bv a31]).toArray _ _ rfl kR kR Tryz.underlying31 rfl kR _ kR kL) ?_
      exact Sy.leafI fin (fun i => 0) kR (all_cons kR (all_cons kR (all_cons kR (all_cons kR (all_cons kR (all_cons kR (all_cons kR (all_cons kR (all_cons kR (all_cons kR (all_cons kR (all_cons kR (all_cons kR (all_cons kR (all_cons kR (all_cons kR (all_cons kR (all_cons kR (all_cons kR (all_cons kR (all_cons kR (all_cons kR all_nil)))))))))))))))))))))) kR
   ·refine Sy.oneWrite rfl (by rfl) kR 1 g1 24 (fcs 0) (fcs (Sc.negP k)) kR (wS 0 24 (fcs (Sc.negP k)) rfl) ?_
    refine Sy.anyOf [2] kR (by decide) (Sy.each1 ?_)
    ·refine Sy.oneQuiet rfl kR (.pointer (some ⟨g3,1,none⟩)) qP ?_
     refine Sy.anyOf [3] kR (by decide) (Sy.each1 ?_)
     ·refine Sy.oneQuiet rfl kR (.agg ((bv a0 :: bv a1 :: [bv a2,bv a3,bv a4,bv a5,bv a6,bv a7,bv a8,bv a9,bv a10,bv a11,bv a12,bv a13,bv a14,bv a15,bv a16,bv a17,bv a18,bv a19,bv a20,bv a21,bv a22,bv a23,bv a24,bv a25,bv a26,bv a27,bv a28,bv a29,bv a30,bv a31]) : List Value).toArray) (Quiet.load 3 g3 1 32 139 31 (.int .u8 3 :: bv a0 :: bv a1 :: [bv a2,bv a3,bv a4,bv a5,bv a6,bv a7,bv a8,bv a9,bv a10,bv a11,bv a12,bv a13,bv a14,bv a15,bv a16,bv a17,bv a18,bv a19,bv a20,bv a21,bv a22,bv a23,bv a24,bv a25,bv a26,bv a27,bv a28,bv a29,bv a30,bv a31]).toArray _ _ rfl kR kR Tryz.underlying31 rfl kR _ kR kL) ?_
      exact Sy.leafI fin (fun i => 0) kR (all_cons kR (all_cons kR (all_cons kR (all_cons kR (all_cons kR (all_cons kR (all_cons kR (all_cons kR (all_cons kR (all_cons kR (all_cons kR (all_cons kR (all_cons kR (all_cons kR (all_cons kR (all_cons kR (all_cons kR (all_cons kR (all_cons kR (all_cons kR (all_cons kR (all_cons kR all_nil)))))))))))))))))))))) kR
  ·refine Sy.oneWrite rfl (by rfl) kR 1 g1 24 (fcs 0) (fcs (Sc.negP k)) kR (wS 0 24 (fcs (Sc.negP k)) rfl) ?_
   refine Sy.anyOf [1] kR (by decide) (Sy.each1 ?_)
   ·refine Sy.oneQuiet rfl kR (.slice (some ⟨g3,1,none⟩) 32 32) qP ?_
    refine Sy.anyOf [2] kR (by decide) (Sy.each1 ?_)
    ·refine Sy.oneQuiet rfl kR (.pointer (some ⟨g3,1,none⟩)) qP ?_
     refine Sy.anyOf [3] kR (by decide) (Sy.each1 ?_)
     ·refine Sy.oneQuiet rfl kR (.agg ((bv a0 :: bv a1 :: [bv a2,bv a3,bv a4,bv a5,bv a6,bv a7,bv a8,bv a9,bv a10,bv a11,bv a12,bv a13,bv a14,bv a15,bv a16,bv a17,bv a18,bv a19,bv a20,bv a21,bv a22,bv a23,bv a24,bv a25,bv a26,bv a27,bv a28,bv a29,bv a30,bv a31]) : List Value).toArray) (Quiet.load 3 g3 1 32 139 31 (.int .u8 3 :: bv a0 :: bv a1 :: [bv a2,bv a3,bv a4,bv a5,bv a6,bv a7,bv a8,bv a9,bv a10,bv a11,bv a12,bv a13,bv a14,bv a15,bv a16,bv a17,bv a18,bv a19,bv a20,bv a21,bv a22,bv a23,bv a24,bv a25,bv a26,bv a27,bv a28,bv a29,bv a30,bv a31]).toArray _ _ rfl kR kR Tryz.underlying31 rfl kR _ kR kL) ?_
      exact Sy.leafI fin (fun i => 0) kR (all_cons kR (all_cons kR (all_cons kR (all_cons kR (all_cons kR (all_cons kR (all_cons kR (all_cons kR (all_cons kR (all_cons kR (all_cons kR (all_cons kR (all_cons kR (all_cons kR (all_cons kR (all_cons kR (all_cons kR (all_cons kR (all_cons kR (all_cons kR (all_cons kR (all_cons kR all_nil)))))))))))))))))))))) kR
theorem even_any (w : World) (k : Nat) (hk : k < K4) : Calls Tryz.prog 39 #[fv k] w (Gets w (.tuple #[fv (evD k),.agg ((evX (evP k)).map bv).toArray,.bool (evP k).isSome])):=by
 have ho:=evP_on k
 unfold evD
 rcases h : evP k with _ | ⟨u,v⟩
 ·exact even_none w k hk h
 ·rw [h] at ho
  rcases Nat.mod_two_eq_zero_or_one v.val with hv | hv
  ·have q:=even_2 w k hk u v h ho hv
   show Calls _ _ _ _ (Gets w (.tuple #[fv (if v.val % 2 = 1 then Sc.negP k else k),_,_]))
   rw [if_neg (by omega)]
   exact q
  ·have q:=even_3 w k hk u v h ho hv
   show Calls _ _ _ _ (Gets w (.tuple #[fv (if v.val % 2 = 1 then Sc.negP k else k),_,_]))
   rw [if_pos (by omega)]
   exact q
theorem public_any (w : World) (k : Nat) (hk : k < K4) : Calls Tryz.prog 13 #[fv k] w (Gets w (.tuple #[.agg ((evX (evP k)).map bv).toArray,.bool (evP k).isSome])):=by
 refine Sy.enter (args:=[fv k]) Tryz.func13 rfl kL ?_
 refine sC ?_
 refine sM 24 (fcs k) (fun g0 => ?_)
 refine sM 31 (Zl 32).toArray (fun g1 => ?_)
 refine sP (.bool false) ?_
 refine sA ?_
 refine sS (fv k) (qL 0 g0 0 4 24 24 (fcs k) rfl Tryz.underlying24) <| sS (.tuple #[fv (evD k),.agg ((evX (evP k)).map bv).toArray,.bool ((evP k).isSome)]) (qF 39 #[fv k] (fun w => even_any w k hk)) <| sP (.tuple #[fv (evD k),.agg ((evX (evP k)).map bv).toArray,.bool ((evP k).isSome)]) <| sP (fv (evD k)) <| sP (.agg ((evX (evP k)).map bv).toArray) <| sP (.bool ((evP k).isSome)) ?_
 refine sM 24 (fcs 0) (fun g2 => ?_)
 refine sM 31 (Zl 32).toArray (fun g3 => ?_)
 refine sW 2 g2 24 (fcs 0) (fcs (evD k)) (wS 0 24 (fcs (evD k)) rfl) <| sW 3 g3 31 (Zl 32).toArray ((evX (evP k)).map bv).toArray (Writes.store 0 31 ((evX (evP k)).map bv).toArray _ _ rfl kR kR (by rw [key_sz (evX (evP k)) (evX_length _)]; kernel_rfl) (by rw [key_sz (evX (evP k)) (evX_length _)]; exact Nat.le_of_ble_eq_true kR) (key_one _) (key_set _ _ (by rw [(evX_length _)]; kernel_rfl))) <| sP (.bool ((evP k).isSome)) ?_
 refine sA ?_
 refine sS (.agg ((evX (evP k)).map bv).toArray) (Quiet.load 3 g3 0 32 31 31 ((evX (evP k)).map bv).toArray _ _ rfl kR kR Tryz.underlying31 rfl kR _ (key_whole (evX (evP k)) (evX_length _)) (key_size (evX (evP k)) (evX_length _))) <| sP (.bool ((evP k).isSome)) <| sW 1 g1 31 (Zl 32).toArray ((evX (evP k)).map bv).toArray (Writes.store 0 31 ((evX (evP k)).map bv).toArray _ _ rfl kR kR (by rw [key_sz (evX (evP k)) (evX_length _)]; kernel_rfl) (by rw [key_sz (evX (evP k)) (evX_length _)]; exact Nat.le_of_ble_eq_true kR) (key_one _) (key_set _ _ (by rw [(evX_length _)]; kernel_rfl))) <| sP (.bool ((evP k).isSome)) ?_
 refine sG <| Sy.ret ?_
 exact Sy.ret2 (v:=.agg ((evX (evP k)).map bv).toArray) (u:=.bool ((evP k).isSome)) rfl (.inl (Res.cell (ty':=31) g1 1 ((evX (evP k)).map bv).toArray _ kR kR Tryz.underlying31 rfl (by rw [key_sz (evX (evP k)) (evX_length _)]; kernel_rfl) kR)) (.inl (show _ = _ by kernel_rfl))
end Cu
end
section
namespace Sc
open Go.RowKit Go.Lib
theorem run_equalIn_fv (W : World) (n m : Nat) (hn : n < (2^256)) (hm : m < (2^256)) : (Op.equalIn 10000 24 (fv n) (fv m)).run Tryz.prog W = .ok (decide (n = m)) W:=by
 rw [fv_wl,fv_wl]
 have h:=run_equalIn_words W 9998 24 22 4 Tryz.underlying24 Tryz.underlying22 (fun W => by kernel_rfl) (wl n) (wl m) rfl rfl
 rw [wl_beq hn hm] at h
 exact h
theorem run_neq_fv (W : World) (n m : Nat) (hn : n < (2^256)) (hm : m < (2^256)) : (binOp .neq 24 (fv n) (fv m)).run Tryz.prog W = .ok (.bool (decide (n ≠ m))) W:=by
 have h:=run_equalIn_fv W n m hn hm
 rw [fv_wl,fv_wl] at h ⊢
 rw [run_neq_struct,h]
 by_cases e : n = m <;> simp [e]
theorem run_eqGuard_fv (op : BinOp) (x y : Operand) (n m : Nat) (W : World) : (eqGuard op 24 x y (fv n) (fv m)).run Tryz.prog W = .ok () W:=by
 rw [fv_fcs,fv_fcs]
 go_simp
end Sc
end
section
namespace Sc
open Go.RowKit Go.Lib
set_option maxHeartbeats 8000000 in
set_option maxRecDepth 100000 in
theorem words_any (w : World) (l : List UInt8) (hl : l.length = 32) : Calls Tryz.prog 155 #[.agg (l.map bv).toArray] w fun e w' => e = .returned (fv (valB l)) ∧ Below w.heap.size w w':=by
 have HL:=Lib.hid hl
 clear hl
 go_enter Tryz.func155,Tryz.ntmps155
 go_wp2_with (first | ((with_reducible refine here_load (d:=some 6) ?_); refine wpList_load_blk rfl _ _ rfl w.heap.size rfl _ _ _ (((Blk.new w _ _).alloc _).alloc _) Tryz.underlying30 rfl (b32_info HL.out) ?_))
 go_loopw [7] (fun i wr => ∃ k y0 y1 y2 y3 : Nat,k ≤ 32 ∧ i = .int .i64 (k : Int) ∧ Hid (y0 = wdB l k 0 ∧ y1 = wdB l k 1 ∧ y2 = wdB l k 2 ∧ y3 = wdB l k 3) ∧ Below w.heap.size w wr ∧ Blk wr (w.heap.size + 2) 24 #[.int .u64 (y3 : Int),.int .u64 (y2 : Int),.int .u64 (y1 : Int),.int .u64 (y0 : Int)] ∧ Blk wr (w.heap.size + 1) 24 #[.int .u64 0,.int .u64 0,.int .u64 0,.int .u64 0]) (fun i _ => 32 - (intOf i).toNat)
 case atStart => exact ⟨0,0,0,0,0,by omega,rfl,Lib.hid ⟨(wdB_zero l 0).symm,(wdB_zero l 1).symm,(wdB_zero l 2).symm,(wdB_zero l 3).symm⟩,below_alloc3 w _ _ _,blk_new3 w _ _ _ _,(blk_new2 w _ _ _).alloc _⟩
 case round =>
  obtain ⟨k,y0,y1,y2,y3,hk,rfl,HY,hb,hP,hR⟩:=hrel
  have q3 : wr.cell? ⟨w.heap.size + 1 + 1,0,none⟩ = some (.int .u64 (y3 : Int)):=hP.cell 0
  have q2 : wr.cell? ⟨w.heap.size + 1 + 1,1,none⟩ = some (.int .u64 (y2 : Int)):=hP.cell 1
  have q1 : wr.cell? ⟨w.heap.size + 1 + 1,2,none⟩ = some (.int .u64 (y1 : Int)):=hP.cell 2
  have q0 : wr.cell? ⟨w.heap.size + 1 + 1,3,none⟩ = some (.int .u64 (y0 : Int)):=hP.cell 3
  have ff : ∀ j,wr.frozen? ⟨w.heap.size + 1 + 1,j,none⟩ = false:=fun j => hP.frozen j
  by_cases hlt : k < 32
  ·obtain ⟨c,hc⟩ : ∃ c,l[k]? = some c:=⟨l[k]'(by rw [HL.out]; exact hlt),List.getElem?_eq_getElem _⟩
   have HC:=Lib.hid hc
   obtain ⟨m,hm⟩ : ∃ m,m = c.toNat:=⟨_,rfl⟩
   have hm8 : m < 256:=by rw [hm]; exact c.toNat_lt
   have hI : ∀ W,(Instr.index 30 (.agg (l.map bv).toArray) (.int .i64 (k : Int))).run Tryz.prog W = .ok (.int .u8 (m : Int)) W:=fun W => by
    rw [run_index_b32 W l k c hc hlt,hm]; rfl
   have HM:=Lib.hid hm
   have HR:=Lib.hid (And.intro hb (And.intro hP hR))
   clear hb hP hR hc hk hm
   rcases (show k = 0 ∨ k = 1 ∨ k = 2 ∨ k = 3 ∨ k = 4 ∨ k = 5 ∨ k = 6 ∨ k = 7 ∨ k = 8 ∨ k = 9 ∨ k = 10 ∨ k = 11 ∨ k = 12 ∨ k = 13 ∨ k = 14 ∨ k = 15 ∨ k = 16 ∨ k = 17 ∨ k = 18 ∨ k = 19 ∨ k = 20 ∨ k = 21 ∨ k = 22 ∨ k = 23 ∨ k = 24 ∨ k = 25 ∨ k = 26 ∨ k = 27 ∨ k = 28 ∨ k = 29 ∨ k = 30 ∨ k = 31 by omega) with rfl | rfl | rfl | rfl | rfl | rfl | rfl | rfl | rfl | rfl | rfl | rfl | rfl | rfl | rfl | rfl | rfl | rfl | rfl | rfl | rfl | rfl | rfl | rfl | rfl | rfl | rfl | rfl | rfl | rfl | rfl | rfl
   all_goals
    simp only [Int.cast_ofNat_Int] at hI
   all_goals
    first
    | ((have hy : y0 < 72057594037927936:=by rw [HY.out.1]; exact wdB_lt l _ 0 (by decide)); (have ho:=or_add y0 m hy hm8); go_wp2; (refine ⟨⟨_,y0 * 256 + m,y1,y2,y3,by decide,rfl,Lib.hid ⟨by rw [HY.out.1,HM.out]; exact (wdB_step l _ 0 c HC.out (by decide)).symm,by rw [HY.out.2.1]; exact (wdB_same l _ 1 (by decide)).symm,by rw [HY.out.2.2.1]; exact (wdB_same l _ 2 (by decide)).symm,by rw [HY.out.2.2.2]; exact (wdB_same l _ 3 (by decide)).symm⟩,HR.out.1.setCell (by show w.heap.size ≤ w.heap.size + 1 + 1; omega) _,Blk.eq_ (HR.out.2.1.set_ 3 _) (by rw [show ((y0 * 256 + m : Nat) : Int) = (y0 : Int) * 256 + (m : Int) by omega]; rfl),HR.out.2.2.far (by show w.heap.size + 1 ≠ w.heap.size + 1 + 1; omega) _⟩,by simp [intOf]⟩))
    | ((have hy : y1 < 72057594037927936:=by rw [HY.out.2.1]; exact wdB_lt l _ 1 (by decide)); (have ho:=or_add y1 m hy hm8); go_wp2; (refine ⟨⟨_,y0,y1 * 256 + m,y2,y3,by decide,rfl,Lib.hid ⟨by rw [HY.out.1]; exact (wdB_same l _ 0 (by decide)).symm,by rw [HY.out.2.1,HM.out]; exact (wdB_step l _ 1 c HC.out (by decide)).symm,by rw [HY.out.2.2.1]; exact (wdB_same l _ 2 (by decide)).symm,by rw [HY.out.2.2.2]; exact (wdB_same l _ 3 (by decide)).symm⟩,HR.out.1.setCell (by show w.heap.size ≤ w.heap.size + 1 + 1; omega) _,Blk.eq_ (HR.out.2.1.set_ 2 _) (by rw [show ((y1 * 256 + m : Nat) : Int) = (y1 : Int) * 256 + (m : Int) by omega]; rfl),HR.out.2.2.far (by show w.heap.size + 1 ≠ w.heap.size + 1 + 1; omega) _⟩,by simp [intOf]⟩))
    | ((have hy : y2 < 72057594037927936:=by rw [HY.out.2.2.1]; exact wdB_lt l _ 2 (by decide)); (have ho:=or_add y2 m hy hm8); go_wp2; (refine ⟨⟨_,y0,y1,y2 * 256 + m,y3,by decide,rfl,Lib.hid ⟨by rw [HY.out.1]; exact (wdB_same l _ 0 (by decide)).symm,by rw [HY.out.2.1]; exact (wdB_same l _ 1 (by decide)).symm,by rw [HY.out.2.2.1,HM.out]; exact (wdB_step l _ 2 c HC.out (by decide)).symm,by rw [HY.out.2.2.2]; exact (wdB_same l _ 3 (by decide)).symm⟩,HR.out.1.setCell (by show w.heap.size ≤ w.heap.size + 1 + 1; omega) _,Blk.eq_ (HR.out.2.1.set_ 1 _) (by rw [show ((y2 * 256 + m : Nat) : Int) = (y2 : Int) * 256 + (m : Int) by omega]; rfl),HR.out.2.2.far (by show w.heap.size + 1 ≠ w.heap.size + 1 + 1; omega) _⟩,by simp [intOf]⟩))
    | ((have hy : y3 < 72057594037927936:=by rw [HY.out.2.2.2]; exact wdB_lt l _ 3 (by decide)); (have ho:=or_add y3 m hy hm8); go_wp2; (refine ⟨⟨_,y0,y1,y2,y3 * 256 + m,by decide,rfl,Lib.hid ⟨by rw [HY.out.1]; exact (wdB_same l _ 0 (by decide)).symm,by rw [HY.out.2.1]; exact (wdB_same l _ 1 (by decide)).symm,by rw [HY.out.2.2.1]; exact (wdB_same l _ 2 (by decide)).symm,by rw [HY.out.2.2.2,HM.out]; exact (wdB_step l _ 3 c HC.out (by decide)).symm⟩,HR.out.1.setCell (by show w.heap.size ≤ w.heap.size + 1 + 1; omega) _,Blk.eq_ (HR.out.2.1.set_ 0 _) (by rw [show ((y3 * 256 + m : Nat) : Int) = (y3 : Int) * 256 + (m : Int) by omega]; rfl),HR.out.2.2.far (by show w.heap.size + 1 ≠ w.heap.size + 1 + 1; omega) _⟩,by simp [intOf]⟩))
  ·have p1 : ¬ (k : Int) < 32:=by omega
   obtain rfl : k = 32:=by omega
   have b0 : y0 < 18446744073709551616:=by rw [HY.out.1]; exact wdB_lt8 l _ _
   have b1 : y1 < 18446744073709551616:=by rw [HY.out.2.1]; exact wdB_lt8 l _ _
   have b2 : y2 < 18446744073709551616:=by rw [HY.out.2.2.1]; exact wdB_lt8 l _ _
   have b3 : y3 < 18446744073709551616:=by rw [HY.out.2.2.2]; exact wdB_lt8 l _ _
   obtain ⟨z,hz⟩ : ∃ z,z = y3 + 18446744073709551616 * y2 + 340282366920938463463374607431768211456 * y1 + 6277101735386680763835789423207666416102355444464034512896 * y0:=⟨_,rfl⟩
   have fz:=fv_mk y3 y2 y1 y0 b3 b2 b1 b0
   rw [← hz] at fz
   have hzv : valB l = z:=by rw [wdB_all l HL.out,hz,HY.out.1,HY.out.2.1,HY.out.2.2.1,HY.out.2.2.2]
   have HZ:=Lib.hid hzv
   have FZ:=Lib.hid fz.symm
   have HP:=Lib.hid hP
   have HR:=Lib.hid hR
   clear HY b0 b1 b2 b3 hz fz hzv q0 q1 q2 q3 ff hP hR
   go_wp2_with (first | ((with_reducible refine here_load (d:=some 25) ?_); refine wpList_load_fv rfl _ _ rfl (w.heap.size + 2) rfl (z) _ _ _ (HP.out) (FZ.out) Tryz.underlying24 rfl (by kernel_rfl) ?_) | ((with_reducible refine here_store ?_); refine wpList_store_blk rfl _ _ _ rfl (w.heap.size + 1) (fcs (z)) rfl rfl _ _ (HR.out) (by kernel_rfl) (by rfl) (fcs_one _) ?_; intro vz hLz hqz hKz))
   exact bodyPost_ret (results_cell_row rfl _ _ (w.heap.size + 1) _ _ (0,0) _ rfl hLz Tryz.underlying24 rfl (by kernel_rfl)) rfl ⟨by rw [HZ.out]; rfl,hb.trans (hqz _ (by omega))⟩
def readS (l : List UInt8) : Nat × Bool:=if valB l < pM then (valB l,true) else (0,false)
set_option maxHeartbeats 2000000 in
set_option maxRecDepth 100000 in
theorem read_any (w : World) (l : List UInt8) (hl : l.length = 32) : Calls Tryz.prog 137 #[.agg (l.map bv).toArray] w fun e w' => e = .returned (.tuple #[fv (readS l).1,.bool (readS l).2]) ∧ Below w.heap.size w w':=by
 obtain ⟨z,hz⟩ : ∃ z,z = valB l:=⟨_,rfl⟩
 have hzl : z < (2^256):=by rw [hz]; exact valB_lt32 l hl
 obtain ⟨n,hn⟩ : ∃ n,n = z % pM:=⟨_,rfl⟩
 have hnl : n < (2^256):=by rw [hn]; exact mod_lt z
 obtain ⟨b,hbd⟩ : ∃ b,b = decide (n ≠ z):=⟨_,rfl⟩
 have eb : ∀ W,(binOp .neq 24 (fv n) (fv z)).run Tryz.prog W = .ok (.bool b) W:=fun W => by rw [hbd]; exact run_neq_fv W n z hnl hzl
 have cw : ∀ w,Calls Tryz.prog 155 #[.agg (l.map bv).toArray] w fun e w' => e = .returned (fv z) ∧ Below w.heap.size w w':=by
  intro w; rw [hz]; exact words_any w l hl
 have cn : ∀ w,Calls Tryz.prog 128 #[fv z] w fun e w' => e = .returned (fv n) ∧ Below w.heap.size w w':=by
  intro w; rw [hn]; exact norm_any w z hzl
 have hS : readS l = if b = true then (0,false) else (z,true):=by
  unfold readS
  rw [← hz,hbd,hn]
  by_cases h : z < pM
  ·rw [if_pos h,Nat.mod_eq_of_lt h]; simp
  ·have h2 : z % pM ≠ z:=fun e => h (by rw [← e]; exact mod_lt_p z)
   rw [if_neg h]; simp [h2]
 have HS:=Lib.hid hS
 have HL:=Lib.hid hl
 clear hl hz hzl hn hnl hbd hS
 go_enter Tryz.func137,Tryz.ntmps137
 go_wp2_with (first | ((with_reducible refine here_load (d:=some 5) ?_); refine wpList_load_blk rfl _ _ rfl w.heap.size rfl _ _ _ ((Blk.new w _ _).alloc _) Tryz.underlying30 rfl (b32_info HL.out) ?_))
 refine (cw _).mono ?_
 rintro e w1 ⟨rfl,k1⟩
 have BR:=Gr.blk k1 (blk_new2 w _ _ _)
 have sz:=BR.lt
 have hB:=Below.gr (below_alloc2 w _ _) k1
 clear k1 cw
 go_wp2_with (first | ((with_reducible refine here_store ?_); refine wpList_store_blk rfl _ _ _ rfl (w1.heap.size) (fcs (z)) rfl rfl _ _ (Blk.new w1 _ _) (by kernel_rfl) (by rfl) (fcs_one _) ?_; intro w2 hL2 hq2 hK2; have CR:=hK2 _ (by omega) _ _ (BR.alloc _); have hB2:=(hB.alloc (by omega) _).trans (hq2 _ (by omega))))
 refine wp_region_G (fun _ => false) (by kernel_rfl) ?_
 try simp only [Act.put]
 refine tkw 0 rfl (YieldsG.loadF (by rfl) _ _ rfl (w1.heap.size) rfl (z) _ _ (hL2) (fv_fcs _) Tryz.underlying24 rfl (by kernel_rfl)) ?_
 try simp only [Act.put,aA,aZ,aS]
 refine tkw 1 rfl (YieldsG.call (v:=fv n) (by rfl) 128 _ (fun w9 => by go_simp; try (first | with_reducible rfl | rfl)) (fun w9 h9 => cn w9)) ?_
 try simp only [Act.put,aA,aZ,aS]
 refine tkw 2 rfl (YieldsG.loadF (by rfl) _ _ rfl (w1.heap.size) rfl (z) _ _ (hL2) (fv_fcs _) Tryz.underlying24 rfl (by kernel_rfl)) ?_
 try simp only [Act.put,aA,aZ,aS]
 refine tkw 3 rfl (YieldsG.pure (v:=.bool b) (by rfl) (fun w9 h9 => by go_simp; rw [run_eqGuard_fv]; simp only [Result.andThen_ok])) ?_
 try simp only [Act.put,aA,aZ,aS]
 refine wpAnyG_done (by kernel_rfl) (fun u hu => ?_)
 have hbu:=Below.gr hB2 hu
 have BRu:=Gr.blk hu CR
 have BP:=Gr.blk hu hL2
 clear hu hB2 CR hL2 eb cn
 cases b
 ·have HT : Hid (readS l = (z,true)):=Lib.hid (by rw [HS.out]; rfl)
  clear HS
  go_wp2_with (first | ((with_reducible refine here_load (d:=some 12) ?_); refine wpList_load_fv rfl _ _ rfl (w1.heap.size) rfl (z) _ _ _ (BP) (fv_fcs _) Tryz.underlying24 rfl (by kernel_rfl) ?_) | ((with_reducible refine here_store ?_); refine wpList_store_blk rfl _ _ _ rfl (w.heap.size + 1) (fcs (z)) rfl rfl _ _ (BRu) (by kernel_rfl) (by rfl) (fcs_one _) ?_; intro vz hLz hqz hKz))
  exact bodyPost_ret (res_cell_tmp rfl _ _ (w.heap.size + 1) _ _ _ _ rfl hLz rfl Tryz.underlying24 rfl (by kernel_rfl)) rfl ⟨by rw [HT.out]; rfl,hbu.trans (hqz _ (by omega))⟩
 ·have HT : Hid (readS l = (0,false)):=Lib.hid (by rw [HS.out]; rfl)
  clear HS
  go_wp2_with (first | ((with_reducible refine here_store ?_); refine wpList_store_blk rfl _ _ _ rfl (w.heap.size + 1) _ rfl rfl _ _ (BRu) (by kernel_rfl) (by rfl) (by simp [Value.oneCell']) ?_; intro vz hLz hqz hKz))
  exact bodyPost_ret (res_cell_tmp rfl _ _ (w.heap.size + 1) _ _ _ _ rfl hLz rfl Tryz.underlying24 rfl (by kernel_rfl)) rfl ⟨by rw [HT.out]; rfl,hbu.trans (hqz _ (by omega))⟩
set_option maxHeartbeats 2000000 in
set_option maxRecDepth 100000 in
theorem reduceB_any (w : World) (l : List UInt8) (hl : l.length = 32) : Calls Tryz.prog 101 #[.agg (l.map bv).toArray] w fun e w' => e = .returned (fv (valB l % pM)) ∧ Below w.heap.size w w':=by
 obtain ⟨z,hz⟩ : ∃ z,z = valB l:=⟨_,rfl⟩
 have hzl : z < (2^256):=by rw [hz]; exact valB_lt32 l hl
 obtain ⟨n,hn⟩ : ∃ n,n = z % pM:=⟨_,rfl⟩
 have cw : ∀ w,Calls Tryz.prog 155 #[.agg (l.map bv).toArray] w fun e w' => e = .returned (fv z) ∧ Below w.heap.size w w':=by
  intro w; rw [hz]; exact words_any w l hl
 have cn : ∀ w,Calls Tryz.prog 128 #[fv z] w fun e w' => e = .returned (fv n) ∧ Below w.heap.size w w':=by
  intro w; rw [hn]; exact norm_any w z hzl
 rw [← hz, ← hn]
 have HL:=Lib.hid hl
 clear hl hz hzl hn
 go_enter Tryz.func101,Tryz.ntmps101
 go_wp2_with (first | ((with_reducible refine here_load (d:=some 3) ?_); refine wpList_load_blk rfl _ _ rfl w.heap.size rfl _ _ _ ((Blk.new w _ _).alloc _) Tryz.underlying30 rfl (b32_info HL.out) ?_))
 refine (cw _).mono ?_
 rintro e w1 ⟨rfl,k1⟩
 go_wp2_with fail
 refine (cn _).mono ?_
 rintro e w2 ⟨rfl,k2⟩
 have BR:=Gr.blk k2 (Gr.blk k1 (blk_new2 w _ _ _))
 have hB:=Below.gr (Below.gr (below_alloc2 w _ _) k1) k2
 clear k1 k2 cw cn
 go_wp2_with (first | ((with_reducible refine here_store ?_); refine wpList_store_blk rfl _ _ _ rfl (w.heap.size + 1) (fcs (n)) rfl rfl _ _ (BR) (by kernel_rfl) (by rfl) (fcs_one _) ?_; intro vz hLz hqz hKz))
 exact bodyPost_ret (results_cell_row rfl _ _ (w.heap.size + 1) _ _ (0,0) _ rfl hLz Tryz.underlying24 rfl (by kernel_rfl)) rfl ⟨rfl,hB.trans (hqz _ (by omega))⟩
end Sc
end
section
namespace Cu
open Go.RowKit Sy
def auxNm : ByteArray:=⟨#[66,73,80,48,51,52,48,47,97,117,120]⟩
def nonceNm : ByteArray:=⟨#[66,73,80,48,51,52,48,47,110,111,110,99,101]⟩
def challengeNm : ByteArray:=⟨#[66,73,80,48,51,52,48,47,99,104,97,108,108,101,110,103,101]⟩
theorem texts_blk {w : World} {g : Nat} {t : TypeId} {ts : List Sh.Tx} (hb : Blk w g t (ts.map Sh.Tx.val).toArray) (hok : ∀ x ∈ ts,x.ok w) : Sh.Texts w (some ⟨g,0,none⟩) ts:=fun _ =>
 ⟨g,0,rfl,hb.lt,fun j y hy => by
  rw [Nat.zero_add]
  refine ⟨(hb.cell j).trans ?_,hok y (List.mem_of_getElem? hy)⟩
  rw [List.getElem?_toArray,List.getElem?_map,hy]
  rfl⟩
theorem tag_c (w : World) (nm : ByteArray) (hnm : nm.size ≤ 1000000000) (g : Nat) (t : TypeId) (ts : List Sh.Tx) (n ct : Nat) (X : List UInt8) (hX : Sh.cat ts = X) (hn : ts.length = n) (hb : Blk w g t (ts.map Sh.Tx.val).toArray) (hok : ∀ x ∈ ts,x.ok w) (hl : X.length ≤ 1000000000) (hn2 : n ≤ 1000000000) (ht : Sh.TabAt w 1) :
  Calls Tryz.prog 100 #[.string nm,.slice (some ⟨g,0,none⟩) n ct] w (Gets w (.agg ((Sh.taggedS nm.data.toList X).map bv).toArray)):=by
 subst hX hn
 exact Sh.tagged_any w nm _ ts ct (texts_blk hb hok) ht hnm hl hn2
theorem ok_key {w : World} {g : Nat} {t : TypeId} {l : List UInt8} (hb : Blk w g t (l.map bv).toArray) (hl : l.length = 32) : (Sh.Tx.mk (some ⟨g,0,none⟩) l 32).ok w:=⟨Sh.Src.of_blk hb,by show l.length ≤ 32; omega,by show 32 ≤ 9223372036854775807; omega⟩
theorem val_key {g : Nat} {l : List UInt8} (hl : l.length = 32) : (Sh.Tx.mk (some ⟨g,0,none⟩) l 32).val = .slice (some ⟨g,0,none⟩) 32 32:=by
 unfold Sh.Tx.val
 rw [hl]
theorem ok3 {w : World} {a b c : Sh.Tx} (ha : a.ok w) (hb : b.ok w) (hc : c.ok w) : ∀ x ∈ [a,b,c],x.ok w:=fun x hx => by
 simp only [List.mem_cons,List.not_mem_nil,or_false] at hx
 rcases hx with rfl | rfl | rfl <;> assumption
theorem tag3_c (w : World) (nm : ByteArray) (hnm : nm.size ≤ 1000000000) (g g1 g2 : Nat) (t t1 t2 : TypeId) (x y m : List UInt8) (A : Option Addr) (c : Nat) (hx : x.length = 32) (hy : y.length = 32) (n : Nat) (hn : m.length = n) (hm : n ≤ 999999900) (hc : n ≤ c) (hc2 : c ≤ 9223372036854775807)
  (h1 : Blk w g1 t1 (x.map bv).toArray) (h2 : Blk w g2 t2 (y.map bv).toArray) (hs : Sh.Src w A m) (hb : Blk w g t #[.slice (some ⟨g1,0,none⟩) 32 32,.slice (some ⟨g2,0,none⟩) 32 32,.slice A n c]) (ht : Sh.TabAt w 1) :
  Calls Tryz.prog 100 #[.string nm,.slice (some ⟨g,0,none⟩) 3 3] w (Gets w (.agg ((Sh.taggedS nm.data.toList (x ++ y ++ m)).map bv).toArray)):=by
 subst hn
 refine tag_c w nm hnm g t [⟨some ⟨g1,0,none⟩,x,32⟩,⟨some ⟨g2,0,none⟩,y,32⟩,⟨A,m,c⟩] 3 3 (x ++ y ++ m) (by simp [Sh.cat]) rfl ?_ (ok3 (ok_key h1 hx) (ok_key h2 hy) ⟨hs,hc,hc2⟩) (by rw [List.length_append,List.length_append,hx,hy]; omega) (by decide) ht
 rw [List.map_cons,List.map_cons,List.map_cons,List.map_nil,val_key hx,val_key hy]
 exact hb
def chalS (x key m : List UInt8) : Nat:=valB (Sh.taggedS challengeNm.data.toList (x ++ key ++ m)) % Sc.pM
theorem tagS_length (nm m : List UInt8) : (Sh.taggedS nm m).length = 32:=Sh.sum_length _
set_option maxHeartbeats 4000000 in
set_option maxRecDepth 100000 in
theorem challenge_any (w : World) (x key : List UInt8) (hx : x.length = 32) (hkey : key.length = 32) (A : Option Addr) (m : List UInt8) (n c : Nat) (hn : m.length = n) (hm : n ≤ 999999900) (hc : n ≤ c) (hc2 : c ≤ 9223372036854775807) (hs : Sh.Src w A m) (ht : Sh.TabAt w 1) : Calls Tryz.prog 96 #[.agg (x.map bv).toArray,.agg (key.map bv).toArray,.slice A n c] w (Gets w (fv (chalS x key m))):=by
 refine Sy.enter (args:=[.agg (x.map bv).toArray,.agg (key.map bv).toArray,.slice A n c]) Tryz.func96 rfl kL ?_
 refine sC ?_
 refine sM 31 (x.map bv).toArray (fun g0 => ?_)
 refine sM 31 (key.map bv).toArray (fun g1 => ?_)
 refine sM 24 (fcs 0) (fun g2 => ?_)
 refine sH (fun j => j == 6) ?_
 refine sZ 0 rfl (.slice (some ⟨g0,0,none⟩) 32 32) <| sZ 1 rfl (.slice (some ⟨g1,0,none⟩) 32 32) <| sZ 2 rfl (.slice A n c) ?_
 refine Sy.makeD 3 rfl kR kR 25 #[.slice (some ⟨g0,0,none⟩) 32 32,.slice (some ⟨g1,0,none⟩) 32 32,.slice A n c] (fun g => .slice (some ⟨g,0,none⟩) 3 3) kF (fun g3 => ?_)
 refine sD 4 rfl (.agg ((Sh.taggedS challengeNm.data.toList (x ++ key ++ m)).map bv).toArray) (qG 100 #[.string challengeNm,.slice (some ⟨g3,0,none⟩) 3 3] (fun w hw => tag3_c w challengeNm (by decide) g3 g0 g1 _ _ _ x key m A c hx hkey n hn hm hc hc2 (hw.get (i:=0) rfl) (hw.get (i:=1) rfl) (hs.below hw.below) (hw.get (i:=3) rfl) (ht.below hw.below ht.lt))) <| sD 5 rfl (fv (valB (Sh.taggedS challengeNm.data.toList (x ++ key ++ m)) % Sc.pM)) (qF 101 #[.agg ((Sh.taggedS challengeNm.data.toList (x ++ key ++ m)).map bv).toArray] (fun w => Sc.reduceB_any w (Sh.taggedS challengeNm.data.toList (x ++ key ++ m)) (tagS_length _ _))) <| sX 6 rfl 2 g2 24 (fcs 0) (fcs (valB (Sh.taggedS challengeNm.data.toList (x ++ key ++ m)) % Sc.pM)) (wS 0 24 (fcs (valB (Sh.taggedS challengeNm.data.toList (x ++ key ++ m)) % Sc.pM)) rfl) ?_
 refine sI ?_
 refine Sy.ret ?_
 exact rC (v:=fv (valB (Sh.taggedS challengeNm.data.toList (x ++ key ++ m)) % Sc.pM)) 24 g2 2 (fcs (valB (Sh.taggedS challengeNm.data.toList (x ++ key ++ m)) % Sc.pM)) rfl Tryz.underlying24
end Cu
end
section
namespace Sy
open Go.RowKit
section
variable {P : Program} {w0 : Base} {n : Nat} {Q : Exit → Act → World → Prop} {F : Slots} {L : Blocks}
theorem loopIR {c : Code} (N : Nat) (I : Nat → Act → World → Prop) (h0 : ∀ a w,Fr w0.ds a n F → St w0 w L → I 0 a w)
  (hr : ∀ i,i ≤ N → ∀ a w,I i a w → c.wpIn w0.fence w0.room P (Exit.then (fun a w => i < N ∧ I (i + 1) a w) Q) a w) : wpR P w0 n c Q (N + 1) F L:=fun a w ha hw => by
 have key : ∀ k i,i + k = N → ∀ a w,I i a w → Code.roundsIn w0.fence w0.room P c Q (k + 1) a w:=by
  intro k
  induction k with
  | zero =>
   intro i hi a w h
   refine wpIn_mono (hr i (by omega) a w h) fun e a w hq => ?_
   cases e <;> first | exact hq | exact absurd hq.1 (by omega)
  | succ k ih =>
   intro i hi a w h
   refine wpIn_mono (hr i (by omega) a w h) fun e a w hq => ?_
   cases e <;> first | exact hq | exact ih (i + 1) (by omega) a w hq.2
 exact key N 0 (by omega) a w (h0 a w ha hw)
theorem loopXR {T : Type} {c : Code} (N : Nat) (FF : Nat → T → Slots) (LL : Nat → T → Blocks) (H : Nat → T → Prop) (x0 : T) (m : List Bool) (h0 : H 0 x0) (hF : ∀ p ∈ FF 0 x0,F.lookup p.1 = some p.2) (hL : sel L m = LL 0 x0)
  (hr : ∀ k x,k ≤ N → H k x → wpC P w0 n (Exit.then (NextX w0 n N FF LL H k) Q) (FF k x) (LL k x) c) : wpR P w0 n c Q (N + 1) F L :=
 loopIR N (fun k a w => ∃ x,H k x ∧ Fr w0.ds a n (FF k x) ∧ St w0 w (LL k x)) (fun _ _ ha hw => ⟨x0,h0,ha.all hF,hL ▸ hw.less (sel_sub L m)⟩)
  fun k hk a w ⟨x,hx,ha,hw⟩ => hr k x hk hx a w ha hw
end
theorem apd_take (l : List UInt8) (k : Nat) {n : Nat} (hl : l.length = n) (s : List Value) (hk : k < n) : ((l.take k).map bv ++ ([bv (l.getD k 0)] ++ s)).toArray.toList.take (k + 1) = (l.take (k + 1)).map bv:=by
 have hlt : k < l.length:=by omega
 have e : ((l.take k).map bv).length = k:=by simp; omega
 rw [show ((l.take k).map bv ++ ([bv (l.getD k 0)] ++ s)).toArray.toList = (l.take k).map bv ++ ([bv (l.getD k 0)] ++ s) from rfl,List.take_append,e,List.take_of_length_le (by omega),Nat.add_sub_cancel_left,List.take_succ_eq_append_getElem hlt,List.map_append]
 congr 1
 simp [List.getD,hlt]
theorem apd_len (l : List UInt8) (k : Nat) {n : Nat} (hl : l.length = n) (hk : k < n) : ((l.take (k + 1)).map bv).length = k + 1:=by simp; omega
theorem apd_size (l : List UInt8) (k : Nat) {n : Nat} (hl : l.length = n) (s : List Value) {c : Nat} (hc : s.length + (k + 1) = c) (hk : k < n) : ((l.take k).map bv ++ ([bv (l.getD k 0)] ++ s)).toArray.size = c:=by simp; omega
theorem apd_full (l : List UInt8) (k : Nat) (hl : l.length = k + 1) {s : List Value} : ((l.take k).map bv ++ ([bv (l.getD k 0)] ++ s)) = l.map bv ++ s:=by
 have hlt : k < l.length:=by omega
 have e : l = l.take k ++ [l.getD k 0]:=by
  have h2:=List.take_succ_eq_append_getElem hlt
  rw [List.take_of_length_le (by omega)] at h2
  rw [List.getD_eq_getElem?_getD,List.getElem?_eq_getElem hlt]
  exact h2
 conv => rhs; rw [e,List.map_append,List.append_assoc]
 rfl
def mixL (a b : List UInt8) (k : Nat) : List UInt8:=a.take k ++ b.drop k
theorem mixL_len {a b : List UInt8} {n : Nat} (ha : a.length = n) (hb : b.length = n) {k : Nat} (hk : k ≤ n) : (mixL a b k).length = n:=by
 unfold mixL
 rw [List.length_append,List.length_take,List.length_drop]
 omega
theorem mixL_all {a b : List UInt8} {n : Nat} (ha : a.length = n) (hb : b.length = n) : mixL a b n = a:=by
 unfold mixL
 rw [List.take_of_length_le (by omega),List.drop_of_length_le (by omega),List.append_nil]
theorem mixL_get {a b : List UInt8} {n k : Nat} (ha : a.length = n) (hb : b.length = n) (hk : k < n) : (mixL a b k).getD k 0 = b.getD k 0:=by
 unfold mixL
 rw [List.getD_eq_getElem?_getD,List.getD_eq_getElem?_getD,List.getElem?_append_right (by rw [List.length_take]; omega),List.getElem?_drop,List.length_take]
 congr 2
 omega
theorem mixL_succ {a b : List UInt8} {n k : Nat} (ha : a.length = n) (hb : b.length = n) (hk : k < n) : (mixL a b k).set k (a.getD k 0) = mixL a b (k + 1):=by
 have h1 : k < a.length:=by omega
 have h2 : k < b.length:=by omega
 unfold mixL
 rw [List.set_append_right _ _ (by rw [List.length_take]; omega),List.length_take,show k - min k a.length = 0 by omega,List.take_succ_eq_append_getElem h1,List.drop_eq_getElem_cons h2,List.set_cons_zero,List.append_assoc,List.getD_eq_getElem?_getD,List.getElem?_eq_getElem h1]
 rfl
theorem key_sym {l : List UInt8} {n : Nat} (h : l.length = n) {k o : Nat} (hk : k < n) (ho : o = k) : ((l.map bv).toArray)[o]? = some (bv (l.getD k 0)):=by
 subst h ho
 rw [List.getElem?_toArray,List.getElem?_map,List.getD_eq_getElem?_getD,List.getElem?_eq_getElem hk]
 rfl
theorem key_fits {l : List UInt8} {n : Nat} (h : l.length = n) {k o : Nat} (hk : k < n) (ho : o = k) : o < ((l.map bv).toArray).size:=by
 subst h ho
 rw [List.size_toArray,List.length_map]
 exact hk
theorem key_sets {l : List UInt8} (u : UInt8) {k o : Nat} (ho : o = k) : ((l.map bv).toArray).setIfInBounds o (bv u) = ((l.set k u).map bv).toArray:=by
 subst ho
 rw [List.setIfInBounds_toArray,List.map_set]
end Sy
end
section
namespace Cu
open Go.RowKit Sy
theorem xor_bv (w : World) (F : Slots) (o : Oper) (x y : Operand) (a b : UInt8) {yt : TypeId} (ho : o.op = .binOp .xor 5 x y yt) (hx : evF F x = bv a) (hy : evF F y = bv b) : (execOp (evF F) o).run Tryz.prog w = .ok (.value (bv (a ^^^ b))) w:=by
 have h1 : (eqGuard .xor 5 x y (bv a) (bv b)).run Tryz.prog w = .ok () w:=by
  unfold bv
  go_simp
 have h2 : (binOp .xor 5 (bv a) (bv b)).run Tryz.prog w = .ok (bv (a ^^^ b)) w:=by
  have e:=u8_xor_nat a.toNat b.toNat a.toNat_lt b.toNat_lt
  unfold bv
  rw [UInt8.toNat_xor]
  go_simp
 unfold execOp
 simp only [ho,hx,hy,Sem.run_bind,h1,h2,Result.andThen_ok,Sem.run_pure]
def auxM : List UInt8:=Sh.taggedS auxNm.data.toList (List.replicate 32 0)
def xorS (l m : List UInt8) : List UInt8:=List.zipWith (· ^^^ ·) l m
def nonceS (d : Nat) (key m : List UInt8) : Nat:=valB (Sh.taggedS nonceNm.data.toList (xorS (bytesS (d % Sc.pM)) auxM ++ key ++ m)) % Sc.pM
theorem tag1_c (w : World) (nm : ByteArray) (hnm : nm.size ≤ 1000000000) (g g1 : Nat) (t t1 : TypeId) (x : List UInt8) (hx : x.length = 32) (h1 : Blk w g1 t1 (x.map bv).toArray) (hb : Blk w g t #[.slice (some ⟨g1,0,none⟩) 32 32]) (ht : Sh.TabAt w 1) :
  Calls Tryz.prog 100 #[.string nm,.slice (some ⟨g,0,none⟩) 1 1] w (Gets w (.agg ((Sh.taggedS nm.data.toList x).map bv).toArray)):=by
 refine tag_c w nm hnm g t [⟨some ⟨g1,0,none⟩,x,32⟩] 1 1 x (by simp [Sh.cat]) rfl ?_ (fun y hy => by rw [List.mem_singleton.1 hy]; exact ok_key h1 hx) (by rw [hx]; decide) (by decide) ht
 rw [List.map_cons,List.map_nil,val_key hx]
 exact hb
theorem xorS_len {a b : List UInt8} {n : Nat} (ha : a.length = n) (hb : b.length = n) : (xorS a b).length = n:=by
 unfold xorS
 rw [List.length_zipWith,ha,hb,Nat.min_self]
theorem xorS_get {a b : List UInt8} {n k : Nat} (ha : a.length = n) (hb : b.length = n) (hk : k < n) : (xorS a b).getD k 0 = a.getD k 0 ^^^ b.getD k 0:=by
 have h1 : k < a.length:=by omega
 have h2 : k < b.length:=by omega
 unfold xorS
 rw [List.getD_eq_getElem?_getD,List.getD_eq_getElem?_getD,List.getD_eq_getElem?_getD,List.getElem?_zipWith,List.getElem?_eq_getElem h1,List.getElem?_eq_getElem h2]
 rfl
theorem xor_step {a b : List UInt8} {n k : Nat} (ha : a.length = n) (hb : b.length = n) (hk : k < n) : (mixL (xorS a b) a k).set k (a.getD k 0 ^^^ b.getD k 0) = mixL (xorS a b) a (k + 1):=by
 rw [← xorS_get ha hb hk]
 exact mixL_succ (xorS_len ha hb) ha hk
theorem auxM_len : auxM.length = 32:=tagS_length _ _
set_option maxHeartbeats 4000000 in
set_option maxRecDepth 100000 in
theorem nonce_any (w : World) (d : Nat) (hd : d < K4) (key : List UInt8) (hkey : key.length = 32) (A : Option Addr) (m : List UInt8) (n c : Nat) (hn : m.length = n) (hm : n ≤ 999999900) (hc : n ≤ c) (hc2 : c ≤ 9223372036854775807) (hs : Sh.Src w A m) (ht : Sh.TabAt w 1) : Calls Tryz.prog 41 #[fv d,.agg (key.map bv).toArray,.slice A n c] w (Gets w (fv (nonceS d key m))):=by
 refine Sy.enter (args:=[fv d,.agg (key.map bv).toArray,.slice A n c]) Tryz.func41 rfl kL ?_
 refine sC ?_
 refine sM 24 (fcs d) (fun g0 => ?_)
 refine sM 31 (key.map bv).toArray (fun g1 => ?_)
 refine sM 24 (fcs 0) (fun g2 => ?_)
 refine sA ?_
 refine Sy.make kR 30 ((List.replicate 32 (0 : UInt8)).map bv).toArray ptr kF (fun g3 => ?_)
 refine sA ?_
 refine sP (.slice (some ⟨g3,0,none⟩) 32 32) ?_
 refine Sy.make kR 25 #[.slice (some ⟨g3,0,none⟩) 32 32] (fun g => .slice (some ⟨g,0,none⟩) 1 1) kF (fun g4 => ?_)
 refine sS (.agg (auxM.map bv).toArray) (qG 100 #[.string auxNm,.slice (some ⟨g4,0,none⟩) 1 1] (fun w hw => tag1_c w auxNm (by decide) g4 g3 _ _ (List.replicate 32 (0 : UInt8)) rfl (hw.get (i:=3) rfl) (hw.get (i:=4) rfl) (ht.below hw.below ht.lt))) ?_
 refine sM 47 (Zl 32).toArray (fun g5 => ?_)
 refine sW 5 g5 47 (Zl 32).toArray (auxM.map bv).toArray (Writes.store 0 47 (auxM.map bv).toArray _ _ rfl kR kR (by rw [key_sz auxM auxM_len]; kernel_rfl) (by rw [key_sz auxM auxM_len]; exact Nat.le_of_ble_eq_true kR) (key_one _) (key_set _ _ (by rw [auxM_len]; kernel_rfl))) ?_
 refine sA ?_
 refine sS (fv d) (qL 0 g0 0 4 24 24 (fcs d) rfl Tryz.underlying24) <| sS (.agg ((bytesS (d % Sc.pM)).map bv).toArray) (qF 91 #[fv d] (fun w => Sc.bytes_any w d hd)) ?_
 refine Sy.make kR 30 ((List.replicate 32 (0 : UInt8)).map bv).toArray ptr kF (fun g6 => ?_)
 refine Sy.write kR 6 g6 30 ((List.replicate 32 (0 : UInt8)).map bv).toArray ((bytesS (d % Sc.pM)).map bv).toArray kR (Writes.store 0 30 ((bytesS (d % Sc.pM)).map bv).toArray _ _ rfl kR kR (by rw [key_sz (bytesS (d % Sc.pM)) (bytesS_length _)]; kernel_rfl) (by rw [key_sz (bytesS (d % Sc.pM)) (bytesS_length _)]; exact Nat.le_of_ble_eq_true kR) (key_one _) (key_set _ _ (by rw [(bytesS_length _)]; kernel_rfl))) ?_
 refine sG <| Sy.seq <| sC ?_
 refine sP (.int .i64 0) ?_
 refine sG <| Sy.block ?_
 refine Sy.loopK 32 (fun k1 => [(2,.slice A n c),(4,.pointer (some ⟨g1,0,none⟩)),(6,.pointer (some ⟨g2,0,none⟩)),(8,.pointer (some ⟨g5,0,none⟩)),(9,.pointer (some ⟨g6,0,none⟩)),(16,.int .i64 ((k1 : Nat) : Int))]) (fun k1 => [(g0,24,(fcs d)),(g1,31,(key.map bv).toArray),(g2,24,(fcs 0)),(g3,30,((List.replicate 32 (0 : UInt8)).map bv).toArray),(g4,25,#[.slice (some ⟨g3,0,none⟩) 32 32]),(g5,47,(auxM.map bv).toArray),(g6,30,((mixL (xorS (bytesS (d % Sc.pM)) auxM) (bytesS (d % Sc.pM)) k1).map bv).toArray)]) [true,true,true,true,true,true,true] (M:=[(g0,24,(fcs d)),(g1,31,(key.map bv).toArray),(g2,24,(fcs 0)),(g3,30,((List.replicate 32 (0 : UInt8)).map bv).toArray),(g4,25,#[.slice (some ⟨g3,0,none⟩) 32 32]),(g5,47,(auxM.map bv).toArray),(g6,30,((bytesS (d % Sc.pM)).map bv).toArray)]) (all_cons kR (all_cons kR (all_cons kR (all_cons kR (all_cons kR (all_cons kR all_nil)))))) kR (bcons rfl (bcons rfl (bcons rfl (bcons rfl (bcons rfl (bcons rfl (bcons rfl rfl))))))) (fun k1 hk1 => ?_)
 refine sC ?_
 obtain ⟨b1,hb1⟩ : ∃ z : Bool,z = decide (k1 < 32):=⟨_,rfl⟩
 refine sS (.bool b1) (Quiet.pure (exec_int .lss _ _ _ .i64 _ _ _ rfl rfl rfl (int_lss _ _ _ _ _ (by rw [hb1]; exact decide_eq_decide.2 (by omega))))) ?_
 refine sG <| Sy.seq ?_
 cases b1
 ·have lb1 : ¬ (k1 < 32):=of_decide_eq_false hb1.symm
  refine sU <| Sy.exit <| Sy.then_exit <| Sy.then_exit ?_
  obtain rfl : k1 = 32:=by omega
  refine Sy.in_exit ?_
  refine sR (fun j => j == 6) ?_
  refine sZ 0 rfl (.slice (some ⟨g6,0,none⟩) 32 32) <| sZ 1 rfl (.slice (some ⟨g1,0,none⟩) 32 32) <| sZ 2 rfl (.slice A n c) ?_
  refine Sy.makeD 3 rfl kR kR 25 #[.slice (some ⟨g6,0,none⟩) 32 32,.slice (some ⟨g1,0,none⟩) 32 32,.slice A n c] (fun g => .slice (some ⟨g,0,none⟩) 3 3) kF (fun g7 => ?_)
  refine sD 4 rfl (.agg ((Sh.taggedS nonceNm.data.toList ((mixL (xorS (bytesS (d % Sc.pM)) auxM) (bytesS (d % Sc.pM)) 32) ++ key ++ m)).map bv).toArray) (qG 100 #[.string nonceNm,.slice (some ⟨g7,0,none⟩) 3 3] (fun w hw => tag3_c w nonceNm (by decide) g7 g6 g1 _ _ _ (mixL (xorS (bytesS (d % Sc.pM)) auxM) (bytesS (d % Sc.pM)) 32) key m A c (mixL_len (xorS_len (bytesS_length _) auxM_len) (bytesS_length _) (by omega)) hkey n hn hm hc hc2 (hw.get (i:=6) rfl) (hw.get (i:=1) rfl) (hs.below hw.below) (hw.get (i:=7) rfl) (ht.below hw.below ht.lt))) <| sD 5 rfl (fv (valB (Sh.taggedS nonceNm.data.toList ((mixL (xorS (bytesS (d % Sc.pM)) auxM) (bytesS (d % Sc.pM)) 32) ++ key ++ m)) % Sc.pM)) (qF 101 #[.agg ((Sh.taggedS nonceNm.data.toList ((mixL (xorS (bytesS (d % Sc.pM)) auxM) (bytesS (d % Sc.pM)) 32) ++ key ++ m)).map bv).toArray] (fun w => Sc.reduceB_any w (Sh.taggedS nonceNm.data.toList ((mixL (xorS (bytesS (d % Sc.pM)) auxM) (bytesS (d % Sc.pM)) 32) ++ key ++ m)) (tagS_length _ _))) <| sX 6 rfl 2 g2 24 (fcs 0) (fcs (valB (Sh.taggedS nonceNm.data.toList ((mixL (xorS (bytesS (d % Sc.pM)) auxM) (bytesS (d % Sc.pM)) 32) ++ key ++ m)) % Sc.pM)) (wS 0 24 (fcs (valB (Sh.taggedS nonceNm.data.toList ((mixL (xorS (bytesS (d % Sc.pM)) auxM) (bytesS (d % Sc.pM)) 32) ++ key ++ m)) % Sc.pM)) rfl) ?_
  refine sI ?_
  refine Sy.ret ?_
  rw [show (fv (nonceS d key m) : Value) = fv (valB (Sh.taggedS nonceNm.data.toList ((mixL (xorS (bytesS (d % Sc.pM)) auxM) (bytesS (d % Sc.pM)) 32) ++ key ++ m)) % Sc.pM) from by unfold nonceS; rw [mixL_all (xorS_len (bytesS_length _) auxM_len) (bytesS_length _)]]
  exact rC (v:=fv (valB (Sh.taggedS nonceNm.data.toList ((mixL (xorS (bytesS (d % Sc.pM)) auxM) (bytesS (d % Sc.pM)) 32) ++ key ++ m)) % Sc.pM)) 24 g2 2 (fcs (valB (Sh.taggedS nonceNm.data.toList ((mixL (xorS (bytesS (d % Sc.pM)) auxM) (bytesS (d % Sc.pM)) 32) ++ key ++ m)) % Sc.pM)) rfl Tryz.underlying24
 ·have lb1 : k1 < 32:=of_decide_eq_true hb1.symm
  refine sT <| Sy.skip <| Sy.then_ <| Sy.seq <| Sy.block <| sC ?_
  refine sP (.int .i64 ((k1 : Nat) : Int)) <| sP (.int .i64 ((k1 : Nat) : Int)) ?_
  refine sG ?_
  refine Sy.regionD (fun j => j == 8) kR ?_
  refine sZ 0 rfl (.int .i64 ((k1 : Nat) : Int)) <| sD 1 rfl (.pointer (some ⟨g6,0 + k1 * 1,none⟩)) (Quiet.pure (exec_atA 30 _ _ _ g6 0 _ k1 1 .i64 rfl rfl rfl Tryz.underlying30 kF (by omega))) <| sD 2 rfl (bv ((bytesS (d % Sc.pM)).getD k1 0)) (Quiet.cell 6 g6 (0 + k1 * 1) 30 5 ((mixL (xorS (bytesS (d % Sc.pM)) auxM) (bytesS (d % Sc.pM)) k1).map bv).toArray _ _ rfl kR kR Tryz.underlying5 rfl _ ((key_sym (mixL_len (xorS_len (bytesS_length _) auxM_len) (bytesS_length _) (by omega)) (k:=k1) (by omega) (by omega)).trans (congrArg (fun z => some (bv z)) (mixL_get (xorS_len (bytesS_length _) auxM_len) (bytesS_length _) (by omega))))) <| sZ 3 rfl (.int .i64 ((k1 : Nat) : Int)) <| sD 4 rfl (.pointer (some ⟨g5,0 + k1 * 1,none⟩)) (Quiet.pure (exec_atA 47 _ _ _ g5 0 _ k1 1 .i64 rfl rfl rfl Tryz.underlying47 kF (by omega))) <| sD 5 rfl (bv (auxM.getD k1 0)) (Quiet.cell 5 g5 (0 + k1 * 1) 47 5 (auxM.map bv).toArray _ _ rfl kR kR Tryz.underlying5 rfl _ (key_sym auxM_len (k:=k1) (by omega) (by omega))) <| sD 6 rfl (bv (((bytesS (d % Sc.pM)).getD k1 0) ^^^ (auxM.getD k1 0))) (Quiet.pure (fun w => xor_bv w _ _ _ _ ((bytesS (d % Sc.pM)).getD k1 0) (auxM.getD k1 0) rfl rfl rfl)) <| sD 7 rfl (.pointer (some ⟨g6,0 + k1 * 1,none⟩)) (Quiet.pure (exec_atA 30 _ _ _ g6 0 _ k1 1 .i64 rfl rfl rfl Tryz.underlying30 kF (by omega))) ?_
  refine Sy.writeD 8 rfl kR (by rfl) kR 6 g6 30 ((mixL (xorS (bytesS (d % Sc.pM)) auxM) (bytesS (d % Sc.pM)) k1).map bv).toArray (((mixL (xorS (bytesS (d % Sc.pM)) auxM) (bytesS (d % Sc.pM)) k1).set k1 (((bytesS (d % Sc.pM)).getD k1 0) ^^^ (auxM.getD k1 0))).map bv).toArray kR (Writes.one (0 + k1 * 1) 5 (bv (((bytesS (d % Sc.pM)).getD k1 0) ^^^ (auxM.getD k1 0))) _ _ rfl kR kR kR rfl rfl (key_fits (mixL_len (xorS_len (bytesS_length _) auxM_len) (bytesS_length _) (by omega)) (k:=k1) (by omega) (by omega)) (key_sets _ (by omega))) ?_
  refine sE ?_
  refine Sy.in_ <| Sy.then_ <| Sy.region ?_
  refine sS (.int .i64 ((k1 + 1 : Nat) : Int)) (Quiet.pure (exec_int .add _ _ _ .i64 _ _ _ rfl rfl rfl (int_add _ _ _ _ _ ((wrap_i64 (by omega) (by omega)).trans (by omega))))) <| sP (.int .i64 ((k1 + 1 : Nat) : Int)) ?_
  refine Sy.nil ?_
  exact Sy.againK [true,true,true,true,true,true,true] (M:=[(g0,24,(fcs d)),(g1,31,(key.map bv).toArray),(g2,24,(fcs 0)),(g3,30,((List.replicate 32 (0 : UInt8)).map bv).toArray),(g4,25,#[.slice (some ⟨g3,0,none⟩) 32 32]),(g5,47,(auxM.map bv).toArray),(g6,30,(((mixL (xorS (bytesS (d % Sc.pM)) auxM) (bytesS (d % Sc.pM)) k1).set k1 (((bytesS (d % Sc.pM)).getD k1 0) ^^^ (auxM.getD k1 0))).map bv).toArray)]) (by omega) (all_cons kR (all_cons kR (all_cons kR (all_cons kR (all_cons kR (all_cons kR all_nil)))))) kR (bcons rfl (bcons rfl (bcons rfl (bcons rfl (bcons rfl (bcons rfl (bcons (beq (congrArg (fun l : List UInt8 => (l.map bv).toArray) (xor_step (bytesS_length _) auxM_len (by omega)))) rfl)))))))
end Cu
end
section
namespace Sy
open Go.RowKit
abbrev twoV (g1 : Nat) (t1 : TypeId) (c1 : Array Value) (g2 : Nat) (t2 : TypeId) (c2 : Array Value) : List (Nat × Obj):=[(g1,.cells c1 t1),(g2,.cells c2 t2)]
section
variable {P : Program} {w0 : Base} {n : Nat} {Q : Exit → Act → World → Prop} {F : Slots} {L : Blocks} {ops : Array Oper} {V : List (Nat × Obj)} {fuel : Nat} {listed : Array Bool}
def wpV (P : Program) (w0 : Base) (n : Nat) (ops : Array Oper) (Q : Exit → Act → World → Prop) (V : List (Nat × Obj)) (F : Slots) (L : Blocks) (fuel : Nat) (listed : Array Bool) : Prop:=∀ a wb w,Fr w0.ds a n F → St w0 wb L → GrV V wb w → wpAnyV P V .any ops Q fuel listed a w
theorem regionV {i : Nat} (V : List (Nat × Obj)) (h : wpV P w0 n ops Q V F L ops.size (Array.replicate ops.size false)) (hm : P.follows .mixedOrders = true:=by kernel_rfl) (hf : w0.fence = Fence.wide:=by rfl) : wpC P w0 n Q F L (.region i ops true):=fun a w ha hw => by
 rw [hf]
 exact wpIn_wide.2 (wp_region_V V hm (h a w w ha hw (GrV.refl w)))
theorem takeV (i : Nat) {oi : Oper} (hi0 : ops.toList[i]? = some oi) (v : Value) (h : wpV P w0 n ops Q V (putF F oi.dst v) L fuel (listed.setIfInBounds i true)) (hq : ∀ w,(execOp (evF F) oi).run P w = .ok (.value v) w:=by intro _; kernel_rfl) (hc : canTakeA .any ops listed i = true:=by kernel_rfl)
  (hg : good ops n F oi = true:=by kernel_rfl) (hQ : ∀ c v a w,Q (.panic c) (a.put oi.dst v) w → Q (.panic c) a w:=by exact fun _ _ _ _ h => h) : wpV P w0 n ops Q V F L (fuel + 1) listed:=fun a wb w ha hw hv =>
 wpAnyV_take i hi0 hc (fun c => hQ c v) (YieldsV.pure (ha.wanted (good_spec hg).1) (fun w1 _ => by rw [good_exec hg ha]; exact hq w1)) (h _ wb w (ha.put (good_spec hg).2.2.1 v) hw hv)
theorem loadV (i : Nat) {oi : Oper} (hi0 : ops.toList[i]? = some oi) (j g f : Nat) (t ty : TypeId) (cs : Array Value) (d : TypeDesc) (v : Value) (x : Operand) (ho : oi.op = .load ty x) (hu : P.underlying ty = some d) (hfar : ∀ w,St w0 w L → V.all (fun x => x.1 != g) = true)
  (h : wpV P w0 n ops Q V (putF F oi.dst v) L fuel (listed.setIfInBounds i true)) (hx : evF F x = .pointer (some ⟨g,f,none⟩):=by kernel_rfl) (hL : L[j]? = some (g,t,cs):=by kernel_rfl) (hd : d.isRow = false:=by rfl) (hv : cs[f]? = some v:=by kernel_rfl) (hc : canTakeA .any ops listed i = true:=by kernel_rfl)
  (hg : good ops n F oi = true:=by kernel_rfl) (hQ : ∀ c v a w,Q (.panic c) (a.put oi.dst v) w → Q (.panic c) a w:=by exact fun _ _ _ _ h => h) : wpV P w0 n ops Q V F L (fuel + 1) listed:=fun a wb w ha hw hV =>
 wpAnyV_take i hi0 hc (fun c => hQ c v) (YieldsV.pure (ha.wanted (good_spec hg).1) (fun w1 h1 => by
  rw [good_exec hg ha]
  have hb:=(hV.trans h1).blk (hw.get hL) (hfar wb hw)
  have hcell : w1.cell? ⟨g,f,none⟩ = some v:=(hb.cell f).trans hv
  have hagg : (isAgg ty).run P w1 = .ok false w1:=by
   cases d <;> first | (cases hd; done) | simp [isAgg,underlying,hu]
  unfold execOp
  simp only [ho,hx,Instr.loadAt,Instr.sureAddr,Sem.run_bind,Sem.run_pure,Result.andThen_ok,loadVar,hagg,Bool.false_eq_true,if_false,run_load,hcell])) (h _ wb w (ha.put (good_spec hg).2.2.1 v) hw hV)
theorem storesV (i k : Nat) {oi ok : Oper} (hi0 : ops.toList[i]? = some oi) (hk0 : ops.toList[k]? = some ok) (p q g1 g2 : Nat) (t1 t2 : TypeId) (b1 b2 c1 c2 : Array Value) (ty1 ty2 : TypeId) (x1 y1 x2 y2 : Operand) (ho1 : oi.op = .store ty1 x1 y1) (ho2 : ok.op = .store ty2 x2 y2)
  (hpq : p < q) (h : X w0 n Q (putF (putF F oi.dst undef) ok.dst undef) ((L.set p (g1,t1,c1)).set q (g2,t2,c2)) .normal)
  (hx1 : evF F x1 = .pointer (some ⟨g1,0,none⟩):=by kernel_rfl) (hy1 : evF F y1 = .agg c1:=by kernel_rfl) (hx2 : evF (putF F oi.dst undef) x2 = .pointer (some ⟨g2,0,none⟩):=by kernel_rfl) (hy2 : evF (putF F oi.dst undef) y2 = .agg c2:=by kernel_rfl)
  (hL1 : L[p]? = some (g1,t1,b1):=by kernel_rfl) (hL2 : L[q]? = some (g2,t2,b2):=by kernel_rfl) {n1 n2 : Nat} (hs1 : b1.size = n1:=by kernel_rfl) (hs2 : b2.size = n2:=by kernel_rfl) (hc1 : c1.size = n1:=by kernel_rfl) (hc2 : c2.size = n2:=by kernel_rfl)
  (hr1 : Region.ready .any ops listed = [i]:=by kernel_rfl) (hr2 : Region.ready .any ops (listed.setIfInBounds i true) = [k]:=by kernel_rfl) (hr3 : Region.ready .any ops ((listed.setIfInBounds i true).setIfInBounds k true) = []:=by kernel_rfl)
  (hg1 : good ops n F oi = true:=by kernel_rfl) (hg2 : good ops n (putF F oi.dst undef) ok = true:=by kernel_rfl) (hi1 : (P.info? ty1).map (·.size) = some c1.size:=by kernel_rfl) (hi2 : (P.info? ty2).map (·.size) = some c2.size:=by kernel_rfl)
  (ha1 : c1.all (·.oneCell') = true:=by kernel_rfl) (ha2 : c2.all (·.oneCell') = true:=by kernel_rfl) : wpV P w0 n ops Q (twoV g1 t1 c1 g2 t2 c2) F L (fuel + 2) listed:=fun a wb w ha hw hV => by
 have hb1:=hw.get hL1
 have hb2:=hw.get hL2
 have hp:=(List.getElem?_eq_some_iff.1 hL1).1
 have hq:=(List.getElem?_eq_some_iff.1 hL2).1
 have hne : g1 ≠ g2:=fun e => by
  have:=List.pairwise_iff_getElem.1 hw.apart p q (by simpa using hp) (by simpa using hq) hpq
  simp only [List.getElem_map] at this
  rw [(List.getElem?_eq_some_iff.1 hL1).2,(List.getElem?_eq_some_iff.1 hL2).2] at this
  exact this e
 refine wpAnyV_store i hi0 hr1 (ha.wanted (good_spec hg1).1) ty1 x1 y1 ho1 g1 c1 ((ha.eval ((good_spec hg1).2.1 _ (by simp [ho1,Op.operands]))).trans hx1) ((ha.eval ((good_spec hg1).2.1 _ (by simp [ho1,Op.operands]))).trans hy1) t1 (by simp) (fun w1 h1 => (hV.trans h1).some hb1 (hs1.trans hc1.symm) (fun o ho => ?_)) hi1 ha1 (fun w1 h1 w2 h2 hB => ?_)
 ·simp only [List.mem_cons,Prod.mk.injEq,List.not_mem_nil,or_false] at ho
  rcases ho with ⟨_,rfl⟩ | ⟨e,_⟩
  ·exact ⟨c1,rfl,rfl⟩
  ·exact absurd e hne
 have ha':=ha.put (good_spec hg1).2.2.1 undef
 refine wpAnyV_store k hk0 hr2 (ha'.wanted (good_spec hg2).1) ty2 x2 y2 ho2 g2 c2 ((ha'.eval ((good_spec hg2).2.1 _ (by simp [ho2,Op.operands]))).trans hx2) ((ha'.eval ((good_spec hg2).2.1 _ (by simp [ho2,Op.operands]))).trans hy2) t2 (by simp) (fun w3 h3 => (((hV.trans h1).trans h2).trans h3).some hb2 (hs2.trans hc2.symm) (fun o ho => ?_)) hi2 ha2 (fun w3 h3 w4 h4 hB2 => ?_)
 ·simp only [List.mem_cons,Prod.mk.injEq,List.not_mem_nil,or_false] at ho
  rcases ho with ⟨e,_⟩ | ⟨_,rfl⟩
  ·exact absurd e.symm hne
  ·exact ⟨c2,rfl,rfl⟩
 refine wpAnyV_done hr3 (fun w5 h5 => h _ _ (ha'.put (good_spec hg2).2.2.1 undef) ?_)
 have hall:=((((hV.trans h1).trans h2).trans h3).trans h4).trans h5
 have f1 : Blk w5 g1 t1 c1:=((h3.trans h4).trans h5).done hB (fun o ho => by
  simp only [List.mem_cons,Prod.mk.injEq,List.not_mem_nil,or_false] at ho
  rcases ho with ⟨_,rfl⟩ | ⟨e,_⟩
  ·rfl
  ·exact absurd e hne)
 have f2 : Blk w5 g2 t2 c2:=h5.done hB2 (fun o ho => by
  simp only [List.mem_cons,Prod.mk.injEq,List.not_mem_nil,or_false] at ho
  rcases ho with ⟨e,_⟩ | ⟨_,rfl⟩
  ·exact absurd e.symm hne
  ·rfl)
 have hlow : ∀ x ∈ twoV g1 t1 c1 g2 t2 c2,w0.world.heap.size ≤ x.1:=fun x hx => by
  simp only [List.mem_cons,List.not_mem_nil,or_false] at hx
  rcases hx with rfl | rfl
  ·exact (hw.blk g1 t1 b1 (List.mem_of_getElem? hL1)).1
  ·exact (hw.blk g2 t2 b2 (List.mem_of_getElem? hL2)).1
 have hbel:=hall.below (B:=w0.world.heap.size) hw.below.size hlow
 refine ⟨hw.below.trans hbel,fun g t cs hm => ?_,?_,Nat.le_trans hw.size hall.size,fun z o hz ho hc => ?_⟩
 ·obtain ⟨j,hj⟩:=List.getElem?_of_mem hm
  rw [List.getElem?_set] at hj
  split at hj
  ·rename_i e
   have hj2 : (g2,t2,c2) = (g,t,cs):=by simpa [hq] using hj
   cases hj2
   exact ⟨(hw.blk _ _ _ (List.mem_of_getElem? hL2)).1,f2⟩
  ·rw [List.getElem?_set] at hj
   split at hj
   ·have hj2 : (g1,t1,c1) = (g,t,cs):=by simpa [hp] using hj
    cases hj2
    exact ⟨(hw.blk _ _ _ (List.mem_of_getElem? hL1)).1,f1⟩
   ·rename_i e2 e1
    refine ⟨(hw.blk _ _ _ (List.mem_of_getElem? hj)).1,hall.blk (hw.get hj) ?_⟩
    have hjl:=(List.getElem?_eq_some_iff.1 hj).1
    have hpair:=List.pairwise_iff_getElem.1 hw.apart
    have far : ∀ (r gr : Nat) (tr : TypeId) (cr : Array Value),L[r]? = some (gr,tr,cr) → r ≠ j → gr ≠ g:=fun r gr tr cr hr hrj e => by
     have hrl:=(List.getElem?_eq_some_iff.1 hr).1
     rcases Nat.lt_or_gt_of_ne hrj with hlt | hlt
     ·have:=hpair r j (by simpa using hrl) (by simpa using hjl) hlt
      simp only [List.getElem_map] at this
      rw [(List.getElem?_eq_some_iff.1 hr).2,(List.getElem?_eq_some_iff.1 hj).2] at this
      exact this e
     ·have:=hpair j r (by simpa using hjl) (by simpa using hrl) hlt
      simp only [List.getElem_map] at this
      rw [(List.getElem?_eq_some_iff.1 hr).2,(List.getElem?_eq_some_iff.1 hj).2] at this
      exact this e.symm
    simp only [List.all_cons,List.all_nil,Bool.and_true,Bool.and_eq_true,bne_iff_ne]
    exact ⟨far p g1 t1 b1 hL1 e1,far q g2 t2 b2 hL2 e2⟩
 ·have hmap : ((L.set p (g1,t1,c1)).set q (g2,t2,c2)).map (·.1) = L.map (·.1):=by
   refine List.ext_getElem? fun j => ?_
   rw [List.getElem?_map,List.getElem?_map,List.getElem?_set,List.getElem?_set]
   split
   ·rename_i e
    subst e
    rw [hL2]
    simp [hq]
   ·split
    ·rename_i e
     subst e
     rw [hL1]
     simp [hp]
    ·rfl
  rw [hmap]
  exact hw.apart
 ·have h6:=hw.non z o hz ho hc
  rcases hall.block z (Array.getElem?_eq_some_iff.1 h6).1 with e | ⟨o',hm,e⟩
  ·exact e.trans h6
  ·exfalso
   simp only [List.mem_cons,Prod.mk.injEq,List.not_mem_nil,or_false] at hm
   rcases hm with ⟨rfl,_⟩ | ⟨rfl,_⟩
   ·unfold Blk at hb1
    rw [hb1] at h6
    cases h6
    cases hc
   ·unfold Blk at hb2
    rw [hb2] at h6
    cases h6
    cases hc
theorem far_of {i j k : Nat} {g1 g2 g : Nat} {t1 t2 : TypeId} {c1 c2 : Array Value} (h1 : (L.map (·.1))[i]? = some g1:=by kernel_rfl) (h2 : (L.map (·.1))[j]? = some g2:=by kernel_rfl) (h3 : (L.map (·.1))[k]? = some g:=by kernel_rfl) (hik : i < k) (hjk : j < k) : ∀ w,St w0 w L → (twoV g1 t1 c1 g2 t2 c2).all (fun x => x.1 != g) = true:=fun w hw => by
 have hpair:=List.pairwise_iff_getElem.1 hw.apart
 have far : ∀ (r gr : Nat),(L.map (·.1))[r]? = some gr → r < k → gr ≠ g:=fun r gr hr hrk e => by
  have:=hpair r k (List.getElem?_eq_some_iff.1 hr).1 (List.getElem?_eq_some_iff.1 h3).1 hrk
  rw [(List.getElem?_eq_some_iff.1 hr).2,(List.getElem?_eq_some_iff.1 h3).2] at this
  exact this e
 simp only [List.all_cons,List.all_nil,Bool.and_true,Bool.and_eq_true,bne_iff_ne]
 exact ⟨far i g1 h1 hik,far j g2 h2 hjk⟩
end
end Sy
end
section
namespace Sc
open Go.RowKit Go.Lib
theorem step_ex (v m x y : Nat) (hv : v < 18446744073709551616) (hm : m < 18446744073709551616) (hx : x < 18446744073709551616) (hy : y < 18446744073709551616) : ∃ lo hi : Nat,lo < 18446744073709551616 ∧ hi < 18446744073709551616 ∧ lo + 18446744073709551616 * hi = v * m + x + y:=by
 have h : v * m ≤ 18446744073709551615 * 18446744073709551615:=Nat.mul_le_mul (by omega) (by omega)
 exact ⟨(v * m + x + y) % 18446744073709551616,(v * m + x + y) / 18446744073709551616,by omega,by omega,by omega⟩
set_option maxHeartbeats 1000000 in
theorem step_at (w : World) (v m x y lo hi : Nat) (hv : v < 18446744073709551616) (hm : m < 18446744073709551616) (hx : x < 18446744073709551616) (hy : y < 18446744073709551616) (hlo : lo < 18446744073709551616) (he : lo + 18446744073709551616 * hi = v * m + x + y) :
  Calls Tryz.prog 181 #[.int .u64 (v : Int),.int .u64 (m : Int),.int .u64 (x : Int),.int .u64 (y : Int)] w fun e w' => e = .returned (.tuple #[.int .u64 (lo : Int),.int .u64 (hi : Int)]) ∧ w' = w:=by
 have h : v * m ≤ 18446744073709551615 * 18446744073709551615:=Nat.mul_le_mul (by omega) (by omega)
 obtain ⟨p,q,bq,bp,hpq⟩:=mul_ex v m hv hm
 obtain ⟨s,k,bs,bk,hsk,ra⟩:=add0_ex q x bq hx
 obtain ⟨t,l,bt,bl,htl,rb⟩:=add0_ex s y bs hy
 have hsum : p + k + l < 18446744073709551616:=by omega
 have hsum1 : p + k < 18446744073709551616:=by omega
 obtain rfl : t = lo:=by omega
 have HI : Hid (hi = p + k + l):=Lib.hid (by omega)
 have cm:=fun w => mul64_at w v m p q hv hm bq hpq
 clear h hpq hsk htl he hlo bs bq bp
 go_enter Tryz.func181,Tryz.ntmps181
 go_wp2_with fail
 refine (cm _).mono ?_
 rintro e w1 ⟨rfl,rfl⟩
 go_wp2
 go_ret2
 exact ⟨by rw [HI.out]; rfl,rfl⟩
theorem step_c (w : World) (v m x y lo hi : Nat) (hv : v < 18446744073709551616) (hm : m < 18446744073709551616) (hx : x < 18446744073709551616) (hy : y < 18446744073709551616) (hlo : lo < 18446744073709551616) (he : lo + 18446744073709551616 * hi = v * m + x + y) :
  Calls Tryz.prog 181 #[.int .u64 ((v : Nat) : Int),.int .u64 ((m : Nat) : Int),.int .u64 ((x : Nat) : Int),.int .u64 ((y : Nat) : Int)] w (Sy.Gets w (.tuple #[.int .u64 ((lo : Nat) : Int),.int .u64 ((hi : Nat) : Int)])) :=
 (step_at w v m x y lo hi hv hm hx hy hlo he).mono fun e w' ⟨h1,h2⟩ => ⟨h1,by rw [h2]; exact Below.refl _ _⟩
end Sc
namespace Fz
open Go.RowKit Go.Lib Sy
theorem prod_split {x y lo hi : Nat} {R : Nat → Nat} (hx : x < (2^256)) (hy : y < (2^256)) (he : lo + (2^256) * hi = x * y) (h : vR R 8 = vR (wd x) 4 * vR (wd y) 4) : vR R 4 + vR (fun t => R (4 + t)) 4 * (2^256) = lo + (2^256) * hi:=by
 rw [wd4 hx,wd4 hy,show (8 : Nat) = 4 + 4 from rfl,vR_split] at h
 rw [he, ← h]
theorem prod_parts {x y lo hi : Nat} {R : Nat → Nat} (hx : x < (2^256)) (hy : y < (2^256)) (hlo : lo < (2^256)) (he : lo + (2^256) * hi = x * y) (h : vR R 8 = vR (wd x) 4 * vR (wd y) 4) (hR : vR R 4 < 18446744073709551616 ^ 4) : lo = vR R 4:=by
 have q:=prod_split hx hy he h
 have hR' : vR R 4 < (2^256):=hR
 omega
theorem prod_high {x y lo hi : Nat} {R : Nat → Nat} (hx : x < (2^256)) (hy : y < (2^256)) (hlo : lo < (2^256)) (he : lo + (2^256) * hi = x * y) (h : vR R 8 = vR (wd x) 4 * vR (wd y) 4) (hR : vR R 4 < 18446744073709551616 ^ 4) : hi = vR (fun t => R (4 + t)) 4:=by
 have q:=prod_split hx hy he h
 have hR' : vR R 4 < (2^256):=hR
 omega
set_option maxHeartbeats 4000000 in
set_option maxRecDepth 100000 in
theorem productZ (w : World) (x y lo hi : Nat) (hx : x < (2^256)) (hy : y < (2^256)) (hlo : Hid (lo < (2^256))) (he : Hid (lo + (2^256) * hi = x * y)) : Calls Tryz.prog 148 #[fv x,fv y] w (Gets w (.tuple #[fv lo,fv hi])):=by
 refine Sy.enter (args:=[fv x,fv y]) Tryz.func148 rfl kL ?_
 refine sC ?_
 refine sM 24 (fcs x) (fun g0 => ?_)
 refine sM 24 (fcs y) (fun g1 => ?_)
 refine sM 24 (fcs 0) (fun g2 => ?_)
 refine sM 24 (fcs 0) (fun g3 => ?_)
 refine sA ?_
 refine Sy.make kR 194 (rw8 (fun _ => 0)) ptr kF (fun g4 => ?_)
 refine sG <| Sy.seq <| sC ?_
 refine sS (fv x) (qL 0 g0 0 4 24 24 (fcs x) rfl Tryz.underlying24) <| sP (.int .i64 0) ?_
 refine sG <| Sy.block ?_
 refine Sy.loopX (T:=Nat → Nat) 4 (fun k1 y1 => [(2,.pointer (some ⟨g0,0,none⟩)),(3,.pointer (some ⟨g1,0,none⟩)),(4,.pointer (some ⟨g2,0,none⟩)),(5,.pointer (some ⟨g3,0,none⟩)),(6,.pointer (some ⟨g4,0,none⟩)),(12,fv x),(13,.int .i64 ((k1 : Nat) : Int))]) (fun k1 y1 => [(g0,24,(fcs x)),(g1,24,(fcs y)),(g2,24,(fcs 0)),(g3,24,(fcs 0)),(g4,194,(rw8 y1))]) (fun k1 y1 => (∀ t,y1 t < 18446744073709551616) ∧ vR y1 8 = vR (wd x) k1 * vR (wd y) 4 ∧ ∀ t,k1 + 4 ≤ t → y1 t = 0) (fun _ => 0) [true,true,true,true,true] (⟨fun _ => by show (0 : Nat) < 18446744073709551616; decide,by rw [vR_zero]; exact (Nat.zero_mul _).symm,fun _ _ => rfl⟩) (all_cons kR (all_cons kR (all_cons kR (all_cons kR (all_cons kR (all_cons kR (all_cons kR all_nil))))))) kR (fun k1 y1 hk1 hh1 => ?_)
 refine sC ?_
 obtain ⟨b1,hb1⟩ : ∃ z : Bool,z = decide (k1 < 4):=⟨_,rfl⟩
 refine sS (.bool b1) (Quiet.pure (exec_int .lss _ _ _ .i64 _ _ _ rfl rfl rfl (int_lss _ _ _ _ _ (by rw [hb1]; exact decide_eq_decide.2 (by omega))))) ?_
 refine sG <| Sy.seq ?_
 cases b1
 ·have lb1 : ¬ (k1 < 4):=of_decide_eq_false hb1.symm
  refine sU <| Sy.exit <| Sy.then_exit <| Sy.then_exit ?_
  obtain rfl : k1 = 4:=by omega
  refine Sy.in_exit <| Sy.then_ <| Sy.seq ?_
  refine Sy.regionV (twoV g2 24 (fcs (vR y1 4)) g3 24 (fcs (vR (fun t => y1 (4 + t)) 4))) ?_
  refine Sy.takeV 0 rfl (.pointer (some ⟨g4,0,none⟩)) ?_
  refine Sy.loadV 1 rfl 4 g4 0 194 22 (rw8 y1) _ (.int .u64 ((y1 0 : Nat) : Int)) _ rfl Tryz.underlying22 (far_of (i:=2) (j:=3) (k:=4) (hik:=by decide) (hjk:=by decide)) ?_
  refine Sy.takeV 2 rfl (.pointer (some ⟨g4,1,none⟩)) ?_
  refine Sy.loadV 3 rfl 4 g4 1 194 22 (rw8 y1) _ (.int .u64 ((y1 1 : Nat) : Int)) _ rfl Tryz.underlying22 (far_of (i:=2) (j:=3) (k:=4) (hik:=by decide) (hjk:=by decide)) ?_
  refine Sy.takeV 4 rfl (.pointer (some ⟨g4,2,none⟩)) ?_
  refine Sy.loadV 5 rfl 4 g4 2 194 22 (rw8 y1) _ (.int .u64 ((y1 2 : Nat) : Int)) _ rfl Tryz.underlying22 (far_of (i:=2) (j:=3) (k:=4) (hik:=by decide) (hjk:=by decide)) ?_
  refine Sy.takeV 6 rfl (.pointer (some ⟨g4,3,none⟩)) ?_
  refine Sy.loadV 7 rfl 4 g4 3 194 22 (rw8 y1) _ (.int .u64 ((y1 3 : Nat) : Int)) _ rfl Tryz.underlying22 (far_of (i:=2) (j:=3) (k:=4) (hik:=by decide) (hjk:=by decide)) ?_
  refine Sy.takeV 8 rfl (fv (vR y1 4)) ?_ (hq:=fun w => by rw [← row_fv hh1.1]; kernel_rfl)
  refine Sy.takeV 9 rfl (.pointer (some ⟨g4,4,none⟩)) ?_
  refine Sy.loadV 10 rfl 4 g4 4 194 22 (rw8 y1) _ (.int .u64 ((y1 4 : Nat) : Int)) _ rfl Tryz.underlying22 (far_of (i:=2) (j:=3) (k:=4) (hik:=by decide) (hjk:=by decide)) ?_
  refine Sy.takeV 11 rfl (.pointer (some ⟨g4,5,none⟩)) ?_
  refine Sy.loadV 12 rfl 4 g4 5 194 22 (rw8 y1) _ (.int .u64 ((y1 5 : Nat) : Int)) _ rfl Tryz.underlying22 (far_of (i:=2) (j:=3) (k:=4) (hik:=by decide) (hjk:=by decide)) ?_
  refine Sy.takeV 13 rfl (.pointer (some ⟨g4,6,none⟩)) ?_
  refine Sy.loadV 14 rfl 4 g4 6 194 22 (rw8 y1) _ (.int .u64 ((y1 6 : Nat) : Int)) _ rfl Tryz.underlying22 (far_of (i:=2) (j:=3) (k:=4) (hik:=by decide) (hjk:=by decide)) ?_
  refine Sy.takeV 15 rfl (.pointer (some ⟨g4,7,none⟩)) ?_
  refine Sy.loadV 16 rfl 4 g4 7 194 22 (rw8 y1) _ (.int .u64 ((y1 7 : Nat) : Int)) _ rfl Tryz.underlying22 (far_of (i:=2) (j:=3) (k:=4) (hik:=by decide) (hjk:=by decide)) ?_
  refine Sy.takeV 17 rfl (fv (vR (fun t => y1 (4 + t)) 4)) ?_ (hq:=fun w => by rw [← row_fv (R:=fun t => y1 (4 + t)) (fun t => hh1.1 _)]; kernel_rfl)
  refine Sy.storesV 18 19 rfl rfl 2 3 g2 g3 24 24 (fcs 0) (fcs 0) (fcs (vR y1 4)) (fcs (vR (fun t => y1 (4 + t)) 4)) 24 24 _ _ _ _ rfl rfl (by decide) ?_ (n1:=4) (n2:=4)
  refine Sy.then_ <| Sy.ret ?_
  rw [show (.tuple #[fv lo,fv hi] : Value) = .tuple #[fv (vR y1 4),fv (vR (fun t => y1 (4 + t)) 4)] from by rw [prod_parts hx hy hlo.out he.out hh1.2.1 (vR_lt hh1.1 4),prod_high hx hy hlo.out he.out hh1.2.1 (vR_lt hh1.1 4)]]
  exact Sy.ret2 (v:=fv (vR y1 4)) (u:=fv (vR (fun t => y1 (4 + t)) 4)) rfl (.inl (Res.cell (ty':=24) g2 2 (fcs (vR y1 4)) _ kR kR Tryz.underlying24 rfl kR kR)) (.inl (Res.cell (ty':=24) g3 3 (fcs (vR (fun t => y1 (4 + t)) 4)) _ kR kR Tryz.underlying24 rfl kR kR))
 ·have lb1 : k1 < 4:=of_decide_eq_true hb1.symm
  refine sT <| Sy.skip <| Sy.then_ <| Sy.seq <| Sy.block <| sC ?_
  refine sP (.int .i64 ((k1 : Nat) : Int)) <| sS (.int .u64 ((wd x k1 : Nat) : Int)) (Quiet.pure (exec_idx _ _ _ _ _ 4 k1 .i64 _ _ rfl rfl rfl Tryz.underlying24 Tryz.underlying22 rfl kF (by omega) (fcs_at x (by omega) rfl))) <| sP (.int .i64 ((k1 : Nat) : Int)) <| sP (.int .u64 ((wd x k1 : Nat) : Int)) ?_
  refine sA ?_
  refine sP (.int .u64 0) ?_
  refine sG <| Sy.seq <| sC ?_
  refine sS (fv y) (qL 1 g1 0 4 24 24 (fcs y) rfl Tryz.underlying24) <| sP (.int .i64 0) ?_
  refine sG <| Sy.block ?_
  refine Sy.loopX (T:=(Nat → Nat) × Nat) 4 (fun k2 y2 => [(2,.pointer (some ⟨g0,0,none⟩)),(3,.pointer (some ⟨g1,0,none⟩)),(4,.pointer (some ⟨g2,0,none⟩)),(5,.pointer (some ⟨g3,0,none⟩)),(6,.pointer (some ⟨g4,0,none⟩)),(7,.int .i64 ((k1 : Nat) : Int)),(8,.int .u64 ((wd x k1 : Nat) : Int)),(9,.int .u64 ((y2.2 : Nat) : Int)),(12,fv x),(13,.int .i64 ((k1 : Nat) : Int)),(17,fv y),(18,.int .i64 ((k2 : Nat) : Int))]) (fun k2 y2 => [(g0,24,(fcs x)),(g1,24,(fcs y)),(g2,24,(fcs 0)),(g3,24,(fcs 0)),(g4,194,(rw8 y2.1))]) (fun k2 y2 => (∀ t,y2.1 t < 18446744073709551616) ∧ y2.2 < 18446744073709551616 ∧ vR y2.1 8 + y2.2 * 18446744073709551616 ^ (k1 + k2) = vR y1 8 + wd x k1 * vR (wd y) k2 * 18446744073709551616 ^ k1 ∧ ∀ t,k1 + 4 ≤ t → y2.1 t = 0) (y1,0) [true,true,true,true,true] (⟨hh1.1,by show (0 : Nat) < 18446744073709551616; decide,by show vR y1 8 + 0 * _ = _ + _ * 0 * _; omega,hh1.2.2⟩) (all_cons kR (all_cons kR (all_cons kR (all_cons kR (all_cons kR (all_cons kR (all_cons kR (all_cons kR (all_cons kR (all_cons kR (all_cons kR (all_cons kR all_nil)))))))))))) kR (fun k2 y2 hk2 hh2 => ?_)
  refine sC ?_
  obtain ⟨b2,hb2⟩ : ∃ z : Bool,z = decide (k2 < 4):=⟨_,rfl⟩
  refine sS (.bool b2) (Quiet.pure (exec_int .lss _ _ _ .i64 _ _ _ rfl rfl rfl (int_lss _ _ _ _ _ (by rw [hb2]; exact decide_eq_decide.2 (by omega))))) ?_
  refine sG <| Sy.seq ?_
  cases b2
  ·have lb2 : ¬ (k2 < 4):=of_decide_eq_false hb2.symm
   refine sU <| Sy.exit <| Sy.then_exit <| Sy.then_exit ?_
   obtain rfl : k2 = 4:=by omega
   refine Sy.in_exit <| Sy.then_ <| Sy.region ?_
   refine sP (.int .i64 ((k1 : Nat) : Int)) <| sS (.int .i64 ((k1 + 4 : Nat) : Int)) (Quiet.pure (exec_int .add _ _ _ .i64 _ _ _ rfl rfl rfl (int_add _ _ _ _ _ ((wrap_i64 (by omega) (by omega)).trans (by omega))))) <| sP (.int .u64 ((y2.2 : Nat) : Int)) <| sS (.pointer (some ⟨g4,0 + (k1 + 4) * 1,none⟩)) (Quiet.pure (exec_atA 194 _ _ _ g4 0 _ (k1 + 4) 1 .i64 rfl rfl rfl Tryz.underlying194 kF (by omega))) ?_
   refine Sy.write kR 4 g4 194 (rw8 y2.1) (rw8 (upd y2.1 (k1 + 4) y2.2)) kR (Writes.one (0 + (k1 + 4) * 1) 22 (.int .u64 ((y2.2 : Nat) : Int)) _ _ rfl kR kR kR rfl rfl (rw8_fit _ (k:=k1 + 4) (by omega) (by omega)) (rw8_set _ _ (by omega) (by omega))) ?_
   refine Sy.nil <| Sy.in_ <| Sy.then_ <| Sy.region ?_
   refine sS (.int .i64 ((k1 + 1 : Nat) : Int)) (Quiet.pure (exec_int .add _ _ _ .i64 _ _ _ rfl rfl rfl (int_add _ _ _ _ _ ((wrap_i64 (by omega) (by omega)).trans (by omega))))) <| sP (.int .i64 ((k1 + 1 : Nat) : Int)) ?_
   refine Sy.nil ?_
   have hq:=outerM hh1.2.1 hh2.2.2.1 (hh2.2.2.2 _ (Nat.le_refl _)) (by omega)
   exact Sy.againX (upd y2.1 (k1 + 4) y2.2) [true,true,true,true,true] (by omega) (⟨upd_lt hh2.1 hh2.2.1,hq,fun t ht => (upd_ne (by omega)).trans (hh2.2.2.2 t (by omega))⟩) (all_cons kR (all_cons kR (all_cons kR (all_cons kR (all_cons kR (all_cons kR (all_cons kR all_nil))))))) kR
  ·have lb2 : k2 < 4:=of_decide_eq_true hb2.symm
   refine sT <| Sy.skip <| Sy.then_ <| Sy.seq <| Sy.block <| sC ?_
   refine sP (.int .i64 ((k2 : Nat) : Int)) <| sS (.int .u64 ((wd y k2 : Nat) : Int)) (Quiet.pure (exec_idx _ _ _ _ _ 4 k2 .i64 _ _ rfl rfl rfl Tryz.underlying24 Tryz.underlying22 rfl kF (by omega) (fcs_at y (by omega) rfl))) <| sP (.int .i64 ((k2 : Nat) : Int)) <| sP (.int .u64 ((wd y k2 : Nat) : Int)) ?_
   refine sG <| Sy.region ?_
   refine sP (.int .i64 ((k1 : Nat) : Int)) <| sP (.int .i64 ((k2 : Nat) : Int)) <| sS (.int .i64 ((k1 + k2 : Nat) : Int)) (Quiet.pure (exec_int .add _ _ _ .i64 _ _ _ rfl rfl rfl (int_add _ _ _ _ _ ((wrap_i64 (by omega) (by omega)).trans (by omega))))) <| sP (.int .u64 ((wd x k1 : Nat) : Int)) <| sP (.int .u64 ((wd y k2 : Nat) : Int)) <| sP (.int .i64 ((k1 : Nat) : Int)) <| sP (.int .i64 ((k2 : Nat) : Int)) <| sS (.int .i64 ((k1 + k2 : Nat) : Int)) (Quiet.pure (exec_int .add _ _ _ .i64 _ _ _ rfl rfl rfl (int_add _ _ _ _ _ ((wrap_i64 (by omega) (by omega)).trans (by omega))))) ?_
   refine sS (.pointer (some ⟨g4,0 + (k1 + k2) * 1,none⟩)) (Quiet.pure (exec_atA 194 _ _ _ g4 0 _ (k1 + k2) 1 .i64 rfl rfl rfl Tryz.underlying194 kF (by omega))) <| sS (.int .u64 ((y2.1 (k1 + k2) : Nat) : Int)) (Quiet.cell 4 g4 (0 + (k1 + k2) * 1) 194 22 (rw8 y2.1) _ _ rfl kR kR Tryz.underlying22 rfl _ (rw8_at y2.1 (k:=k1 + k2) (by omega) (by omega))) <| sP (.int .u64 ((y2.2 : Nat) : Int)) ?_
   obtain ⟨lo,hi,llo,lhi,elo⟩:=Sc.step_ex (wd x k1) (wd y k2) (y2.1 (k1 + k2)) y2.2 (by first | assumption | exact wd_lt _ _ | exact hh1.1 _ | exact hh2.1 _ | exact hh2.2.1 | decide) (by first | assumption | exact wd_lt _ _ | exact hh1.1 _ | exact hh2.1 _ | exact hh2.2.1 | decide) (by first | assumption | exact wd_lt _ _ | exact hh1.1 _ | exact hh2.1 _ | exact hh2.2.1 | decide) (by first | assumption | exact wd_lt _ _ | exact hh1.1 _ | exact hh2.1 _ | exact hh2.2.1 | decide)
   refine sS (.tuple #[.int .u64 ((lo : Nat) : Int),.int .u64 ((hi : Nat) : Int)]) (qF 181 #[.int .u64 ((wd x k1 : Nat) : Int),.int .u64 ((wd y k2 : Nat) : Int),.int .u64 ((y2.1 (k1 + k2) : Nat) : Int),.int .u64 ((y2.2 : Nat) : Int)] (fun w => Sc.step_c w (wd x k1) (wd y k2) (y2.1 (k1 + k2)) y2.2 lo hi (by first | assumption | exact wd_lt _ _ | exact hh1.1 _ | exact hh2.1 _ | exact hh2.2.1 | decide) (by first | assumption | exact wd_lt _ _ | exact hh1.1 _ | exact hh2.1 _ | exact hh2.2.1 | decide) (by first | assumption | exact wd_lt _ _ | exact hh1.1 _ | exact hh2.1 _ | exact hh2.2.1 | decide) (by first | assumption | exact wd_lt _ _ | exact hh1.1 _ | exact hh2.1 _ | exact hh2.2.1 | decide) llo elo)) <| sP (.tuple #[.int .u64 ((lo : Nat) : Int),.int .u64 ((hi : Nat) : Int)]) <| sP (.int .u64 ((lo : Nat) : Int)) <| sP (.int .u64 ((hi : Nat) : Int)) <| sS (.pointer (some ⟨g4,0 + (k1 + k2) * 1,none⟩)) (Quiet.pure (exec_atA 194 _ _ _ g4 0 _ (k1 + k2) 1 .i64 rfl rfl rfl Tryz.underlying194 kF (by omega))) ?_
   refine Sy.write kR 4 g4 194 (rw8 y2.1) (rw8 (upd y2.1 (k1 + k2) lo)) kR (Writes.one (0 + (k1 + k2) * 1) 22 (.int .u64 ((lo : Nat) : Int)) _ _ rfl kR kR kR rfl rfl (rw8_fit _ (k:=k1 + k2) (by omega) (by omega)) (rw8_set _ _ (by omega) (by omega))) ?_
   refine sP (.int .u64 ((hi : Nat) : Int)) ?_
   refine Sy.nil <| Sy.in_ <| Sy.then_ <| Sy.region ?_
   refine sS (.int .i64 ((k2 + 1 : Nat) : Int)) (Quiet.pure (exec_int .add _ _ _ .i64 _ _ _ rfl rfl rfl (int_add _ _ _ _ _ ((wrap_i64 (by omega) (by omega)).trans (by omega))))) <| sP (.int .i64 ((k2 + 1 : Nat) : Int)) ?_
   refine Sy.nil ?_
   have hin:=innerZ (vR_upd y2.1 (k1 + k2) lo 8 (by omega)) hh2.2.2.1 elo (P0:=18446744073709551616 ^ k2) (by rw [Nat.add_comm,Nat.pow_add])
   exact Sy.againX ((upd y2.1 (k1 + k2) lo,hi)) [true,true,true,true,true] (by omega) (⟨upd_lt hh2.1 llo,lhi,by rw [← Nat.add_assoc,Nat.pow_succ]; exact hin,fun t ht => (upd_ne (by omega)).trans (hh2.2.2.2 t ht)⟩) (all_cons kR (all_cons kR (all_cons kR (all_cons kR (all_cons kR (all_cons kR (all_cons kR (all_cons kR (all_cons kR (all_cons kR (all_cons kR (all_cons kR all_nil)))))))))))) kR
end Fz
namespace Sc
open Go.RowKit Go.Lib
theorem product_any (w : World) (x y lo hi : Nat) (hx : x < (2^256)) (hy : y < (2^256)) (hlo : lo < (2^256)) (_ : hi < (2^256)) (he : lo + (2^256) * hi = x * y) : Calls Tryz.prog 148 #[fv x,fv y] w fun e w' => e = .returned (.tuple #[fv lo,fv hi]) ∧ Below w.heap.size w w' :=
 Fz.productZ w x y lo hi hx hy (hid hlo) (hid he)
end Sc
end
section
namespace Sc
open Go.RowKit Go.Lib
theorem mul_step (s h l h' s' : Nat) (hl : l + (2^256) * h' = h * 432420386565659656852420866394968145599) (hs : s' = addP s l) : (s' + (2^256) * h') % pM = (s + (2^256) * h) % pM:=by
 rw [hs,addP,Nat.mod_add_mod]
 refine mod_of_mult (k:=h) ?_
 omega
theorem fold_ex (h : Nat) (_ : h < (2^256)) : ∃ l h' : Nat,l < (2^256) ∧ l + (2^256) * h' = h * 432420386565659656852420866394968145599:=⟨h * 432420386565659656852420866394968145599 % (2^256),h * 432420386565659656852420866394968145599 / (2^256),by omega,by omega⟩
theorem gap_at (w : World) (g : Nat) (hg : g = 432420386565659656852420866394968145599) : Calls Tryz.prog 149 #[] w fun e w' => e = .returned (fv g) ∧ Below w.heap.size w w':=by
 subst hg; exact gap_any w
set_option maxHeartbeats 8000000 in
set_option maxRecDepth 100000 in
theorem mulF_any (w : World) (x y : Nat) (hx : x < (2^256)) (hy : y < (2^256)) : Calls Tryz.prog 98 #[fv x,fv y] w fun e w' => e = .returned (fv (mulP x y)) ∧ Below w.heap.size w w':=by
 have hxy : x * y ≤ 115792089237316195423570985008687907853269984665640564039457584007913129639935 * 115792089237316195423570985008687907853269984665640564039457584007913129639935:=Nat.mul_le_mul (by omega) (by omega)
 obtain ⟨s0,h0,ls0,lh0,e0⟩ : ∃ lo hi : Nat,lo < (2^256) ∧ hi < (2^256) ∧ lo + (2^256) * hi = x * y:=⟨x * y % (2^256),x * y / (2^256),by omega,by omega,by omega⟩
 obtain ⟨l1,h1,ll1,e1⟩:=fold_ex h0 lh0
 have lh1 : h1 ≤ 432420386565659656852420866394968145599:=by omega
 obtain ⟨l2,h2,ll2,e2⟩:=fold_ex h1 (by omega)
 have lh2 : h2 ≤ 2:=by omega
 obtain ⟨l3,h3,ll3,e3⟩:=fold_ex h2 (by omega)
 have lh3 : h3 = 0:=by omega
 obtain ⟨s1,hs1⟩ : ∃ s,s = addP s0 l1:=⟨_,rfl⟩
 obtain ⟨s2,hs2⟩ : ∃ s,s = addP s1 l2:=⟨_,rfl⟩
 obtain ⟨s3,hs3⟩ : ∃ s,s = addP s2 l3:=⟨_,rfl⟩
 have ls1 : s1 < (2^256):=by rw [hs1]; exact addP_lt _ _
 have ls2 : s2 < (2^256):=by rw [hs2]; exact addP_lt _ _
 have hfin : mulP x y = s3:=by
  have q1:=mul_step s0 h0 l1 h1 s1 e1 hs1
  have q2:=mul_step s1 h1 l2 h2 s2 e2 hs2
  have q3:=mul_step s2 h2 l3 h3 s3 e3 hs3
  rw [q2,q1,e0,lh3,Nat.mul_zero,Nat.add_zero] at q3
  have : s3 % pM = s3:=by rw [hs3,addP,Nat.mod_mod]
  rw [mulP, ← q3,this]
 obtain ⟨g,hg⟩ : ∃ g,g = 432420386565659656852420866394968145599:=⟨_,rfl⟩
 have cg:=fun w => gap_at w g hg
 have cp:=fun w => product_any w x y s0 h0 hx hy ls0 lh0 e0
 have p1:=fun w => product_any w h0 g l1 h1 lh0 (by omega) ll1 (by omega) (by rw [hg]; exact e1)
 have p2:=fun w => product_any w h1 g l2 h2 (by omega) (by omega) ll2 (by omega) (by rw [hg]; exact e2)
 have p3:=fun w => product_any w h2 g l3 h3 (by omega) (by omega) ll3 (by omega) (by rw [hg]; exact e3)
 have c1 : ∀ w,Calls Tryz.prog 97 #[fv s0,fv l1] w fun e w' => e = .returned (fv s1) ∧ Below w.heap.size w w':=by
  intro w; rw [hs1]; exact addF_any w s0 l1 ls0 ll1
 have c2 : ∀ w,Calls Tryz.prog 97 #[fv s1,fv l2] w fun e w' => e = .returned (fv s2) ∧ Below w.heap.size w w':=by
  intro w; rw [hs2]; exact addF_any w s1 l2 ls1 ll2
 have c3 : ∀ w,Calls Tryz.prog 97 #[fv s2,fv l3] w fun e w' => e = .returned (fv s3) ∧ Below w.heap.size w w':=by
  intro w; rw [hs3]; exact addF_any w s2 l3 ls2 ll3
 rw [hfin]
 obtain ⟨x0,x1,x2,x3,fx⟩:=words_fv x hx
 obtain ⟨y0,y1,y2,y3,fy⟩:=words_fv y hy
 have FX:=Lib.hid fx
 have FY:=Lib.hid fy
 rw [fx,fy]
 clear fx fy hx hy hxy ls0 lh0 e0 ll1 e1 lh1 ll2 e2 lh2 ll3 e3 lh3 hs1 hs2 hs3 ls1 ls2 hfin hg
 go_enter Tryz.func98,Tryz.ntmps98
 go_wp2_with (first | ((with_reducible refine here_load (d:=some 9) ?_); refine wpList_load_fv rfl _ _ rfl (w.heap.size) rfl (x) _ _ _ (((Blk.new w _ _).alloc _).alloc _) (FX.out) Tryz.underlying24 rfl (by kernel_rfl) ?_) | ((with_reducible refine here_load (d:=some 10) ?_); refine wpList_load_fv rfl _ _ rfl (w.heap.size + 1) rfl (y) _ _ _ ((blk_new2 w _ _ _).alloc _) (FY.out) Tryz.underlying24 rfl (by kernel_rfl) ?_))
 refine (cp _).mono ?_
 rintro e w1 ⟨rfl,k1⟩
 have BR : Blk w1 (w.heap.size + 2) 24 _:=Gr.blk k1 (blk_new3 w _ _ _ _)
 have hB:=Below.gr (below_alloc3 w _ _ _) k1
 have sz : w.heap.size + 2 < w1.heap.size:=BR.lt
 clear k1 cp
 go_wp2_with (first | ((with_reducible refine here_store ?_); refine wpList_store_blk rfl _ _ _ rfl (w1.heap.size) (fcs (s0)) rfl rfl _ _ ((Blk.new w1 _ _).alloc _) (by kernel_rfl) (by rfl) (fcs_one _) ?_; intro w2 hL2 hB2' hK2; have CR2:=hK2 _ (by omega) _ _ ((BR.alloc _).alloc _); have CH2:=hK2 _ (by omega) _ _ (blk_new2 w1 _ _ _); have hB2:=((hB.alloc (by omega) _).alloc (by simp <;> omega) _).trans (hB2' _ (by omega))) | ((with_reducible refine here_store ?_); refine wpList_store_blk rfl _ _ _ rfl (w1.heap.size + 1) (fcs (h0)) rfl rfl _ _ (CH2) (by kernel_rfl) (by rfl) (fcs_one _) ?_; intro w3 hL3 hB3' hK3; have CR3:=hK3 _ (by omega) _ _ CR2; have CS3:=hK3 _ (by omega) _ _ hL2; have hB3:=hB2.trans (hB3' _ (by omega))))
 go_loopw [14] (fun i wr => Below w.heap.size w wr ∧ Blk wr (w.heap.size + 2) 24 #[.int .u64 0,.int .u64 0,.int .u64 0,.int .u64 0] ∧ Hid ((i = .int .i64 0 ∧ Blk wr w1.heap.size 24 (fcs s0) ∧ Blk wr (w1.heap.size + 1) 24 (fcs h0)) ∨ (i = .int .i64 1 ∧ Blk wr w1.heap.size 24 (fcs s1) ∧ Blk wr (w1.heap.size + 1) 24 (fcs h1)) ∨ (i = .int .i64 2 ∧ Blk wr w1.heap.size 24 (fcs s2) ∧ Blk wr (w1.heap.size + 1) 24 (fcs h2)) ∨ (i = .int .i64 3 ∧ Blk wr w1.heap.size 24 (fcs s3) ∧ Blk wr (w1.heap.size + 1) 24 (fcs h3)))) (fun i _ => 3 - (intOf i).toNat)
 case atStart => exact ⟨hB3,CR3,Lib.hid (.inl ⟨rfl,CS3,hL3⟩)⟩
 case round =>
  obtain ⟨hb,CR,HI⟩:=hrel
  rcases HI.out with ⟨rfl,BS,BH⟩ | ⟨rfl,BS,BH⟩ | ⟨rfl,BS,BH⟩ | ⟨rfl,BS,BH⟩
  ·clear HI
   have szr : w1.heap.size + 1 < wr.heap.size:=BH.lt
   go_wp2
   refine wp_region_G (fun j => j == 6 || j == 7) (by kernel_rfl) ?_
   try simp only [Act.put]
   refine tkw 0 rfl (YieldsG.loadF (by rfl) _ _ rfl (w1.heap.size + 1) rfl (h0) _ _ (BH.alloc _) (fv_fcs _) Tryz.underlying24 rfl (by kernel_rfl)) ?_
   try simp only [Act.put,aA,aZ,aS]
   refine tkw 1 rfl (YieldsG.call (v:=fv g) (by rfl) 149 _ (fun w9 => by go_simp; try (first | with_reducible rfl | rfl)) (fun w9 h9 => cg w9)) ?_
   try simp only [Act.put,aA,aZ,aS]
   refine tkw 2 rfl (YieldsG.call (v:=.tuple #[fv l1,fv h1]) (by rfl) 148 _ (fun w9 => by go_simp; try (first | with_reducible rfl | rfl)) (fun w9 h9 => p1 w9)) ?_
   try simp only [Act.put,aA,aZ,aS]
   refine tk 3 rfl ?_
   try simp only [Act.put,aA,aZ,aS]
   refine tk 4 rfl ?_
   try simp only [Act.put,aA,aZ,aS]
   refine wpAnyG_takeA 5 rfl (by kernel_rfl) (fun _ _ _ h => h) (fun _ => YieldsG.pure (by rfl) (fun w9 _ => by go_simp; try with_reducible rfl)) ?_
   try simp only [Act.put,aA,aZ,aS]
   refine wpAnyG_storeK 6 rfl (by kernel_rfl) (by rfl) _ _ _ rfl (wr.heap.size) (fcs l1) rfl rfl _ _ (Blk.new wr _ _) (by kernel_rfl) (by rfl) (fcs_one _) rfl (fun u1 g1 v1 hB1 hK1 hL1 => ?_)
   try simp only [Act.put]
   have BH1:=hK1 _ (by omega) _ _ (Gr.blk g1 (BH.alloc _))
   have BS1:=hK1 _ (by omega) _ _ (Gr.blk g1 (BS.alloc _))
   have CR1:=hK1 _ (by omega) _ _ (Gr.blk g1 (CR.alloc _))
   have hb1:=(Below.gr (hb.alloc (by omega) _) g1).trans (hB1 _ (by omega))
   refine wpAnyG_storeK 7 rfl (by kernel_rfl) (by rfl) _ _ _ rfl (w1.heap.size + 1) (fcs h1) rfl rfl _ _ (BH1) (by kernel_rfl) (by rfl) (fcs_one _) rfl (fun u2 g2 v2 hB2 hK2 hL2 => ?_)
   try simp only [Act.put]
   have BL2:=hK2 _ (by omega) _ _ (Gr.blk g2 hL1)
   have BS2:=hK2 _ (by omega) _ _ (Gr.blk g2 BS1)
   have CR2:=hK2 _ (by omega) _ _ (Gr.blk g2 CR1)
   have hb2:=(Below.gr hb1 g2).trans (hB2 _ (by omega))
   refine wpAnyG_done (by kernel_rfl) (fun v hv => ?_)
   have DH:=Gr.blk hv hL2
   have DL:=Gr.blk hv BL2
   have DS:=Gr.blk hv BS2
   have DR:=Gr.blk hv CR2
   have hbv:=Below.gr hb2 hv
   clear hv g1 g2 BH1 BS1 CR1 hb1 BL2 BS2 CR2 hb2 hL1 hL2 hB1 hB2 hK1 hK2
   go_wp2_with (first | ((with_reducible refine here_load (d:=some 22) ?_); refine wpList_load_fv rfl _ _ rfl (w1.heap.size) rfl (s0) _ _ _ (DS) (fv_fcs _) Tryz.underlying24 rfl (by kernel_rfl) ?_) | ((with_reducible refine here_load (d:=some 23) ?_); refine wpList_load_fv rfl _ _ rfl (wr.heap.size) rfl (l1) _ _ _ (DL) (fv_fcs _) Tryz.underlying24 rfl (by kernel_rfl) ?_))
   refine (c1 _).mono ?_
   rintro e y1 ⟨rfl,k1⟩
   have EH:=Gr.blk k1 DH
   have ES:=Gr.blk k1 DS
   have ER:=Gr.blk k1 DR
   have hby:=Below.gr hbv k1
   clear k1
   go_wp2_with (first | ((with_reducible refine here_store ?_); refine wpList_store_blk rfl _ _ _ rfl (w1.heap.size) (fcs (s1)) rfl rfl _ _ (ES) (by kernel_rfl) (by rfl) (fcs_one _) ?_; intro y2 hLy hBy hKy))
   exact ⟨⟨hby.trans (hBy _ (by omega)),hKy _ (by omega) _ _ ER,Lib.hid (.inr (.inl (⟨rfl,hLy,hKy _ (by omega) _ _ EH⟩)))⟩,by decide⟩
  ·clear HI
   have szr : w1.heap.size + 1 < wr.heap.size:=BH.lt
   go_wp2
   refine wp_region_G (fun j => j == 6 || j == 7) (by kernel_rfl) ?_
   try simp only [Act.put]
   refine tkw 0 rfl (YieldsG.loadF (by rfl) _ _ rfl (w1.heap.size + 1) rfl (h1) _ _ (BH.alloc _) (fv_fcs _) Tryz.underlying24 rfl (by kernel_rfl)) ?_
   try simp only [Act.put,aA,aZ,aS]
   refine tkw 1 rfl (YieldsG.call (v:=fv g) (by rfl) 149 _ (fun w9 => by go_simp; try (first | with_reducible rfl | rfl)) (fun w9 h9 => cg w9)) ?_
   try simp only [Act.put,aA,aZ,aS]
   refine tkw 2 rfl (YieldsG.call (v:=.tuple #[fv l2,fv h2]) (by rfl) 148 _ (fun w9 => by go_simp; try (first | with_reducible rfl | rfl)) (fun w9 h9 => p2 w9)) ?_
   try simp only [Act.put,aA,aZ,aS]
   refine tk 3 rfl ?_
   try simp only [Act.put,aA,aZ,aS]
   refine tk 4 rfl ?_
   try simp only [Act.put,aA,aZ,aS]
   refine wpAnyG_takeA 5 rfl (by kernel_rfl) (fun _ _ _ h => h) (fun _ => YieldsG.pure (by rfl) (fun w9 _ => by go_simp; try with_reducible rfl)) ?_
   try simp only [Act.put,aA,aZ,aS]
   refine wpAnyG_storeK 6 rfl (by kernel_rfl) (by rfl) _ _ _ rfl (wr.heap.size) (fcs l2) rfl rfl _ _ (Blk.new wr _ _) (by kernel_rfl) (by rfl) (fcs_one _) rfl (fun u1 g1 v1 hB1 hK1 hL1 => ?_)
   try simp only [Act.put]
   have BH1:=hK1 _ (by omega) _ _ (Gr.blk g1 (BH.alloc _))
   have BS1:=hK1 _ (by omega) _ _ (Gr.blk g1 (BS.alloc _))
   have CR1:=hK1 _ (by omega) _ _ (Gr.blk g1 (CR.alloc _))
   have hb1:=(Below.gr (hb.alloc (by omega) _) g1).trans (hB1 _ (by omega))
   refine wpAnyG_storeK 7 rfl (by kernel_rfl) (by rfl) _ _ _ rfl (w1.heap.size + 1) (fcs h2) rfl rfl _ _ (BH1) (by kernel_rfl) (by rfl) (fcs_one _) rfl (fun u2 g2 v2 hB2 hK2 hL2 => ?_)
   try simp only [Act.put]
   have BL2:=hK2 _ (by omega) _ _ (Gr.blk g2 hL1)
   have BS2:=hK2 _ (by omega) _ _ (Gr.blk g2 BS1)
   have CR2:=hK2 _ (by omega) _ _ (Gr.blk g2 CR1)
   have hb2:=(Below.gr hb1 g2).trans (hB2 _ (by omega))
   refine wpAnyG_done (by kernel_rfl) (fun v hv => ?_)
   have DH:=Gr.blk hv hL2
   have DL:=Gr.blk hv BL2
   have DS:=Gr.blk hv BS2
   have DR:=Gr.blk hv CR2
   have hbv:=Below.gr hb2 hv
   clear hv g1 g2 BH1 BS1 CR1 hb1 BL2 BS2 CR2 hb2 hL1 hL2 hB1 hB2 hK1 hK2
   go_wp2_with (first | ((with_reducible refine here_load (d:=some 22) ?_); refine wpList_load_fv rfl _ _ rfl (w1.heap.size) rfl (s1) _ _ _ (DS) (fv_fcs _) Tryz.underlying24 rfl (by kernel_rfl) ?_) | ((with_reducible refine here_load (d:=some 23) ?_); refine wpList_load_fv rfl _ _ rfl (wr.heap.size) rfl (l2) _ _ _ (DL) (fv_fcs _) Tryz.underlying24 rfl (by kernel_rfl) ?_))
   refine (c2 _).mono ?_
   rintro e y1 ⟨rfl,k1⟩
   have EH:=Gr.blk k1 DH
   have ES:=Gr.blk k1 DS
   have ER:=Gr.blk k1 DR
   have hby:=Below.gr hbv k1
   clear k1
   go_wp2_with (first | ((with_reducible refine here_store ?_); refine wpList_store_blk rfl _ _ _ rfl (w1.heap.size) (fcs (s2)) rfl rfl _ _ (ES) (by kernel_rfl) (by rfl) (fcs_one _) ?_; intro y2 hLy hBy hKy))
   exact ⟨⟨hby.trans (hBy _ (by omega)),hKy _ (by omega) _ _ ER,Lib.hid (.inr (.inr (.inl (⟨rfl,hLy,hKy _ (by omega) _ _ EH⟩))))⟩,by decide⟩
  ·clear HI
   have szr : w1.heap.size + 1 < wr.heap.size:=BH.lt
   go_wp2
   refine wp_region_G (fun j => j == 6 || j == 7) (by kernel_rfl) ?_
   try simp only [Act.put]
   refine tkw 0 rfl (YieldsG.loadF (by rfl) _ _ rfl (w1.heap.size + 1) rfl (h2) _ _ (BH.alloc _) (fv_fcs _) Tryz.underlying24 rfl (by kernel_rfl)) ?_
   try simp only [Act.put,aA,aZ,aS]
   refine tkw 1 rfl (YieldsG.call (v:=fv g) (by rfl) 149 _ (fun w9 => by go_simp; try (first | with_reducible rfl | rfl)) (fun w9 h9 => cg w9)) ?_
   try simp only [Act.put,aA,aZ,aS]
   refine tkw 2 rfl (YieldsG.call (v:=.tuple #[fv l3,fv h3]) (by rfl) 148 _ (fun w9 => by go_simp; try (first | with_reducible rfl | rfl)) (fun w9 h9 => p3 w9)) ?_
   try simp only [Act.put,aA,aZ,aS]
   refine tk 3 rfl ?_
   try simp only [Act.put,aA,aZ,aS]
   refine tk 4 rfl ?_
   try simp only [Act.put,aA,aZ,aS]
   refine wpAnyG_takeA 5 rfl (by kernel_rfl) (fun _ _ _ h => h) (fun _ => YieldsG.pure (by rfl) (fun w9 _ => by go_simp; try with_reducible rfl)) ?_
   try simp only [Act.put,aA,aZ,aS]
   refine wpAnyG_storeK 6 rfl (by kernel_rfl) (by rfl) _ _ _ rfl (wr.heap.size) (fcs l3) rfl rfl _ _ (Blk.new wr _ _) (by kernel_rfl) (by rfl) (fcs_one _) rfl (fun u1 g1 v1 hB1 hK1 hL1 => ?_)
   try simp only [Act.put]
   have BH1:=hK1 _ (by omega) _ _ (Gr.blk g1 (BH.alloc _))
   have BS1:=hK1 _ (by omega) _ _ (Gr.blk g1 (BS.alloc _))
   have CR1:=hK1 _ (by omega) _ _ (Gr.blk g1 (CR.alloc _))
   have hb1:=(Below.gr (hb.alloc (by omega) _) g1).trans (hB1 _ (by omega))
   refine wpAnyG_storeK 7 rfl (by kernel_rfl) (by rfl) _ _ _ rfl (w1.heap.size + 1) (fcs h3) rfl rfl _ _ (BH1) (by kernel_rfl) (by rfl) (fcs_one _) rfl (fun u2 g2 v2 hB2 hK2 hL2 => ?_)
   try simp only [Act.put]
   have BL2:=hK2 _ (by omega) _ _ (Gr.blk g2 hL1)
   have BS2:=hK2 _ (by omega) _ _ (Gr.blk g2 BS1)
   have CR2:=hK2 _ (by omega) _ _ (Gr.blk g2 CR1)
   have hb2:=(Below.gr hb1 g2).trans (hB2 _ (by omega))
   refine wpAnyG_done (by kernel_rfl) (fun v hv => ?_)
   have DH:=Gr.blk hv hL2
   have DL:=Gr.blk hv BL2
   have DS:=Gr.blk hv BS2
   have DR:=Gr.blk hv CR2
   have hbv:=Below.gr hb2 hv
   clear hv g1 g2 BH1 BS1 CR1 hb1 BL2 BS2 CR2 hb2 hL1 hL2 hB1 hB2 hK1 hK2
   go_wp2_with (first | ((with_reducible refine here_load (d:=some 22) ?_); refine wpList_load_fv rfl _ _ rfl (w1.heap.size) rfl (s2) _ _ _ (DS) (fv_fcs _) Tryz.underlying24 rfl (by kernel_rfl) ?_) | ((with_reducible refine here_load (d:=some 23) ?_); refine wpList_load_fv rfl _ _ rfl (wr.heap.size) rfl (l3) _ _ _ (DL) (fv_fcs _) Tryz.underlying24 rfl (by kernel_rfl) ?_))
   refine (c3 _).mono ?_
   rintro e y1 ⟨rfl,k1⟩
   have EH:=Gr.blk k1 DH
   have ES:=Gr.blk k1 DS
   have ER:=Gr.blk k1 DR
   have hby:=Below.gr hbv k1
   clear k1
   go_wp2_with (first | ((with_reducible refine here_store ?_); refine wpList_store_blk rfl _ _ _ rfl (w1.heap.size) (fcs (s3)) rfl rfl _ _ (ES) (by kernel_rfl) (by rfl) (fcs_one _) ?_; intro y2 hLy hBy hKy))
   exact ⟨⟨hby.trans (hBy _ (by omega)),hKy _ (by omega) _ _ ER,Lib.hid (.inr (.inr (.inr (⟨rfl,hLy,hKy _ (by omega) _ _ EH⟩))))⟩,by decide⟩
  ·clear HI
   go_wp2_with (first | ((with_reducible refine here_load (d:=some 26) ?_); refine wpList_load_fv rfl _ _ rfl (w1.heap.size) rfl (s3) _ _ _ (BS) (fv_fcs _) Tryz.underlying24 rfl (by kernel_rfl) ?_) | ((with_reducible refine here_store ?_); refine wpList_store_blk rfl _ _ _ rfl (w.heap.size + 2) (fcs (s3)) rfl rfl _ _ (CR) (by kernel_rfl) (by rfl) (fcs_one _) ?_; intro w9 hL9 hB9 hK9))
   exact bodyPost_ret (results_cell_row rfl _ _ (w.heap.size + 2) _ _ (0,0) _ rfl hL9 Tryz.underlying24 rfl (by kernel_rfl)) rfl ⟨rfl,hb.trans (hB9 _ (by omega))⟩
end Sc
end
section
namespace Sh
open Go.RowKit Sp
set_option maxHeartbeats 2000000 in
set_option maxRecDepth 100000 in
theorem grow_nil (w : World) (n : Nat) (h0 : 0 < n) (hn : n ≤ 1000000) :
    Calls Tryz.prog 150 #[.slice none 0 0,.int .i64 n] w fun e w' => ∃ v,e = .returned v ∧ OwnB w' w.heap.size v [] ∧ Below w.heap.size w w':=by
  obtain ⟨i,hi,hz0,hz1,hz2⟩:=info_parts infoByte
  have q0 : (0 : Int) < (n : Int):=by omega
  have q1 : (n : Int) ≤ 1000000:=by omega
  have hrun : ∀ ty,(Builtin.append_ #[25,3] ty #[.slice none 0 0,.int .i64 n]).run Tryz.prog w = _:=fun ty =>
    Lib.run_append_nil_zeros w 25 3 ty 5 i (.int .u8 0) .i64 .i64 Tryz.underlying25 Tryz.underlying3 hi hz0 n h0 (by omega) (by omega) (by rw [hz2]; omega)
  have HI:=Lib.hid hrun
  clear hrun hi hz0 hz1 hz2
  have hcap:=grownCap_ge w n 0 5
  have hcap2 : grownCap w n 0 5 ≤ 9223372036854775807:=by have:=grownCap_le_maxLen w n 0 5 (by simp [maxLen]; omega); simpa [maxLen] using this
  obtain ⟨c,hc⟩ : ∃ c,c = grownCap w n 0 5:=⟨_,rfl⟩
  rw [← hc] at hcap hcap2
  have HCc:=Lib.hid hc
  clear hc
  go_enter Tryz.func150,Tryz.ntmps150
  go_wp2_with (at_builtin; refine Lib.wpList_append_run _ rfl _ _ _ _ rfl _ _ rfl rfl _ _ (HI.out _) ?_)
  rw [← HCc.out]
  go_wp2
  go_ret
  refine ⟨_,rfl,?_,?_⟩
  · have h:=World.ownsRow_made (base:=w.heap.size) (e:=5) (size:=1) w.drew (Builtin.zeroCells (Value.int .u8 0).cells n ++ Builtin.zeroCells (Value.int .u8 0).cells (c - n)) c (by simp) (by simpa [maxLen] using hcap2) (by simp [size_zeroCells,Value.cells]; omega)
    exact h
  · exact ((Below.refl _ _).drew).alloc (Nat.le_refl _) _
set_option maxHeartbeats 4000000 in
set_option maxRecDepth 100000 in
theorem concat_any (w : World) (T : Option Addr) (ts : List Tx) (ct : Nat) (hT : Texts w T ts) (h0 : 0 < (cat ts).length) (hm : (cat ts).length ≤ 1000000) (hn : ts.length ≤ 1000000) :
    Calls Tryz.prog 99 #[.slice T ts.length ct] w fun e w' => ∃ v,e = .returned v ∧ OwnB w' w.heap.size v (cat ts) ∧ Below w.heap.size w w':=by
  have HT:=Lib.hid hT
  clear hT
  obtain ⟨M,hM⟩ : ∃ M,M = (cat ts).length:=⟨_,rfl⟩
  rw [← hM] at h0 hm
  have HM:=Lib.hid hM
  clear hM
  have q0 : (0 : Int) < (M : Int):=by omega
  have q1 : (M : Int) ≤ 1000000:=by omega
  go_enter Tryz.func99,Tryz.ntmps99
  go_wp2
  go_loopw [3,11] (fun s i wr => ∃ k z : Nat,k ≤ ts.length ∧ i = .int .i64 k ∧ s = .int .i64 z ∧ z = (cat (ts.take k)).length ∧ wr = w)
    (fun _ i _ => ts.length - (intOf i).toNat)
  case atStart => exact ⟨0,0,Nat.zero_le _,rfl,rfl,rfl,rfl⟩
  case round =>
    obtain ⟨k,z,hk,rfl,rfl,hz,hw⟩:=hrel
    have hw':=hw.symm
    clear hw
    subst hw'
    have hzM : z ≤ M:=by rw [hz,HM.out]; exact cat_le ts k
    have HZ:=Lib.hid hz
    clear hz
    by_cases hlt : k < ts.length
    · obtain ⟨x,hx⟩ : ∃ x,ts[k]? = some x:=⟨ts[k],List.getElem?_eq_getElem hlt⟩
      obtain ⟨b,o,rfl,hbl,htx⟩:=HT.out (fun e => by rw [e] at hlt; exact absurd hlt (Nat.not_lt_zero _))
      have hc : w.cell? ⟨b,o + k,none⟩ = some (.slice x.A x.l.length x.c):=(htx k x hx).1
      obtain ⟨L,hL⟩ : ∃ L,L = x.l.length:=⟨_,rfl⟩
      rw [← hL] at hc
      have hlx : z + L ≤ M:=by rw [HZ.out,HM.out,hL]; exact cat_next ts k x hx
      have q2 : (0 : Int) ≤ (z : Int):=by omega
      have q3 : (0 : Int) ≤ (L : Int):=by omega
      have q4 : (z : Int) + (L : Int) ≤ 1000000:=by omega
      have HX:=Lib.hid (And.intro hx hL)
      clear hx htx hL
      go_wp2
      go_roundw
      case rel => exact ⟨k + 1,z + L,by omega,by go_num,by go_num,by rw [cat_step ts k x HX.out.1,List.length_append, ← HZ.out, ← HX.out.2],by first | trivial | rfl⟩
      case measure => simp [intOf]; omega
    · obtain rfl : k = ts.length := by omega
      obtain rfl : z = M:=by rw [HZ.out,HM.out,List.take_length]
      clear hlt
      go_wp2_with fail
      refine (grow_nil w z (by omega) hm).mono ?_
      rintro e w1 ⟨v,rfl,hown,hb⟩
      go_wp2
      go_loopw [6,27] (fun v i wq => ∃ (k : Nat) (v0 : Value),k ≤ ts.length ∧ v0 = v ∧ i = .int .i64 k ∧ OwnB wq w.heap.size v0 (cat (ts.take k)) ∧ Below w.heap.size w wq)
        (fun _ i _ => ts.length - (intOf i).toNat)
      case atStart => exact ⟨0,_,Nat.zero_le _,rfl,rfl,hown,hb⟩
      case round =>
        clear hown hb
        obtain ⟨k,v0,hk,rfl,rfl,hown,hb⟩:=hrel
        by_cases hlt : k < ts.length
        · obtain ⟨x, hx⟩ : ∃ x, ts[k]? = some x := ⟨ts[k], List.getElem?_eq_getElem hlt⟩
          obtain ⟨b,o,rfl,hbl,htx⟩:=HT.out (fun e => by rw [e] at hlt; exact absurd hlt (Nat.not_lt_zero _))
          have hc : wr.cell? ⟨b,o + k,none⟩ = some (.slice x.A x.l.length x.c):=(hb.cell (p:=⟨b,o + k,none⟩) hbl).trans (htx k x hx).1
          have hok:=(htx k x hx).2.below hb
          have hlx:=cat_next ts k x hx
          have HX:=Lib.hid (And.intro hx (And.intro hok hlx))
          clear hx htx hok hlx
          go_wp2_with (at_builtin
                       refine wpList_append_bytes rfl (.tmp 31) (.tmp 32) rfl w.heap.size v0 (cat (ts.take k)) rfl hown x.A x.l x.c rfl HX.out.2.1.1 (by have:=HX.out.2.2; have:=HM.out; omega) hb.size ?_
                       intro v7 w7 hv7 hg7
                       have hb7:=below_own hb hown hg7 (Nat.le_refl _) hb.size)
          go_roundw
          case rel => exact ⟨k + 1,v7,by omega,rfl,by go_num,by rw [cat_step ts k x HX.out.1]; exact hv7,hb7⟩
          case measure => simp [intOf]; omega
        · obtain rfl : k = ts.length:=by omega
          rw [List.take_length] at hown
          go_wp2
          go_ret
          exact ⟨_,rfl,hown,hb⟩
end Sh
end
section
namespace Cu
open Go.RowKit Sy
set_option maxRecDepth 100000
set_option maxHeartbeats 4000000
theorem own_row2 {l : List UInt8} {k : Nat} {sp : List Value} (h : l.length = k) : (((l.map bv ++ sp).toArray).toList.drop 0).take k = l.map bv:=by
 rw [List.drop_zero,List.take_append_of_le_length (by rw [List.length_map,h]; exact Nat.le_refl _),List.take_of_length_le (by rw [List.length_map,h]; exact Nat.le_refl _)]
theorem own_agg {l : List UInt8} {k : Nat} {sp : List Value} (h : l.length = k) : Value.agg ((((l.map bv ++ sp).toArray).toList.drop 0).take k).toArray = .agg (l.map bv).toArray:=congrArg (fun l : List Value => Value.agg l.toArray) (own_row2 h)
theorem own_sz2 {l : List UInt8} {k : Nat} {sp : List Value} (h : l.length = k) : 0 + k ≤ ((l.map bv ++ sp).toArray).size:=by
 simp only [List.size_toArray,List.length_append,List.length_map]
 omega
theorem concat2_c (w : World) (g g1 g2 : Nat) (t t1 t2 : TypeId) (x y : List UInt8) (hx : x.length = 32) (hy : y.length = 32)
  (h1 : Blk w g1 t1 (x.map bv).toArray) (h2 : Blk w g2 t2 (y.map bv).toArray) (hb : Blk w g t #[.slice (some ⟨g1,0,none⟩) 32 32,.slice (some ⟨g2,0,none⟩) 32 32]) :
  Calls Tryz.prog 99 #[.slice (some ⟨g,0,none⟩) 2 2] w (GetsN w (fun vq Mq => ∃ (g : Nat) (sp : List Value) (cap : Nat),vq = .slice (some ⟨g,0,none⟩) 64 cap ∧ Mq = [(g,5,((x ++ y).map bv ++ sp).toArray)])):=by
 have e : Sh.cat [⟨some ⟨g1,0,none⟩,x,32⟩,⟨some ⟨g2,0,none⟩,y,32⟩] = x ++ y:=by simp [Sh.cat]
 have hl : (x ++ y).length = 64:=by rw [List.length_append,hx,hy]
 have hb' : Blk w g t (([⟨some ⟨g1,0,none⟩,x,32⟩,⟨some ⟨g2,0,none⟩,y,32⟩] : List Sh.Tx).map Sh.Tx.val).toArray:=by
  rw [List.map_cons,List.map_cons,List.map_nil,val_key hx,val_key hy]
  exact hb
 refine (Sh.concat_any w _ _ 2 (texts_blk hb' (fun z hz => ?_)) (by rw [e,hl]; decide) (by rw [e,hl]; decide) (by show 2 ≤ 1000000; decide)).mono ?_
 ·simp only [List.mem_cons,List.not_mem_nil,or_false] at hz
  rcases hz with rfl | rfl
  ·exact ok_key h1 hx
  ·exact ok_key h2 hy
 rintro e' w' ⟨v,rfl,ho,hb2⟩
 rw [e] at ho
 unfold Sh.OwnB at ho
 rw [hl] at ho
 rcases ho.2 with ⟨_,h0⟩ | ⟨g',cap',cur,hv,hg,hk,q3,q4,q5,q6⟩
 ·cases h0
 ·subst hv
  have hc : cur = ((x ++ y).map bv ++ cur.toList.drop 64).toArray:=by
   rw [Nat.mul_one] at q6
   rw [← q6,List.take_append_drop]
  refine ⟨_,[(g',5,cur)],rfl,⟨g',cur.toList.drop 64,cap',rfl,by rw [← hc]⟩,hb2,fun g1 t1 cs1 hm => ?_,by simp⟩
  simp only [List.mem_singleton,Prod.mk.injEq] at hm
  obtain ⟨rfl,rfl,rfl⟩:=hm
  exact ⟨hg,hk⟩
def ansS (d : Nat) (key m : List UInt8) (k : Nat) : Nat:=Sc.addP (evD k) (Sc.mulP (chalS (evX (evP k)) key m) d)
def sigS (d : Nat) (key m : List UInt8) (k : Nat) : List UInt8:=evX (evP k) ++ bytesS (ansS d key m k % Sc.pM)
theorem sigS_length (d : Nat) (key m : List UInt8) (k : Nat) : (sigS d key m k).length = 64:=by
 unfold sigS
 rw [List.length_append,evX_length,bytesS_length]
theorem evD_lt (k : Nat) (hk : k < K4) : evD k < K4:=by
 unfold evD
 split
 ·decide
 ·split
  ·exact Sc.mod_lt _
  ·exact hk
theorem chalS_lt (x key m : List UInt8) : chalS x key m < K4:=Sc.mod_lt _
theorem cat_length {x y : List UInt8} (hx : x.length = 32) (hy : y.length = 32) : (x ++ y).length = 64:=by rw [List.length_append,hx,hy]
theorem sign_none (w : World) (d k : Nat) (hd : d < K4) (hk : k < K4) (hsm : (evP k).isSome = false) (key : List UInt8) (hkey : key.length = 32) (A : Option Addr) (m : List UInt8) (n c : Nat) (hn : m.length = n) (hm : n ≤ 999999900) (hc : n ≤ c) (hc2 : c ≤ 9223372036854775807) (hs : Sh.Src w A m) (ht : Sh.TabAt w 1) : Calls Tryz.prog 40 #[fv d,.agg (key.map bv).toArray,.slice A n c,fv k] w (Gets w (.tuple #[.agg ((List.replicate 64 (0 : UInt8)).map bv).toArray,.bool false])):=by
 refine Sy.enter (args:=[fv d,.agg (key.map bv).toArray,.slice A n c,fv k]) Tryz.func40 rfl kL ?_
 refine sC ?_
 refine sM 24 (fcs d) (fun g0 => ?_)
 refine sM 31 (key.map bv).toArray (fun g1 => ?_)
 refine sM 24 (fcs k) (fun g2 => ?_)
 refine sM 27 (Zl 64).toArray (fun g3 => ?_)
 refine sP (.bool false) ?_
 refine sA ?_
 refine sS (fv k) (qL 2 g2 0 4 24 24 (fcs k) rfl Tryz.underlying24) <| sS (.tuple #[fv (evD k),.agg ((evX (evP k)).map bv).toArray,.bool false]) (qF 39 #[fv k] (fun w => by have q:=even_any w k hk; rw [hsm] at q; exact q)) <| sP (.tuple #[fv (evD k),.agg ((evX (evP k)).map bv).toArray,.bool false]) <| sP (fv (evD k)) <| sP (.agg ((evX (evP k)).map bv).toArray) <| sP (.bool false) ?_
 refine sM 31 (Zl 32).toArray (fun g4 => ?_)
 refine sW 2 g2 24 (fcs k) (fcs (evD k)) (wS 0 24 (fcs (evD k)) rfl) <| sW 4 g4 31 (Zl 32).toArray ((evX (evP k)).map bv).toArray (Writes.store 0 31 ((evX (evP k)).map bv).toArray _ _ rfl kR kR (by rw [key_sz (evX (evP k)) (evX_length _)]; kernel_rfl) (by rw [key_sz (evX (evP k)) (evX_length _)]; exact Nat.le_of_ble_eq_true kR) (key_one _) (key_set _ _ (by rw [(evX_length _)]; kernel_rfl))) <| sP (.bool false) ?_
 refine sG <| Sy.seq <| sC ?_
 refine sP (.bool false) <| sP (.bool true) ?_
 refine sG <| sT <| sC ?_
 refine sP (.agg ((Zl 64) : List Value).toArray) <| sW 3 g3 27 (Zl 64).toArray (Zl 64).toArray (wS 0 27 (Zl 64).toArray rfl) <| sP (.bool false) ?_
 refine sG <| Sy.ret <| Sy.then_ret ?_
 rw [show (.tuple #[.agg ((List.replicate 64 (0 : UInt8)).map bv).toArray,.bool false] : Value) = .tuple #[.agg ((Zl 64) : List Value).toArray,.bool false] from by kernel_rfl]
 exact Sy.ret2 (v:=.agg ((Zl 64) : List Value).toArray) (u:=.bool false) rfl (.inl (Res.cell (ty':=27) g3 3 (Zl 64).toArray _ kR kR Tryz.underlying27 rfl kR kR)) (.inl (show _ = _ by kernel_rfl))
theorem sign_some (w : World) (d k : Nat) (hd : d < K4) (hk : k < K4) (hsm : (evP k).isSome = true) (key : List UInt8) (hkey : key.length = 32) (A : Option Addr) (m : List UInt8) (n c : Nat) (hn : m.length = n) (hm : n ≤ 999999900) (hc : n ≤ c) (hc2 : c ≤ 9223372036854775807) (hs : Sh.Src w A m) (ht : Sh.TabAt w 1) : Calls Tryz.prog 40 #[fv d,.agg (key.map bv).toArray,.slice A n c,fv k] w (Gets w (.tuple #[.agg ((sigS d key m k).map bv).toArray,.bool true])):=by
 refine Sy.enter (args:=[fv d,.agg (key.map bv).toArray,.slice A n c,fv k]) Tryz.func40 rfl kL ?_
 refine sC ?_
 refine sM 24 (fcs d) (fun g0 => ?_)
 refine sM 31 (key.map bv).toArray (fun g1 => ?_)
 refine sM 24 (fcs k) (fun g2 => ?_)
 refine sM 27 (Zl 64).toArray (fun g3 => ?_)
 refine sP (.bool false) ?_
 refine sA ?_
 refine sS (fv k) (qL 2 g2 0 4 24 24 (fcs k) rfl Tryz.underlying24) <| sS (.tuple #[fv (evD k),.agg ((evX (evP k)).map bv).toArray,.bool true]) (qF 39 #[fv k] (fun w => by have q:=even_any w k hk; rw [hsm] at q; exact q)) <| sP (.tuple #[fv (evD k),.agg ((evX (evP k)).map bv).toArray,.bool true]) <| sP (fv (evD k)) <| sP (.agg ((evX (evP k)).map bv).toArray) <| sP (.bool true) ?_
 refine sM 31 (Zl 32).toArray (fun g4 => ?_)
 refine sW 2 g2 24 (fcs k) (fcs (evD k)) (wS 0 24 (fcs (evD k)) rfl) <| sW 4 g4 31 (Zl 32).toArray ((evX (evP k)).map bv).toArray (Writes.store 0 31 ((evX (evP k)).map bv).toArray _ _ rfl kR kR (by rw [key_sz (evX (evP k)) (evX_length _)]; kernel_rfl) (by rw [key_sz (evX (evP k)) (evX_length _)]; exact Nat.le_of_ble_eq_true kR) (key_one _) (key_set _ _ (by rw [(evX_length _)]; kernel_rfl))) <| sP (.bool true) ?_
 refine sG <| Sy.seq <| sC ?_
 refine sP (.bool true) <| sP (.bool false) ?_
 refine sG <| sU <| Sy.skip <| sB ?_
 refine sS (.agg ((evX (evP k)).map bv).toArray) (Quiet.load 4 g4 0 32 31 31 ((evX (evP k)).map bv).toArray _ _ rfl kR kR Tryz.underlying31 rfl kR _ (key_whole (evX (evP k)) (evX_length _)) (key_size (evX (evP k)) (evX_length _))) <| sS (.agg (key.map bv).toArray) (Quiet.load 1 g1 0 32 31 31 (key.map bv).toArray _ _ rfl kR kR Tryz.underlying31 rfl kR _ (key_whole key hkey) (key_size key hkey)) <| sP (.slice A n c) <| sS (fv (chalS (evX (evP k)) key m)) (qG 96 #[.agg ((evX (evP k)).map bv).toArray,.agg (key.map bv).toArray,.slice A n c] (fun w hw => challenge_any w (evX (evP k)) key (evX_length _) hkey A m n c hn hm hc hc2 (hs.below hw.below) (ht.below hw.below ht.lt))) ?_
 refine sM 24 (fcs 0) (fun g5 => ?_)
 refine sW 5 g5 24 (fcs 0) (fcs (chalS (evX (evP k)) key m)) (wS 0 24 (fcs (chalS (evX (evP k)) key m)) rfl) ?_
 refine sH (fun j => j == 7) ?_
 refine sD 0 rfl (fv (evD k)) (qL 2 g2 0 4 24 24 (fcs (evD k)) rfl Tryz.underlying24) <| sD 1 rfl (fv (chalS (evX (evP k)) key m)) (qL 5 g5 0 4 24 24 (fcs (chalS (evX (evP k)) key m)) rfl Tryz.underlying24) <| sD 2 rfl (fv d) (qL 0 g0 0 4 24 24 (fcs d) rfl Tryz.underlying24) <| sD 3 rfl (fv (Sc.mulP (chalS (evX (evP k)) key m) d)) (qF 98 #[fv (chalS (evX (evP k)) key m),fv d] (fun w => Sc.mulF_any w _ _ (chalS_lt _ _ _) hd)) <| sD 4 rfl (fv (ansS d key m k)) (qF 97 #[fv (evD k),fv (Sc.mulP (chalS (evX (evP k)) key m) d)] (fun w => Sc.addF_any w _ _ (evD_lt k hk) (Sc.mod_lt _))) <| sD 5 rfl (.agg ((bytesS (ansS d key m k % Sc.pM)).map bv).toArray) (qF 91 #[fv (ansS d key m k)] (fun w => Sc.bytes_any w _ (Sc.mod_lt _))) ?_
 refine Sy.makeD 6 rfl kR kR 30 (Zl 32).toArray ptr kF (fun g6 => ?_)
 refine Sy.writeD 7 rfl kR (by rfl) kR 6 g6 30 (Zl 32).toArray ((bytesS (ansS d key m k % Sc.pM)).map bv).toArray kR (Writes.store 0 30 ((bytesS (ansS d key m k % Sc.pM)).map bv).toArray _ _ rfl kR kR (by rw [key_sz (bytesS (ansS d key m k % Sc.pM)) (bytesS_length _)]; kernel_rfl) (by rw [key_sz (bytesS (ansS d key m k % Sc.pM)) (bytesS_length _)]; exact Nat.le_of_ble_eq_true kR) (key_one _) (key_set _ _ (by rw [(bytesS_length _)]; kernel_rfl))) ?_
 refine sE ?_
 refine sR (fun j => j == 6) ?_
 refine sZ 0 rfl (.slice (some ⟨g4,0,none⟩) 32 32) <| sZ 1 rfl (.slice (some ⟨g6,0,none⟩) 32 32) ?_
 refine Sy.makeD 2 rfl kR kR 25 #[.slice (some ⟨g4,0,none⟩) 32 32,.slice (some ⟨g6,0,none⟩) 32 32] (fun g => .slice (some ⟨g,0,none⟩) 2 2) kF (fun g7 => ?_)
 refine Sy.callND 3 rfl kR kR 99 #[.slice (some ⟨g7,0,none⟩) 2 2] kF (fun vq Mq => ∃ (g : Nat) (sp : List Value) (cap : Nat),vq = .slice (some ⟨g,0,none⟩) 64 cap ∧ Mq = [(g,5,(((evX (evP k)) ++ (bytesS (ansS d key m k % Sc.pM))).map bv ++ sp).toArray)]) (fun w hw => concat2_c w g7 g4 g6 _ _ _ (evX (evP k)) (bytesS (ansS d key m k % Sc.pM)) (evX_length _) (bytesS_length _) (hw.get (i:=4) rfl) (hw.get (i:=6) rfl) (hw.get (i:=7) rfl)) (fun vq Mq hR0 => ?_)
 obtain ⟨g9,sp9,cp9,rfl,rfl⟩:=hR0
 refine sZ 4 rfl (.pointer (some ⟨g9,0,none⟩)) <| sD 5 rfl (.agg (((evX (evP k)) ++ (bytesS (ansS d key m k % Sc.pM))).map bv).toArray) (Quiet.load 8 g9 0 64 5 27 (((evX (evP k)) ++ (bytesS (ansS d key m k % Sc.pM))).map bv ++ sp9).toArray _ _ rfl kR kR Tryz.underlying27 rfl kR _ (own_agg (cat_length (evX_length _) (bytesS_length _))) (own_sz2 (cat_length (evX_length _) (bytesS_length _)))) <| sX 6 rfl 3 g3 27 (Zl 64).toArray (((evX (evP k)) ++ (bytesS (ansS d key m k % Sc.pM))).map bv).toArray (Writes.store 0 27 (((evX (evP k)) ++ (bytesS (ansS d key m k % Sc.pM))).map bv).toArray _ _ rfl kR kR (by rw [key_sz ((evX (evP k)) ++ (bytesS (ansS d key m k % Sc.pM))) (cat_length (evX_length _) (bytesS_length _))]; kernel_rfl) (by rw [key_sz ((evX (evP k)) ++ (bytesS (ansS d key m k % Sc.pM))) (cat_length (evX_length _) (bytesS_length _))]; exact Nat.le_of_ble_eq_true kR) (key_one _) (key_set _ _ (by rw [(cat_length (evX_length _) (bytesS_length _))]; kernel_rfl))) ?_
 refine Sy.anyOf [7] kR (by decide) (Sy.each1 ?_)
 refine Sy.oneQuiet rfl kR (.bool true) qP ?_
 refine sI ?_
 refine Sy.ret ?_
 exact Sy.ret2 (v:=.agg (((evX (evP k)) ++ (bytesS (ansS d key m k % Sc.pM))).map bv).toArray) (u:=.bool true) rfl (.inl (Res.cell (ty':=27) g3 3 (((evX (evP k)) ++ (bytesS (ansS d key m k % Sc.pM))).map bv).toArray _ kR kR Tryz.underlying27 rfl (by rw [key_sz ((evX (evP k)) ++ (bytesS (ansS d key m k % Sc.pM))) (cat_length (evX_length _) (bytesS_length _))]; kernel_rfl) kR)) (.inl (show _ = _ by kernel_rfl))
end Cu
end
section
namespace Cu
open Go.RowKit Sy
set_option maxRecDepth 100000
set_option maxHeartbeats 4000000
def nonS (sec : Nat) (m : List UInt8) : Nat:=nonceS (evD sec) (evX (evP sec)) m
theorem nonS_lt (sec : Nat) (m : List UInt8) : nonS sec m < K4:=Sc.mod_lt _
def signB (sec : Nat) (m : List UInt8) : Bool:=(evP sec).isSome && (evP (nonS sec m)).isSome
def signL (sec : Nat) (m : List UInt8) : List UInt8:=if signB sec m = true then sigS (evD sec) (evX (evP sec)) m (nonS sec m) else List.replicate 64 0
theorem Sign_no (w : World) (sec : Nat) (hsec : sec < K4) (hsm : (evP sec).isSome = false) (A : Option Addr) (m : List UInt8) (n c : Nat) (hn : m.length = n) (hm : n ≤ 999999900) (hc : n ≤ c) (hc2 : c ≤ 9223372036854775807) (hs : Sh.Src w A m) (ht : Sh.TabAt w 1) : Calls Tryz.prog 11 #[fv sec,.slice A n c] w (Gets w (.tuple #[.agg ((List.replicate 64 (0 : UInt8)).map bv).toArray,.bool false])):=by
 refine Sy.enter (args:=[fv sec,.slice A n c]) Tryz.func11 rfl kL ?_
 refine sC ?_
 refine sM 24 (fcs sec) (fun g0 => ?_)
 refine sM 27 (Zl 64).toArray (fun g1 => ?_)
 refine sP (.bool false) ?_
 refine sA ?_
 refine sS (fv sec) (qL 0 g0 0 4 24 24 (fcs sec) rfl Tryz.underlying24) <| sS (.tuple #[fv (evD sec),.agg ((evX (evP sec)).map bv).toArray,.bool false]) (qF 39 #[fv sec] (fun w => by have q:=even_any w sec hsec; rw [hsm] at q; exact q)) <| sP (.tuple #[fv (evD sec),.agg ((evX (evP sec)).map bv).toArray,.bool false]) <| sP (fv (evD sec)) <| sP (.agg ((evX (evP sec)).map bv).toArray) <| sP (.bool false) ?_
 refine sM 24 (fcs 0) (fun g2 => ?_)
 refine sM 31 (Zl 32).toArray (fun g3 => ?_)
 refine sW 2 g2 24 (fcs 0) (fcs (evD sec)) (wS 0 24 (fcs (evD sec)) rfl) <| sW 3 g3 31 (Zl 32).toArray ((evX (evP sec)).map bv).toArray (Writes.store 0 31 ((evX (evP sec)).map bv).toArray _ _ rfl kR kR (by rw [key_sz (evX (evP sec)) (evX_length _)]; kernel_rfl) (by rw [key_sz (evX (evP sec)) (evX_length _)]; exact Nat.le_of_ble_eq_true kR) (key_one _) (key_set _ _ (by rw [(evX_length _)]; kernel_rfl))) <| sP (.bool false) ?_
 refine sG <| Sy.seq <| sC ?_
 refine sP (.bool false) <| sP (.bool true) ?_
 refine sG <| sT <| sC ?_
 refine sP (.agg ((Zl 64) : List Value).toArray) <| sW 1 g1 27 (Zl 64).toArray (Zl 64).toArray (wS 0 27 (Zl 64).toArray rfl) <| sP (.bool false) ?_
 refine sG <| Sy.ret <| Sy.then_ret ?_
 rw [show (.tuple #[.agg ((List.replicate 64 (0 : UInt8)).map bv).toArray,.bool false] : Value) = .tuple #[.agg ((Zl 64) : List Value).toArray,.bool false] from by kernel_rfl]
 exact Sy.ret2 (v:=.agg ((Zl 64) : List Value).toArray) (u:=.bool false) rfl (.inl (Res.cell (ty':=27) g1 1 (Zl 64).toArray _ kR kR Tryz.underlying27 rfl kR kR)) (.inl (show _ = _ by kernel_rfl))
theorem Sign_no2 (w : World) (sec : Nat) (hsec : sec < K4) (hsm : (evP sec).isSome = true) (A : Option Addr) (m : List UInt8) (n c : Nat) (hn : m.length = n) (hm : n ≤ 999999900) (hc : n ≤ c) (hc2 : c ≤ 9223372036854775807) (hs : Sh.Src w A m) (ht : Sh.TabAt w 1) (hsk : (evP (nonS sec m)).isSome = false) : Calls Tryz.prog 11 #[fv sec,.slice A n c] w (Gets w (.tuple #[.agg ((List.replicate 64 (0 : UInt8)).map bv).toArray,.bool false])):=by
 refine Sy.enter (args:=[fv sec,.slice A n c]) Tryz.func11 rfl kL ?_
 refine sC ?_
 refine sM 24 (fcs sec) (fun g0 => ?_)
 refine sM 27 (Zl 64).toArray (fun g1 => ?_)
 refine sP (.bool false) ?_
 refine sA ?_
 refine sS (fv sec) (qL 0 g0 0 4 24 24 (fcs sec) rfl Tryz.underlying24) <| sS (.tuple #[fv (evD sec),.agg ((evX (evP sec)).map bv).toArray,.bool true]) (qF 39 #[fv sec] (fun w => by have q:=even_any w sec hsec; rw [hsm] at q; exact q)) <| sP (.tuple #[fv (evD sec),.agg ((evX (evP sec)).map bv).toArray,.bool true]) <| sP (fv (evD sec)) <| sP (.agg ((evX (evP sec)).map bv).toArray) <| sP (.bool true) ?_
 refine sM 24 (fcs 0) (fun g2 => ?_)
 refine sM 31 (Zl 32).toArray (fun g3 => ?_)
 refine sW 2 g2 24 (fcs 0) (fcs (evD sec)) (wS 0 24 (fcs (evD sec)) rfl) <| sW 3 g3 31 (Zl 32).toArray ((evX (evP sec)).map bv).toArray (Writes.store 0 31 ((evX (evP sec)).map bv).toArray _ _ rfl kR kR (by rw [key_sz (evX (evP sec)) (evX_length _)]; kernel_rfl) (by rw [key_sz (evX (evP sec)) (evX_length _)]; exact Nat.le_of_ble_eq_true kR) (key_one _) (key_set _ _ (by rw [(evX_length _)]; kernel_rfl))) <| sP (.bool true) ?_
 refine sG <| Sy.seq <| sC ?_
 refine sP (.bool true) <| sP (.bool false) ?_
 refine sG <| sU <| Sy.skip ?_
 refine sR (fun j => j == 10) ?_
 refine sD 0 rfl (fv (evD sec)) (qL 2 g2 0 4 24 24 (fcs (evD sec)) rfl Tryz.underlying24) <| sD 1 rfl (.agg ((evX (evP sec)).map bv).toArray) (Quiet.load 3 g3 0 32 31 31 ((evX (evP sec)).map bv).toArray _ _ rfl kR kR Tryz.underlying31 rfl kR _ (key_whole (evX (evP sec)) (evX_length _)) (key_size (evX (evP sec)) (evX_length _))) <| sZ 2 rfl (.slice A n c) <| sD 3 rfl (fv (evD sec)) (qL 2 g2 0 4 24 24 (fcs (evD sec)) rfl Tryz.underlying24) <| sD 4 rfl (.agg ((evX (evP sec)).map bv).toArray) (Quiet.load 3 g3 0 32 31 31 ((evX (evP sec)).map bv).toArray _ _ rfl kR kR Tryz.underlying31 rfl kR _ (key_whole (evX (evP sec)) (evX_length _)) (key_size (evX (evP sec)) (evX_length _))) <| sZ 5 rfl (.slice A n c) <| sD 6 rfl (fv (nonS sec m)) (qG 41 #[fv (evD sec),.agg ((evX (evP sec)).map bv).toArray,.slice A n c] (fun w hw => nonce_any w _ (evD_lt sec hsec) _ (evX_length _) A m n c hn hm hc hc2 (hs.below hw.below) (ht.below hw.below ht.lt))) <| sD 7 rfl (.tuple #[.agg ((List.replicate 64 (0 : UInt8)).map bv).toArray,.bool false]) (qG 40 #[fv (evD sec),.agg ((evX (evP sec)).map bv).toArray,.slice A n c,fv (nonS sec m)] (fun w hw => sign_none w _ _ (evD_lt sec hsec) (nonS_lt sec m) hsk _ (evX_length _) A m n c hn hm hc hc2 (hs.below hw.below) (ht.below hw.below ht.lt))) ?_
 refine sZ 8 rfl (.agg ((List.replicate 64 (0 : UInt8)).map bv).toArray) <| sZ 9 rfl (.bool false) <| sX 10 rfl 1 g1 27 (Zl 64).toArray ((List.replicate 64 (0 : UInt8)).map bv).toArray (Writes.store 0 27 ((List.replicate 64 (0 : UInt8)).map bv).toArray _ _ rfl kR kR (by rw [key_sz (List.replicate 64 (0 : UInt8)) (List.length_replicate)]; kernel_rfl) (by rw [key_sz (List.replicate 64 (0 : UInt8)) (List.length_replicate)]; exact Nat.le_of_ble_eq_true kR) (key_one _) (key_set _ _ (by rw [(List.length_replicate)]; kernel_rfl))) ?_
 refine Sy.anyOf [11] kR (by decide) (Sy.each1 ?_)
 refine Sy.oneQuiet rfl kR (.bool false) qP ?_
 refine sI ?_
 refine Sy.ret ?_
 exact Sy.ret2 (v:=.agg ((List.replicate 64 (0 : UInt8)).map bv).toArray) (u:=.bool false) rfl (.inl (Res.cell (ty':=27) g1 1 ((List.replicate 64 (0 : UInt8)).map bv).toArray _ kR kR Tryz.underlying27 rfl (by rw [key_sz (List.replicate 64 (0 : UInt8)) (List.length_replicate)]; kernel_rfl) kR)) (.inl (show _ = _ by kernel_rfl))
theorem Sign_yes (w : World) (sec : Nat) (hsec : sec < K4) (hsm : (evP sec).isSome = true) (A : Option Addr) (m : List UInt8) (n c : Nat) (hn : m.length = n) (hm : n ≤ 999999900) (hc : n ≤ c) (hc2 : c ≤ 9223372036854775807) (hs : Sh.Src w A m) (ht : Sh.TabAt w 1) (hsk : (evP (nonS sec m)).isSome = true) : Calls Tryz.prog 11 #[fv sec,.slice A n c] w (Gets w (.tuple #[.agg ((sigS (evD sec) (evX (evP sec)) m (nonS sec m)).map bv).toArray,.bool true])):=by
 refine Sy.enter (args:=[fv sec,.slice A n c]) Tryz.func11 rfl kL ?_
 refine sC ?_
 refine sM 24 (fcs sec) (fun g0 => ?_)
 refine sM 27 (Zl 64).toArray (fun g1 => ?_)
 refine sP (.bool false) ?_
 refine sA ?_
 refine sS (fv sec) (qL 0 g0 0 4 24 24 (fcs sec) rfl Tryz.underlying24) <| sS (.tuple #[fv (evD sec),.agg ((evX (evP sec)).map bv).toArray,.bool true]) (qF 39 #[fv sec] (fun w => by have q:=even_any w sec hsec; rw [hsm] at q; exact q)) <| sP (.tuple #[fv (evD sec),.agg ((evX (evP sec)).map bv).toArray,.bool true]) <| sP (fv (evD sec)) <| sP (.agg ((evX (evP sec)).map bv).toArray) <| sP (.bool true) ?_
 refine sM 24 (fcs 0) (fun g2 => ?_)
 refine sM 31 (Zl 32).toArray (fun g3 => ?_)
 refine sW 2 g2 24 (fcs 0) (fcs (evD sec)) (wS 0 24 (fcs (evD sec)) rfl) <| sW 3 g3 31 (Zl 32).toArray ((evX (evP sec)).map bv).toArray (Writes.store 0 31 ((evX (evP sec)).map bv).toArray _ _ rfl kR kR (by rw [key_sz (evX (evP sec)) (evX_length _)]; kernel_rfl) (by rw [key_sz (evX (evP sec)) (evX_length _)]; exact Nat.le_of_ble_eq_true kR) (key_one _) (key_set _ _ (by rw [(evX_length _)]; kernel_rfl))) <| sP (.bool true) ?_
 refine sG <| Sy.seq <| sC ?_
 refine sP (.bool true) <| sP (.bool false) ?_
 refine sG <| sU <| Sy.skip ?_
 refine sR (fun j => j == 10) ?_
 refine sD 0 rfl (fv (evD sec)) (qL 2 g2 0 4 24 24 (fcs (evD sec)) rfl Tryz.underlying24) <| sD 1 rfl (.agg ((evX (evP sec)).map bv).toArray) (Quiet.load 3 g3 0 32 31 31 ((evX (evP sec)).map bv).toArray _ _ rfl kR kR Tryz.underlying31 rfl kR _ (key_whole (evX (evP sec)) (evX_length _)) (key_size (evX (evP sec)) (evX_length _))) <| sZ 2 rfl (.slice A n c) <| sD 3 rfl (fv (evD sec)) (qL 2 g2 0 4 24 24 (fcs (evD sec)) rfl Tryz.underlying24) <| sD 4 rfl (.agg ((evX (evP sec)).map bv).toArray) (Quiet.load 3 g3 0 32 31 31 ((evX (evP sec)).map bv).toArray _ _ rfl kR kR Tryz.underlying31 rfl kR _ (key_whole (evX (evP sec)) (evX_length _)) (key_size (evX (evP sec)) (evX_length _))) <| sZ 5 rfl (.slice A n c) <| sD 6 rfl (fv (nonS sec m)) (qG 41 #[fv (evD sec),.agg ((evX (evP sec)).map bv).toArray,.slice A n c] (fun w hw => nonce_any w _ (evD_lt sec hsec) _ (evX_length _) A m n c hn hm hc hc2 (hs.below hw.below) (ht.below hw.below ht.lt))) <| sD 7 rfl (.tuple #[.agg ((sigS (evD sec) (evX (evP sec)) m (nonS sec m)).map bv).toArray,.bool true]) (qG 40 #[fv (evD sec),.agg ((evX (evP sec)).map bv).toArray,.slice A n c,fv (nonS sec m)] (fun w hw => sign_some w _ _ (evD_lt sec hsec) (nonS_lt sec m) hsk _ (evX_length _) A m n c hn hm hc hc2 (hs.below hw.below) (ht.below hw.below ht.lt))) ?_
 refine sZ 8 rfl (.agg ((sigS (evD sec) (evX (evP sec)) m (nonS sec m)).map bv).toArray) <| sZ 9 rfl (.bool true) <| sX 10 rfl 1 g1 27 (Zl 64).toArray ((sigS (evD sec) (evX (evP sec)) m (nonS sec m)).map bv).toArray (Writes.store 0 27 ((sigS (evD sec) (evX (evP sec)) m (nonS sec m)).map bv).toArray _ _ rfl kR kR (by rw [key_sz (sigS (evD sec) (evX (evP sec)) m (nonS sec m)) (sigS_length _ _ _ _)]; kernel_rfl) (by rw [key_sz (sigS (evD sec) (evX (evP sec)) m (nonS sec m)) (sigS_length _ _ _ _)]; exact Nat.le_of_ble_eq_true kR) (key_one _) (key_set _ _ (by rw [(sigS_length _ _ _ _)]; kernel_rfl))) ?_
 refine Sy.anyOf [11] kR (by decide) (Sy.each1 ?_)
 refine Sy.oneQuiet rfl kR (.bool true) qP ?_
 refine sI ?_
 refine Sy.ret ?_
 exact Sy.ret2 (v:=.agg ((sigS (evD sec) (evX (evP sec)) m (nonS sec m)).map bv).toArray) (u:=.bool true) rfl (.inl (Res.cell (ty':=27) g1 1 ((sigS (evD sec) (evX (evP sec)) m (nonS sec m)).map bv).toArray _ kR kR Tryz.underlying27 rfl (by rw [key_sz (sigS (evD sec) (evX (evP sec)) m (nonS sec m)) (sigS_length _ _ _ _)]; kernel_rfl) kR)) (.inl (show _ = _ by kernel_rfl))
theorem Sign_any (w : World) (sec : Nat) (hsec : sec < K4) (A : Option Addr) (m : List UInt8) (n c : Nat) (hn : m.length = n) (hm : n ≤ 999999900) (hc : n ≤ c) (hc2 : c ≤ 9223372036854775807) (hs : Sh.Src w A m) (ht : Sh.TabAt w 1) : Calls Tryz.prog 11 #[fv sec,.slice A n c] w (Gets w (.tuple #[.agg ((signL sec m).map bv).toArray,.bool (signB sec m)])):=by
 unfold signL
 cases h1 : (evP sec).isSome with
 | false =>
  rw [show signB sec m = false from by unfold signB; rw [h1]; rfl,if_neg (by decide)]
  exact Sign_no w sec hsec h1 A m n c hn hm hc hc2 hs ht
 | true =>
  cases h2 : (evP (nonS sec m)).isSome with
  | false =>
   rw [show signB sec m = false from by unfold signB; rw [h1,h2]; rfl,if_neg (by decide)]
   exact Sign_no2 w sec hsec h1 A m n c hn hm hc hc2 hs ht h2
  | true =>
   rw [show signB sec m = true from by unfold signB; rw [h1,h2]; rfl,if_pos rfl]
   exact Sign_yes w sec hsec h1 A m n c hn hm hc hc2 hs ht h2
end Cu
end
section
namespace Cu
open Go.RowKit Sy
set_option maxRecDepth 100000
set_option maxHeartbeats 4000000
section
variable {P : Program} {w0 : Base} {n : Nat} {F : Slots} {L : Blocks}
end
theorem rem2 (w : World) (F : Slots) (o : Oper) (x y : Operand) (n : Nat) {yt : TypeId} (ho : o.op = .binOp .rem 22 x y yt) (hx : evF F x = .int .u64 (n : Int)) (hy : evF F y = .int .u64 2) (hn : n < 18446744073709551616) : (execOp (evF F) o).run Tryz.prog w = .ok (.value (.int .u64 ((n % 2 : Nat) : Int))) w:=by
 have h : (binOp .rem 22 (.int .u64 (n : Int)) (.int .u64 2)).run Tryz.prog w = .ok (.int .u64 ((n % 2 : Nat) : Int)) w:=by
  go_simp
  exact Int.tmod_eq_emod_of_nonneg (by omega)
 have h1 : (eqGuard .rem 22 x y (.int .u64 (n : Int)) (.int .u64 2)).run Tryz.prog w = .ok () w:=by go_simp
 unfold execOp
 simp only [ho,hx,hy,Sem.run_bind,h1,h,Result.andThen_ok,Sem.run_pure]
end Cu
end
section
section
open Go.RowKit Go.Lib
set_option maxHeartbeats 8000000 in
set_option maxRecDepth 100000 in
theorem numberR_any (w : World) (g cap : Nat) (l : List UInt8) (hl : l.length = 32) (hg : g < w.heap.size) (hcell : ∀ j u,l[j]? = some u → w.cell? ⟨g,j,none⟩ = some (bv u)) (_ : 32 ≤ cap) (_ : cap ≤ 9223372036854775807) : Calls Tryz.prog 52 #[.slice (some ⟨g,0,none⟩) 32 cap] w fun e w' => e = .returned (fv (valB l)) ∧ Below w.heap.size w w':=by
 have HL:=Lib.hid hl
 have HG:=Lib.hid hcell
 clear hl hcell
 go_enter Tryz.func52,Tryz.ntmps52
 go_wp2_with fail
 go_loopw [4] (fun i wr => ∃ k y0 y1 y2 y3 : Nat,k ≤ 32 ∧ i = .int .i64 (k : Int) ∧ Hid (y0 = wdB l k 0 ∧ y1 = wdB l k 1 ∧ y2 = wdB l k 2 ∧ y3 = wdB l k 3) ∧ Below w.heap.size w wr ∧ Blk wr (w.heap.size + 1) 97 #[.int .u64 (y3 : Int),.int .u64 (y2 : Int),.int .u64 (y1 : Int),.int .u64 (y0 : Int)] ∧ Blk wr w.heap.size 97 #[.int .u64 0,.int .u64 0,.int .u64 0,.int .u64 0]) (fun i _ => 32 - (intOf i).toNat)
 case atStart => exact ⟨0,0,0,0,0,by omega,rfl,Lib.hid ⟨(wdB_zero l 0).symm,(wdB_zero l 1).symm,(wdB_zero l 2).symm,(wdB_zero l 3).symm⟩,below_alloc2 w _ _,blk_new2 w _ _ _,(Blk.new w _ _).alloc _⟩
 case round =>
  obtain ⟨k,y0,y1,y2,y3,hk,rfl,HY,hb,hP,hR⟩:=hrel
  have q3 : wr.cell? ⟨w.heap.size + 1,0,none⟩ = some (.int .u64 (y3 : Int)):=hP.cell 0
  have q2 : wr.cell? ⟨w.heap.size + 1,1,none⟩ = some (.int .u64 (y2 : Int)):=hP.cell 1
  have q1 : wr.cell? ⟨w.heap.size + 1,2,none⟩ = some (.int .u64 (y1 : Int)):=hP.cell 2
  have q0 : wr.cell? ⟨w.heap.size + 1,3,none⟩ = some (.int .u64 (y0 : Int)):=hP.cell 3
  have ff : ∀ j,wr.frozen? ⟨w.heap.size + 1,j,none⟩ = false:=fun j => hP.frozen j
  by_cases hlt : k < 32
  ·obtain ⟨c,hc⟩ : ∃ c,l[k]? = some c:=⟨l[k]'(by rw [HL.out]; exact hlt),List.getElem?_eq_getElem _⟩
   have HC:=Lib.hid hc
   obtain ⟨m,hm⟩ : ∃ m,m = c.toNat:=⟨_,rfl⟩
   have hm8 : m < 256:=by rw [hm]; exact c.toNat_lt
   have hI : wr.cell? ⟨g,k,none⟩ = some (.int .u8 (m : Int)):=by
    rw [hm]
    exact (hb.cell (p:=⟨g,k,none⟩) hg).trans (HG.out k c hc)
   have HM:=Lib.hid hm
   have HR:=Lib.hid (And.intro hb (And.intro hP hR))
   clear hb hP hR hc hk hm
   rcases (show k = 0 ∨ k = 1 ∨ k = 2 ∨ k = 3 ∨ k = 4 ∨ k = 5 ∨ k = 6 ∨ k = 7 ∨ k = 8 ∨ k = 9 ∨ k = 10 ∨ k = 11 ∨ k = 12 ∨ k = 13 ∨ k = 14 ∨ k = 15 ∨ k = 16 ∨ k = 17 ∨ k = 18 ∨ k = 19 ∨ k = 20 ∨ k = 21 ∨ k = 22 ∨ k = 23 ∨ k = 24 ∨ k = 25 ∨ k = 26 ∨ k = 27 ∨ k = 28 ∨ k = 29 ∨ k = 30 ∨ k = 31 by omega) with rfl | rfl | rfl | rfl | rfl | rfl | rfl | rfl | rfl | rfl | rfl | rfl | rfl | rfl | rfl | rfl | rfl | rfl | rfl | rfl | rfl | rfl | rfl | rfl | rfl | rfl | rfl | rfl | rfl | rfl | rfl | rfl
   all_goals
    first
    | ((have hy : y0 < 72057594037927936:=by rw [HY.out.1]; exact wdB_lt l _ 0 (by decide)); go_wp2; go_region; all_goals go_wp2; all_goals (refine ⟨⟨_,y0 * 256 + m,y1,y2,y3,by decide,rfl,Lib.hid ⟨by rw [HY.out.1,HM.out]; exact (wdB_step l _ 0 c HC.out (by decide)).symm,by rw [HY.out.2.1]; exact (wdB_same l _ 1 (by decide)).symm,by rw [HY.out.2.2.1]; exact (wdB_same l _ 2 (by decide)).symm,by rw [HY.out.2.2.2]; exact (wdB_same l _ 3 (by decide)).symm⟩,(HR.out.1.setCell (by show w.heap.size ≤ w.heap.size + 1; omega) _).drew,Blk.drew (Blk.eq_ (HR.out.2.1.set_ 3 _) (by rw [show ((y0 * 256 + m : Nat) : Int) = (y0 : Int) * 256 + (m : Int) by omega]; rfl)),Blk.drew (HR.out.2.2.far (by show w.heap.size ≠ w.heap.size + 1; omega) _)⟩,by simp [intOf]⟩))
    | ((have hy : y1 < 72057594037927936:=by rw [HY.out.2.1]; exact wdB_lt l _ 1 (by decide)); go_wp2; go_region; all_goals go_wp2; all_goals (refine ⟨⟨_,y0,y1 * 256 + m,y2,y3,by decide,rfl,Lib.hid ⟨by rw [HY.out.1]; exact (wdB_same l _ 0 (by decide)).symm,by rw [HY.out.2.1,HM.out]; exact (wdB_step l _ 1 c HC.out (by decide)).symm,by rw [HY.out.2.2.1]; exact (wdB_same l _ 2 (by decide)).symm,by rw [HY.out.2.2.2]; exact (wdB_same l _ 3 (by decide)).symm⟩,(HR.out.1.setCell (by show w.heap.size ≤ w.heap.size + 1; omega) _).drew,Blk.drew (Blk.eq_ (HR.out.2.1.set_ 2 _) (by rw [show ((y1 * 256 + m : Nat) : Int) = (y1 : Int) * 256 + (m : Int) by omega]; rfl)),Blk.drew (HR.out.2.2.far (by show w.heap.size ≠ w.heap.size + 1; omega) _)⟩,by simp [intOf]⟩))
    | ((have hy : y2 < 72057594037927936:=by rw [HY.out.2.2.1]; exact wdB_lt l _ 2 (by decide)); go_wp2; go_region; all_goals go_wp2; all_goals (refine ⟨⟨_,y0,y1,y2 * 256 + m,y3,by decide,rfl,Lib.hid ⟨by rw [HY.out.1]; exact (wdB_same l _ 0 (by decide)).symm,by rw [HY.out.2.1]; exact (wdB_same l _ 1 (by decide)).symm,by rw [HY.out.2.2.1,HM.out]; exact (wdB_step l _ 2 c HC.out (by decide)).symm,by rw [HY.out.2.2.2]; exact (wdB_same l _ 3 (by decide)).symm⟩,(HR.out.1.setCell (by show w.heap.size ≤ w.heap.size + 1; omega) _).drew,Blk.drew (Blk.eq_ (HR.out.2.1.set_ 1 _) (by rw [show ((y2 * 256 + m : Nat) : Int) = (y2 : Int) * 256 + (m : Int) by omega]; rfl)),Blk.drew (HR.out.2.2.far (by show w.heap.size ≠ w.heap.size + 1; omega) _)⟩,by simp [intOf]⟩))
    | ((have hy : y3 < 72057594037927936:=by rw [HY.out.2.2.2]; exact wdB_lt l _ 3 (by decide)); go_wp2; go_region; all_goals go_wp2; all_goals (refine ⟨⟨_,y0,y1,y2,y3 * 256 + m,by decide,rfl,Lib.hid ⟨by rw [HY.out.1]; exact (wdB_same l _ 0 (by decide)).symm,by rw [HY.out.2.1]; exact (wdB_same l _ 1 (by decide)).symm,by rw [HY.out.2.2.1]; exact (wdB_same l _ 2 (by decide)).symm,by rw [HY.out.2.2.2,HM.out]; exact (wdB_step l _ 3 c HC.out (by decide)).symm⟩,(HR.out.1.setCell (by show w.heap.size ≤ w.heap.size + 1; omega) _).drew,Blk.drew (Blk.eq_ (HR.out.2.1.set_ 0 _) (by rw [show ((y3 * 256 + m : Nat) : Int) = (y3 : Int) * 256 + (m : Int) by omega]; rfl)),Blk.drew (HR.out.2.2.far (by show w.heap.size ≠ w.heap.size + 1; omega) _)⟩,by simp [intOf]⟩))
  ·have p1 : ¬ (k : Int) < 32:=by omega
   obtain rfl : k = 32:=by omega
   have b0 : y0 < 18446744073709551616:=by rw [HY.out.1]; exact wdB_lt8 l _ _
   have b1 : y1 < 18446744073709551616:=by rw [HY.out.2.1]; exact wdB_lt8 l _ _
   have b2 : y2 < 18446744073709551616:=by rw [HY.out.2.2.1]; exact wdB_lt8 l _ _
   have b3 : y3 < 18446744073709551616:=by rw [HY.out.2.2.2]; exact wdB_lt8 l _ _
   obtain ⟨z,hz⟩ : ∃ z,z = y3 + 18446744073709551616 * y2 + 340282366920938463463374607431768211456 * y1 + 6277101735386680763835789423207666416102355444464034512896 * y0:=⟨_,rfl⟩
   have fz:=fv_mk y3 y2 y1 y0 b3 b2 b1 b0
   rw [← hz] at fz
   have hzv : valB l = z:=by rw [wdB_all l HL.out,hz,HY.out.1,HY.out.2.1,HY.out.2.2.1,HY.out.2.2.2]
   have HZ:=Lib.hid hzv
   have FZ:=Lib.hid fz.symm
   have HP:=Lib.hid hP
   have HR:=Lib.hid hR
   clear HY b0 b1 b2 b3 hz fz hzv q0 q1 q2 q3 ff hP hR
   go_wp2_with (first | ((with_reducible refine here_load (d:=some 31) ?_); refine wpList_load_fv rfl _ _ rfl (w.heap.size + 1) rfl (z) _ _ _ (HP.out) (FZ.out) Tryz.underlying97 rfl (by kernel_rfl) ?_) | ((with_reducible refine here_store ?_); refine wpList_store_blk rfl _ _ _ rfl (w.heap.size) (fcs (z)) rfl rfl _ _ (HR.out) (by kernel_rfl) (by rfl) (fcs_one _) ?_; intro vz hLz hqz hKz))
   exact bodyPost_ret (results_cell_row rfl _ _ w.heap.size _ _ (0,0) _ rfl hLz Tryz.underlying97 rfl (by kernel_rfl)) rfl ⟨by rw [HZ.out]; rfl,hb.trans (hqz _ (by omega))⟩
end
end
section
namespace Cu
open Go.RowKit Sy
theorem own_cellE {w : World} {g : Nat} {t : TypeId} {m : List UInt8} {sp : List Value} (hb : Blk w g t (m.map bv ++ sp).toArray) (j : Nat) (u : UInt8) (hj : m[j]? = some u) : w.cell? ⟨g,j,none⟩ = some (bv u):=by
 refine (hb.cell j).trans ?_
 have hl:=(List.getElem?_eq_some_iff.1 hj).1
 rw [List.getElem?_toArray,List.getElem?_append_left (by rw [List.length_map]; exact hl),List.getElem?_map,hj]
 rfl
set_option maxHeartbeats 4000000 in
set_option maxRecDepth 100000 in
theorem liftR_any (w : World) (l : List UInt8) (hl : l.length = 32) : Calls Tryz.prog 51 #[.agg (l.map bv).toArray] w (Gets w (.tuple #[ptv (liftP l),.bool (liftB l)])):=by
 have hv:=valB_lt32 l hl
 refine Sy.enter (args:=[.agg (l.map bv).toArray]) Tryz.func51 rfl kL ?_
 refine sC ?_
 refine sM 31 (l.map bv).toArray (fun g0 => ?_)
 refine sM 71 (pcs 0 0 false) (fun g1 => ?_)
 refine sP (.bool false) ?_
 refine sA ?_
 refine sP (.slice none 0 0) ?_
 refine sG <| Sy.seq <| sC ?_
 refine sP (.int .i64 0) ?_
 refine sG <| Sy.block ?_
 refine Sy.loopN (31 + 1 + 1) ?_
 refine Sy.round <| Sy.seq <| sC ?_
 refine sP (.int .i64 0) <| sP (.bool true) ?_
 refine sG <| sT <| Sy.skip <| Sy.then_ <| Sy.seq <| Sy.block <| Sy.region ?_
 refine sP (.slice none 0 0) <| sP (.int .i64 0) <| sP (.pointer (some ⟨g0,0,none⟩)) <| sS (bv (l.getD 0 0)) (Quiet.cell 0 g0 0 31 5 (l.map bv).toArray _ _ rfl kR kR Tryz.underlying5 rfl _ (key_at l hl 0 (by decide))) ?_
 refine Sy.make kR 5 #[bv (l.getD 0 0)] (fun g => .slice (some ⟨g,0,none⟩) 1 1) kF (fun g2 => ?_)
 refine Sy.appendNil kR 25 5 _ _ Tryz.underlying25 info_u8 rfl rfl rfl rfl _ _ rfl kR 2 g2 0 1 1 5 #[bv (l.getD 0 0)] [bv (l.getD 0 0)] kR kR kR rfl (by decide) (by intro u hu; simp only [List.mem_cons,List.not_mem_nil,or_false] at hu; subst hu; rfl) (by decide) (fun q1 c1 s1 e1 m1 => ?_)
 refine sP (.slice (some ⟨q1,0,none⟩) 1 c1) ?_
 refine Sy.nil <| Sy.in_ <| Sy.then_ <| Sy.region ?_
 refine sP (.int .i64 0) <| sP (.int .i64 1) <| sP (.int .i64 1) ?_
 refine Sy.nil <| Sy.again ?_
 refine Sy.loopXR (T:=Nat × Nat × List Value) 31 (fun k1 y1 => [(1,.pointer (some ⟨g0,0,none⟩)),(2,.pointer (some ⟨g1,0,none⟩)),(4,.slice (some ⟨y1.1,0,none⟩) (k1 + 1) y1.2.1),(5,.int .i64 ((k1 + 1 : Nat) : Int))]) (fun k1 y1 => [(g0,31,(l.map bv).toArray),(g1,71,(pcs 0 0 false)),(y1.1,5,((l.take k1).map bv ++ ([bv (l.getD k1 0)] ++ y1.2.2)).toArray)]) (fun k1 y1 => y1.2.2.length + (k1 + 1) = y1.2.1 ∧ y1.2.1 ≤ maxLen) (q1,c1,s1) [true,true,false,true] ⟨e1,m1⟩ (all_cons kR (all_cons kR (all_cons kR (all_cons kR all_nil)))) kR (fun k1 y1 hk1 hh1 => ?_)
 refine Sy.seq <| sC ?_
 refine sP (.int .i64 ((k1 + 1 : Nat) : Int)) ?_
 obtain ⟨b1,hb1⟩ : ∃ z : Bool,z = decide (k1 + 1 < 32):=⟨_,rfl⟩
 refine sS (.bool b1) (Quiet.pure (exec_int .lss _ _ _ .i64 _ _ _ rfl rfl rfl (int_lss _ _ _ _ _ (by rw [hb1]; exact decide_eq_decide.2 (by omega))))) ?_
 refine sG ?_
 cases b1
 ·have lb1 : ¬ (k1 + 1 < 32):=of_decide_eq_false hb1.symm
  refine sU <| Sy.exit <| Sy.then_exit <| Sy.then_exit ?_
  obtain rfl : k1 = 31:=by omega
  have hcp : 32 ≤ y1.2.1 ∧ y1.2.1 ≤ 9223372036854775807:=by
   have q:=hh1
   simp only [maxLen] at q
   exact ⟨by omega,by omega⟩
  refine Sy.in_exit <| Sy.then_ ?_
  refine Sy.tidyC (G:=[(1,.pointer (some ⟨g0,0,none⟩)),(2,.pointer (some ⟨g1,0,none⟩)),(4,.slice (some ⟨y1.1,0,none⟩) 32 y1.2.1)]) (N:=[(g0,31,(l.map bv).toArray),(g1,71,(pcs 0 0 false)),(y1.1,5,(l.map bv ++ y1.2.2).toArray)]) [true,true,true] rfl (bcons rfl (bcons rfl (bcons (beq (congrArg List.toArray (apd_full l 31 hl))) rfl))) (all_cons kR (all_cons kR (all_cons kR all_nil))) ?_
  refine sC ?_
  refine sP (.slice (some ⟨y1.1,0,none⟩) 32 y1.2.1) <| sS (fv (valB l)) (qG 52 #[.slice (some ⟨y1.1,0,none⟩) 32 y1.2.1] (fun w hw => numberR_any w y1.1 y1.2.1 l hl (hw.get (i:=2) rfl).lt (own_cellE (hw.get (i:=2) rfl)) hcp.1 hcp.2)) ?_
  refine sM 97 (fcs 0) (fun g3 => ?_)
  refine sW 3 g3 97 (fcs 0) (fcs (valB l)) (wS 0 97 (fcs (valB l)) rfl) ?_
  refine sA ?_
  refine sS (fv (valB l)) (qL 3 g3 0 4 97 97 (fcs (valB l)) rfl Tryz.underlying97) ?_
  obtain ⟨z1,hz1⟩ : ∃ z : Nat,z = cubeN (valB l):=⟨_,rfl⟩
  have lz1 : z1 < K4:=by rw [hz1]; exact cubeN_lt _
  refine sS (fv z1) (qF 111 #[fv (valB l)] (fun w => by rw [hz1]; exact cubeR_n w (valB l) lK)) ?_
  obtain ⟨r1,hr1⟩ : ∃ z : Nat,z = (sqrtS z1).1:=⟨_,rfl⟩
  obtain ⟨k1,hk1⟩ : ∃ z : Bool,z = (sqrtS z1).2:=⟨_,rfl⟩
  have lr1 : r1 < K4:=by rw [hr1]; exact sqrt_lt _
  refine sS (.tuple #[fv r1,.bool k1]) (qF 110 #[fv z1] (fun w => by rw [hr1,hk1, ← sqrt_is]; exact sqrtR_any w z1 lK)) <| sP (.tuple #[fv r1,.bool k1]) <| sP (fv r1) <| sP (.bool k1) ?_
  refine sM 97 (fcs 0) (fun g4 => ?_)
  refine sW 4 g4 97 (fcs 0) (fcs r1) (wS 0 97 (fcs r1) rfl) <| sP (.bool k1) ?_
  refine sH (fun j => false) ?_
  refine sD 0 rfl (.agg modcs) (qF 54 #[] (refP_any)) <| sD 1 rfl (fv (valB l)) (qL 3 g3 0 4 97 97 (fcs (valB l)) rfl Tryz.underlying97) ?_
  obtain ⟨b2,hb2⟩ : ∃ z : Bool,z = decide ((valB l) < pM):=⟨_,rfl⟩
  refine sD 2 rfl (.bool b2) (qF 53 #[.agg modcs,fv (valB l)] (fun w => by rw [hb2]; exact rightR_any w (valB l) lK)) <| sZ 3 rfl (.bool b2) ?_
  refine sI ?_
  refine Sy.seq <| sC ?_
  refine sP (.bool k1) ?_
  cases k1
  ·refine sP (.bool true) <| sP (.bool true) ?_
   refine sN <| sN ?_
   refine sP (.bool true) ?_
   refine sG <| sT <| sC ?_
   refine sS (pv 0 0 true) (qF 80 #[] (zeroR_c)) <| sW 1 g1 71 (pcs 0 0 false) (pcs 0 0 true) (wS 0 71 (pcs 0 0 true) rfl) <| sP (.bool false) ?_
   refine sG <| Sy.ret <| Sy.then_ret ?_
   rw [show (.tuple #[ptv (liftP l),.bool (liftB l)] : Value) = .tuple #[pv 0 0 true,.bool false] from by
    have hb : liftB l = false:=by unfold liftB; rw [← hz1, ← hk1]; simp
    rw [hb,lift_no hb]; rfl]
   exact Sy.ret2 (v:=pv 0 0 true) (u:=.bool false) rfl (.inl (Res.cell (ty':=71) g1 1 (pcs 0 0 true) _ kR kR Tryz.underlying71 rfl kR kR)) (.inl (show _ = _ by kernel_rfl))
  ·refine sP (.bool false) <| sP (.bool false) <| sP (.bool b2) ?_
   cases b2
   ·refine sP (.bool true) <| sP (.bool true) ?_
    refine sG <| sT <| sC ?_
    refine sS (pv 0 0 true) (qF 80 #[] (zeroR_c)) <| sW 1 g1 71 (pcs 0 0 false) (pcs 0 0 true) (wS 0 71 (pcs 0 0 true) rfl) <| sP (.bool false) ?_
    refine sG <| Sy.ret <| Sy.then_ret ?_
    rw [show (.tuple #[ptv (liftP l),.bool (liftB l)] : Value) = .tuple #[pv 0 0 true,.bool false] from by
     have hb : liftB l = false:=by unfold liftB; rw [← hb2]; simp
     rw [hb,lift_no hb]; rfl]
    exact Sy.ret2 (v:=pv 0 0 true) (u:=.bool false) rfl (.inl (Res.cell (ty':=71) g1 1 (pcs 0 0 true) _ kR kR Tryz.underlying71 rfl kR kR)) (.inl (show _ = _ by kernel_rfl))
   ·refine sP (.bool false) <| sP (.bool false) ?_
    refine sG <| sU <| Sy.skip <| sB ?_
    refine sS (fv (valB l)) (qL 3 g3 0 4 97 97 (fcs (valB l)) rfl Tryz.underlying97) <| sS (fv r1) (qL 4 g4 0 4 97 97 (fcs r1) rfl Tryz.underlying97) <| sS (pv (valB l) r1 false) (qF 83 #[fv (valB l),fv r1] (fun w => pointR_c w (valB l) r1 lK lK)) <| sW 1 g1 71 (pcs 0 0 false) (pcs (valB l) r1 false) (wS 0 71 (pcs (valB l) r1 false) rfl) <| sP (.bool true) ?_
    refine sG <| Sy.ret ?_
    rw [show (.tuple #[ptv (liftP l),.bool (liftB l)] : Value) = .tuple #[pv (valB l) r1 false,.bool true] from by
     have hb : liftB l = true:=by unfold liftB; rw [← hz1, ← hk1, ← hb2]; rfl
     obtain ⟨u2,y2,e1,e2,e3,_,_⟩:=lift_yes hb
     rw [hb,e3]
     unfold ptv
     simp only
     rw [e1,e2, ← hz1, ← hr1]]
    exact Sy.ret2 (v:=pv (valB l) r1 false) (u:=.bool true) rfl (.inl (Res.cell (ty':=71) g1 1 (pcs (valB l) r1 false) _ kR kR Tryz.underlying71 rfl kR kR)) (.inl (show _ = _ by kernel_rfl))
 ·have lb1 : k1 + 1 < 32:=of_decide_eq_true hb1.symm
  refine sT <| Sy.skip <| Sy.then_ <| Sy.seq <| Sy.block <| Sy.region ?_
  refine sP (.slice (some ⟨y1.1,0,none⟩) (k1 + 1) y1.2.1) <| sP (.int .i64 ((k1 + 1 : Nat) : Int)) <| sS (.pointer (some ⟨g0,0 + (k1 + 1) * 1,none⟩)) (Quiet.pure (exec_atA 31 _ _ _ g0 0 _ (k1 + 1) 1 .i64 rfl rfl rfl Tryz.underlying31 kF (by omega))) <| sS (bv (l.getD (k1 + 1) 0)) (Quiet.cell 0 g0 (0 + (k1 + 1) * 1) 31 5 (l.map bv).toArray _ _ rfl kR kR Tryz.underlying5 rfl _ (key_sym hl (k:=k1 + 1) (by omega) (by omega))) ?_
  refine Sy.make kR 5 #[bv (l.getD (k1 + 1) 0)] (fun g => .slice (some ⟨g,0,none⟩) 1 1) kF (fun g5 => ?_)
  refine Sy.append kR 25 5 _ _ Tryz.underlying25 info_u8 rfl rfl rfl rfl _ _ rfl 2 y1.1 (k1 + 1) y1.2.1 ((l.take k1).map bv ++ ([bv (l.getD k1 0)] ++ y1.2.2)).toArray ((l.take (k1 + 1)).map bv) kR kR (apd_take l k1 hl y1.2.2 (by omega)) (apd_len l k1 hl (by omega)) (apd_size l k1 hl y1.2.2 hh1.1 (by omega)) hh1.2 3 g5 0 1 1 5 #[bv (l.getD (k1 + 1) 0)] [bv (l.getD (k1 + 1) 0)] kR kR kR rfl (by intro u hu; simp only [List.mem_cons,List.not_mem_nil,or_false] at hu; subst hu; rfl) (by omega) (fun q2 c2 s2 e2 m2 => ?_)
  refine sP (.slice (some ⟨q2,0,none⟩) (k1 + 1 + 1) c2) ?_
  refine Sy.nil <| Sy.in_ <| Sy.then_ <| Sy.region ?_
  refine sP (.int .i64 ((k1 + 1 : Nat) : Int)) <| sS (.int .i64 (((k1 + 1) + 1 : Nat) : Int)) (Quiet.pure (exec_int .add _ _ _ .i64 _ _ _ rfl rfl rfl (int_add _ _ _ _ _ ((wrap_i64 (by omega) (by omega)).trans (by omega))))) <| sP (.int .i64 (((k1 + 1) + 1 : Nat) : Int)) ?_
  refine Sy.nil ?_
  exact Sy.againX ((q2,c2,s2)) [true,true,true,false] (by omega) (⟨e2,m2⟩) (all_cons kR (all_cons kR (all_cons kR (all_cons kR all_nil)))) kR
end Cu
end
section
namespace Cu
open Go.RowKit Sy
set_option maxRecDepth 100000
set_option maxHeartbeats 4000000
section
variable {P : Program} {w0 : Base} {F : Slots} {L : Blocks} {o : Oper}
theorem Quiet.read {v : Value} (h : ∀ w,St w0 w L → (execOp (evF F) o).run P w = .ok (.value v) w) : Quiet P w0 F L o v:=fun w hw => by
 unfold Gives; rw [h w hw]; exact ⟨rfl,Gr.refl _⟩
end
theorem str_of {w : World} {A : Option Addr} {m : List UInt8} {c : Nat} (h : Src w A m) (hm : m ≠ []) :
  (convert 25 9 (.slice A m.length c)).run Tryz.prog w = .ok (.string ⟨m.toArray⟩) w:=by
 obtain ⟨b,o,rfl,_,hc⟩:=h hm
 refine run_convert_bytes_back w 25 9 5 _ c m Tryz.underlying25 Tryz.underlying5 Tryz.underlying9 (fun j hj => ?_)
 rw [addr_off]
 exact hc j _ (List.getElem?_eq_getElem hj)
theorem str_src {w0 : Base} {F : Slots} {L : Blocks} {o : Oper} (A : Option Addr) (m : List UInt8) (k c : Nat) (x : Operand) (ho : o.op = .convert 25 9 x) (hx : evF F x = .slice A k c) (hm : m.length = k) (hk : k ≠ 0) (hs : Src w0.world A m) : Quiet Tryz.prog w0 F L o (.string ⟨m.toArray⟩):=Quiet.read fun w hw => by
 have h:=str_of (c:=c) (hs.below hw.below) (by intro e; rw [e] at hm; exact hk hm.symm)
 rw [hm] at h
 unfold execOp
 simp only [ho,hx,Sem.run_bind,h,Result.andThen_ok,Sem.run_pure]
theorem eql_str (w : World) (F : Slots) (o : Oper) (x y : Operand) (a b : List UInt8) {yt : TypeId} (ho : o.op = .binOp .eql 9 x y yt) (hx : evF F x = .string ⟨a.toArray⟩) (hy : evF F y = .string ⟨b.toArray⟩) : (execOp (evF F) o).run Tryz.prog w = .ok (.value (.bool (decide (a = b)))) w:=by
 have h1 : (eqGuard .eql 9 x y (.string ⟨a.toArray⟩) (.string ⟨b.toArray⟩)).run Tryz.prog w = .ok () w:=by go_simp
 have h2 : (binOp .eql 9 (.string ⟨a.toArray⟩) (.string ⟨b.toArray⟩)).run Tryz.prog w = .ok (.bool (decide (a = b))) w:=by
  by_cases e : a = b <;> simp [go_sem,ByteArray.toList_eq,e]
 unfold execOp
 simp only [ho,hx,hy,Sem.run_bind,h1,h2,Result.andThen_ok,Sem.run_pure]
end Cu
end
section
namespace Cu
open Go.RowKit Sy
set_option maxRecDepth 100000
set_option maxHeartbeats 4000000
theorem equal_any (w : World) (A A2 : Option Addr) (l m : List UInt8) (n k c d : Nat) (hl : l.length = n) (hm : m.length = k) (hn : n ≠ 0) (hk : k ≠ 0) (hs : Src w A l) (ht : Src w A2 m) : Calls Tryz.prog 164 #[.slice A n c,.slice A2 k d] w (Gets w (.bool (decide (l = m)))):=by
 refine Sy.enter (args:=[.slice A n c,.slice A2 k d]) Tryz.func164 rfl kL ?_
 refine sC ?_
 refine sP (.bool false) ?_
 refine sA ?_
 refine sP (.slice A n c) <| sS (.string ⟨l.toArray⟩) (str_src A l n c _ rfl rfl hl hn hs) <| sP (.slice A2 k d) <| sS (.string ⟨m.toArray⟩) (str_src A2 m k d _ rfl rfl hm hk ht) <| sS (.bool (decide (l = m))) (Quiet.pure (fun w => eql_str w _ _ _ _ l m rfl rfl rfl)) <| sP (.bool (decide (l = m))) ?_
 refine sG <| Sy.ret ?_
 exact rV (.bool (decide (l = m))) rfl
theorem src_part {w : World} {g : Nat} {t : TypeId} {l : List UInt8} (hb : Blk w g t (l.map bv).toArray) (k n : Nat) : Src w (some ⟨g,k,none⟩) ((l.drop k).take n):=fun _ => ⟨g,k,rfl,hb.lt,fun j u hj => by
 refine (hb.cell (k + j)).trans ?_
 rw [List.getElem?_take] at hj
 split at hj
 ·rw [List.getElem?_drop] at hj
  rw [List.getElem?_toArray,List.getElem?_map,hj]
  rfl
 ·cases hj⟩
theorem key_part {l : List UInt8} (k n : Nat) : Value.agg ((((l.map bv).toArray).toList.drop k).take n).toArray = .agg (((l.drop k).take n).map bv).toArray:=by
 rw [List.map_take,List.map_drop]
theorem part_size {l : List UInt8} {N : Nat} (h : l.length = N) {k n : Nat} (hk : k + n ≤ N) : k + n ≤ ((l.map bv).toArray).size:=by
 rw [key_sz l h]; exact hk
theorem part_len {l : List UInt8} {N : Nat} (h : l.length = N) {k n : Nat} (hk : k + n ≤ N) : ((l.drop k).take n).length = n:=by
 rw [List.length_take,List.length_drop,h]; omega
def trl (k x y : Nat) (i : Bool) : List Value:=fws k ++ (fws x ++ (fws y ++ [Value.bool i]))
def two (z e px py : Nat) (pi : Bool) (j : Nat) : Trm:=if j = 0 then ⟨z,gx.val,gy.val,false⟩ else ⟨e,px,py,pi⟩
def rPt (z e px py : Nat) (pi : Bool) : Pt:=Ec.add finv (Ec.nm finv (z % Sc.pM) bP) (Ec.nm finv (e % Sc.pM) (dec px py pi))
theorem rPt_on (z e px py : Nat) (pi : Bool) : Ec.On (rPt z e px py pi):=Ec.On.add fld (bP_on.nm fld _) ((dec_on _ _ _).nm fld _)
theorem two_c (w : World) (g : Nat) (t : TypeId) (z e px py : Nat) (pi : Bool) (hz : z < K4) (he : e < K4) (hx : px < K4) (hy : py < K4) (hb : Blk w g t (trl z gx.val gy.val false ++ trl e px py pi).toArray) : Calls Tryz.prog 143 #[.slice (some ⟨g,0,none⟩) 2 2] w (Gets w (ptv (rPt z e px py pi))):=by
 have hr : w.rangeAt g 0 (trl z gx.val gy.val false ++ trl e px py pi):=blk_range hb (by rw [List.drop_zero]; exact List.take_of_length_le (Nat.le_refl _))
 have h:=multi_any w (some ⟨g,0,none⟩) g 0 2 2 (two z e px py pi) (Nat.le_refl _) (by decide) (fun j => by
  unfold two
  split
  ·exact ⟨hz,lt4 _,lt4 _⟩
  ·exact ⟨he,hx,hy⟩) (fun _ => ⟨rfl,hb.lt,fun j hj => by
  rcases j with _ | _ | j
  ·exact range_left hr
  ·exact range_right hr rfl
  ·omega⟩)
 have e0 : Ec.sumL finv (fun t => Ec.nm finv (two z e px py pi t).kn (two z e px py pi t).pt) (List.range 2) = rPt z e px py pi:=by
  have d0 : dec gx.val gy.val false = bP:=dec_fin gx gy bP_on
  unfold rPt
  rw [← d0]
  show Ec.add finv (Ec.add finv none (Ec.nm finv (z % Sc.pM) (dec gx.val gy.val false))) (Ec.nm finv (e % Sc.pM) (dec px py pi)) = _
  rw [Ec.zero_add]
 rw [e0] at h
 exact h
def ansB (s : List UInt8) (e px py : Nat) (pi : Bool) : Bool :=
 (Sc.readS ((s.drop 32).take 32)).2 && (decide ((encS (rPt (Sc.readS ((s.drop 32).take 32)).1 (Sc.negP e) px py pi)).getD 0 0 = UInt8.ofNat 2) && decide (((encS (rPt (Sc.readS ((s.drop 32).take 32)).1 (Sc.negP e) px py pi)).drop 1).take 32 = (s.drop 0).take 32))
theorem readS_lt (l : List UInt8) : (Sc.readS l).1 < K4:=by
 unfold Sc.readS
 split
 ·exact Nat.lt_trans (by assumption) (by decide)
 ·show 0 < _; decide
theorem enc_any' (w : World) {R : Pt} (h : Ec.On R) : Calls Tryz.prog 92 #[pv (pX R) (pY R) (pI R)] w (Gets w (.agg ((encS R).map bv).toArray)):=by
 have q:=enc_any w (pX R) (pY R) (pI R) (pX_lt R) (pY_lt R)
 rw [dec_parts h] at q
 exact q
theorem answers_any (w : World) (s : List UInt8) (hs : s.length = 64) (e : Nat) (he : e < K4) (px py : Nat) (pi : Bool) (hpx : px < K4) (hpy : py < K4) : Calls Tryz.prog 108 #[.agg (s.map bv).toArray,fv e,pv px py pi] w (Gets w (.bool (ansB s e px py pi))):=by
 refine Sy.enter (args:=[.agg (s.map bv).toArray,fv e,pv px py pi]) Tryz.func108 rfl kL ?_
 refine sC ?_
 refine sM 27 (s.map bv).toArray (fun g0 => ?_)
 refine sM 24 (fcs e) (fun g1 => ?_)
 refine sM 71 (pcs px py pi) (fun g2 => ?_)
 refine sP (.bool false) ?_
 refine sA ?_
 refine sP (.slice (some ⟨g0,32,none⟩) 32 32) <| sP (.pointer (some ⟨g0,32,none⟩)) <| sS (.agg (((s.drop 32).take 32).map bv).toArray) (Quiet.load 0 g0 32 32 27 30 (s.map bv).toArray _ _ rfl kR kR Tryz.underlying30 rfl kR _ (key_part 32 32) (part_size hs (by decide))) ?_
 obtain ⟨b1,hb1⟩ : ∃ z : Bool,z = (Sc.readS ((s.drop 32).take 32)).2:=⟨_,rfl⟩
 refine sS (.tuple #[fv ((Sc.readS ((s.drop 32).take 32)).1),.bool b1]) (qF 137 #[.agg (((s.drop 32).take 32).map bv).toArray] (fun w => by rw [hb1]; exact Sc.read_any w _ (part_len hs (by decide)))) <| sP (.tuple #[fv ((Sc.readS ((s.drop 32).take 32)).1),.bool b1]) <| sP (fv ((Sc.readS ((s.drop 32).take 32)).1)) <| sP (.bool b1) ?_
 refine sM 24 (fcs 0) (fun g3 => ?_)
 refine sW 3 g3 24 (fcs 0) (fcs ((Sc.readS ((s.drop 32).take 32)).1)) (wS 0 24 (fcs ((Sc.readS ((s.drop 32).take 32)).1)) rfl) <| sP (.bool b1) ?_
 refine sG <| Sy.seq <| sC ?_
 refine sP (.bool b1) ?_
 cases b1
 ·refine sP (.bool true) ?_
  refine sG <| sT <| sC ?_
  refine sP (.bool false) ?_
  refine sG <| Sy.ret <| Sy.then_ret ?_
  rw [show (.bool (ansB s e px py pi) : Value) = .bool false from by unfold ansB; rw [← hb1]; rfl]
  exact rV (.bool false) rfl
 ·refine sP (.bool false) ?_
  refine sG <| sU <| Sy.skip ?_
  refine sR (fun j => j == 11) ?_
  refine sD 0 rfl (fv ((Sc.readS ((s.drop 32).take 32)).1)) (qL 3 g3 0 4 24 24 (fcs ((Sc.readS ((s.drop 32).take 32)).1)) rfl Tryz.underlying24) <| sD 1 rfl (pv gx.val gy.val false) (qF 94 #[] (base_c)) <| sZ 2 rfl (trv ((Sc.readS ((s.drop 32).take 32)).1) gx.val gy.val false) <| sD 3 rfl (fv e) (qL 1 g1 0 4 24 24 (fcs e) rfl Tryz.underlying24) <| sD 4 rfl (fv (Sc.negP e)) (qF 95 #[fv e] (fun w => Sc.negF_any w e he)) <| sD 5 rfl (pv px py pi) (qL 2 g2 0 9 71 71 (pcs px py pi) rfl Tryz.underlying71) <| sZ 6 rfl (trv (Sc.negP e) px py pi) ?_
  refine Sy.joinD (fun gq => [(0,.agg (s.map bv).toArray),(1,fv e),(2,pv px py pi),(3,.pointer (some ⟨g0,0,none⟩)),(4,.pointer (some ⟨g1,0,none⟩)),(5,.pointer (some ⟨g2,0,none⟩)),(6,.bool false),(7,.pointer (some ⟨g3,0,none⟩)),(8,.bool true),(9,.pointer (some ⟨(gq 1),0,none⟩)),(10,.tuple #[fv ((Sc.readS ((s.drop 32).take 32)).1),.bool true]),(11,.slice (some ⟨g0,32,none⟩) 32 32),(12,.pointer (some ⟨g0,32,none⟩)),(13,.agg (((s.drop 32).take 32).map bv).toArray),(14,.tuple #[fv ((Sc.readS ((s.drop 32).take 32)).1),.bool true]),(15,fv ((Sc.readS ((s.drop 32).take 32)).1)),(16,.bool true),(17,.bool true),(18,.bool false),(19,fv ((Sc.readS ((s.drop 32).take 32)).1)),(20,pv gx.val gy.val false),(21,trv ((Sc.readS ((s.drop 32).take 32)).1) gx.val gy.val false),(22,fv e),(23,fv (Sc.negP e)),(24,pv px py pi),(25,trv (Sc.negP e) px py pi),(26,.slice (some ⟨(gq 0),0,none⟩) 2 2),(27,pv (pX (rPt (Sc.readS ((s.drop 32).take 32)).1 (Sc.negP e) px py pi)) (pY (rPt (Sc.readS ((s.drop 32).take 32)).1 (Sc.negP e) px py pi)) (pI (rPt (Sc.readS ((s.drop 32).take 32)).1 (Sc.negP e) px py pi))),(28,.agg ((encS (rPt (Sc.readS ((s.drop 32).take 32)).1 (Sc.negP e) px py pi)).map bv).toArray)]) (fun gq => [(g0,27,(s.map bv).toArray),(g1,24,(fcs e)),(g2,71,(pcs px py pi)),(g3,24,(fcs ((Sc.readS ((s.drop 32).take 32)).1))),((gq 0),176,(trl ((Sc.readS ((s.drop 32).take 32)).1) gx.val gy.val false ++ (trl (Sc.negP e) px py pi)).toArray),((gq 1),139,(Zl 33).toArray)]) 1 #[true,true,true,true,true,true,true,true,true,true,true,false] (fun gq => ?_) (fun fin => ?_)
  ·refine Sy.writeD 11 rfl kR (by rfl) kR 5 (gq 1) 139 (Zl 33).toArray ((encS (rPt (Sc.readS ((s.drop 32).take 32)).1 (Sc.negP e) px py pi)).map bv).toArray kR (Writes.store 0 139 ((encS (rPt (Sc.readS ((s.drop 32).take 32)).1 (Sc.negP e) px py pi)).map bv).toArray _ _ rfl kR kR (by rw [key_sz (encS (rPt (Sc.readS ((s.drop 32).take 32)).1 (Sc.negP e) px py pi)) (encS_length _)]; kernel_rfl) (by rw [key_sz (encS (rPt (Sc.readS ((s.drop 32).take 32)).1 (Sc.negP e) px py pi)) (encS_length _)]; exact Nat.le_of_ble_eq_true kR) (key_one _) (key_set _ _ (by rw [(encS_length _)]; kernel_rfl))) ?_
   refine sE ?_
   refine sR (fun j => false) ?_
   refine sZ 0 rfl (.pointer (some ⟨(gq 1),0,none⟩)) <| sD 1 rfl (bv ((encS (rPt (Sc.readS ((s.drop 32).take 32)).1 (Sc.negP e) px py pi)).getD 0 0)) (Quiet.cell 5 (gq 1) 0 139 5 ((encS (rPt (Sc.readS ((s.drop 32).take 32)).1 (Sc.negP e) px py pi)).map bv).toArray _ _ rfl kR kR Tryz.underlying5 rfl _ (key_at (encS (rPt (Sc.readS ((s.drop 32).take 32)).1 (Sc.negP e) px py pi)) (encS_length _) 0 (by decide))) ?_
   obtain ⟨b2,hb2⟩ : ∃ z : Bool,z = decide (((encS (rPt (Sc.readS ((s.drop 32).take 32)).1 (Sc.negP e) px py pi)).getD 0 0) = UInt8.ofNat 2):=⟨_,rfl⟩
   refine sD 2 rfl (.bool b2) (Quiet.pure (fun w => by rw [hb2]; exact eql_u8 w _ _ _ _ _ 2 (by decide) rfl rfl rfl)) <| sZ 3 rfl (.bool b2) ?_
   cases b2
   ·refine sQ 4 rfl <| sQ 5 rfl <| sQ 6 rfl <| sZ 7 rfl (.bool false) <| sZ 8 rfl (.bool false) ?_
    refine sI ?_
    refine Sy.ret ?_
    rw [show (.bool (ansB s e px py pi) : Value) = .bool false from by unfold ansB; rw [← hb1, ← hb2]; rfl]
    exact rV (.bool false) rfl
   ·refine sZ 4 rfl (.slice (some ⟨(gq 1),1,none⟩) 32 32) <| sZ 5 rfl (.slice (some ⟨g0,0,none⟩) 32 64) ?_
    obtain ⟨b3,hb3⟩ : ∃ z : Bool,z = decide (((encS (rPt (Sc.readS ((s.drop 32).take 32)).1 (Sc.negP e) px py pi)).drop 1).take 32 = (s.drop 0).take 32):=⟨_,rfl⟩
    refine sD 6 rfl (.bool b3) (qG 164 #[.slice (some ⟨(gq 1),1,none⟩) 32 32,.slice (some ⟨g0,0,none⟩) 32 64] (fun w hw => by rw [hb3]; exact equal_any w _ _ _ _ 32 32 _ _ (part_len (encS_length _) (by decide)) (part_len hs (by decide)) (by decide) (by decide) (src_part (hw.get (i:=5) rfl) 1 32) (src_part (hw.get (i:=0) rfl) 0 32))) <| sZ 7 rfl (.bool b3) <| sZ 8 rfl (.bool b3) ?_
    refine sI ?_
    refine Sy.ret ?_
    rw [show (.bool (ansB s e px py pi) : Value) = .bool b3 from by unfold ansB; rw [← hb1, ← hb2, ← hb3]; rfl]
    exact rV (.bool b3) rfl
  ·refine Sy.anyOf [7,10] kR (by decide) (Sy.each2 ?_ ?_)
   ·refine Sy.oneMake rfl kR 176 (trl ((Sc.readS ((s.drop 32).take 32)).1) gx.val gy.val false ++ (trl (Sc.negP e) px py pi)).toArray (fun g => .slice (some ⟨g,0,none⟩) 2 2) kF (fun g4 => ?_)
    refine Sy.anyOf [8,10] kR (by decide) (Sy.each2 ?_ ?_)
    ·refine Sy.oneQuiet rfl kR (pv (pX (rPt (Sc.readS ((s.drop 32).take 32)).1 (Sc.negP e) px py pi)) (pY (rPt (Sc.readS ((s.drop 32).take 32)).1 (Sc.negP e) px py pi)) (pI (rPt (Sc.readS ((s.drop 32).take 32)).1 (Sc.negP e) px py pi))) (qG 143 #[.slice (some ⟨g4,0,none⟩) 2 2] (fun w hw => by rw [← ptv_parts]; exact two_c w g4 _ _ _ px py pi (readS_lt _) (Sc.mod_lt _) hpx hpy (hw.get (i:=4) rfl))) ?_
     refine Sy.anyOf [9,10] kR (by decide) (Sy.each2 ?_ ?_)
     ·refine Sy.oneQuiet rfl kR (.agg ((encS (rPt (Sc.readS ((s.drop 32).take 32)).1 (Sc.negP e) px py pi)).map bv).toArray) (qF 92 #[pv (pX (rPt (Sc.readS ((s.drop 32).take 32)).1 (Sc.negP e) px py pi)) (pY (rPt (Sc.readS ((s.drop 32).take 32)).1 (Sc.negP e) px py pi)) (pI (rPt (Sc.readS ((s.drop 32).take 32)).1 (Sc.negP e) px py pi))] (fun w => enc_any' w (rPt_on _ _ _ _ _))) ?_
      refine Sy.anyOf [10] kR (by decide) (Sy.each1 ?_)
      ·refine Sy.oneMake rfl kR 139 (Zl 33).toArray ptr kF (fun g5 => ?_)
       exact Sy.leafI fin (fun i => if i = 0 then g4 else g5) kR (all_cons kR (all_cons kR (all_cons kR (all_cons kR (all_cons kR (all_cons kR (all_cons kR (all_cons kR (all_cons kR (all_cons kR (all_cons kR (all_cons kR (all_cons kR (all_cons kR (all_cons kR (all_cons kR (all_cons kR (all_cons kR (all_cons kR (all_cons kR (all_cons kR (all_cons kR (all_cons kR (all_cons kR (all_cons kR (all_cons kR (all_cons kR (all_cons kR (all_cons kR all_nil))))))))))))))))))))))))))))) kR
     ·refine Sy.oneMake rfl kR 139 (Zl 33).toArray ptr kF (fun g6 => ?_)
      refine Sy.anyOf [9] kR (by decide) (Sy.each1 ?_)
      ·refine Sy.oneQuiet rfl kR (.agg ((encS (rPt (Sc.readS ((s.drop 32).take 32)).1 (Sc.negP e) px py pi)).map bv).toArray) (qF 92 #[pv (pX (rPt (Sc.readS ((s.drop 32).take 32)).1 (Sc.negP e) px py pi)) (pY (rPt (Sc.readS ((s.drop 32).take 32)).1 (Sc.negP e) px py pi)) (pI (rPt (Sc.readS ((s.drop 32).take 32)).1 (Sc.negP e) px py pi))] (fun w => enc_any' w (rPt_on _ _ _ _ _))) ?_
       exact Sy.leafI fin (fun i => if i = 0 then g4 else g6) kR (all_cons kR (all_cons kR (all_cons kR (all_cons kR (all_cons kR (all_cons kR (all_cons kR (all_cons kR (all_cons kR (all_cons kR (all_cons kR (all_cons kR (all_cons kR (all_cons kR (all_cons kR (all_cons kR (all_cons kR (all_cons kR (all_cons kR (all_cons kR (all_cons kR (all_cons kR (all_cons kR (all_cons kR (all_cons kR (all_cons kR (all_cons kR (all_cons kR (all_cons kR all_nil))))))))))))))))))))))))))))) kR
    ·refine Sy.oneMake rfl kR 139 (Zl 33).toArray ptr kF (fun g7 => ?_)
     refine Sy.anyOf [8] kR (by decide) (Sy.each1 ?_)
     ·refine Sy.oneQuiet rfl kR (pv (pX (rPt (Sc.readS ((s.drop 32).take 32)).1 (Sc.negP e) px py pi)) (pY (rPt (Sc.readS ((s.drop 32).take 32)).1 (Sc.negP e) px py pi)) (pI (rPt (Sc.readS ((s.drop 32).take 32)).1 (Sc.negP e) px py pi))) (qG 143 #[.slice (some ⟨g4,0,none⟩) 2 2] (fun w hw => by rw [← ptv_parts]; exact two_c w g4 _ _ _ px py pi (readS_lt _) (Sc.mod_lt _) hpx hpy (hw.get (i:=4) rfl))) ?_
      refine Sy.anyOf [9] kR (by decide) (Sy.each1 ?_)
      ·refine Sy.oneQuiet rfl kR (.agg ((encS (rPt (Sc.readS ((s.drop 32).take 32)).1 (Sc.negP e) px py pi)).map bv).toArray) (qF 92 #[pv (pX (rPt (Sc.readS ((s.drop 32).take 32)).1 (Sc.negP e) px py pi)) (pY (rPt (Sc.readS ((s.drop 32).take 32)).1 (Sc.negP e) px py pi)) (pI (rPt (Sc.readS ((s.drop 32).take 32)).1 (Sc.negP e) px py pi))] (fun w => enc_any' w (rPt_on _ _ _ _ _))) ?_
       exact Sy.leafI fin (fun i => if i = 0 then g4 else g7) kR (all_cons kR (all_cons kR (all_cons kR (all_cons kR (all_cons kR (all_cons kR (all_cons kR (all_cons kR (all_cons kR (all_cons kR (all_cons kR (all_cons kR (all_cons kR (all_cons kR (all_cons kR (all_cons kR (all_cons kR (all_cons kR (all_cons kR (all_cons kR (all_cons kR (all_cons kR (all_cons kR (all_cons kR (all_cons kR (all_cons kR (all_cons kR (all_cons kR (all_cons kR all_nil))))))))))))))))))))))))))))) kR
   ·refine Sy.oneMake rfl kR 139 (Zl 33).toArray ptr kF (fun g8 => ?_)
    refine Sy.anyOf [7] kR (by decide) (Sy.each1 ?_)
    ·refine Sy.oneMake rfl kR 176 (trl ((Sc.readS ((s.drop 32).take 32)).1) gx.val gy.val false ++ (trl (Sc.negP e) px py pi)).toArray (fun g => .slice (some ⟨g,0,none⟩) 2 2) kF (fun g9 => ?_)
     refine Sy.anyOf [8] kR (by decide) (Sy.each1 ?_)
     ·refine Sy.oneQuiet rfl kR (pv (pX (rPt (Sc.readS ((s.drop 32).take 32)).1 (Sc.negP e) px py pi)) (pY (rPt (Sc.readS ((s.drop 32).take 32)).1 (Sc.negP e) px py pi)) (pI (rPt (Sc.readS ((s.drop 32).take 32)).1 (Sc.negP e) px py pi))) (qG 143 #[.slice (some ⟨g9,0,none⟩) 2 2] (fun w hw => by rw [← ptv_parts]; exact two_c w g9 _ _ _ px py pi (readS_lt _) (Sc.mod_lt _) hpx hpy (hw.get (i:=5) rfl))) ?_
      refine Sy.anyOf [9] kR (by decide) (Sy.each1 ?_)
      ·refine Sy.oneQuiet rfl kR (.agg ((encS (rPt (Sc.readS ((s.drop 32).take 32)).1 (Sc.negP e) px py pi)).map bv).toArray) (qF 92 #[pv (pX (rPt (Sc.readS ((s.drop 32).take 32)).1 (Sc.negP e) px py pi)) (pY (rPt (Sc.readS ((s.drop 32).take 32)).1 (Sc.negP e) px py pi)) (pI (rPt (Sc.readS ((s.drop 32).take 32)).1 (Sc.negP e) px py pi))] (fun w => enc_any' w (rPt_on _ _ _ _ _))) ?_
       exact Sy.leafS (M:=[(g0,27,(s.map bv).toArray),(g1,24,(fcs e)),(g2,71,(pcs px py pi)),(g3,24,(fcs ((Sc.readS ((s.drop 32).take 32)).1)))]) (x:=(g9,176,(trl ((Sc.readS ((s.drop 32).take 32)).1) gx.val gy.val false ++ (trl (Sc.negP e) px py pi)).toArray)) (y:=(g8,139,(Zl 33).toArray)) fin (fun i => if i = 0 then g9 else g8) kR (all_cons kR (all_cons kR (all_cons kR (all_cons kR (all_cons kR (all_cons kR (all_cons kR (all_cons kR (all_cons kR (all_cons kR (all_cons kR (all_cons kR (all_cons kR (all_cons kR (all_cons kR (all_cons kR (all_cons kR (all_cons kR (all_cons kR (all_cons kR (all_cons kR (all_cons kR (all_cons kR (all_cons kR (all_cons kR (all_cons kR (all_cons kR (all_cons kR (all_cons kR all_nil))))))))))))))))))))))))))))) kR kR
end Cu
end
section
namespace Cu
open Go.RowKit Sy
def verB (key m s : List UInt8) : Bool:=liftB key && ansB s (chalS ((s.drop 0).take 32) key m) (pX (liftP key)) (pY (liftP key)) (pI (liftP key))
set_option maxHeartbeats 4000000 in
set_option maxRecDepth 100000 in
theorem verify_any (w : World) (key s : List UInt8) (hkey : key.length = 32) (hss : s.length = 64) (A : Option Addr) (m : List UInt8) (n c : Nat) (hn : m.length = n) (hm : n ≤ 999999900) (hc : n ≤ c) (hc2 : c ≤ 9223372036854775807) (hs : Sh.Src w A m) (ht : Sh.TabAt w 1) : Calls Tryz.prog 49 #[.agg (key.map bv).toArray,.slice A n c,.agg (s.map bv).toArray] w (Gets w (.bool (verB key m s))):=by
 refine Sy.enter (args:=[.agg (key.map bv).toArray,.slice A n c,.agg (s.map bv).toArray]) Tryz.func49 rfl kL ?_
 refine sC ?_
 refine sM 31 (key.map bv).toArray (fun g0 => ?_)
 refine sM 27 (s.map bv).toArray (fun g1 => ?_)
 refine sP (.bool false) ?_
 refine sA ?_
 refine sS (.agg (key.map bv).toArray) (Quiet.load 0 g0 0 32 31 31 (key.map bv).toArray _ _ rfl kR kR Tryz.underlying31 rfl kR _ (key_whole key hkey) (key_size key hkey)) ?_
 obtain ⟨b1,hb1⟩ : ∃ z : Bool,z = liftB key:=⟨_,rfl⟩
 refine sS (.tuple #[pv (pX (liftP key)) (pY (liftP key)) (pI (liftP key)),.bool b1]) (qF 107 #[.agg (key.map bv).toArray] (fun w => by rw [← ptv_parts,hb1]; exact lift_any w key hkey)) <| sP (.tuple #[pv (pX (liftP key)) (pY (liftP key)) (pI (liftP key)),.bool b1]) <| sP (pv (pX (liftP key)) (pY (liftP key)) (pI (liftP key))) <| sP (.bool b1) ?_
 refine sM 71 (pcs 0 0 false) (fun g2 => ?_)
 refine sW 2 g2 71 (pcs 0 0 false) (pcs (pX (liftP key)) (pY (liftP key)) (pI (liftP key))) (wS 0 71 (pcs (pX (liftP key)) (pY (liftP key)) (pI (liftP key))) rfl) <| sP (.bool b1) ?_
 refine sH (fun j => false) ?_
 refine sZ 0 rfl (.bool b1) <| sZ 1 rfl (.bool b1) ?_
 cases b1
 ·refine sQ 2 rfl <| sQ 3 rfl <| sQ 4 rfl <| sQ 5 rfl <| sQ 6 rfl <| sQ 7 rfl <| sQ 8 rfl <| sQ 9 rfl ?_
  refine sQ 10 rfl <| sZ 11 rfl (.bool false) <| sZ 12 rfl (.bool false) ?_
  refine sI ?_
  refine Sy.ret ?_
  rw [show (.bool (verB key m s) : Value) = .bool false from by unfold verB; rw [← hb1]; rfl]
  exact rV (.bool false) rfl
 ·refine sD 2 rfl (.agg (s.map bv).toArray) (Quiet.load 1 g1 0 64 27 27 (s.map bv).toArray _ _ rfl kR kR Tryz.underlying27 rfl kR _ (key_whole s hss) (key_size s hss)) <| sZ 3 rfl (.slice (some ⟨g1,0,none⟩) 32 64) <| sZ 4 rfl (.pointer (some ⟨g1,0,none⟩)) <| sD 5 rfl (.agg (((s.drop 0).take 32).map bv).toArray) (Quiet.load 1 g1 0 32 27 31 (s.map bv).toArray _ _ rfl kR kR Tryz.underlying31 rfl kR _ (key_part 0 32) (part_size hss (by decide))) <| sD 6 rfl (.agg (key.map bv).toArray) (Quiet.load 0 g0 0 32 31 31 (key.map bv).toArray _ _ rfl kR kR Tryz.underlying31 rfl kR _ (key_whole key hkey) (key_size key hkey)) <| sZ 7 rfl (.slice A n c) <| sD 8 rfl (fv (chalS ((s.drop 0).take 32) key m)) (qG 96 #[.agg (((s.drop 0).take 32).map bv).toArray,.agg (key.map bv).toArray,.slice A n c] (fun w hw => challenge_any w _ key (part_len hss (by decide)) hkey A m n c hn hm hc hc2 (hs.below hw.below) (ht.below hw.below ht.lt))) <| sD 9 rfl (pv (pX (liftP key)) (pY (liftP key)) (pI (liftP key))) (qL 2 g2 0 9 71 71 (pcs (pX (liftP key)) (pY (liftP key)) (pI (liftP key))) rfl Tryz.underlying71) ?_
  obtain ⟨b2,hb2⟩ : ∃ z : Bool,z = ansB s (chalS ((s.drop 0).take 32) key m) (pX (liftP key)) (pY (liftP key)) (pI (liftP key)):=⟨_,rfl⟩
  refine sD 10 rfl (.bool b2) (qF 108 #[.agg (s.map bv).toArray,fv (chalS ((s.drop 0).take 32) key m),pv (pX (liftP key)) (pY (liftP key)) (pI (liftP key))] (fun w => by rw [hb2]; exact answers_any w s hss _ (chalS_lt _ _ _) _ _ _ (pX_lt _) (pY_lt _))) <| sZ 11 rfl (.bool b2) <| sZ 12 rfl (.bool b2) ?_
  refine sI ?_
  refine Sy.ret ?_
  rw [show (.bool (verB key m s) : Value) = .bool b2 from by unfold verB; rw [← hb1, ← hb2]; rfl]
  exact rV (.bool b2) rfl
end Cu
end
section
namespace Nt
theorem pr_44706919 : Pr 44706919:=small_prime (b:=6687) (by decide) (by decide) (by decide +kernel)
theorem pr_120233 : Pr 120233:=small_prime (b:=347) (by decide) (by decide) (by decide +kernel)
theorem pr_545358713 : Pr 545358713:=small_prime (b:=23354) (by decide) (by decide) (by decide +kernel)
theorem pr_305873 : Pr 305873:=small_prime (b:=554) (by decide) (by decide) (by decide +kernel)
theorem pr_293 : Pr 293:=small_prime (b:=18) (by decide) (by decide) (by decide +kernel)
theorem pr_n1 : Pr 174723607534414371449:=by
 refine pock (F:=44706919 * 120233) (by decide) (fun r hr hrN => ?_) (by decide)
 have h0:=pock_pm 68 2 (by decide) pr_44706919 (by decide) (by decide +kernel) (by decide +kernel) (by decide) r hr hrN
 have h1:=pock_pm 68 2 (by decide) pr_120233 (by decide) (by decide +kernel) (by decide +kernel) (by decide) r hr hrN
 exact Nat.Coprime.mul_dvd_of_dvd_of_dvd (by decide) h0 h1
theorem pr_n3 : Pr 29047611873442575647497758179:=by
 refine pock (F:=545358713 * (305873 * 293)) (by decide) (fun r hr hrN => ?_) (by decide)
 have h0:=pock_pm 95 2 (by decide) pr_545358713 (by decide) (by decide +kernel) (by decide +kernel) (by decide) r hr hrN
 have h1:=pock_pm 95 2 (by decide) pr_305873 (by decide) (by decide +kernel) (by decide +kernel) (by decide) r hr hrN
 have h2:=pock_pm 95 2 (by decide) pr_293 (by decide) (by decide +kernel) (by decide +kernel) (by decide) r hr hrN
 exact Nat.Coprime.mul_dvd_of_dvd_of_dvd (by decide) h0 (Nat.Coprime.mul_dvd_of_dvd_of_dvd (by decide) h1 h2)
theorem pr_n2 : Pr 341948486974166000522343609283189 :=
 pock (F:=29047611873442575647497758179) (by decide) (fun r hr hrN => pock_pm 109 2 (by decide) pr_n3 (by decide) (by decide +kernel) (by decide +kernel) (by decide) r hr hrN) (by decide)
theorem pr_n : Pr 115792089237316195423570985008687907852837564279074904382605163141518161494337:=by
 refine pock (F:=174723607534414371449 * 341948486974166000522343609283189) (by decide) (fun r hr hrN => ?_) (by decide)
 have h0:=pock_pm 256 2 (by decide) pr_n1 (by decide) (by decide +kernel) (by decide +kernel) (by decide) r hr hrN
 have h1:=pock_pm 256 2 (by decide) pr_n2 (by decide) (by decide +kernel) (by decide +kernel) (by decide) r hr hrN
 exact Nat.Coprime.mul_dvd_of_dvd_of_dvd (by decide) h0 h1
end Nt
end
section
namespace Cu
open Go.RowKit
def fm (k : Nat) : Fp:=⟨k % pM,mod_lt_p k⟩
def fc {α : Type} (x : Nat) (f : Nat → α) : α:=match x with
 | 0 => f 0
 | n + 1 => f (n + 1)
theorem fc_eq {α : Type} (x : Nat) (f : Nat → α) : fc x f = f x:=by cases x <;> rfl
def ml (a b : Nat) : Nat:=a * b % pM
def sb (a b : Nat) : Nat:=(pM - b + a) % pM
def ad (a b : Nat) : Nat:=(a + b) % pM
def dbK {α : Type} (x y z : Nat) (k : Nat → Nat → Nat → α) : α :=
 fc (ml (ml x x) 3) fun u => fc (ml (ml x (ml y y)) 4) fun q => fc (sb (ml u u) (ad q q)) fun X => fc (sb (ml u (sb q X)) (ml (ml (ml y y) (ml y y)) 8)) fun Y => fc (ml (ml y z) 2) fun Z => k X Y Z
theorem dbK_eq {α : Type} (a : J) (k : Nat → Nat → Nat → α) : dbK a.x.val a.y.val a.z.val k = k (dblJ a).x.val (dblJ a).y.val (dblJ a).z.val:=by
 unfold dbK
 simp only [fc_eq]
 rfl
def bJ : J:=⟨gx,gy,1⟩
def adK {α : Type} (x y z : Nat) (k : Nat → Nat → Nat → α) : α :=
 cond (Nat.beq z 0) (k gx.val gy.val 1) <| fc (sb (ml gx.val (ml z z)) x) fun c => fc (sb (ml gy.val (ml (ml z z) z)) y) fun r =>
 cond (Nat.beq c 0 && Nat.beq r 0) (dbK x y z k) <| fc (ml (ml c c) c) fun d => fc (ml x (ml c c)) fun e =>
 fc (sb (sb (ml r r) d) (ad e e)) fun X => fc (sb (ml r (sb e X)) (ml y d)) fun Y => fc (ml z c) fun Z => k X Y Z
theorem one_ne : (1 : Fp) ≠ 0:=by decide +kernel
theorem uJ_b (a : J) : uJ a bJ = a.x:=by
 show a.x * (1 * 1) = a.x
 grobner
theorem vJ_b (a : J) : vJ a bJ = a.y:=by
 show a.y * (1 * 1 * 1) = a.y
 grobner
theorem zero_val (a : Fp) : Nat.beq a.val 0 = true ↔ a = 0:=by
 rw [Nat.beq_eq]
 exact ⟨fun h => Fin.ext h,fun h => by rw [h]; rfl⟩
theorem adK_eq {α : Type} (a : J) (k : Nat → Nat → Nat → α) : adK a.x.val a.y.val a.z.val k = k (addJ a bJ).x.val (addJ a bJ).y.val (addJ a bJ).z.val:=by
 unfold adK
 by_cases h : a.z = 0
 ·rw [(zero_val _).2 h,addJ_1 h]
  rfl
 ·rw [show Nat.beq a.z.val 0 = false from by cases e : Nat.beq a.z.val 0 with | false => rfl | true => exact absurd ((zero_val _).1 e) h]
  simp only [cond_false,fc_eq]
  have hc : cJ a bJ = gx * (a.z * a.z) - a.x:=by unfold cJ; rw [uJ_b]; rfl
  have hr : rJ a bJ = gy * (a.z * a.z * a.z) - a.y:=by unfold rJ; rw [vJ_b]; rfl
  have ec : sb (ml gx.val (ml a.z.val a.z.val)) a.x.val = (cJ a bJ).val:=by rw [hc]; rfl
  have er : sb (ml gy.val (ml (ml a.z.val a.z.val) a.z.val)) a.y.val = (rJ a bJ).val:=by rw [hr]; rfl
  rw [ec,er]
  by_cases hz : cJ a bJ = 0 ∧ rJ a bJ = 0
  ·rw [(zero_val _).2 hz.1,(zero_val _).2 hz.2,addJ_3 h one_ne hz.1 hz.2]
   exact dbK_eq a k
  ·have e : (Nat.beq (cJ a bJ).val 0 && Nat.beq (rJ a bJ).val 0) = false:=by
    cases q : (Nat.beq (cJ a bJ).val 0 && Nat.beq (rJ a bJ).val 0) with
    | false => rfl
    | true =>
     rw [Bool.and_eq_true] at q
     exact absurd ⟨(zero_val _).1 q.1,(zero_val _).1 q.2⟩ hz
   rw [e,addJ_4 h one_ne hz]
   simp only [cond_false]
   have s1 : szJ a bJ = a.z * cJ a bJ:=by
    show a.z * 1 * cJ a bJ = _
    grobner
   unfold sxJ syJ sxJ
   rw [s1,uJ_b,vJ_b]
   rfl
def gK {α : Type} (m : Nat) : Nat → Nat → Nat → Nat → (Nat → Nat → Nat → α) → α
 | 0,x,y,z,k => k x y z
 | i + 1,x,y,z,k => dbK x y z fun x y z => cond (Nat.beq (m / 2 ^ i % 2) 1) (adK x y z fun x y z => gK m i x y z k) (gK m i x y z k)
theorem bJ_rep : Ec.Rep bJ bP:=by
 show (1 : Fp) ≠ 0 ∧ gx = gx * (1 * 1) ∧ gy = gy * (1 * 1 * 1)
 exact ⟨one_ne,by grobner,by grobner⟩
theorem gK_rep {α : Type} (m : Nat) (k : Nat → Nat → Nat → α) : ∀ (i : Nat) (a : J) (t : Nat),Ec.Rep a (Ec.nm finv t bP) → ∃ a' : J,gK m i a.x.val a.y.val a.z.val k = k a'.x.val a'.y.val a'.z.val ∧ Ec.Rep a' (Ec.nm finv (t * 2 ^ i + m % 2 ^ i) bP)
 | 0,a,t,h => ⟨a,rfl,by rw [Nat.pow_zero,Nat.mul_one,Nat.mod_one,Nat.add_zero]; exact h⟩
 | i + 1,a,t,h => by
  have o:=bP_on.nm fld t
  have h2 : Ec.Rep (dblJ a) (Ec.nm finv (t + t) bP):=by
   rw [Ec.nm_add fld bP_on]
   exact dblJ_rep o h
  show ∃ a',dbK _ _ _ _ = _ ∧ _
  rw [dbK_eq,Nat.mod_pow_succ,Nat.pow_succ]
  by_cases hb : m / 2 ^ i % 2 = 1
  ·rw [show Nat.beq (m / 2 ^ i % 2) 1 = true from by rw [hb]; rfl,cond_true,adK_eq]
   have h3 : Ec.Rep (addJ (dblJ a) bJ) (Ec.nm finv (t + t + 1) bP):=by
    rw [Ec.nm_add fld bP_on,Ec.nm_one]
    exact addJ_rep (bP_on.nm fld _) bP_on h2 bJ_rep
   obtain ⟨a',e,r⟩:=gK_rep m k i _ _ h3
   refine ⟨a',e,?_⟩
   rw [show (t + t + 1) * 2 ^ i + m % 2 ^ i = t * (2 ^ i * 2) + (m % 2 ^ i + 2 ^ i * (m / 2 ^ i % 2)) from by rw [hb,Nat.mul_one,Nat.add_mul,Nat.one_mul,Nat.add_mul, ← Nat.mul_assoc,Nat.mul_two]; omega] at r
   exact r
  ·have h0 : m / 2 ^ i % 2 = 0:=by omega
   rw [h0]
   show ∃ a',gK m i _ _ _ k = _ ∧ _
   obtain ⟨a',e,r⟩:=gK_rep m k i _ _ h2
   refine ⟨a',e,?_⟩
   rw [show (t + t) * 2 ^ i + m % 2 ^ i = t * (2 ^ i * 2) + (m % 2 ^ i + 2 ^ i * 0) from by rw [Nat.mul_zero,Nat.add_mul, ← Nat.mul_assoc,Nat.mul_two]; omega] at r
   exact r
def oJ : J:=⟨0,0,0⟩
theorem oJ_rep : Ec.Rep oJ (Ec.nm finv 0 bP):=rfl
def nN : Nat:=115792089237316195423570985008687907852837564279074904382605163141518161494337
set_option maxRecDepth 100000 in
theorem nN_big : nN % 2 ^ 256 = nN:=by decide +kernel
set_option maxRecDepth 100000 in
theorem chain : gK nN 256 0 0 0 (fun _ _ z => z) = 0:=by decide +kernel
theorem gK_none {m : Nat} (hm : m % 2 ^ 256 = m) (h : gK m 256 0 0 0 (fun _ _ z => z) = 0) : Ec.nm finv m bP = none:=by
 obtain ⟨a,e,r⟩:=gK_rep m (fun _ _ z => z) 256 oJ 0 oJ_rep
 rw [Nat.zero_mul,Nat.zero_add,hm] at r
 have e' : gK m 256 0 0 0 (fun _ _ z => z) = a.z.val:=e
 rw [h] at e'
 have hz : a.z = 0:=Fin.ext e'.symm
 revert r
 cases Ec.nm finv m bP with
 | none => exact fun _ => rfl
 | some P =>
  obtain ⟨X,Y⟩:=P
  exact fun r => absurd hz r.1
def isK (X Y x y z : Nat) : Bool:=!Nat.beq z 0 && (Nat.beq (ml (X % pM) (ml z z)) x && Nat.beq (ml (Y % pM) (ml (ml z z) z)) y)
theorem gK_some {m X Y : Nat} (hm : m % 2 ^ 256 = m) (h : gK m 256 0 0 0 (isK X Y) = true) : Ec.nm finv m bP = some (fm X,fm Y):=by
 obtain ⟨a,e,r⟩:=gK_rep m (isK X Y) 256 oJ 0 oJ_rep
 rw [Nat.zero_mul,Nat.zero_add,hm] at r
 have e' : gK m 256 0 0 0 (isK X Y) = isK X Y a.x.val a.y.val a.z.val:=e
 rw [h] at e'
 have e2:=e'.symm
 unfold isK at e2
 rw [Bool.and_eq_true,Bool.and_eq_true,Bool.not_eq_true',Nat.beq_eq,Nat.beq_eq] at e2
 obtain ⟨h0,h1,h2⟩:=e2
 have hz : a.z ≠ 0:=fun q => by
  rw [(zero_val _).2 q] at h0
  cases h0
 have g1 : fm X * (a.z * a.z) = a.x:=Fin.ext h1
 have g2 : fm Y * (a.z * a.z * a.z) = a.y:=Fin.ext h2
 have hzz:=fld.ne_mul hz hz
 have can : ∀ {u v w : Fp},w ≠ 0 → u * w = v * w → u = v:=fun {u v w} hw q => by
  have q2 : (u - v) * w = 0:=by clear hw h h0 h1 h2 g1 g2 hz hzz e e' r hm; grobner
  rcases fld.zero q2 with q3 | q3
  ·clear hw h h0 h1 h2 g1 g2 hz hzz e e' r hm q q2; grobner
  ·exact absurd q3 hw
 revert r
 cases Ec.nm finv m bP with
 | none => exact fun r => absurd r hz
 | some P =>
  obtain ⟨U,V⟩:=P
  rintro ⟨_,r1,r2⟩
  have u1 : U = fm X:=can hzz (by rw [← r1,g1])
  have u2 : V = fm Y:=can (fld.ne_mul hzz hz) (by rw [← r2,g2])
  rw [u1,u2]
theorem n_base : Ec.nm finv nN bP = none:=gK_none nN_big chain
theorem prime_div (q : Nat) (hp : Nt.Pr q) (h1 : ¬ q = 0) (d : Nat) (h : d ∣ q) : d = 1 ∨ d = q:=by
 rcases Nat.lt_or_ge d q with hlt | hge
 ·left
  have h0 : 0 < d:=by
   rcases Nat.eq_zero_or_pos d with rfl | h0
   ·exact absurd (Nat.eq_zero_of_zero_dvd h) h1
   ·exact h0
  have:=hp.2 d h0 hlt
  rwa [Nat.gcd_eq_left h] at this
 ·right
  exact Nat.le_antisymm (Nat.le_of_dvd (by omega) h) hge
set_option maxRecDepth 100000 in
theorem prime_nN : Nt.Pr nN:=Nt.pr_n
theorem n_prime : ∀ d,d ∣ nN → d = 1 ∨ d = nN:=prime_div nN prime_nN (by decide +kernel)
theorem n_any {P : Pt} (hP : Ec.On P) : Ec.nm finv nN P = none :=
 Ec.all_order fld (by decide +kernel) bP_on (by unfold bP; exact fun h => by cases h) n_base n_prime (by decide +kernel) hP
theorem nm_modN {P : Pt} (hP : Ec.On P) (k : Nat) : Ec.nm finv (k % nN) P = Ec.nm finv k P:=Ec.nm_mod fld hP (n_any hP) k
end Cu
end
end Go.Proofs.YtfhcpdbahbbmaaaGreatDoor
