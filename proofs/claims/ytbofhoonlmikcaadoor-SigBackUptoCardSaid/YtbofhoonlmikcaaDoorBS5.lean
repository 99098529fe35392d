/-
  Texts of ours, put together: SigC.
-/
import Derived.Test.YtbofhoonlmikcaaDoorBS4
set_option linter.unusedVariables false
set_option linter.unusedSimpArgs false
section
namespace Go.Proofs.YtbofhoonlmikcaaDoor.Cu
open Go.RowKit Go.Proofs.YtbofhoonlmikcaaDoor Go.Proofs.YtbofhoonlmikcaaDoor.Sy

theorem xor_bv (w : World) (F : Slots) (o : Oper) (x y : Operand) (a b : UInt8) {yt : TypeId} (ho : o.op = .binOp .xor 5 x y yt) (hx : evF F x = bv a) (hy : evF F y = bv b) : (execOp (evF F) o).run Tryd.prog w = .ok (.value (bv (a ^^^ b))) w := by
  have h1 : (eqGuard .xor 5 x y (bv a) (bv b)).run Tryd.prog w = .ok () w := by
    unfold bv
    go_simp
  have h2 : (binOp .xor 5 (bv a) (bv b)).run Tryd.prog w = .ok (bv (a ^^^ b)) w := by
    have e := u8_xor_nat a.toNat b.toNat a.toNat_lt b.toNat_lt
    unfold bv
    rw [UInt8.toNat_xor]
    go_simp
  unfold execOp
  simp only [ho, hx, hy, Sem.run_bind, h1, h2, Result.andThen_ok, Sem.run_pure]
/-- the mask of secrets -/
def auxM : List UInt8 := Sh.taggedS auxNm.data.toList (List.replicate 32 0)
def xorS (l m : List UInt8) : List UInt8 := List.zipWith (· ^^^ ·) l m
/-- the number that hides the secret -/
def nonceS (d : Nat) (key m : List UInt8) : Nat := valB (Sh.taggedS nonceNm.data.toList (xorS (bytesS (d % Sc.pM)) auxM ++ key ++ m)) % Sc.pM
theorem tag1_c (w : World) (nm : ByteArray) (hnm : nm.size ≤ 1000000000) (g g1 : Nat) (t t1 : TypeId) (x : List UInt8) (hx : x.length = 32) (h1 : Blk w g1 t1 (x.map bv).toArray) (hb : Blk w g t #[.slice (some ⟨g1, 0, none⟩) 32 32]) (ht : Sh.TabAt w 0) :
    Calls Tryd.prog 22 #[.string nm, .slice (some ⟨g, 0, none⟩) 1 1] w (Gets w (.agg ((Sh.taggedS nm.data.toList x).map bv).toArray)) := by
  refine tag_c w nm hnm g t [⟨some ⟨g1, 0, none⟩, x, 32⟩] 1 1 x (by simp [Sh.cat]) rfl ?_ (fun y hy => by rw [List.mem_singleton.1 hy]; exact ok_key h1 hx) (by rw [hx]; decide) (by decide) ht
  rw [List.map_cons, List.map_nil, val_key hx]
  exact hb
set_option maxHeartbeats 4000000 in
set_option maxRecDepth 100000 in
theorem nonce_any (w : World) (d : Nat) (hd : d < K4) (key : List UInt8) (hkey : key.length = 32) (A : Option Addr) (m : List UInt8) (n c : Nat) (hn : m.length = n) (hm : n ≤ 999999900) (hc : n ≤ c) (hc2 : c ≤ 9223372036854775807) (hs : Sh.Src w A m) (ht : Sh.TabAt w 0) : Calls Tryd.prog 10 #[fv d, .agg (key.map bv).toArray, .slice A n c] w (Gets w (fv (nonceS d key m))) := by
  obtain ⟨a0, a1, a2, a3, a4, a5, a6, a7, a8, a9, a10, a11, a12, a13, a14, a15, a16, a17, a18, a19, a20, a21, a22, a23, a24, a25, a26, a27, a28, a29, a30, a31, hT⟩ := list32 (bytesS (d % Sc.pM)) (bytesS_length _)
  obtain ⟨o0, o1, o2, o3, o4, o5, o6, o7, o8, o9, o10, o11, o12, o13, o14, o15, o16, o17, o18, o19, o20, o21, o22, o23, o24, o25, o26, o27, o28, o29, o30, o31, hM⟩ := list32 (Sh.taggedS auxNm.data.toList (List.replicate 32 0)) (tagS_length _ _)
  refine Sy.enter (args := [fv d, .agg (key.map bv).toArray, .slice A n c]) Tryd.func10 rfl kL ?_
  refine sC ?_
  refine sM 24 (fcs d) (fun g0 => ?_)
  refine sM 31 (key.map bv).toArray (fun g1 => ?_)
  refine sM 24 (fcs 0) (fun g2 => ?_)
  refine sA ?_
  refine Sy.make kR 30 (.int .u8 0 :: .int .u8 0 :: [.int .u8 0, .int .u8 0, .int .u8 0, .int .u8 0, .int .u8 0, .int .u8 0, .int .u8 0, .int .u8 0, .int .u8 0, .int .u8 0, .int .u8 0, .int .u8 0, .int .u8 0, .int .u8 0, .int .u8 0, .int .u8 0, .int .u8 0, .int .u8 0, .int .u8 0, .int .u8 0, .int .u8 0, .int .u8 0, .int .u8 0, .int .u8 0, .int .u8 0, .int .u8 0, .int .u8 0, .int .u8 0, .int .u8 0, .int .u8 0]).toArray ptr kF (fun g3 => ?_)
  refine sA ?_
  refine sP (.slice (some ⟨g3, 0, none⟩) 32 32) ?_
  refine Sy.make kR 25 #[.slice (some ⟨g3, 0, none⟩) 32 32] (fun g => .slice (some ⟨g, 0, none⟩) 1 1) kF (fun g4 => ?_)
  refine sS (.agg ((bv o0 :: bv o1 :: [bv o2, bv o3, bv o4, bv o5, bv o6, bv o7, bv o8, bv o9, bv o10, bv o11, bv o12, bv o13, bv o14, bv o15, bv o16, bv o17, bv o18, bv o19, bv o20, bv o21, bv o22, bv o23, bv o24, bv o25, bv o26, bv o27, bv o28, bv o29, bv o30, bv o31]) : List Value).toArray) (qG 22 #[.string auxNm, .slice (some ⟨g4, 0, none⟩) 1 1] (fun w hw => by have q := tag1_c w auxNm (by decide) g4 g3 _ _ (List.replicate 32 0) rfl (hw.get (i := 3) rfl) (hw.get (i := 4) rfl) (ht.below hw.below ht.lt); rw [hM] at q; exact q)) ?_
  refine sM 56 (.int .u8 0 :: .int .u8 0 :: [.int .u8 0, .int .u8 0, .int .u8 0, .int .u8 0, .int .u8 0, .int .u8 0, .int .u8 0, .int .u8 0, .int .u8 0, .int .u8 0, .int .u8 0, .int .u8 0, .int .u8 0, .int .u8 0, .int .u8 0, .int .u8 0, .int .u8 0, .int .u8 0, .int .u8 0, .int .u8 0, .int .u8 0, .int .u8 0, .int .u8 0, .int .u8 0, .int .u8 0, .int .u8 0, .int .u8 0, .int .u8 0, .int .u8 0, .int .u8 0]).toArray (fun g5 => ?_)
  refine sW 5 g5 56 (.int .u8 0 :: .int .u8 0 :: [.int .u8 0, .int .u8 0, .int .u8 0, .int .u8 0, .int .u8 0, .int .u8 0, .int .u8 0, .int .u8 0, .int .u8 0, .int .u8 0, .int .u8 0, .int .u8 0, .int .u8 0, .int .u8 0, .int .u8 0, .int .u8 0, .int .u8 0, .int .u8 0, .int .u8 0, .int .u8 0, .int .u8 0, .int .u8 0, .int .u8 0, .int .u8 0, .int .u8 0, .int .u8 0, .int .u8 0, .int .u8 0, .int .u8 0, .int .u8 0]).toArray (bv o0 :: bv o1 :: [bv o2, bv o3, bv o4, bv o5, bv o6, bv o7, bv o8, bv o9, bv o10, bv o11, bv o12, bv o13, bv o14, bv o15, bv o16, bv o17, bv o18, bv o19, bv o20, bv o21, bv o22, bv o23, bv o24, bv o25, bv o26, bv o27, bv o28, bv o29, bv o30, bv o31]).toArray (wS 0 56 (bv o0 :: bv o1 :: [bv o2, bv o3, bv o4, bv o5, bv o6, bv o7, bv o8, bv o9, bv o10, bv o11, bv o12, bv o13, bv o14, bv o15, bv o16, bv o17, bv o18, bv o19, bv o20, bv o21, bv o22, bv o23, bv o24, bv o25, bv o26, bv o27, bv o28, bv o29, bv o30, bv o31]).toArray rfl) ?_
  refine sA ?_
  refine sS (fv d) (qL 0 g0 0 4 24 24 (fcs d) rfl Tryd.underlying24) <| sS (.agg ((bv a0 :: bv a1 :: [bv a2, bv a3, bv a4, bv a5, bv a6, bv a7, bv a8, bv a9, bv a10, bv a11, bv a12, bv a13, bv a14, bv a15, bv a16, bv a17, bv a18, bv a19, bv a20, bv a21, bv a22, bv a23, bv a24, bv a25, bv a26, bv a27, bv a28, bv a29, bv a30, bv a31]) : List Value).toArray) (qF 18 #[fv d] (fun w => by have q := Sc.bytes_any w d hd; rw [hT] at q; exact q)) ?_
  refine Sy.make kR 30 (.int .u8 0 :: .int .u8 0 :: [.int .u8 0, .int .u8 0, .int .u8 0, .int .u8 0, .int .u8 0, .int .u8 0, .int .u8 0, .int .u8 0, .int .u8 0, .int .u8 0, .int .u8 0, .int .u8 0, .int .u8 0, .int .u8 0, .int .u8 0, .int .u8 0, .int .u8 0, .int .u8 0, .int .u8 0, .int .u8 0, .int .u8 0, .int .u8 0, .int .u8 0, .int .u8 0, .int .u8 0, .int .u8 0, .int .u8 0, .int .u8 0, .int .u8 0, .int .u8 0]).toArray ptr kF (fun g6 => ?_)
  refine Sy.write kR 6 g6 30 (.int .u8 0 :: .int .u8 0 :: [.int .u8 0, .int .u8 0, .int .u8 0, .int .u8 0, .int .u8 0, .int .u8 0, .int .u8 0, .int .u8 0, .int .u8 0, .int .u8 0, .int .u8 0, .int .u8 0, .int .u8 0, .int .u8 0, .int .u8 0, .int .u8 0, .int .u8 0, .int .u8 0, .int .u8 0, .int .u8 0, .int .u8 0, .int .u8 0, .int .u8 0, .int .u8 0, .int .u8 0, .int .u8 0, .int .u8 0, .int .u8 0, .int .u8 0, .int .u8 0]).toArray (bv a0 :: bv a1 :: [bv a2, bv a3, bv a4, bv a5, bv a6, bv a7, bv a8, bv a9, bv a10, bv a11, bv a12, bv a13, bv a14, bv a15, bv a16, bv a17, bv a18, bv a19, bv a20, bv a21, bv a22, bv a23, bv a24, bv a25, bv a26, bv a27, bv a28, bv a29, bv a30, bv a31]).toArray kR (Writes.store 0 30 (bv a0 :: bv a1 :: [bv a2, bv a3, bv a4, bv a5, bv a6, bv a7, bv a8, bv a9, bv a10, bv a11, bv a12, bv a13, bv a14, bv a15, bv a16, bv a17, bv a18, bv a19, bv a20, bv a21, bv a22, bv a23, bv a24, bv a25, bv a26, bv a27, bv a28, bv a29, bv a30, bv a31]).toArray _ _ rfl kR kR kR kL kR kR) ?_
  refine sG ?_
  refine Sy.seq ?_
  refine sC ?_
  refine sP (.int .i64 0) ?_
  refine sG ?_
  refine Sy.block ?_
  refine Sy.loopN 33 ?_
  refine Sy.tidyR (G := [(2, .slice A n c), (4, .pointer (some ⟨g1, 0, none⟩)), (6, .pointer (some ⟨g2, 0, none⟩)), (8, .pointer (some ⟨g5, 0, none⟩)), (9, .pointer (some ⟨g6, 0, none⟩)), (16, .int .i64 0)]) (M := [(g1, 31, (key.map bv).toArray), (g2, 24, (fcs 0)), (g5, 56, (bv o0 :: bv o1 :: [bv o2, bv o3, bv o4, bv o5, bv o6, bv o7, bv o8, bv o9, bv o10, bv o11, bv o12, bv o13, bv o14, bv o15, bv o16, bv o17, bv o18, bv o19, bv o20, bv o21, bv o22, bv o23, bv o24, bv o25, bv o26, bv o27, bv o28, bv o29, bv o30, bv o31]).toArray), (g6, 30, (bv a0 :: bv a1 :: [bv a2, bv a3, bv a4, bv a5, bv a6, bv a7, bv a8, bv a9, bv a10, bv a11, bv a12, bv a13, bv a14, bv a15, bv a16, bv a17, bv a18, bv a19, bv a20, bv a21, bv a22, bv a23, bv a24, bv a25, bv a26, bv a27, bv a28, bv a29, bv a30, bv a31]).toArray)]) [false, true, true, false, false, true, true] kR (all_cons kR (all_cons kR (all_cons kR (all_cons kR (all_cons kR (all_cons kR all_nil)))))) ?_
  refine Sy.round ?_
  refine sC ?_
  refine sP (.bool true) ?_
  refine sG ?_
  refine Sy.seq ?_
  refine sT ?_
  refine Sy.skip ?_
  refine Sy.then_ ?_
  refine Sy.seq ?_
  refine Sy.block ?_
  refine sC ?_
  refine sP (.int .i64 0) <| sP (.int .i64 0) ?_
  refine sG ?_
  refine Sy.regionD (fun j => j == 8) kR ?_
  refine sZ 0 rfl (.int .i64 0) <| sZ 1 rfl (.pointer (some ⟨g6, 0, none⟩)) <| sD 2 rfl (bv a0) (Quiet.cell 3 g6 0 30 5 (bv a0 :: bv a1 :: [bv a2, bv a3, bv a4, bv a5, bv a6, bv a7, bv a8, bv a9, bv a10, bv a11, bv a12, bv a13, bv a14, bv a15, bv a16, bv a17, bv a18, bv a19, bv a20, bv a21, bv a22, bv a23, bv a24, bv a25, bv a26, bv a27, bv a28, bv a29, bv a30, bv a31]).toArray _ _ rfl kR kR Tryd.underlying5 rfl _ kR) <| sZ 3 rfl (.int .i64 0) <| sZ 4 rfl (.pointer (some ⟨g5, 0, none⟩)) <| sD 5 rfl (bv o0) (qC 2 g5 0 56 5 (bv o0 :: bv o1 :: [bv o2, bv o3, bv o4, bv o5, bv o6, bv o7, bv o8, bv o9, bv o10, bv o11, bv o12, bv o13, bv o14, bv o15, bv o16, bv o17, bv o18, bv o19, bv o20, bv o21, bv o22, bv o23, bv o24, bv o25, bv o26, bv o27, bv o28, bv o29, bv o30, bv o31]).toArray rfl Tryd.underlying5) <| sD 6 rfl (bv (a0 ^^^ o0)) (Quiet.pure (fun w => xor_bv w _ _ _ _ a0 o0 rfl rfl rfl)) <| sZ 7 rfl (.pointer (some ⟨g6, 0, none⟩)) ?_
  refine Sy.writeD 8 rfl kR (by rfl) kR 3 g6 30 (bv a0 :: bv a1 :: [bv a2, bv a3, bv a4, bv a5, bv a6, bv a7, bv a8, bv a9, bv a10, bv a11, bv a12, bv a13, bv a14, bv a15, bv a16, bv a17, bv a18, bv a19, bv a20, bv a21, bv a22, bv a23, bv a24, bv a25, bv a26, bv a27, bv a28, bv a29, bv a30, bv a31]).toArray (bv (a0 ^^^ o0) :: bv a1 :: [bv a2, bv a3, bv a4, bv a5, bv a6, bv a7, bv a8, bv a9, bv a10, bv a11, bv a12, bv a13, bv a14, bv a15, bv a16, bv a17, bv a18, bv a19, bv a20, bv a21, bv a22, bv a23, bv a24, bv a25, bv a26, bv a27, bv a28, bv a29, bv a30, bv a31]).toArray kR (wO 0 5 (bv (a0 ^^^ o0)) rfl) ?_
  refine sE ?_
  refine Sy.in_ ?_
  refine Sy.then_ ?_
  refine Sy.region ?_
  refine sP (.int .i64 1) <| sP (.int .i64 1) ?_
  refine Sy.nil ?_
  refine Sy.again ?_
  refine Sy.tidyR (G := [(2, .slice A n c), (4, .pointer (some ⟨g1, 0, none⟩)), (6, .pointer (some ⟨g2, 0, none⟩)), (8, .pointer (some ⟨g5, 0, none⟩)), (9, .pointer (some ⟨g6, 0, none⟩)), (16, .int .i64 1)]) (M := [(g1, 31, (key.map bv).toArray), (g2, 24, (fcs 0)), (g5, 56, (bv o0 :: bv o1 :: [bv o2, bv o3, bv o4, bv o5, bv o6, bv o7, bv o8, bv o9, bv o10, bv o11, bv o12, bv o13, bv o14, bv o15, bv o16, bv o17, bv o18, bv o19, bv o20, bv o21, bv o22, bv o23, bv o24, bv o25, bv o26, bv o27, bv o28, bv o29, bv o30, bv o31]).toArray), (g6, 30, (bv (a0 ^^^ o0) :: bv a1 :: [bv a2, bv a3, bv a4, bv a5, bv a6, bv a7, bv a8, bv a9, bv a10, bv a11, bv a12, bv a13, bv a14, bv a15, bv a16, bv a17, bv a18, bv a19, bv a20, bv a21, bv a22, bv a23, bv a24, bv a25, bv a26, bv a27, bv a28, bv a29, bv a30, bv a31]).toArray)]) [true, true, true, true] kR (all_cons kR (all_cons kR (all_cons kR (all_cons kR (all_cons kR (all_cons kR all_nil)))))) ?_
  refine Sy.round ?_
  refine sC ?_
  refine sP (.bool true) ?_
  refine sG ?_
  refine Sy.seq ?_
  refine sT ?_
  refine Sy.skip ?_
  refine Sy.then_ ?_
  refine Sy.seq ?_
  refine Sy.block ?_
  refine sC ?_
  refine sP (.int .i64 1) <| sP (.int .i64 1) ?_
  refine sG ?_
  refine Sy.regionD (fun j => j == 8) kR ?_
  refine sZ 0 rfl (.int .i64 1) <| sZ 1 rfl (.pointer (some ⟨g6, 1, none⟩)) <| sD 2 rfl (bv a1) (Quiet.cell 3 g6 1 30 5 (bv (a0 ^^^ o0) :: bv a1 :: [bv a2, bv a3, bv a4, bv a5, bv a6, bv a7, bv a8, bv a9, bv a10, bv a11, bv a12, bv a13, bv a14, bv a15, bv a16, bv a17, bv a18, bv a19, bv a20, bv a21, bv a22, bv a23, bv a24, bv a25, bv a26, bv a27, bv a28, bv a29, bv a30, bv a31]).toArray _ _ rfl kR kR Tryd.underlying5 rfl _ kR) <| sZ 3 rfl (.int .i64 1) <| sZ 4 rfl (.pointer (some ⟨g5, 1, none⟩)) <| sD 5 rfl (bv o1) (qC 2 g5 1 56 5 (bv o0 :: bv o1 :: [bv o2, bv o3, bv o4, bv o5, bv o6, bv o7, bv o8, bv o9, bv o10, bv o11, bv o12, bv o13, bv o14, bv o15, bv o16, bv o17, bv o18, bv o19, bv o20, bv o21, bv o22, bv o23, bv o24, bv o25, bv o26, bv o27, bv o28, bv o29, bv o30, bv o31]).toArray rfl Tryd.underlying5) <| sD 6 rfl (bv (a1 ^^^ o1)) (Quiet.pure (fun w => xor_bv w _ _ _ _ a1 o1 rfl rfl rfl)) <| sZ 7 rfl (.pointer (some ⟨g6, 1, none⟩)) ?_
  refine Sy.writeD 8 rfl kR (by rfl) kR 3 g6 30 (bv (a0 ^^^ o0) :: bv a1 :: [bv a2, bv a3, bv a4, bv a5, bv a6, bv a7, bv a8, bv a9, bv a10, bv a11, bv a12, bv a13, bv a14, bv a15, bv a16, bv a17, bv a18, bv a19, bv a20, bv a21, bv a22, bv a23, bv a24, bv a25, bv a26, bv a27, bv a28, bv a29, bv a30, bv a31]).toArray (bv (a0 ^^^ o0) :: bv (a1 ^^^ o1) :: [bv a2, bv a3, bv a4, bv a5, bv a6, bv a7, bv a8, bv a9, bv a10, bv a11, bv a12, bv a13, bv a14, bv a15, bv a16, bv a17, bv a18, bv a19, bv a20, bv a21, bv a22, bv a23, bv a24, bv a25, bv a26, bv a27, bv a28, bv a29, bv a30, bv a31]).toArray kR (wO 1 5 (bv (a1 ^^^ o1)) rfl) ?_
  refine sE ?_
  refine Sy.in_ ?_
  refine Sy.then_ ?_
  refine Sy.region ?_
  refine sP (.int .i64 2) <| sP (.int .i64 2) ?_
  refine Sy.nil ?_
  refine Sy.again ?_
  refine Sy.tidyR (G := [(2, .slice A n c), (4, .pointer (some ⟨g1, 0, none⟩)), (6, .pointer (some ⟨g2, 0, none⟩)), (8, .pointer (some ⟨g5, 0, none⟩)), (9, .pointer (some ⟨g6, 0, none⟩)), (16, .int .i64 2)]) (M := [(g1, 31, (key.map bv).toArray), (g2, 24, (fcs 0)), (g5, 56, (bv o0 :: bv o1 :: [bv o2, bv o3, bv o4, bv o5, bv o6, bv o7, bv o8, bv o9, bv o10, bv o11, bv o12, bv o13, bv o14, bv o15, bv o16, bv o17, bv o18, bv o19, bv o20, bv o21, bv o22, bv o23, bv o24, bv o25, bv o26, bv o27, bv o28, bv o29, bv o30, bv o31]).toArray), (g6, 30, (bv (a0 ^^^ o0) :: bv (a1 ^^^ o1) :: [bv a2, bv a3, bv a4, bv a5, bv a6, bv a7, bv a8, bv a9, bv a10, bv a11, bv a12, bv a13, bv a14, bv a15, bv a16, bv a17, bv a18, bv a19, bv a20, bv a21, bv a22, bv a23, bv a24, bv a25, bv a26, bv a27, bv a28, bv a29, bv a30, bv a31]).toArray)]) [true, true, true, true] kR (all_cons kR (all_cons kR (all_cons kR (all_cons kR (all_cons kR (all_cons kR all_nil)))))) ?_
  refine Sy.round ?_
  refine sC ?_
  refine sP (.bool true) ?_
  refine sG ?_
  refine Sy.seq ?_
  refine sT ?_
  refine Sy.skip ?_
  refine Sy.then_ ?_
  refine Sy.seq ?_
  refine Sy.block ?_
  refine sC ?_
  refine sP (.int .i64 2) <| sP (.int .i64 2) ?_
  refine sG ?_
  refine Sy.regionD (fun j => j == 8) kR ?_
  refine sZ 0 rfl (.int .i64 2) <| sZ 1 rfl (.pointer (some ⟨g6, 2, none⟩)) <| sD 2 rfl (bv a2) (Quiet.cell 3 g6 2 30 5 (bv (a0 ^^^ o0) :: bv (a1 ^^^ o1) :: [bv a2, bv a3, bv a4, bv a5, bv a6, bv a7, bv a8, bv a9, bv a10, bv a11, bv a12, bv a13, bv a14, bv a15, bv a16, bv a17, bv a18, bv a19, bv a20, bv a21, bv a22, bv a23, bv a24, bv a25, bv a26, bv a27, bv a28, bv a29, bv a30, bv a31]).toArray _ _ rfl kR kR Tryd.underlying5 rfl _ kR) <| sZ 3 rfl (.int .i64 2) <| sZ 4 rfl (.pointer (some ⟨g5, 2, none⟩)) <| sD 5 rfl (bv o2) (qC 2 g5 2 56 5 (bv o0 :: bv o1 :: [bv o2, bv o3, bv o4, bv o5, bv o6, bv o7, bv o8, bv o9, bv o10, bv o11, bv o12, bv o13, bv o14, bv o15, bv o16, bv o17, bv o18, bv o19, bv o20, bv o21, bv o22, bv o23, bv o24, bv o25, bv o26, bv o27, bv o28, bv o29, bv o30, bv o31]).toArray rfl Tryd.underlying5) <| sD 6 rfl (bv (a2 ^^^ o2)) (Quiet.pure (fun w => xor_bv w _ _ _ _ a2 o2 rfl rfl rfl)) <| sZ 7 rfl (.pointer (some ⟨g6, 2, none⟩)) ?_
  refine Sy.writeD 8 rfl kR (by rfl) kR 3 g6 30 (bv (a0 ^^^ o0) :: bv (a1 ^^^ o1) :: [bv a2, bv a3, bv a4, bv a5, bv a6, bv a7, bv a8, bv a9, bv a10, bv a11, bv a12, bv a13, bv a14, bv a15, bv a16, bv a17, bv a18, bv a19, bv a20, bv a21, bv a22, bv a23, bv a24, bv a25, bv a26, bv a27, bv a28, bv a29, bv a30, bv a31]).toArray (bv (a0 ^^^ o0) :: bv (a1 ^^^ o1) :: [bv (a2 ^^^ o2), bv a3, bv a4, bv a5, bv a6, bv a7, bv a8, bv a9, bv a10, bv a11, bv a12, bv a13, bv a14, bv a15, bv a16, bv a17, bv a18, bv a19, bv a20, bv a21, bv a22, bv a23, bv a24, bv a25, bv a26, bv a27, bv a28, bv a29, bv a30, bv a31]).toArray kR (wO 2 5 (bv (a2 ^^^ o2)) rfl) ?_
  refine sE ?_
  refine Sy.in_ ?_
  refine Sy.then_ ?_
  refine Sy.region ?_
  refine sP (.int .i64 3) <| sP (.int .i64 3) ?_
  refine Sy.nil ?_
  refine Sy.again ?_
  refine Sy.tidyR (G := [(2, .slice A n c), (4, .pointer (some ⟨g1, 0, none⟩)), (6, .pointer (some ⟨g2, 0, none⟩)), (8, .pointer (some ⟨g5, 0, none⟩)), (9, .pointer (some ⟨g6, 0, none⟩)), (16, .int .i64 3)]) (M := [(g1, 31, (key.map bv).toArray), (g2, 24, (fcs 0)), (g5, 56, (bv o0 :: bv o1 :: [bv o2, bv o3, bv o4, bv o5, bv o6, bv o7, bv o8, bv o9, bv o10, bv o11, bv o12, bv o13, bv o14, bv o15, bv o16, bv o17, bv o18, bv o19, bv o20, bv o21, bv o22, bv o23, bv o24, bv o25, bv o26, bv o27, bv o28, bv o29, bv o30, bv o31]).toArray), (g6, 30, (bv (a0 ^^^ o0) :: bv (a1 ^^^ o1) :: [bv (a2 ^^^ o2), bv a3, bv a4, bv a5, bv a6, bv a7, bv a8, bv a9, bv a10, bv a11, bv a12, bv a13, bv a14, bv a15, bv a16, bv a17, bv a18, bv a19, bv a20, bv a21, bv a22, bv a23, bv a24, bv a25, bv a26, bv a27, bv a28, bv a29, bv a30, bv a31]).toArray)]) [true, true, true, true] kR (all_cons kR (all_cons kR (all_cons kR (all_cons kR (all_cons kR (all_cons kR all_nil)))))) ?_
  refine Sy.round ?_
  refine sC ?_
  refine sP (.bool true) ?_
  refine sG ?_
  refine Sy.seq ?_
  refine sT ?_
  refine Sy.skip ?_
  refine Sy.then_ ?_
  refine Sy.seq ?_
  refine Sy.block ?_
  refine sC ?_
  refine sP (.int .i64 3) <| sP (.int .i64 3) ?_
  refine sG ?_
  refine Sy.regionD (fun j => j == 8) kR ?_
  refine sZ 0 rfl (.int .i64 3) <| sZ 1 rfl (.pointer (some ⟨g6, 3, none⟩)) <| sD 2 rfl (bv a3) (Quiet.cell 3 g6 3 30 5 (bv (a0 ^^^ o0) :: bv (a1 ^^^ o1) :: [bv (a2 ^^^ o2), bv a3, bv a4, bv a5, bv a6, bv a7, bv a8, bv a9, bv a10, bv a11, bv a12, bv a13, bv a14, bv a15, bv a16, bv a17, bv a18, bv a19, bv a20, bv a21, bv a22, bv a23, bv a24, bv a25, bv a26, bv a27, bv a28, bv a29, bv a30, bv a31]).toArray _ _ rfl kR kR Tryd.underlying5 rfl _ kR) <| sZ 3 rfl (.int .i64 3) <| sZ 4 rfl (.pointer (some ⟨g5, 3, none⟩)) <| sD 5 rfl (bv o3) (qC 2 g5 3 56 5 (bv o0 :: bv o1 :: [bv o2, bv o3, bv o4, bv o5, bv o6, bv o7, bv o8, bv o9, bv o10, bv o11, bv o12, bv o13, bv o14, bv o15, bv o16, bv o17, bv o18, bv o19, bv o20, bv o21, bv o22, bv o23, bv o24, bv o25, bv o26, bv o27, bv o28, bv o29, bv o30, bv o31]).toArray rfl Tryd.underlying5) <| sD 6 rfl (bv (a3 ^^^ o3)) (Quiet.pure (fun w => xor_bv w _ _ _ _ a3 o3 rfl rfl rfl)) <| sZ 7 rfl (.pointer (some ⟨g6, 3, none⟩)) ?_
  refine Sy.writeD 8 rfl kR (by rfl) kR 3 g6 30 (bv (a0 ^^^ o0) :: bv (a1 ^^^ o1) :: [bv (a2 ^^^ o2), bv a3, bv a4, bv a5, bv a6, bv a7, bv a8, bv a9, bv a10, bv a11, bv a12, bv a13, bv a14, bv a15, bv a16, bv a17, bv a18, bv a19, bv a20, bv a21, bv a22, bv a23, bv a24, bv a25, bv a26, bv a27, bv a28, bv a29, bv a30, bv a31]).toArray (bv (a0 ^^^ o0) :: bv (a1 ^^^ o1) :: [bv (a2 ^^^ o2), bv (a3 ^^^ o3), bv a4, bv a5, bv a6, bv a7, bv a8, bv a9, bv a10, bv a11, bv a12, bv a13, bv a14, bv a15, bv a16, bv a17, bv a18, bv a19, bv a20, bv a21, bv a22, bv a23, bv a24, bv a25, bv a26, bv a27, bv a28, bv a29, bv a30, bv a31]).toArray kR (wO 3 5 (bv (a3 ^^^ o3)) rfl) ?_
  refine sE ?_
  refine Sy.in_ ?_
  refine Sy.then_ ?_
  refine Sy.region ?_
  refine sP (.int .i64 4) <| sP (.int .i64 4) ?_
  refine Sy.nil ?_
  refine Sy.again ?_
  refine Sy.tidyR (G := [(2, .slice A n c), (4, .pointer (some ⟨g1, 0, none⟩)), (6, .pointer (some ⟨g2, 0, none⟩)), (8, .pointer (some ⟨g5, 0, none⟩)), (9, .pointer (some ⟨g6, 0, none⟩)), (16, .int .i64 4)]) (M := [(g1, 31, (key.map bv).toArray), (g2, 24, (fcs 0)), (g5, 56, (bv o0 :: bv o1 :: [bv o2, bv o3, bv o4, bv o5, bv o6, bv o7, bv o8, bv o9, bv o10, bv o11, bv o12, bv o13, bv o14, bv o15, bv o16, bv o17, bv o18, bv o19, bv o20, bv o21, bv o22, bv o23, bv o24, bv o25, bv o26, bv o27, bv o28, bv o29, bv o30, bv o31]).toArray), (g6, 30, (bv (a0 ^^^ o0) :: bv (a1 ^^^ o1) :: [bv (a2 ^^^ o2), bv (a3 ^^^ o3), bv a4, bv a5, bv a6, bv a7, bv a8, bv a9, bv a10, bv a11, bv a12, bv a13, bv a14, bv a15, bv a16, bv a17, bv a18, bv a19, bv a20, bv a21, bv a22, bv a23, bv a24, bv a25, bv a26, bv a27, bv a28, bv a29, bv a30, bv a31]).toArray)]) [true, true, true, true] kR (all_cons kR (all_cons kR (all_cons kR (all_cons kR (all_cons kR (all_cons kR all_nil)))))) ?_
  refine Sy.round ?_
  refine sC ?_
  refine sP (.bool true) ?_
  refine sG ?_
  refine Sy.seq ?_
  refine sT ?_
  refine Sy.skip ?_
  refine Sy.then_ ?_
  refine Sy.seq ?_
  refine Sy.block ?_
  refine sC ?_
  refine sP (.int .i64 4) <| sP (.int .i64 4) ?_
  refine sG ?_
  refine Sy.regionD (fun j => j == 8) kR ?_
  refine sZ 0 rfl (.int .i64 4) <| sZ 1 rfl (.pointer (some ⟨g6, 4, none⟩)) <| sD 2 rfl (bv a4) (Quiet.cell 3 g6 4 30 5 (bv (a0 ^^^ o0) :: bv (a1 ^^^ o1) :: [bv (a2 ^^^ o2), bv (a3 ^^^ o3), bv a4, bv a5, bv a6, bv a7, bv a8, bv a9, bv a10, bv a11, bv a12, bv a13, bv a14, bv a15, bv a16, bv a17, bv a18, bv a19, bv a20, bv a21, bv a22, bv a23, bv a24, bv a25, bv a26, bv a27, bv a28, bv a29, bv a30, bv a31]).toArray _ _ rfl kR kR Tryd.underlying5 rfl _ kR) <| sZ 3 rfl (.int .i64 4) <| sZ 4 rfl (.pointer (some ⟨g5, 4, none⟩)) <| sD 5 rfl (bv o4) (qC 2 g5 4 56 5 (bv o0 :: bv o1 :: [bv o2, bv o3, bv o4, bv o5, bv o6, bv o7, bv o8, bv o9, bv o10, bv o11, bv o12, bv o13, bv o14, bv o15, bv o16, bv o17, bv o18, bv o19, bv o20, bv o21, bv o22, bv o23, bv o24, bv o25, bv o26, bv o27, bv o28, bv o29, bv o30, bv o31]).toArray rfl Tryd.underlying5) <| sD 6 rfl (bv (a4 ^^^ o4)) (Quiet.pure (fun w => xor_bv w _ _ _ _ a4 o4 rfl rfl rfl)) <| sZ 7 rfl (.pointer (some ⟨g6, 4, none⟩)) ?_
  refine Sy.writeD 8 rfl kR (by rfl) kR 3 g6 30 (bv (a0 ^^^ o0) :: bv (a1 ^^^ o1) :: [bv (a2 ^^^ o2), bv (a3 ^^^ o3), bv a4, bv a5, bv a6, bv a7, bv a8, bv a9, bv a10, bv a11, bv a12, bv a13, bv a14, bv a15, bv a16, bv a17, bv a18, bv a19, bv a20, bv a21, bv a22, bv a23, bv a24, bv a25, bv a26, bv a27, bv a28, bv a29, bv a30, bv a31]).toArray (bv (a0 ^^^ o0) :: bv (a1 ^^^ o1) :: [bv (a2 ^^^ o2), bv (a3 ^^^ o3), bv (a4 ^^^ o4), bv a5, bv a6, bv a7, bv a8, bv a9, bv a10, bv a11, bv a12, bv a13, bv a14, bv a15, bv a16, bv a17, bv a18, bv a19, bv a20, bv a21, bv a22, bv a23, bv a24, bv a25, bv a26, bv a27, bv a28, bv a29, bv a30, bv a31]).toArray kR (wO 4 5 (bv (a4 ^^^ o4)) rfl) ?_
  refine sE ?_
  refine Sy.in_ ?_
  refine Sy.then_ ?_
  refine Sy.region ?_
  refine sP (.int .i64 5) <| sP (.int .i64 5) ?_
  refine Sy.nil ?_
  refine Sy.again ?_
  refine Sy.tidyR (G := [(2, .slice A n c), (4, .pointer (some ⟨g1, 0, none⟩)), (6, .pointer (some ⟨g2, 0, none⟩)), (8, .pointer (some ⟨g5, 0, none⟩)), (9, .pointer (some ⟨g6, 0, none⟩)), (16, .int .i64 5)]) (M := [(g1, 31, (key.map bv).toArray), (g2, 24, (fcs 0)), (g5, 56, (bv o0 :: bv o1 :: [bv o2, bv o3, bv o4, bv o5, bv o6, bv o7, bv o8, bv o9, bv o10, bv o11, bv o12, bv o13, bv o14, bv o15, bv o16, bv o17, bv o18, bv o19, bv o20, bv o21, bv o22, bv o23, bv o24, bv o25, bv o26, bv o27, bv o28, bv o29, bv o30, bv o31]).toArray), (g6, 30, (bv (a0 ^^^ o0) :: bv (a1 ^^^ o1) :: [bv (a2 ^^^ o2), bv (a3 ^^^ o3), bv (a4 ^^^ o4), bv a5, bv a6, bv a7, bv a8, bv a9, bv a10, bv a11, bv a12, bv a13, bv a14, bv a15, bv a16, bv a17, bv a18, bv a19, bv a20, bv a21, bv a22, bv a23, bv a24, bv a25, bv a26, bv a27, bv a28, bv a29, bv a30, bv a31]).toArray)]) [true, true, true, true] kR (all_cons kR (all_cons kR (all_cons kR (all_cons kR (all_cons kR (all_cons kR all_nil)))))) ?_
  refine Sy.round ?_
  refine sC ?_
  refine sP (.bool true) ?_
  refine sG ?_
  refine Sy.seq ?_
  refine sT ?_
  refine Sy.skip ?_
  refine Sy.then_ ?_
  refine Sy.seq ?_
  refine Sy.block ?_
  refine sC ?_
  refine sP (.int .i64 5) <| sP (.int .i64 5) ?_
  refine sG ?_
  refine Sy.regionD (fun j => j == 8) kR ?_
  refine sZ 0 rfl (.int .i64 5) <| sZ 1 rfl (.pointer (some ⟨g6, 5, none⟩)) <| sD 2 rfl (bv a5) (Quiet.cell 3 g6 5 30 5 (bv (a0 ^^^ o0) :: bv (a1 ^^^ o1) :: [bv (a2 ^^^ o2), bv (a3 ^^^ o3), bv (a4 ^^^ o4), bv a5, bv a6, bv a7, bv a8, bv a9, bv a10, bv a11, bv a12, bv a13, bv a14, bv a15, bv a16, bv a17, bv a18, bv a19, bv a20, bv a21, bv a22, bv a23, bv a24, bv a25, bv a26, bv a27, bv a28, bv a29, bv a30, bv a31]).toArray _ _ rfl kR kR Tryd.underlying5 rfl _ kR) <| sZ 3 rfl (.int .i64 5) <| sZ 4 rfl (.pointer (some ⟨g5, 5, none⟩)) <| sD 5 rfl (bv o5) (qC 2 g5 5 56 5 (bv o0 :: bv o1 :: [bv o2, bv o3, bv o4, bv o5, bv o6, bv o7, bv o8, bv o9, bv o10, bv o11, bv o12, bv o13, bv o14, bv o15, bv o16, bv o17, bv o18, bv o19, bv o20, bv o21, bv o22, bv o23, bv o24, bv o25, bv o26, bv o27, bv o28, bv o29, bv o30, bv o31]).toArray rfl Tryd.underlying5) <| sD 6 rfl (bv (a5 ^^^ o5)) (Quiet.pure (fun w => xor_bv w _ _ _ _ a5 o5 rfl rfl rfl)) <| sZ 7 rfl (.pointer (some ⟨g6, 5, none⟩)) ?_
  refine Sy.writeD 8 rfl kR (by rfl) kR 3 g6 30 (bv (a0 ^^^ o0) :: bv (a1 ^^^ o1) :: [bv (a2 ^^^ o2), bv (a3 ^^^ o3), bv (a4 ^^^ o4), bv a5, bv a6, bv a7, bv a8, bv a9, bv a10, bv a11, bv a12, bv a13, bv a14, bv a15, bv a16, bv a17, bv a18, bv a19, bv a20, bv a21, bv a22, bv a23, bv a24, bv a25, bv a26, bv a27, bv a28, bv a29, bv a30, bv a31]).toArray (bv (a0 ^^^ o0) :: bv (a1 ^^^ o1) :: [bv (a2 ^^^ o2), bv (a3 ^^^ o3), bv (a4 ^^^ o4), bv (a5 ^^^ o5), bv a6, bv a7, bv a8, bv a9, bv a10, bv a11, bv a12, bv a13, bv a14, bv a15, bv a16, bv a17, bv a18, bv a19, bv a20, bv a21, bv a22, bv a23, bv a24, bv a25, bv a26, bv a27, bv a28, bv a29, bv a30, bv a31]).toArray kR (wO 5 5 (bv (a5 ^^^ o5)) rfl) ?_
  refine sE ?_
  refine Sy.in_ ?_
  refine Sy.then_ ?_
  refine Sy.region ?_
  refine sP (.int .i64 6) <| sP (.int .i64 6) ?_
  refine Sy.nil ?_
  refine Sy.again ?_
  refine Sy.tidyR (G := [(2, .slice A n c), (4, .pointer (some ⟨g1, 0, none⟩)), (6, .pointer (some ⟨g2, 0, none⟩)), (8, .pointer (some ⟨g5, 0, none⟩)), (9, .pointer (some ⟨g6, 0, none⟩)), (16, .int .i64 6)]) (M := [(g1, 31, (key.map bv).toArray), (g2, 24, (fcs 0)), (g5, 56, (bv o0 :: bv o1 :: [bv o2, bv o3, bv o4, bv o5, bv o6, bv o7, bv o8, bv o9, bv o10, bv o11, bv o12, bv o13, bv o14, bv o15, bv o16, bv o17, bv o18, bv o19, bv o20, bv o21, bv o22, bv o23, bv o24, bv o25, bv o26, bv o27, bv o28, bv o29, bv o30, bv o31]).toArray), (g6, 30, (bv (a0 ^^^ o0) :: bv (a1 ^^^ o1) :: [bv (a2 ^^^ o2), bv (a3 ^^^ o3), bv (a4 ^^^ o4), bv (a5 ^^^ o5), bv a6, bv a7, bv a8, bv a9, bv a10, bv a11, bv a12, bv a13, bv a14, bv a15, bv a16, bv a17, bv a18, bv a19, bv a20, bv a21, bv a22, bv a23, bv a24, bv a25, bv a26, bv a27, bv a28, bv a29, bv a30, bv a31]).toArray)]) [true, true, true, true] kR (all_cons kR (all_cons kR (all_cons kR (all_cons kR (all_cons kR (all_cons kR all_nil)))))) ?_
  refine Sy.round ?_
  refine sC ?_
  refine sP (.bool true) ?_
  refine sG ?_
  refine Sy.seq ?_
  refine sT ?_
  refine Sy.skip ?_
  refine Sy.then_ ?_
  refine Sy.seq ?_
  refine Sy.block ?_
  refine sC ?_
  refine sP (.int .i64 6) <| sP (.int .i64 6) ?_
  refine sG ?_
  refine Sy.regionD (fun j => j == 8) kR ?_
  refine sZ 0 rfl (.int .i64 6) <| sZ 1 rfl (.pointer (some ⟨g6, 6, none⟩)) <| sD 2 rfl (bv a6) (Quiet.cell 3 g6 6 30 5 (bv (a0 ^^^ o0) :: bv (a1 ^^^ o1) :: [bv (a2 ^^^ o2), bv (a3 ^^^ o3), bv (a4 ^^^ o4), bv (a5 ^^^ o5), bv a6, bv a7, bv a8, bv a9, bv a10, bv a11, bv a12, bv a13, bv a14, bv a15, bv a16, bv a17, bv a18, bv a19, bv a20, bv a21, bv a22, bv a23, bv a24, bv a25, bv a26, bv a27, bv a28, bv a29, bv a30, bv a31]).toArray _ _ rfl kR kR Tryd.underlying5 rfl _ kR) <| sZ 3 rfl (.int .i64 6) <| sZ 4 rfl (.pointer (some ⟨g5, 6, none⟩)) <| sD 5 rfl (bv o6) (qC 2 g5 6 56 5 (bv o0 :: bv o1 :: [bv o2, bv o3, bv o4, bv o5, bv o6, bv o7, bv o8, bv o9, bv o10, bv o11, bv o12, bv o13, bv o14, bv o15, bv o16, bv o17, bv o18, bv o19, bv o20, bv o21, bv o22, bv o23, bv o24, bv o25, bv o26, bv o27, bv o28, bv o29, bv o30, bv o31]).toArray rfl Tryd.underlying5) <| sD 6 rfl (bv (a6 ^^^ o6)) (Quiet.pure (fun w => xor_bv w _ _ _ _ a6 o6 rfl rfl rfl)) <| sZ 7 rfl (.pointer (some ⟨g6, 6, none⟩)) ?_
  refine Sy.writeD 8 rfl kR (by rfl) kR 3 g6 30 (bv (a0 ^^^ o0) :: bv (a1 ^^^ o1) :: [bv (a2 ^^^ o2), bv (a3 ^^^ o3), bv (a4 ^^^ o4), bv (a5 ^^^ o5), bv a6, bv a7, bv a8, bv a9, bv a10, bv a11, bv a12, bv a13, bv a14, bv a15, bv a16, bv a17, bv a18, bv a19, bv a20, bv a21, bv a22, bv a23, bv a24, bv a25, bv a26, bv a27, bv a28, bv a29, bv a30, bv a31]).toArray (bv (a0 ^^^ o0) :: bv (a1 ^^^ o1) :: [bv (a2 ^^^ o2), bv (a3 ^^^ o3), bv (a4 ^^^ o4), bv (a5 ^^^ o5), bv (a6 ^^^ o6), bv a7, bv a8, bv a9, bv a10, bv a11, bv a12, bv a13, bv a14, bv a15, bv a16, bv a17, bv a18, bv a19, bv a20, bv a21, bv a22, bv a23, bv a24, bv a25, bv a26, bv a27, bv a28, bv a29, bv a30, bv a31]).toArray kR (wO 6 5 (bv (a6 ^^^ o6)) rfl) ?_
  refine sE ?_
  refine Sy.in_ ?_
  refine Sy.then_ ?_
  refine Sy.region ?_
  refine sP (.int .i64 7) <| sP (.int .i64 7) ?_
  refine Sy.nil ?_
  refine Sy.again ?_
  refine Sy.tidyR (G := [(2, .slice A n c), (4, .pointer (some ⟨g1, 0, none⟩)), (6, .pointer (some ⟨g2, 0, none⟩)), (8, .pointer (some ⟨g5, 0, none⟩)), (9, .pointer (some ⟨g6, 0, none⟩)), (16, .int .i64 7)]) (M := [(g1, 31, (key.map bv).toArray), (g2, 24, (fcs 0)), (g5, 56, (bv o0 :: bv o1 :: [bv o2, bv o3, bv o4, bv o5, bv o6, bv o7, bv o8, bv o9, bv o10, bv o11, bv o12, bv o13, bv o14, bv o15, bv o16, bv o17, bv o18, bv o19, bv o20, bv o21, bv o22, bv o23, bv o24, bv o25, bv o26, bv o27, bv o28, bv o29, bv o30, bv o31]).toArray), (g6, 30, (bv (a0 ^^^ o0) :: bv (a1 ^^^ o1) :: [bv (a2 ^^^ o2), bv (a3 ^^^ o3), bv (a4 ^^^ o4), bv (a5 ^^^ o5), bv (a6 ^^^ o6), bv a7, bv a8, bv a9, bv a10, bv a11, bv a12, bv a13, bv a14, bv a15, bv a16, bv a17, bv a18, bv a19, bv a20, bv a21, bv a22, bv a23, bv a24, bv a25, bv a26, bv a27, bv a28, bv a29, bv a30, bv a31]).toArray)]) [true, true, true, true] kR (all_cons kR (all_cons kR (all_cons kR (all_cons kR (all_cons kR (all_cons kR all_nil)))))) ?_
  refine Sy.round ?_
  refine sC ?_
  refine sP (.bool true) ?_
  refine sG ?_
  refine Sy.seq ?_
  refine sT ?_
  refine Sy.skip ?_
  refine Sy.then_ ?_
  refine Sy.seq ?_
  refine Sy.block ?_
  refine sC ?_
  refine sP (.int .i64 7) <| sP (.int .i64 7) ?_
  refine sG ?_
  refine Sy.regionD (fun j => j == 8) kR ?_
  refine sZ 0 rfl (.int .i64 7) <| sZ 1 rfl (.pointer (some ⟨g6, 7, none⟩)) <| sD 2 rfl (bv a7) (Quiet.cell 3 g6 7 30 5 (bv (a0 ^^^ o0) :: bv (a1 ^^^ o1) :: [bv (a2 ^^^ o2), bv (a3 ^^^ o3), bv (a4 ^^^ o4), bv (a5 ^^^ o5), bv (a6 ^^^ o6), bv a7, bv a8, bv a9, bv a10, bv a11, bv a12, bv a13, bv a14, bv a15, bv a16, bv a17, bv a18, bv a19, bv a20, bv a21, bv a22, bv a23, bv a24, bv a25, bv a26, bv a27, bv a28, bv a29, bv a30, bv a31]).toArray _ _ rfl kR kR Tryd.underlying5 rfl _ kR) <| sZ 3 rfl (.int .i64 7) <| sZ 4 rfl (.pointer (some ⟨g5, 7, none⟩)) <| sD 5 rfl (bv o7) (qC 2 g5 7 56 5 (bv o0 :: bv o1 :: [bv o2, bv o3, bv o4, bv o5, bv o6, bv o7, bv o8, bv o9, bv o10, bv o11, bv o12, bv o13, bv o14, bv o15, bv o16, bv o17, bv o18, bv o19, bv o20, bv o21, bv o22, bv o23, bv o24, bv o25, bv o26, bv o27, bv o28, bv o29, bv o30, bv o31]).toArray rfl Tryd.underlying5) <| sD 6 rfl (bv (a7 ^^^ o7)) (Quiet.pure (fun w => xor_bv w _ _ _ _ a7 o7 rfl rfl rfl)) <| sZ 7 rfl (.pointer (some ⟨g6, 7, none⟩)) ?_
  refine Sy.writeD 8 rfl kR (by rfl) kR 3 g6 30 (bv (a0 ^^^ o0) :: bv (a1 ^^^ o1) :: [bv (a2 ^^^ o2), bv (a3 ^^^ o3), bv (a4 ^^^ o4), bv (a5 ^^^ o5), bv (a6 ^^^ o6), bv a7, bv a8, bv a9, bv a10, bv a11, bv a12, bv a13, bv a14, bv a15, bv a16, bv a17, bv a18, bv a19, bv a20, bv a21, bv a22, bv a23, bv a24, bv a25, bv a26, bv a27, bv a28, bv a29, bv a30, bv a31]).toArray (bv (a0 ^^^ o0) :: bv (a1 ^^^ o1) :: [bv (a2 ^^^ o2), bv (a3 ^^^ o3), bv (a4 ^^^ o4), bv (a5 ^^^ o5), bv (a6 ^^^ o6), bv (a7 ^^^ o7), bv a8, bv a9, bv a10, bv a11, bv a12, bv a13, bv a14, bv a15, bv a16, bv a17, bv a18, bv a19, bv a20, bv a21, bv a22, bv a23, bv a24, bv a25, bv a26, bv a27, bv a28, bv a29, bv a30, bv a31]).toArray kR (wO 7 5 (bv (a7 ^^^ o7)) rfl) ?_
  refine sE ?_
  refine Sy.in_ ?_
  refine Sy.then_ ?_
  refine Sy.region ?_
  refine sP (.int .i64 8) <| sP (.int .i64 8) ?_
  refine Sy.nil ?_
  refine Sy.again ?_
  refine Sy.tidyR (G := [(2, .slice A n c), (4, .pointer (some ⟨g1, 0, none⟩)), (6, .pointer (some ⟨g2, 0, none⟩)), (8, .pointer (some ⟨g5, 0, none⟩)), (9, .pointer (some ⟨g6, 0, none⟩)), (16, .int .i64 8)]) (M := [(g1, 31, (key.map bv).toArray), (g2, 24, (fcs 0)), (g5, 56, (bv o0 :: bv o1 :: [bv o2, bv o3, bv o4, bv o5, bv o6, bv o7, bv o8, bv o9, bv o10, bv o11, bv o12, bv o13, bv o14, bv o15, bv o16, bv o17, bv o18, bv o19, bv o20, bv o21, bv o22, bv o23, bv o24, bv o25, bv o26, bv o27, bv o28, bv o29, bv o30, bv o31]).toArray), (g6, 30, (bv (a0 ^^^ o0) :: bv (a1 ^^^ o1) :: [bv (a2 ^^^ o2), bv (a3 ^^^ o3), bv (a4 ^^^ o4), bv (a5 ^^^ o5), bv (a6 ^^^ o6), bv (a7 ^^^ o7), bv a8, bv a9, bv a10, bv a11, bv a12, bv a13, bv a14, bv a15, bv a16, bv a17, bv a18, bv a19, bv a20, bv a21, bv a22, bv a23, bv a24, bv a25, bv a26, bv a27, bv a28, bv a29, bv a30, bv a31]).toArray)]) [true, true, true, true] kR (all_cons kR (all_cons kR (all_cons kR (all_cons kR (all_cons kR (all_cons kR all_nil)))))) ?_
  refine Sy.round ?_
  refine sC ?_
  refine sP (.bool true) ?_
  refine sG ?_
  refine Sy.seq ?_
  refine sT ?_
  refine Sy.skip ?_
  refine Sy.then_ ?_
  refine Sy.seq ?_
  refine Sy.block ?_
  refine sC ?_
  refine sP (.int .i64 8) <| sP (.int .i64 8) ?_
  refine sG ?_
  refine Sy.regionD (fun j => j == 8) kR ?_
  refine sZ 0 rfl (.int .i64 8) <| sZ 1 rfl (.pointer (some ⟨g6, 8, none⟩)) <| sD 2 rfl (bv a8) (Quiet.cell 3 g6 8 30 5 (bv (a0 ^^^ o0) :: bv (a1 ^^^ o1) :: [bv (a2 ^^^ o2), bv (a3 ^^^ o3), bv (a4 ^^^ o4), bv (a5 ^^^ o5), bv (a6 ^^^ o6), bv (a7 ^^^ o7), bv a8, bv a9, bv a10, bv a11, bv a12, bv a13, bv a14, bv a15, bv a16, bv a17, bv a18, bv a19, bv a20, bv a21, bv a22, bv a23, bv a24, bv a25, bv a26, bv a27, bv a28, bv a29, bv a30, bv a31]).toArray _ _ rfl kR kR Tryd.underlying5 rfl _ kR) <| sZ 3 rfl (.int .i64 8) <| sZ 4 rfl (.pointer (some ⟨g5, 8, none⟩)) <| sD 5 rfl (bv o8) (qC 2 g5 8 56 5 (bv o0 :: bv o1 :: [bv o2, bv o3, bv o4, bv o5, bv o6, bv o7, bv o8, bv o9, bv o10, bv o11, bv o12, bv o13, bv o14, bv o15, bv o16, bv o17, bv o18, bv o19, bv o20, bv o21, bv o22, bv o23, bv o24, bv o25, bv o26, bv o27, bv o28, bv o29, bv o30, bv o31]).toArray rfl Tryd.underlying5) <| sD 6 rfl (bv (a8 ^^^ o8)) (Quiet.pure (fun w => xor_bv w _ _ _ _ a8 o8 rfl rfl rfl)) <| sZ 7 rfl (.pointer (some ⟨g6, 8, none⟩)) ?_
  refine Sy.writeD 8 rfl kR (by rfl) kR 3 g6 30 (bv (a0 ^^^ o0) :: bv (a1 ^^^ o1) :: [bv (a2 ^^^ o2), bv (a3 ^^^ o3), bv (a4 ^^^ o4), bv (a5 ^^^ o5), bv (a6 ^^^ o6), bv (a7 ^^^ o7), bv a8, bv a9, bv a10, bv a11, bv a12, bv a13, bv a14, bv a15, bv a16, bv a17, bv a18, bv a19, bv a20, bv a21, bv a22, bv a23, bv a24, bv a25, bv a26, bv a27, bv a28, bv a29, bv a30, bv a31]).toArray (bv (a0 ^^^ o0) :: bv (a1 ^^^ o1) :: [bv (a2 ^^^ o2), bv (a3 ^^^ o3), bv (a4 ^^^ o4), bv (a5 ^^^ o5), bv (a6 ^^^ o6), bv (a7 ^^^ o7), bv (a8 ^^^ o8), bv a9, bv a10, bv a11, bv a12, bv a13, bv a14, bv a15, bv a16, bv a17, bv a18, bv a19, bv a20, bv a21, bv a22, bv a23, bv a24, bv a25, bv a26, bv a27, bv a28, bv a29, bv a30, bv a31]).toArray kR (wO 8 5 (bv (a8 ^^^ o8)) rfl) ?_
  refine sE ?_
  refine Sy.in_ ?_
  refine Sy.then_ ?_
  refine Sy.region ?_
  refine sP (.int .i64 9) <| sP (.int .i64 9) ?_
  refine Sy.nil ?_
  refine Sy.again ?_
  refine Sy.tidyR (G := [(2, .slice A n c), (4, .pointer (some ⟨g1, 0, none⟩)), (6, .pointer (some ⟨g2, 0, none⟩)), (8, .pointer (some ⟨g5, 0, none⟩)), (9, .pointer (some ⟨g6, 0, none⟩)), (16, .int .i64 9)]) (M := [(g1, 31, (key.map bv).toArray), (g2, 24, (fcs 0)), (g5, 56, (bv o0 :: bv o1 :: [bv o2, bv o3, bv o4, bv o5, bv o6, bv o7, bv o8, bv o9, bv o10, bv o11, bv o12, bv o13, bv o14, bv o15, bv o16, bv o17, bv o18, bv o19, bv o20, bv o21, bv o22, bv o23, bv o24, bv o25, bv o26, bv o27, bv o28, bv o29, bv o30, bv o31]).toArray), (g6, 30, (bv (a0 ^^^ o0) :: bv (a1 ^^^ o1) :: [bv (a2 ^^^ o2), bv (a3 ^^^ o3), bv (a4 ^^^ o4), bv (a5 ^^^ o5), bv (a6 ^^^ o6), bv (a7 ^^^ o7), bv (a8 ^^^ o8), bv a9, bv a10, bv a11, bv a12, bv a13, bv a14, bv a15, bv a16, bv a17, bv a18, bv a19, bv a20, bv a21, bv a22, bv a23, bv a24, bv a25, bv a26, bv a27, bv a28, bv a29, bv a30, bv a31]).toArray)]) [true, true, true, true] kR (all_cons kR (all_cons kR (all_cons kR (all_cons kR (all_cons kR (all_cons kR all_nil)))))) ?_
  refine Sy.round ?_
  refine sC ?_
  refine sP (.bool true) ?_
  refine sG ?_
  refine Sy.seq ?_
  refine sT ?_
  refine Sy.skip ?_
  refine Sy.then_ ?_
  refine Sy.seq ?_
  refine Sy.block ?_
  refine sC ?_
  refine sP (.int .i64 9) <| sP (.int .i64 9) ?_
  refine sG ?_
  refine Sy.regionD (fun j => j == 8) kR ?_
  refine sZ 0 rfl (.int .i64 9) <| sZ 1 rfl (.pointer (some ⟨g6, 9, none⟩)) <| sD 2 rfl (bv a9) (Quiet.cell 3 g6 9 30 5 (bv (a0 ^^^ o0) :: bv (a1 ^^^ o1) :: [bv (a2 ^^^ o2), bv (a3 ^^^ o3), bv (a4 ^^^ o4), bv (a5 ^^^ o5), bv (a6 ^^^ o6), bv (a7 ^^^ o7), bv (a8 ^^^ o8), bv a9, bv a10, bv a11, bv a12, bv a13, bv a14, bv a15, bv a16, bv a17, bv a18, bv a19, bv a20, bv a21, bv a22, bv a23, bv a24, bv a25, bv a26, bv a27, bv a28, bv a29, bv a30, bv a31]).toArray _ _ rfl kR kR Tryd.underlying5 rfl _ kR) <| sZ 3 rfl (.int .i64 9) <| sZ 4 rfl (.pointer (some ⟨g5, 9, none⟩)) <| sD 5 rfl (bv o9) (qC 2 g5 9 56 5 (bv o0 :: bv o1 :: [bv o2, bv o3, bv o4, bv o5, bv o6, bv o7, bv o8, bv o9, bv o10, bv o11, bv o12, bv o13, bv o14, bv o15, bv o16, bv o17, bv o18, bv o19, bv o20, bv o21, bv o22, bv o23, bv o24, bv o25, bv o26, bv o27, bv o28, bv o29, bv o30, bv o31]).toArray rfl Tryd.underlying5) <| sD 6 rfl (bv (a9 ^^^ o9)) (Quiet.pure (fun w => xor_bv w _ _ _ _ a9 o9 rfl rfl rfl)) <| sZ 7 rfl (.pointer (some ⟨g6, 9, none⟩)) ?_
  refine Sy.writeD 8 rfl kR (by rfl) kR 3 g6 30 (bv (a0 ^^^ o0) :: bv (a1 ^^^ o1) :: [bv (a2 ^^^ o2), bv (a3 ^^^ o3), bv (a4 ^^^ o4), bv (a5 ^^^ o5), bv (a6 ^^^ o6), bv (a7 ^^^ o7), bv (a8 ^^^ o8), bv a9, bv a10, bv a11, bv a12, bv a13, bv a14, bv a15, bv a16, bv a17, bv a18, bv a19, bv a20, bv a21, bv a22, bv a23, bv a24, bv a25, bv a26, bv a27, bv a28, bv a29, bv a30, bv a31]).toArray (bv (a0 ^^^ o0) :: bv (a1 ^^^ o1) :: [bv (a2 ^^^ o2), bv (a3 ^^^ o3), bv (a4 ^^^ o4), bv (a5 ^^^ o5), bv (a6 ^^^ o6), bv (a7 ^^^ o7), bv (a8 ^^^ o8), bv (a9 ^^^ o9), bv a10, bv a11, bv a12, bv a13, bv a14, bv a15, bv a16, bv a17, bv a18, bv a19, bv a20, bv a21, bv a22, bv a23, bv a24, bv a25, bv a26, bv a27, bv a28, bv a29, bv a30, bv a31]).toArray kR (wO 9 5 (bv (a9 ^^^ o9)) rfl) ?_
  refine sE ?_
  refine Sy.in_ ?_
  refine Sy.then_ ?_
  refine Sy.region ?_
  refine sP (.int .i64 10) <| sP (.int .i64 10) ?_
  refine Sy.nil ?_
  refine Sy.again ?_
  refine Sy.tidyR (G := [(2, .slice A n c), (4, .pointer (some ⟨g1, 0, none⟩)), (6, .pointer (some ⟨g2, 0, none⟩)), (8, .pointer (some ⟨g5, 0, none⟩)), (9, .pointer (some ⟨g6, 0, none⟩)), (16, .int .i64 10)]) (M := [(g1, 31, (key.map bv).toArray), (g2, 24, (fcs 0)), (g5, 56, (bv o0 :: bv o1 :: [bv o2, bv o3, bv o4, bv o5, bv o6, bv o7, bv o8, bv o9, bv o10, bv o11, bv o12, bv o13, bv o14, bv o15, bv o16, bv o17, bv o18, bv o19, bv o20, bv o21, bv o22, bv o23, bv o24, bv o25, bv o26, bv o27, bv o28, bv o29, bv o30, bv o31]).toArray), (g6, 30, (bv (a0 ^^^ o0) :: bv (a1 ^^^ o1) :: [bv (a2 ^^^ o2), bv (a3 ^^^ o3), bv (a4 ^^^ o4), bv (a5 ^^^ o5), bv (a6 ^^^ o6), bv (a7 ^^^ o7), bv (a8 ^^^ o8), bv (a9 ^^^ o9), bv a10, bv a11, bv a12, bv a13, bv a14, bv a15, bv a16, bv a17, bv a18, bv a19, bv a20, bv a21, bv a22, bv a23, bv a24, bv a25, bv a26, bv a27, bv a28, bv a29, bv a30, bv a31]).toArray)]) [true, true, true, true] kR (all_cons kR (all_cons kR (all_cons kR (all_cons kR (all_cons kR (all_cons kR all_nil)))))) ?_
  refine Sy.round ?_
  refine sC ?_
  refine sP (.bool true) ?_
  refine sG ?_
  refine Sy.seq ?_
  refine sT ?_
  refine Sy.skip ?_
  refine Sy.then_ ?_
  refine Sy.seq ?_
  refine Sy.block ?_
  refine sC ?_
  refine sP (.int .i64 10) <| sP (.int .i64 10) ?_
  refine sG ?_
  refine Sy.regionD (fun j => j == 8) kR ?_
  refine sZ 0 rfl (.int .i64 10) <| sZ 1 rfl (.pointer (some ⟨g6, 10, none⟩)) <| sD 2 rfl (bv a10) (Quiet.cell 3 g6 10 30 5 (bv (a0 ^^^ o0) :: bv (a1 ^^^ o1) :: [bv (a2 ^^^ o2), bv (a3 ^^^ o3), bv (a4 ^^^ o4), bv (a5 ^^^ o5), bv (a6 ^^^ o6), bv (a7 ^^^ o7), bv (a8 ^^^ o8), bv (a9 ^^^ o9), bv a10, bv a11, bv a12, bv a13, bv a14, bv a15, bv a16, bv a17, bv a18, bv a19, bv a20, bv a21, bv a22, bv a23, bv a24, bv a25, bv a26, bv a27, bv a28, bv a29, bv a30, bv a31]).toArray _ _ rfl kR kR Tryd.underlying5 rfl _ kR) <| sZ 3 rfl (.int .i64 10) <| sZ 4 rfl (.pointer (some ⟨g5, 10, none⟩)) <| sD 5 rfl (bv o10) (qC 2 g5 10 56 5 (bv o0 :: bv o1 :: [bv o2, bv o3, bv o4, bv o5, bv o6, bv o7, bv o8, bv o9, bv o10, bv o11, bv o12, bv o13, bv o14, bv o15, bv o16, bv o17, bv o18, bv o19, bv o20, bv o21, bv o22, bv o23, bv o24, bv o25, bv o26, bv o27, bv o28, bv o29, bv o30, bv o31]).toArray rfl Tryd.underlying5) <| sD 6 rfl (bv (a10 ^^^ o10)) (Quiet.pure (fun w => xor_bv w _ _ _ _ a10 o10 rfl rfl rfl)) <| sZ 7 rfl (.pointer (some ⟨g6, 10, none⟩)) ?_
  refine Sy.writeD 8 rfl kR (by rfl) kR 3 g6 30 (bv (a0 ^^^ o0) :: bv (a1 ^^^ o1) :: [bv (a2 ^^^ o2), bv (a3 ^^^ o3), bv (a4 ^^^ o4), bv (a5 ^^^ o5), bv (a6 ^^^ o6), bv (a7 ^^^ o7), bv (a8 ^^^ o8), bv (a9 ^^^ o9), bv a10, bv a11, bv a12, bv a13, bv a14, bv a15, bv a16, bv a17, bv a18, bv a19, bv a20, bv a21, bv a22, bv a23, bv a24, bv a25, bv a26, bv a27, bv a28, bv a29, bv a30, bv a31]).toArray (bv (a0 ^^^ o0) :: bv (a1 ^^^ o1) :: [bv (a2 ^^^ o2), bv (a3 ^^^ o3), bv (a4 ^^^ o4), bv (a5 ^^^ o5), bv (a6 ^^^ o6), bv (a7 ^^^ o7), bv (a8 ^^^ o8), bv (a9 ^^^ o9), bv (a10 ^^^ o10), bv a11, bv a12, bv a13, bv a14, bv a15, bv a16, bv a17, bv a18, bv a19, bv a20, bv a21, bv a22, bv a23, bv a24, bv a25, bv a26, bv a27, bv a28, bv a29, bv a30, bv a31]).toArray kR (wO 10 5 (bv (a10 ^^^ o10)) rfl) ?_
  refine sE ?_
  refine Sy.in_ ?_
  refine Sy.then_ ?_
  refine Sy.region ?_
  refine sP (.int .i64 11) <| sP (.int .i64 11) ?_
  refine Sy.nil ?_
  refine Sy.again ?_
  refine Sy.tidyR (G := [(2, .slice A n c), (4, .pointer (some ⟨g1, 0, none⟩)), (6, .pointer (some ⟨g2, 0, none⟩)), (8, .pointer (some ⟨g5, 0, none⟩)), (9, .pointer (some ⟨g6, 0, none⟩)), (16, .int .i64 11)]) (M := [(g1, 31, (key.map bv).toArray), (g2, 24, (fcs 0)), (g5, 56, (bv o0 :: bv o1 :: [bv o2, bv o3, bv o4, bv o5, bv o6, bv o7, bv o8, bv o9, bv o10, bv o11, bv o12, bv o13, bv o14, bv o15, bv o16, bv o17, bv o18, bv o19, bv o20, bv o21, bv o22, bv o23, bv o24, bv o25, bv o26, bv o27, bv o28, bv o29, bv o30, bv o31]).toArray), (g6, 30, (bv (a0 ^^^ o0) :: bv (a1 ^^^ o1) :: [bv (a2 ^^^ o2), bv (a3 ^^^ o3), bv (a4 ^^^ o4), bv (a5 ^^^ o5), bv (a6 ^^^ o6), bv (a7 ^^^ o7), bv (a8 ^^^ o8), bv (a9 ^^^ o9), bv (a10 ^^^ o10), bv a11, bv a12, bv a13, bv a14, bv a15, bv a16, bv a17, bv a18, bv a19, bv a20, bv a21, bv a22, bv a23, bv a24, bv a25, bv a26, bv a27, bv a28, bv a29, bv a30, bv a31]).toArray)]) [true, true, true, true] kR (all_cons kR (all_cons kR (all_cons kR (all_cons kR (all_cons kR (all_cons kR all_nil)))))) ?_
  refine Sy.round ?_
  refine sC ?_
  refine sP (.bool true) ?_
  refine sG ?_
  refine Sy.seq ?_
  refine sT ?_
  refine Sy.skip ?_
  refine Sy.then_ ?_
  refine Sy.seq ?_
  refine Sy.block ?_
  refine sC ?_
  refine sP (.int .i64 11) <| sP (.int .i64 11) ?_
  refine sG ?_
  refine Sy.regionD (fun j => j == 8) kR ?_
  refine sZ 0 rfl (.int .i64 11) <| sZ 1 rfl (.pointer (some ⟨g6, 11, none⟩)) <| sD 2 rfl (bv a11) (Quiet.cell 3 g6 11 30 5 (bv (a0 ^^^ o0) :: bv (a1 ^^^ o1) :: [bv (a2 ^^^ o2), bv (a3 ^^^ o3), bv (a4 ^^^ o4), bv (a5 ^^^ o5), bv (a6 ^^^ o6), bv (a7 ^^^ o7), bv (a8 ^^^ o8), bv (a9 ^^^ o9), bv (a10 ^^^ o10), bv a11, bv a12, bv a13, bv a14, bv a15, bv a16, bv a17, bv a18, bv a19, bv a20, bv a21, bv a22, bv a23, bv a24, bv a25, bv a26, bv a27, bv a28, bv a29, bv a30, bv a31]).toArray _ _ rfl kR kR Tryd.underlying5 rfl _ kR) <| sZ 3 rfl (.int .i64 11) <| sZ 4 rfl (.pointer (some ⟨g5, 11, none⟩)) <| sD 5 rfl (bv o11) (qC 2 g5 11 56 5 (bv o0 :: bv o1 :: [bv o2, bv o3, bv o4, bv o5, bv o6, bv o7, bv o8, bv o9, bv o10, bv o11, bv o12, bv o13, bv o14, bv o15, bv o16, bv o17, bv o18, bv o19, bv o20, bv o21, bv o22, bv o23, bv o24, bv o25, bv o26, bv o27, bv o28, bv o29, bv o30, bv o31]).toArray rfl Tryd.underlying5) <| sD 6 rfl (bv (a11 ^^^ o11)) (Quiet.pure (fun w => xor_bv w _ _ _ _ a11 o11 rfl rfl rfl)) <| sZ 7 rfl (.pointer (some ⟨g6, 11, none⟩)) ?_
  refine Sy.writeD 8 rfl kR (by rfl) kR 3 g6 30 (bv (a0 ^^^ o0) :: bv (a1 ^^^ o1) :: [bv (a2 ^^^ o2), bv (a3 ^^^ o3), bv (a4 ^^^ o4), bv (a5 ^^^ o5), bv (a6 ^^^ o6), bv (a7 ^^^ o7), bv (a8 ^^^ o8), bv (a9 ^^^ o9), bv (a10 ^^^ o10), bv a11, bv a12, bv a13, bv a14, bv a15, bv a16, bv a17, bv a18, bv a19, bv a20, bv a21, bv a22, bv a23, bv a24, bv a25, bv a26, bv a27, bv a28, bv a29, bv a30, bv a31]).toArray (bv (a0 ^^^ o0) :: bv (a1 ^^^ o1) :: [bv (a2 ^^^ o2), bv (a3 ^^^ o3), bv (a4 ^^^ o4), bv (a5 ^^^ o5), bv (a6 ^^^ o6), bv (a7 ^^^ o7), bv (a8 ^^^ o8), bv (a9 ^^^ o9), bv (a10 ^^^ o10), bv (a11 ^^^ o11), bv a12, bv a13, bv a14, bv a15, bv a16, bv a17, bv a18, bv a19, bv a20, bv a21, bv a22, bv a23, bv a24, bv a25, bv a26, bv a27, bv a28, bv a29, bv a30, bv a31]).toArray kR (wO 11 5 (bv (a11 ^^^ o11)) rfl) ?_
  refine sE ?_
  refine Sy.in_ ?_
  refine Sy.then_ ?_
  refine Sy.region ?_
  refine sP (.int .i64 12) <| sP (.int .i64 12) ?_
  refine Sy.nil ?_
  refine Sy.again ?_
  refine Sy.tidyR (G := [(2, .slice A n c), (4, .pointer (some ⟨g1, 0, none⟩)), (6, .pointer (some ⟨g2, 0, none⟩)), (8, .pointer (some ⟨g5, 0, none⟩)), (9, .pointer (some ⟨g6, 0, none⟩)), (16, .int .i64 12)]) (M := [(g1, 31, (key.map bv).toArray), (g2, 24, (fcs 0)), (g5, 56, (bv o0 :: bv o1 :: [bv o2, bv o3, bv o4, bv o5, bv o6, bv o7, bv o8, bv o9, bv o10, bv o11, bv o12, bv o13, bv o14, bv o15, bv o16, bv o17, bv o18, bv o19, bv o20, bv o21, bv o22, bv o23, bv o24, bv o25, bv o26, bv o27, bv o28, bv o29, bv o30, bv o31]).toArray), (g6, 30, (bv (a0 ^^^ o0) :: bv (a1 ^^^ o1) :: [bv (a2 ^^^ o2), bv (a3 ^^^ o3), bv (a4 ^^^ o4), bv (a5 ^^^ o5), bv (a6 ^^^ o6), bv (a7 ^^^ o7), bv (a8 ^^^ o8), bv (a9 ^^^ o9), bv (a10 ^^^ o10), bv (a11 ^^^ o11), bv a12, bv a13, bv a14, bv a15, bv a16, bv a17, bv a18, bv a19, bv a20, bv a21, bv a22, bv a23, bv a24, bv a25, bv a26, bv a27, bv a28, bv a29, bv a30, bv a31]).toArray)]) [true, true, true, true] kR (all_cons kR (all_cons kR (all_cons kR (all_cons kR (all_cons kR (all_cons kR all_nil)))))) ?_
  refine Sy.round ?_
  refine sC ?_
  refine sP (.bool true) ?_
  refine sG ?_
  refine Sy.seq ?_
  refine sT ?_
  refine Sy.skip ?_
  refine Sy.then_ ?_
  refine Sy.seq ?_
  refine Sy.block ?_
  refine sC ?_
  refine sP (.int .i64 12) <| sP (.int .i64 12) ?_
  refine sG ?_
  refine Sy.regionD (fun j => j == 8) kR ?_
  refine sZ 0 rfl (.int .i64 12) <| sZ 1 rfl (.pointer (some ⟨g6, 12, none⟩)) <| sD 2 rfl (bv a12) (Quiet.cell 3 g6 12 30 5 (bv (a0 ^^^ o0) :: bv (a1 ^^^ o1) :: [bv (a2 ^^^ o2), bv (a3 ^^^ o3), bv (a4 ^^^ o4), bv (a5 ^^^ o5), bv (a6 ^^^ o6), bv (a7 ^^^ o7), bv (a8 ^^^ o8), bv (a9 ^^^ o9), bv (a10 ^^^ o10), bv (a11 ^^^ o11), bv a12, bv a13, bv a14, bv a15, bv a16, bv a17, bv a18, bv a19, bv a20, bv a21, bv a22, bv a23, bv a24, bv a25, bv a26, bv a27, bv a28, bv a29, bv a30, bv a31]).toArray _ _ rfl kR kR Tryd.underlying5 rfl _ kR) <| sZ 3 rfl (.int .i64 12) <| sZ 4 rfl (.pointer (some ⟨g5, 12, none⟩)) <| sD 5 rfl (bv o12) (qC 2 g5 12 56 5 (bv o0 :: bv o1 :: [bv o2, bv o3, bv o4, bv o5, bv o6, bv o7, bv o8, bv o9, bv o10, bv o11, bv o12, bv o13, bv o14, bv o15, bv o16, bv o17, bv o18, bv o19, bv o20, bv o21, bv o22, bv o23, bv o24, bv o25, bv o26, bv o27, bv o28, bv o29, bv o30, bv o31]).toArray rfl Tryd.underlying5) <| sD 6 rfl (bv (a12 ^^^ o12)) (Quiet.pure (fun w => xor_bv w _ _ _ _ a12 o12 rfl rfl rfl)) <| sZ 7 rfl (.pointer (some ⟨g6, 12, none⟩)) ?_
  refine Sy.writeD 8 rfl kR (by rfl) kR 3 g6 30 (bv (a0 ^^^ o0) :: bv (a1 ^^^ o1) :: [bv (a2 ^^^ o2), bv (a3 ^^^ o3), bv (a4 ^^^ o4), bv (a5 ^^^ o5), bv (a6 ^^^ o6), bv (a7 ^^^ o7), bv (a8 ^^^ o8), bv (a9 ^^^ o9), bv (a10 ^^^ o10), bv (a11 ^^^ o11), bv a12, bv a13, bv a14, bv a15, bv a16, bv a17, bv a18, bv a19, bv a20, bv a21, bv a22, bv a23, bv a24, bv a25, bv a26, bv a27, bv a28, bv a29, bv a30, bv a31]).toArray (bv (a0 ^^^ o0) :: bv (a1 ^^^ o1) :: [bv (a2 ^^^ o2), bv (a3 ^^^ o3), bv (a4 ^^^ o4), bv (a5 ^^^ o5), bv (a6 ^^^ o6), bv (a7 ^^^ o7), bv (a8 ^^^ o8), bv (a9 ^^^ o9), bv (a10 ^^^ o10), bv (a11 ^^^ o11), bv (a12 ^^^ o12), bv a13, bv a14, bv a15, bv a16, bv a17, bv a18, bv a19, bv a20, bv a21, bv a22, bv a23, bv a24, bv a25, bv a26, bv a27, bv a28, bv a29, bv a30, bv a31]).toArray kR (wO 12 5 (bv (a12 ^^^ o12)) rfl) ?_
  refine sE ?_
  refine Sy.in_ ?_
  refine Sy.then_ ?_
  refine Sy.region ?_
  refine sP (.int .i64 13) <| sP (.int .i64 13) ?_
  refine Sy.nil ?_
  refine Sy.again ?_
  refine Sy.tidyR (G := [(2, .slice A n c), (4, .pointer (some ⟨g1, 0, none⟩)), (6, .pointer (some ⟨g2, 0, none⟩)), (8, .pointer (some ⟨g5, 0, none⟩)), (9, .pointer (some ⟨g6, 0, none⟩)), (16, .int .i64 13)]) (M := [(g1, 31, (key.map bv).toArray), (g2, 24, (fcs 0)), (g5, 56, (bv o0 :: bv o1 :: [bv o2, bv o3, bv o4, bv o5, bv o6, bv o7, bv o8, bv o9, bv o10, bv o11, bv o12, bv o13, bv o14, bv o15, bv o16, bv o17, bv o18, bv o19, bv o20, bv o21, bv o22, bv o23, bv o24, bv o25, bv o26, bv o27, bv o28, bv o29, bv o30, bv o31]).toArray), (g6, 30, (bv (a0 ^^^ o0) :: bv (a1 ^^^ o1) :: [bv (a2 ^^^ o2), bv (a3 ^^^ o3), bv (a4 ^^^ o4), bv (a5 ^^^ o5), bv (a6 ^^^ o6), bv (a7 ^^^ o7), bv (a8 ^^^ o8), bv (a9 ^^^ o9), bv (a10 ^^^ o10), bv (a11 ^^^ o11), bv (a12 ^^^ o12), bv a13, bv a14, bv a15, bv a16, bv a17, bv a18, bv a19, bv a20, bv a21, bv a22, bv a23, bv a24, bv a25, bv a26, bv a27, bv a28, bv a29, bv a30, bv a31]).toArray)]) [true, true, true, true] kR (all_cons kR (all_cons kR (all_cons kR (all_cons kR (all_cons kR (all_cons kR all_nil)))))) ?_
  refine Sy.round ?_
  refine sC ?_
  refine sP (.bool true) ?_
  refine sG ?_
  refine Sy.seq ?_
  refine sT ?_
  refine Sy.skip ?_
  refine Sy.then_ ?_
  refine Sy.seq ?_
  refine Sy.block ?_
  refine sC ?_
  refine sP (.int .i64 13) <| sP (.int .i64 13) ?_
  refine sG ?_
  refine Sy.regionD (fun j => j == 8) kR ?_
  refine sZ 0 rfl (.int .i64 13) <| sZ 1 rfl (.pointer (some ⟨g6, 13, none⟩)) <| sD 2 rfl (bv a13) (Quiet.cell 3 g6 13 30 5 (bv (a0 ^^^ o0) :: bv (a1 ^^^ o1) :: [bv (a2 ^^^ o2), bv (a3 ^^^ o3), bv (a4 ^^^ o4), bv (a5 ^^^ o5), bv (a6 ^^^ o6), bv (a7 ^^^ o7), bv (a8 ^^^ o8), bv (a9 ^^^ o9), bv (a10 ^^^ o10), bv (a11 ^^^ o11), bv (a12 ^^^ o12), bv a13, bv a14, bv a15, bv a16, bv a17, bv a18, bv a19, bv a20, bv a21, bv a22, bv a23, bv a24, bv a25, bv a26, bv a27, bv a28, bv a29, bv a30, bv a31]).toArray _ _ rfl kR kR Tryd.underlying5 rfl _ kR) <| sZ 3 rfl (.int .i64 13) <| sZ 4 rfl (.pointer (some ⟨g5, 13, none⟩)) <| sD 5 rfl (bv o13) (qC 2 g5 13 56 5 (bv o0 :: bv o1 :: [bv o2, bv o3, bv o4, bv o5, bv o6, bv o7, bv o8, bv o9, bv o10, bv o11, bv o12, bv o13, bv o14, bv o15, bv o16, bv o17, bv o18, bv o19, bv o20, bv o21, bv o22, bv o23, bv o24, bv o25, bv o26, bv o27, bv o28, bv o29, bv o30, bv o31]).toArray rfl Tryd.underlying5) <| sD 6 rfl (bv (a13 ^^^ o13)) (Quiet.pure (fun w => xor_bv w _ _ _ _ a13 o13 rfl rfl rfl)) <| sZ 7 rfl (.pointer (some ⟨g6, 13, none⟩)) ?_
  refine Sy.writeD 8 rfl kR (by rfl) kR 3 g6 30 (bv (a0 ^^^ o0) :: bv (a1 ^^^ o1) :: [bv (a2 ^^^ o2), bv (a3 ^^^ o3), bv (a4 ^^^ o4), bv (a5 ^^^ o5), bv (a6 ^^^ o6), bv (a7 ^^^ o7), bv (a8 ^^^ o8), bv (a9 ^^^ o9), bv (a10 ^^^ o10), bv (a11 ^^^ o11), bv (a12 ^^^ o12), bv a13, bv a14, bv a15, bv a16, bv a17, bv a18, bv a19, bv a20, bv a21, bv a22, bv a23, bv a24, bv a25, bv a26, bv a27, bv a28, bv a29, bv a30, bv a31]).toArray (bv (a0 ^^^ o0) :: bv (a1 ^^^ o1) :: [bv (a2 ^^^ o2), bv (a3 ^^^ o3), bv (a4 ^^^ o4), bv (a5 ^^^ o5), bv (a6 ^^^ o6), bv (a7 ^^^ o7), bv (a8 ^^^ o8), bv (a9 ^^^ o9), bv (a10 ^^^ o10), bv (a11 ^^^ o11), bv (a12 ^^^ o12), bv (a13 ^^^ o13), bv a14, bv a15, bv a16, bv a17, bv a18, bv a19, bv a20, bv a21, bv a22, bv a23, bv a24, bv a25, bv a26, bv a27, bv a28, bv a29, bv a30, bv a31]).toArray kR (wO 13 5 (bv (a13 ^^^ o13)) rfl) ?_
  refine sE ?_
  refine Sy.in_ ?_
  refine Sy.then_ ?_
  refine Sy.region ?_
  refine sP (.int .i64 14) <| sP (.int .i64 14) ?_
  refine Sy.nil ?_
  refine Sy.again ?_
  refine Sy.tidyR (G := [(2, .slice A n c), (4, .pointer (some ⟨g1, 0, none⟩)), (6, .pointer (some ⟨g2, 0, none⟩)), (8, .pointer (some ⟨g5, 0, none⟩)), (9, .pointer (some ⟨g6, 0, none⟩)), (16, .int .i64 14)]) (M := [(g1, 31, (key.map bv).toArray), (g2, 24, (fcs 0)), (g5, 56, (bv o0 :: bv o1 :: [bv o2, bv o3, bv o4, bv o5, bv o6, bv o7, bv o8, bv o9, bv o10, bv o11, bv o12, bv o13, bv o14, bv o15, bv o16, bv o17, bv o18, bv o19, bv o20, bv o21, bv o22, bv o23, bv o24, bv o25, bv o26, bv o27, bv o28, bv o29, bv o30, bv o31]).toArray), (g6, 30, (bv (a0 ^^^ o0) :: bv (a1 ^^^ o1) :: [bv (a2 ^^^ o2), bv (a3 ^^^ o3), bv (a4 ^^^ o4), bv (a5 ^^^ o5), bv (a6 ^^^ o6), bv (a7 ^^^ o7), bv (a8 ^^^ o8), bv (a9 ^^^ o9), bv (a10 ^^^ o10), bv (a11 ^^^ o11), bv (a12 ^^^ o12), bv (a13 ^^^ o13), bv a14, bv a15, bv a16, bv a17, bv a18, bv a19, bv a20, bv a21, bv a22, bv a23, bv a24, bv a25, bv a26, bv a27, bv a28, bv a29, bv a30, bv a31]).toArray)]) [true, true, true, true] kR (all_cons kR (all_cons kR (all_cons kR (all_cons kR (all_cons kR (all_cons kR all_nil)))))) ?_
  refine Sy.round ?_
  refine sC ?_
  refine sP (.bool true) ?_
  refine sG ?_
  refine Sy.seq ?_
  refine sT ?_
  refine Sy.skip ?_
  refine Sy.then_ ?_
  refine Sy.seq ?_
  refine Sy.block ?_
  refine sC ?_
  refine sP (.int .i64 14) <| sP (.int .i64 14) ?_
  refine sG ?_
  refine Sy.regionD (fun j => j == 8) kR ?_
  refine sZ 0 rfl (.int .i64 14) <| sZ 1 rfl (.pointer (some ⟨g6, 14, none⟩)) <| sD 2 rfl (bv a14) (Quiet.cell 3 g6 14 30 5 (bv (a0 ^^^ o0) :: bv (a1 ^^^ o1) :: [bv (a2 ^^^ o2), bv (a3 ^^^ o3), bv (a4 ^^^ o4), bv (a5 ^^^ o5), bv (a6 ^^^ o6), bv (a7 ^^^ o7), bv (a8 ^^^ o8), bv (a9 ^^^ o9), bv (a10 ^^^ o10), bv (a11 ^^^ o11), bv (a12 ^^^ o12), bv (a13 ^^^ o13), bv a14, bv a15, bv a16, bv a17, bv a18, bv a19, bv a20, bv a21, bv a22, bv a23, bv a24, bv a25, bv a26, bv a27, bv a28, bv a29, bv a30, bv a31]).toArray _ _ rfl kR kR Tryd.underlying5 rfl _ kR) <| sZ 3 rfl (.int .i64 14) <| sZ 4 rfl (.pointer (some ⟨g5, 14, none⟩)) <| sD 5 rfl (bv o14) (qC 2 g5 14 56 5 (bv o0 :: bv o1 :: [bv o2, bv o3, bv o4, bv o5, bv o6, bv o7, bv o8, bv o9, bv o10, bv o11, bv o12, bv o13, bv o14, bv o15, bv o16, bv o17, bv o18, bv o19, bv o20, bv o21, bv o22, bv o23, bv o24, bv o25, bv o26, bv o27, bv o28, bv o29, bv o30, bv o31]).toArray rfl Tryd.underlying5) <| sD 6 rfl (bv (a14 ^^^ o14)) (Quiet.pure (fun w => xor_bv w _ _ _ _ a14 o14 rfl rfl rfl)) <| sZ 7 rfl (.pointer (some ⟨g6, 14, none⟩)) ?_
  refine Sy.writeD 8 rfl kR (by rfl) kR 3 g6 30 (bv (a0 ^^^ o0) :: bv (a1 ^^^ o1) :: [bv (a2 ^^^ o2), bv (a3 ^^^ o3), bv (a4 ^^^ o4), bv (a5 ^^^ o5), bv (a6 ^^^ o6), bv (a7 ^^^ o7), bv (a8 ^^^ o8), bv (a9 ^^^ o9), bv (a10 ^^^ o10), bv (a11 ^^^ o11), bv (a12 ^^^ o12), bv (a13 ^^^ o13), bv a14, bv a15, bv a16, bv a17, bv a18, bv a19, bv a20, bv a21, bv a22, bv a23, bv a24, bv a25, bv a26, bv a27, bv a28, bv a29, bv a30, bv a31]).toArray (bv (a0 ^^^ o0) :: bv (a1 ^^^ o1) :: [bv (a2 ^^^ o2), bv (a3 ^^^ o3), bv (a4 ^^^ o4), bv (a5 ^^^ o5), bv (a6 ^^^ o6), bv (a7 ^^^ o7), bv (a8 ^^^ o8), bv (a9 ^^^ o9), bv (a10 ^^^ o10), bv (a11 ^^^ o11), bv (a12 ^^^ o12), bv (a13 ^^^ o13), bv (a14 ^^^ o14), bv a15, bv a16, bv a17, bv a18, bv a19, bv a20, bv a21, bv a22, bv a23, bv a24, bv a25, bv a26, bv a27, bv a28, bv a29, bv a30, bv a31]).toArray kR (wO 14 5 (bv (a14 ^^^ o14)) rfl) ?_
  refine sE ?_
  refine Sy.in_ ?_
  refine Sy.then_ ?_
  refine Sy.region ?_
  refine sP (.int .i64 15) <| sP (.int .i64 15) ?_
  refine Sy.nil ?_
  refine Sy.again ?_
  refine Sy.tidyR (G := [(2, .slice A n c), (4, .pointer (some ⟨g1, 0, none⟩)), (6, .pointer (some ⟨g2, 0, none⟩)), (8, .pointer (some ⟨g5, 0, none⟩)), (9, .pointer (some ⟨g6, 0, none⟩)), (16, .int .i64 15)]) (M := [(g1, 31, (key.map bv).toArray), (g2, 24, (fcs 0)), (g5, 56, (bv o0 :: bv o1 :: [bv o2, bv o3, bv o4, bv o5, bv o6, bv o7, bv o8, bv o9, bv o10, bv o11, bv o12, bv o13, bv o14, bv o15, bv o16, bv o17, bv o18, bv o19, bv o20, bv o21, bv o22, bv o23, bv o24, bv o25, bv o26, bv o27, bv o28, bv o29, bv o30, bv o31]).toArray), (g6, 30, (bv (a0 ^^^ o0) :: bv (a1 ^^^ o1) :: [bv (a2 ^^^ o2), bv (a3 ^^^ o3), bv (a4 ^^^ o4), bv (a5 ^^^ o5), bv (a6 ^^^ o6), bv (a7 ^^^ o7), bv (a8 ^^^ o8), bv (a9 ^^^ o9), bv (a10 ^^^ o10), bv (a11 ^^^ o11), bv (a12 ^^^ o12), bv (a13 ^^^ o13), bv (a14 ^^^ o14), bv a15, bv a16, bv a17, bv a18, bv a19, bv a20, bv a21, bv a22, bv a23, bv a24, bv a25, bv a26, bv a27, bv a28, bv a29, bv a30, bv a31]).toArray)]) [true, true, true, true] kR (all_cons kR (all_cons kR (all_cons kR (all_cons kR (all_cons kR (all_cons kR all_nil)))))) ?_
  refine Sy.round ?_
  refine sC ?_
  refine sP (.bool true) ?_
  refine sG ?_
  refine Sy.seq ?_
  refine sT ?_
  refine Sy.skip ?_
  refine Sy.then_ ?_
  refine Sy.seq ?_
  refine Sy.block ?_
  refine sC ?_
  refine sP (.int .i64 15) <| sP (.int .i64 15) ?_
  refine sG ?_
  refine Sy.regionD (fun j => j == 8) kR ?_
  refine sZ 0 rfl (.int .i64 15) <| sZ 1 rfl (.pointer (some ⟨g6, 15, none⟩)) <| sD 2 rfl (bv a15) (Quiet.cell 3 g6 15 30 5 (bv (a0 ^^^ o0) :: bv (a1 ^^^ o1) :: [bv (a2 ^^^ o2), bv (a3 ^^^ o3), bv (a4 ^^^ o4), bv (a5 ^^^ o5), bv (a6 ^^^ o6), bv (a7 ^^^ o7), bv (a8 ^^^ o8), bv (a9 ^^^ o9), bv (a10 ^^^ o10), bv (a11 ^^^ o11), bv (a12 ^^^ o12), bv (a13 ^^^ o13), bv (a14 ^^^ o14), bv a15, bv a16, bv a17, bv a18, bv a19, bv a20, bv a21, bv a22, bv a23, bv a24, bv a25, bv a26, bv a27, bv a28, bv a29, bv a30, bv a31]).toArray _ _ rfl kR kR Tryd.underlying5 rfl _ kR) <| sZ 3 rfl (.int .i64 15) <| sZ 4 rfl (.pointer (some ⟨g5, 15, none⟩)) <| sD 5 rfl (bv o15) (qC 2 g5 15 56 5 (bv o0 :: bv o1 :: [bv o2, bv o3, bv o4, bv o5, bv o6, bv o7, bv o8, bv o9, bv o10, bv o11, bv o12, bv o13, bv o14, bv o15, bv o16, bv o17, bv o18, bv o19, bv o20, bv o21, bv o22, bv o23, bv o24, bv o25, bv o26, bv o27, bv o28, bv o29, bv o30, bv o31]).toArray rfl Tryd.underlying5) <| sD 6 rfl (bv (a15 ^^^ o15)) (Quiet.pure (fun w => xor_bv w _ _ _ _ a15 o15 rfl rfl rfl)) <| sZ 7 rfl (.pointer (some ⟨g6, 15, none⟩)) ?_
  refine Sy.writeD 8 rfl kR (by rfl) kR 3 g6 30 (bv (a0 ^^^ o0) :: bv (a1 ^^^ o1) :: [bv (a2 ^^^ o2), bv (a3 ^^^ o3), bv (a4 ^^^ o4), bv (a5 ^^^ o5), bv (a6 ^^^ o6), bv (a7 ^^^ o7), bv (a8 ^^^ o8), bv (a9 ^^^ o9), bv (a10 ^^^ o10), bv (a11 ^^^ o11), bv (a12 ^^^ o12), bv (a13 ^^^ o13), bv (a14 ^^^ o14), bv a15, bv a16, bv a17, bv a18, bv a19, bv a20, bv a21, bv a22, bv a23, bv a24, bv a25, bv a26, bv a27, bv a28, bv a29, bv a30, bv a31]).toArray (bv (a0 ^^^ o0) :: bv (a1 ^^^ o1) :: [bv (a2 ^^^ o2), bv (a3 ^^^ o3), bv (a4 ^^^ o4), bv (a5 ^^^ o5), bv (a6 ^^^ o6), bv (a7 ^^^ o7), bv (a8 ^^^ o8), bv (a9 ^^^ o9), bv (a10 ^^^ o10), bv (a11 ^^^ o11), bv (a12 ^^^ o12), bv (a13 ^^^ o13), bv (a14 ^^^ o14), bv (a15 ^^^ o15), bv a16, bv a17, bv a18, bv a19, bv a20, bv a21, bv a22, bv a23, bv a24, bv a25, bv a26, bv a27, bv a28, bv a29, bv a30, bv a31]).toArray kR (wO 15 5 (bv (a15 ^^^ o15)) rfl) ?_
  refine sE ?_
  refine Sy.in_ ?_
  refine Sy.then_ ?_
  refine Sy.region ?_
  refine sP (.int .i64 16) <| sP (.int .i64 16) ?_
  refine Sy.nil ?_
  refine Sy.again ?_
  refine Sy.tidyR (G := [(2, .slice A n c), (4, .pointer (some ⟨g1, 0, none⟩)), (6, .pointer (some ⟨g2, 0, none⟩)), (8, .pointer (some ⟨g5, 0, none⟩)), (9, .pointer (some ⟨g6, 0, none⟩)), (16, .int .i64 16)]) (M := [(g1, 31, (key.map bv).toArray), (g2, 24, (fcs 0)), (g5, 56, (bv o0 :: bv o1 :: [bv o2, bv o3, bv o4, bv o5, bv o6, bv o7, bv o8, bv o9, bv o10, bv o11, bv o12, bv o13, bv o14, bv o15, bv o16, bv o17, bv o18, bv o19, bv o20, bv o21, bv o22, bv o23, bv o24, bv o25, bv o26, bv o27, bv o28, bv o29, bv o30, bv o31]).toArray), (g6, 30, (bv (a0 ^^^ o0) :: bv (a1 ^^^ o1) :: [bv (a2 ^^^ o2), bv (a3 ^^^ o3), bv (a4 ^^^ o4), bv (a5 ^^^ o5), bv (a6 ^^^ o6), bv (a7 ^^^ o7), bv (a8 ^^^ o8), bv (a9 ^^^ o9), bv (a10 ^^^ o10), bv (a11 ^^^ o11), bv (a12 ^^^ o12), bv (a13 ^^^ o13), bv (a14 ^^^ o14), bv (a15 ^^^ o15), bv a16, bv a17, bv a18, bv a19, bv a20, bv a21, bv a22, bv a23, bv a24, bv a25, bv a26, bv a27, bv a28, bv a29, bv a30, bv a31]).toArray)]) [true, true, true, true] kR (all_cons kR (all_cons kR (all_cons kR (all_cons kR (all_cons kR (all_cons kR all_nil)))))) ?_
  refine Sy.round ?_
  refine sC ?_
  refine sP (.bool true) ?_
  refine sG ?_
  refine Sy.seq ?_
  refine sT ?_
  refine Sy.skip ?_
  refine Sy.then_ ?_
  refine Sy.seq ?_
  refine Sy.block ?_
  refine sC ?_
  refine sP (.int .i64 16) <| sP (.int .i64 16) ?_
  refine sG ?_
  refine Sy.regionD (fun j => j == 8) kR ?_
  refine sZ 0 rfl (.int .i64 16) <| sZ 1 rfl (.pointer (some ⟨g6, 16, none⟩)) <| sD 2 rfl (bv a16) (Quiet.cell 3 g6 16 30 5 (bv (a0 ^^^ o0) :: bv (a1 ^^^ o1) :: [bv (a2 ^^^ o2), bv (a3 ^^^ o3), bv (a4 ^^^ o4), bv (a5 ^^^ o5), bv (a6 ^^^ o6), bv (a7 ^^^ o7), bv (a8 ^^^ o8), bv (a9 ^^^ o9), bv (a10 ^^^ o10), bv (a11 ^^^ o11), bv (a12 ^^^ o12), bv (a13 ^^^ o13), bv (a14 ^^^ o14), bv (a15 ^^^ o15), bv a16, bv a17, bv a18, bv a19, bv a20, bv a21, bv a22, bv a23, bv a24, bv a25, bv a26, bv a27, bv a28, bv a29, bv a30, bv a31]).toArray _ _ rfl kR kR Tryd.underlying5 rfl _ kR) <| sZ 3 rfl (.int .i64 16) <| sZ 4 rfl (.pointer (some ⟨g5, 16, none⟩)) <| sD 5 rfl (bv o16) (qC 2 g5 16 56 5 (bv o0 :: bv o1 :: [bv o2, bv o3, bv o4, bv o5, bv o6, bv o7, bv o8, bv o9, bv o10, bv o11, bv o12, bv o13, bv o14, bv o15, bv o16, bv o17, bv o18, bv o19, bv o20, bv o21, bv o22, bv o23, bv o24, bv o25, bv o26, bv o27, bv o28, bv o29, bv o30, bv o31]).toArray rfl Tryd.underlying5) <| sD 6 rfl (bv (a16 ^^^ o16)) (Quiet.pure (fun w => xor_bv w _ _ _ _ a16 o16 rfl rfl rfl)) <| sZ 7 rfl (.pointer (some ⟨g6, 16, none⟩)) ?_
  refine Sy.writeD 8 rfl kR (by rfl) kR 3 g6 30 (bv (a0 ^^^ o0) :: bv (a1 ^^^ o1) :: [bv (a2 ^^^ o2), bv (a3 ^^^ o3), bv (a4 ^^^ o4), bv (a5 ^^^ o5), bv (a6 ^^^ o6), bv (a7 ^^^ o7), bv (a8 ^^^ o8), bv (a9 ^^^ o9), bv (a10 ^^^ o10), bv (a11 ^^^ o11), bv (a12 ^^^ o12), bv (a13 ^^^ o13), bv (a14 ^^^ o14), bv (a15 ^^^ o15), bv a16, bv a17, bv a18, bv a19, bv a20, bv a21, bv a22, bv a23, bv a24, bv a25, bv a26, bv a27, bv a28, bv a29, bv a30, bv a31]).toArray (bv (a0 ^^^ o0) :: bv (a1 ^^^ o1) :: [bv (a2 ^^^ o2), bv (a3 ^^^ o3), bv (a4 ^^^ o4), bv (a5 ^^^ o5), bv (a6 ^^^ o6), bv (a7 ^^^ o7), bv (a8 ^^^ o8), bv (a9 ^^^ o9), bv (a10 ^^^ o10), bv (a11 ^^^ o11), bv (a12 ^^^ o12), bv (a13 ^^^ o13), bv (a14 ^^^ o14), bv (a15 ^^^ o15), bv (a16 ^^^ o16), bv a17, bv a18, bv a19, bv a20, bv a21, bv a22, bv a23, bv a24, bv a25, bv a26, bv a27, bv a28, bv a29, bv a30, bv a31]).toArray kR (wO 16 5 (bv (a16 ^^^ o16)) rfl) ?_
  refine sE ?_
  refine Sy.in_ ?_
  refine Sy.then_ ?_
  refine Sy.region ?_
  refine sP (.int .i64 17) <| sP (.int .i64 17) ?_
  refine Sy.nil ?_
  refine Sy.again ?_
  refine Sy.tidyR (G := [(2, .slice A n c), (4, .pointer (some ⟨g1, 0, none⟩)), (6, .pointer (some ⟨g2, 0, none⟩)), (8, .pointer (some ⟨g5, 0, none⟩)), (9, .pointer (some ⟨g6, 0, none⟩)), (16, .int .i64 17)]) (M := [(g1, 31, (key.map bv).toArray), (g2, 24, (fcs 0)), (g5, 56, (bv o0 :: bv o1 :: [bv o2, bv o3, bv o4, bv o5, bv o6, bv o7, bv o8, bv o9, bv o10, bv o11, bv o12, bv o13, bv o14, bv o15, bv o16, bv o17, bv o18, bv o19, bv o20, bv o21, bv o22, bv o23, bv o24, bv o25, bv o26, bv o27, bv o28, bv o29, bv o30, bv o31]).toArray), (g6, 30, (bv (a0 ^^^ o0) :: bv (a1 ^^^ o1) :: [bv (a2 ^^^ o2), bv (a3 ^^^ o3), bv (a4 ^^^ o4), bv (a5 ^^^ o5), bv (a6 ^^^ o6), bv (a7 ^^^ o7), bv (a8 ^^^ o8), bv (a9 ^^^ o9), bv (a10 ^^^ o10), bv (a11 ^^^ o11), bv (a12 ^^^ o12), bv (a13 ^^^ o13), bv (a14 ^^^ o14), bv (a15 ^^^ o15), bv (a16 ^^^ o16), bv a17, bv a18, bv a19, bv a20, bv a21, bv a22, bv a23, bv a24, bv a25, bv a26, bv a27, bv a28, bv a29, bv a30, bv a31]).toArray)]) [true, true, true, true] kR (all_cons kR (all_cons kR (all_cons kR (all_cons kR (all_cons kR (all_cons kR all_nil)))))) ?_
  refine Sy.round ?_
  refine sC ?_
  refine sP (.bool true) ?_
  refine sG ?_
  refine Sy.seq ?_
  refine sT ?_
  refine Sy.skip ?_
  refine Sy.then_ ?_
  refine Sy.seq ?_
  refine Sy.block ?_
  refine sC ?_
  refine sP (.int .i64 17) <| sP (.int .i64 17) ?_
  refine sG ?_
  refine Sy.regionD (fun j => j == 8) kR ?_
  refine sZ 0 rfl (.int .i64 17) <| sZ 1 rfl (.pointer (some ⟨g6, 17, none⟩)) <| sD 2 rfl (bv a17) (Quiet.cell 3 g6 17 30 5 (bv (a0 ^^^ o0) :: bv (a1 ^^^ o1) :: [bv (a2 ^^^ o2), bv (a3 ^^^ o3), bv (a4 ^^^ o4), bv (a5 ^^^ o5), bv (a6 ^^^ o6), bv (a7 ^^^ o7), bv (a8 ^^^ o8), bv (a9 ^^^ o9), bv (a10 ^^^ o10), bv (a11 ^^^ o11), bv (a12 ^^^ o12), bv (a13 ^^^ o13), bv (a14 ^^^ o14), bv (a15 ^^^ o15), bv (a16 ^^^ o16), bv a17, bv a18, bv a19, bv a20, bv a21, bv a22, bv a23, bv a24, bv a25, bv a26, bv a27, bv a28, bv a29, bv a30, bv a31]).toArray _ _ rfl kR kR Tryd.underlying5 rfl _ kR) <| sZ 3 rfl (.int .i64 17) <| sZ 4 rfl (.pointer (some ⟨g5, 17, none⟩)) <| sD 5 rfl (bv o17) (qC 2 g5 17 56 5 (bv o0 :: bv o1 :: [bv o2, bv o3, bv o4, bv o5, bv o6, bv o7, bv o8, bv o9, bv o10, bv o11, bv o12, bv o13, bv o14, bv o15, bv o16, bv o17, bv o18, bv o19, bv o20, bv o21, bv o22, bv o23, bv o24, bv o25, bv o26, bv o27, bv o28, bv o29, bv o30, bv o31]).toArray rfl Tryd.underlying5) <| sD 6 rfl (bv (a17 ^^^ o17)) (Quiet.pure (fun w => xor_bv w _ _ _ _ a17 o17 rfl rfl rfl)) <| sZ 7 rfl (.pointer (some ⟨g6, 17, none⟩)) ?_
  refine Sy.writeD 8 rfl kR (by rfl) kR 3 g6 30 (bv (a0 ^^^ o0) :: bv (a1 ^^^ o1) :: [bv (a2 ^^^ o2), bv (a3 ^^^ o3), bv (a4 ^^^ o4), bv (a5 ^^^ o5), bv (a6 ^^^ o6), bv (a7 ^^^ o7), bv (a8 ^^^ o8), bv (a9 ^^^ o9), bv (a10 ^^^ o10), bv (a11 ^^^ o11), bv (a12 ^^^ o12), bv (a13 ^^^ o13), bv (a14 ^^^ o14), bv (a15 ^^^ o15), bv (a16 ^^^ o16), bv a17, bv a18, bv a19, bv a20, bv a21, bv a22, bv a23, bv a24, bv a25, bv a26, bv a27, bv a28, bv a29, bv a30, bv a31]).toArray (bv (a0 ^^^ o0) :: bv (a1 ^^^ o1) :: [bv (a2 ^^^ o2), bv (a3 ^^^ o3), bv (a4 ^^^ o4), bv (a5 ^^^ o5), bv (a6 ^^^ o6), bv (a7 ^^^ o7), bv (a8 ^^^ o8), bv (a9 ^^^ o9), bv (a10 ^^^ o10), bv (a11 ^^^ o11), bv (a12 ^^^ o12), bv (a13 ^^^ o13), bv (a14 ^^^ o14), bv (a15 ^^^ o15), bv (a16 ^^^ o16), bv (a17 ^^^ o17), bv a18, bv a19, bv a20, bv a21, bv a22, bv a23, bv a24, bv a25, bv a26, bv a27, bv a28, bv a29, bv a30, bv a31]).toArray kR (wO 17 5 (bv (a17 ^^^ o17)) rfl) ?_
  refine sE ?_
  refine Sy.in_ ?_
  refine Sy.then_ ?_
  refine Sy.region ?_
  refine sP (.int .i64 18) <| sP (.int .i64 18) ?_
  refine Sy.nil ?_
  refine Sy.again ?_
  refine Sy.tidyR (G := [(2, .slice A n c), (4, .pointer (some ⟨g1, 0, none⟩)), (6, .pointer (some ⟨g2, 0, none⟩)), (8, .pointer (some ⟨g5, 0, none⟩)), (9, .pointer (some ⟨g6, 0, none⟩)), (16, .int .i64 18)]) (M := [(g1, 31, (key.map bv).toArray), (g2, 24, (fcs 0)), (g5, 56, (bv o0 :: bv o1 :: [bv o2, bv o3, bv o4, bv o5, bv o6, bv o7, bv o8, bv o9, bv o10, bv o11, bv o12, bv o13, bv o14, bv o15, bv o16, bv o17, bv o18, bv o19, bv o20, bv o21, bv o22, bv o23, bv o24, bv o25, bv o26, bv o27, bv o28, bv o29, bv o30, bv o31]).toArray), (g6, 30, (bv (a0 ^^^ o0) :: bv (a1 ^^^ o1) :: [bv (a2 ^^^ o2), bv (a3 ^^^ o3), bv (a4 ^^^ o4), bv (a5 ^^^ o5), bv (a6 ^^^ o6), bv (a7 ^^^ o7), bv (a8 ^^^ o8), bv (a9 ^^^ o9), bv (a10 ^^^ o10), bv (a11 ^^^ o11), bv (a12 ^^^ o12), bv (a13 ^^^ o13), bv (a14 ^^^ o14), bv (a15 ^^^ o15), bv (a16 ^^^ o16), bv (a17 ^^^ o17), bv a18, bv a19, bv a20, bv a21, bv a22, bv a23, bv a24, bv a25, bv a26, bv a27, bv a28, bv a29, bv a30, bv a31]).toArray)]) [true, true, true, true] kR (all_cons kR (all_cons kR (all_cons kR (all_cons kR (all_cons kR (all_cons kR all_nil)))))) ?_
  refine Sy.round ?_
  refine sC ?_
  refine sP (.bool true) ?_
  refine sG ?_
  refine Sy.seq ?_
  refine sT ?_
  refine Sy.skip ?_
  refine Sy.then_ ?_
  refine Sy.seq ?_
  refine Sy.block ?_
  refine sC ?_
  refine sP (.int .i64 18) <| sP (.int .i64 18) ?_
  refine sG ?_
  refine Sy.regionD (fun j => j == 8) kR ?_
  refine sZ 0 rfl (.int .i64 18) <| sZ 1 rfl (.pointer (some ⟨g6, 18, none⟩)) <| sD 2 rfl (bv a18) (Quiet.cell 3 g6 18 30 5 (bv (a0 ^^^ o0) :: bv (a1 ^^^ o1) :: [bv (a2 ^^^ o2), bv (a3 ^^^ o3), bv (a4 ^^^ o4), bv (a5 ^^^ o5), bv (a6 ^^^ o6), bv (a7 ^^^ o7), bv (a8 ^^^ o8), bv (a9 ^^^ o9), bv (a10 ^^^ o10), bv (a11 ^^^ o11), bv (a12 ^^^ o12), bv (a13 ^^^ o13), bv (a14 ^^^ o14), bv (a15 ^^^ o15), bv (a16 ^^^ o16), bv (a17 ^^^ o17), bv a18, bv a19, bv a20, bv a21, bv a22, bv a23, bv a24, bv a25, bv a26, bv a27, bv a28, bv a29, bv a30, bv a31]).toArray _ _ rfl kR kR Tryd.underlying5 rfl _ kR) <| sZ 3 rfl (.int .i64 18) <| sZ 4 rfl (.pointer (some ⟨g5, 18, none⟩)) <| sD 5 rfl (bv o18) (qC 2 g5 18 56 5 (bv o0 :: bv o1 :: [bv o2, bv o3, bv o4, bv o5, bv o6, bv o7, bv o8, bv o9, bv o10, bv o11, bv o12, bv o13, bv o14, bv o15, bv o16, bv o17, bv o18, bv o19, bv o20, bv o21, bv o22, bv o23, bv o24, bv o25, bv o26, bv o27, bv o28, bv o29, bv o30, bv o31]).toArray rfl Tryd.underlying5) <| sD 6 rfl (bv (a18 ^^^ o18)) (Quiet.pure (fun w => xor_bv w _ _ _ _ a18 o18 rfl rfl rfl)) <| sZ 7 rfl (.pointer (some ⟨g6, 18, none⟩)) ?_
  refine Sy.writeD 8 rfl kR (by rfl) kR 3 g6 30 (bv (a0 ^^^ o0) :: bv (a1 ^^^ o1) :: [bv (a2 ^^^ o2), bv (a3 ^^^ o3), bv (a4 ^^^ o4), bv (a5 ^^^ o5), bv (a6 ^^^ o6), bv (a7 ^^^ o7), bv (a8 ^^^ o8), bv (a9 ^^^ o9), bv (a10 ^^^ o10), bv (a11 ^^^ o11), bv (a12 ^^^ o12), bv (a13 ^^^ o13), bv (a14 ^^^ o14), bv (a15 ^^^ o15), bv (a16 ^^^ o16), bv (a17 ^^^ o17), bv a18, bv a19, bv a20, bv a21, bv a22, bv a23, bv a24, bv a25, bv a26, bv a27, bv a28, bv a29, bv a30, bv a31]).toArray (bv (a0 ^^^ o0) :: bv (a1 ^^^ o1) :: [bv (a2 ^^^ o2), bv (a3 ^^^ o3), bv (a4 ^^^ o4), bv (a5 ^^^ o5), bv (a6 ^^^ o6), bv (a7 ^^^ o7), bv (a8 ^^^ o8), bv (a9 ^^^ o9), bv (a10 ^^^ o10), bv (a11 ^^^ o11), bv (a12 ^^^ o12), bv (a13 ^^^ o13), bv (a14 ^^^ o14), bv (a15 ^^^ o15), bv (a16 ^^^ o16), bv (a17 ^^^ o17), bv (a18 ^^^ o18), bv a19, bv a20, bv a21, bv a22, bv a23, bv a24, bv a25, bv a26, bv a27, bv a28, bv a29, bv a30, bv a31]).toArray kR (wO 18 5 (bv (a18 ^^^ o18)) rfl) ?_
  refine sE ?_
  refine Sy.in_ ?_
  refine Sy.then_ ?_
  refine Sy.region ?_
  refine sP (.int .i64 19) <| sP (.int .i64 19) ?_
  refine Sy.nil ?_
  refine Sy.again ?_
  refine Sy.tidyR (G := [(2, .slice A n c), (4, .pointer (some ⟨g1, 0, none⟩)), (6, .pointer (some ⟨g2, 0, none⟩)), (8, .pointer (some ⟨g5, 0, none⟩)), (9, .pointer (some ⟨g6, 0, none⟩)), (16, .int .i64 19)]) (M := [(g1, 31, (key.map bv).toArray), (g2, 24, (fcs 0)), (g5, 56, (bv o0 :: bv o1 :: [bv o2, bv o3, bv o4, bv o5, bv o6, bv o7, bv o8, bv o9, bv o10, bv o11, bv o12, bv o13, bv o14, bv o15, bv o16, bv o17, bv o18, bv o19, bv o20, bv o21, bv o22, bv o23, bv o24, bv o25, bv o26, bv o27, bv o28, bv o29, bv o30, bv o31]).toArray), (g6, 30, (bv (a0 ^^^ o0) :: bv (a1 ^^^ o1) :: [bv (a2 ^^^ o2), bv (a3 ^^^ o3), bv (a4 ^^^ o4), bv (a5 ^^^ o5), bv (a6 ^^^ o6), bv (a7 ^^^ o7), bv (a8 ^^^ o8), bv (a9 ^^^ o9), bv (a10 ^^^ o10), bv (a11 ^^^ o11), bv (a12 ^^^ o12), bv (a13 ^^^ o13), bv (a14 ^^^ o14), bv (a15 ^^^ o15), bv (a16 ^^^ o16), bv (a17 ^^^ o17), bv (a18 ^^^ o18), bv a19, bv a20, bv a21, bv a22, bv a23, bv a24, bv a25, bv a26, bv a27, bv a28, bv a29, bv a30, bv a31]).toArray)]) [true, true, true, true] kR (all_cons kR (all_cons kR (all_cons kR (all_cons kR (all_cons kR (all_cons kR all_nil)))))) ?_
  refine Sy.round ?_
  refine sC ?_
  refine sP (.bool true) ?_
  refine sG ?_
  refine Sy.seq ?_
  refine sT ?_
  refine Sy.skip ?_
  refine Sy.then_ ?_
  refine Sy.seq ?_
  refine Sy.block ?_
  refine sC ?_
  refine sP (.int .i64 19) <| sP (.int .i64 19) ?_
  refine sG ?_
  refine Sy.regionD (fun j => j == 8) kR ?_
  refine sZ 0 rfl (.int .i64 19) <| sZ 1 rfl (.pointer (some ⟨g6, 19, none⟩)) <| sD 2 rfl (bv a19) (Quiet.cell 3 g6 19 30 5 (bv (a0 ^^^ o0) :: bv (a1 ^^^ o1) :: [bv (a2 ^^^ o2), bv (a3 ^^^ o3), bv (a4 ^^^ o4), bv (a5 ^^^ o5), bv (a6 ^^^ o6), bv (a7 ^^^ o7), bv (a8 ^^^ o8), bv (a9 ^^^ o9), bv (a10 ^^^ o10), bv (a11 ^^^ o11), bv (a12 ^^^ o12), bv (a13 ^^^ o13), bv (a14 ^^^ o14), bv (a15 ^^^ o15), bv (a16 ^^^ o16), bv (a17 ^^^ o17), bv (a18 ^^^ o18), bv a19, bv a20, bv a21, bv a22, bv a23, bv a24, bv a25, bv a26, bv a27, bv a28, bv a29, bv a30, bv a31]).toArray _ _ rfl kR kR Tryd.underlying5 rfl _ kR) <| sZ 3 rfl (.int .i64 19) <| sZ 4 rfl (.pointer (some ⟨g5, 19, none⟩)) <| sD 5 rfl (bv o19) (qC 2 g5 19 56 5 (bv o0 :: bv o1 :: [bv o2, bv o3, bv o4, bv o5, bv o6, bv o7, bv o8, bv o9, bv o10, bv o11, bv o12, bv o13, bv o14, bv o15, bv o16, bv o17, bv o18, bv o19, bv o20, bv o21, bv o22, bv o23, bv o24, bv o25, bv o26, bv o27, bv o28, bv o29, bv o30, bv o31]).toArray rfl Tryd.underlying5) <| sD 6 rfl (bv (a19 ^^^ o19)) (Quiet.pure (fun w => xor_bv w _ _ _ _ a19 o19 rfl rfl rfl)) <| sZ 7 rfl (.pointer (some ⟨g6, 19, none⟩)) ?_
  refine Sy.writeD 8 rfl kR (by rfl) kR 3 g6 30 (bv (a0 ^^^ o0) :: bv (a1 ^^^ o1) :: [bv (a2 ^^^ o2), bv (a3 ^^^ o3), bv (a4 ^^^ o4), bv (a5 ^^^ o5), bv (a6 ^^^ o6), bv (a7 ^^^ o7), bv (a8 ^^^ o8), bv (a9 ^^^ o9), bv (a10 ^^^ o10), bv (a11 ^^^ o11), bv (a12 ^^^ o12), bv (a13 ^^^ o13), bv (a14 ^^^ o14), bv (a15 ^^^ o15), bv (a16 ^^^ o16), bv (a17 ^^^ o17), bv (a18 ^^^ o18), bv a19, bv a20, bv a21, bv a22, bv a23, bv a24, bv a25, bv a26, bv a27, bv a28, bv a29, bv a30, bv a31]).toArray (bv (a0 ^^^ o0) :: bv (a1 ^^^ o1) :: [bv (a2 ^^^ o2), bv (a3 ^^^ o3), bv (a4 ^^^ o4), bv (a5 ^^^ o5), bv (a6 ^^^ o6), bv (a7 ^^^ o7), bv (a8 ^^^ o8), bv (a9 ^^^ o9), bv (a10 ^^^ o10), bv (a11 ^^^ o11), bv (a12 ^^^ o12), bv (a13 ^^^ o13), bv (a14 ^^^ o14), bv (a15 ^^^ o15), bv (a16 ^^^ o16), bv (a17 ^^^ o17), bv (a18 ^^^ o18), bv (a19 ^^^ o19), bv a20, bv a21, bv a22, bv a23, bv a24, bv a25, bv a26, bv a27, bv a28, bv a29, bv a30, bv a31]).toArray kR (wO 19 5 (bv (a19 ^^^ o19)) rfl) ?_
  refine sE ?_
  refine Sy.in_ ?_
  refine Sy.then_ ?_
  refine Sy.region ?_
  refine sP (.int .i64 20) <| sP (.int .i64 20) ?_
  refine Sy.nil ?_
  refine Sy.again ?_
  refine Sy.tidyR (G := [(2, .slice A n c), (4, .pointer (some ⟨g1, 0, none⟩)), (6, .pointer (some ⟨g2, 0, none⟩)), (8, .pointer (some ⟨g5, 0, none⟩)), (9, .pointer (some ⟨g6, 0, none⟩)), (16, .int .i64 20)]) (M := [(g1, 31, (key.map bv).toArray), (g2, 24, (fcs 0)), (g5, 56, (bv o0 :: bv o1 :: [bv o2, bv o3, bv o4, bv o5, bv o6, bv o7, bv o8, bv o9, bv o10, bv o11, bv o12, bv o13, bv o14, bv o15, bv o16, bv o17, bv o18, bv o19, bv o20, bv o21, bv o22, bv o23, bv o24, bv o25, bv o26, bv o27, bv o28, bv o29, bv o30, bv o31]).toArray), (g6, 30, (bv (a0 ^^^ o0) :: bv (a1 ^^^ o1) :: [bv (a2 ^^^ o2), bv (a3 ^^^ o3), bv (a4 ^^^ o4), bv (a5 ^^^ o5), bv (a6 ^^^ o6), bv (a7 ^^^ o7), bv (a8 ^^^ o8), bv (a9 ^^^ o9), bv (a10 ^^^ o10), bv (a11 ^^^ o11), bv (a12 ^^^ o12), bv (a13 ^^^ o13), bv (a14 ^^^ o14), bv (a15 ^^^ o15), bv (a16 ^^^ o16), bv (a17 ^^^ o17), bv (a18 ^^^ o18), bv (a19 ^^^ o19), bv a20, bv a21, bv a22, bv a23, bv a24, bv a25, bv a26, bv a27, bv a28, bv a29, bv a30, bv a31]).toArray)]) [true, true, true, true] kR (all_cons kR (all_cons kR (all_cons kR (all_cons kR (all_cons kR (all_cons kR all_nil)))))) ?_
  refine Sy.round ?_
  refine sC ?_
  refine sP (.bool true) ?_
  refine sG ?_
  refine Sy.seq ?_
  refine sT ?_
  refine Sy.skip ?_
  refine Sy.then_ ?_
  refine Sy.seq ?_
  refine Sy.block ?_
  refine sC ?_
  refine sP (.int .i64 20) <| sP (.int .i64 20) ?_
  refine sG ?_
  refine Sy.regionD (fun j => j == 8) kR ?_
  refine sZ 0 rfl (.int .i64 20) <| sZ 1 rfl (.pointer (some ⟨g6, 20, none⟩)) <| sD 2 rfl (bv a20) (Quiet.cell 3 g6 20 30 5 (bv (a0 ^^^ o0) :: bv (a1 ^^^ o1) :: [bv (a2 ^^^ o2), bv (a3 ^^^ o3), bv (a4 ^^^ o4), bv (a5 ^^^ o5), bv (a6 ^^^ o6), bv (a7 ^^^ o7), bv (a8 ^^^ o8), bv (a9 ^^^ o9), bv (a10 ^^^ o10), bv (a11 ^^^ o11), bv (a12 ^^^ o12), bv (a13 ^^^ o13), bv (a14 ^^^ o14), bv (a15 ^^^ o15), bv (a16 ^^^ o16), bv (a17 ^^^ o17), bv (a18 ^^^ o18), bv (a19 ^^^ o19), bv a20, bv a21, bv a22, bv a23, bv a24, bv a25, bv a26, bv a27, bv a28, bv a29, bv a30, bv a31]).toArray _ _ rfl kR kR Tryd.underlying5 rfl _ kR) <| sZ 3 rfl (.int .i64 20) <| sZ 4 rfl (.pointer (some ⟨g5, 20, none⟩)) <| sD 5 rfl (bv o20) (qC 2 g5 20 56 5 (bv o0 :: bv o1 :: [bv o2, bv o3, bv o4, bv o5, bv o6, bv o7, bv o8, bv o9, bv o10, bv o11, bv o12, bv o13, bv o14, bv o15, bv o16, bv o17, bv o18, bv o19, bv o20, bv o21, bv o22, bv o23, bv o24, bv o25, bv o26, bv o27, bv o28, bv o29, bv o30, bv o31]).toArray rfl Tryd.underlying5) <| sD 6 rfl (bv (a20 ^^^ o20)) (Quiet.pure (fun w => xor_bv w _ _ _ _ a20 o20 rfl rfl rfl)) <| sZ 7 rfl (.pointer (some ⟨g6, 20, none⟩)) ?_
  refine Sy.writeD 8 rfl kR (by rfl) kR 3 g6 30 (bv (a0 ^^^ o0) :: bv (a1 ^^^ o1) :: [bv (a2 ^^^ o2), bv (a3 ^^^ o3), bv (a4 ^^^ o4), bv (a5 ^^^ o5), bv (a6 ^^^ o6), bv (a7 ^^^ o7), bv (a8 ^^^ o8), bv (a9 ^^^ o9), bv (a10 ^^^ o10), bv (a11 ^^^ o11), bv (a12 ^^^ o12), bv (a13 ^^^ o13), bv (a14 ^^^ o14), bv (a15 ^^^ o15), bv (a16 ^^^ o16), bv (a17 ^^^ o17), bv (a18 ^^^ o18), bv (a19 ^^^ o19), bv a20, bv a21, bv a22, bv a23, bv a24, bv a25, bv a26, bv a27, bv a28, bv a29, bv a30, bv a31]).toArray (bv (a0 ^^^ o0) :: bv (a1 ^^^ o1) :: [bv (a2 ^^^ o2), bv (a3 ^^^ o3), bv (a4 ^^^ o4), bv (a5 ^^^ o5), bv (a6 ^^^ o6), bv (a7 ^^^ o7), bv (a8 ^^^ o8), bv (a9 ^^^ o9), bv (a10 ^^^ o10), bv (a11 ^^^ o11), bv (a12 ^^^ o12), bv (a13 ^^^ o13), bv (a14 ^^^ o14), bv (a15 ^^^ o15), bv (a16 ^^^ o16), bv (a17 ^^^ o17), bv (a18 ^^^ o18), bv (a19 ^^^ o19), bv (a20 ^^^ o20), bv a21, bv a22, bv a23, bv a24, bv a25, bv a26, bv a27, bv a28, bv a29, bv a30, bv a31]).toArray kR (wO 20 5 (bv (a20 ^^^ o20)) rfl) ?_
  refine sE ?_
  refine Sy.in_ ?_
  refine Sy.then_ ?_
  refine Sy.region ?_
  refine sP (.int .i64 21) <| sP (.int .i64 21) ?_
  refine Sy.nil ?_
  refine Sy.again ?_
  refine Sy.tidyR (G := [(2, .slice A n c), (4, .pointer (some ⟨g1, 0, none⟩)), (6, .pointer (some ⟨g2, 0, none⟩)), (8, .pointer (some ⟨g5, 0, none⟩)), (9, .pointer (some ⟨g6, 0, none⟩)), (16, .int .i64 21)]) (M := [(g1, 31, (key.map bv).toArray), (g2, 24, (fcs 0)), (g5, 56, (bv o0 :: bv o1 :: [bv o2, bv o3, bv o4, bv o5, bv o6, bv o7, bv o8, bv o9, bv o10, bv o11, bv o12, bv o13, bv o14, bv o15, bv o16, bv o17, bv o18, bv o19, bv o20, bv o21, bv o22, bv o23, bv o24, bv o25, bv o26, bv o27, bv o28, bv o29, bv o30, bv o31]).toArray), (g6, 30, (bv (a0 ^^^ o0) :: bv (a1 ^^^ o1) :: [bv (a2 ^^^ o2), bv (a3 ^^^ o3), bv (a4 ^^^ o4), bv (a5 ^^^ o5), bv (a6 ^^^ o6), bv (a7 ^^^ o7), bv (a8 ^^^ o8), bv (a9 ^^^ o9), bv (a10 ^^^ o10), bv (a11 ^^^ o11), bv (a12 ^^^ o12), bv (a13 ^^^ o13), bv (a14 ^^^ o14), bv (a15 ^^^ o15), bv (a16 ^^^ o16), bv (a17 ^^^ o17), bv (a18 ^^^ o18), bv (a19 ^^^ o19), bv (a20 ^^^ o20), bv a21, bv a22, bv a23, bv a24, bv a25, bv a26, bv a27, bv a28, bv a29, bv a30, bv a31]).toArray)]) [true, true, true, true] kR (all_cons kR (all_cons kR (all_cons kR (all_cons kR (all_cons kR (all_cons kR all_nil)))))) ?_
  refine Sy.round ?_
  refine sC ?_
  refine sP (.bool true) ?_
  refine sG ?_
  refine Sy.seq ?_
  refine sT ?_
  refine Sy.skip ?_
  refine Sy.then_ ?_
  refine Sy.seq ?_
  refine Sy.block ?_
  refine sC ?_
  refine sP (.int .i64 21) <| sP (.int .i64 21) ?_
  refine sG ?_
  refine Sy.regionD (fun j => j == 8) kR ?_
  refine sZ 0 rfl (.int .i64 21) <| sZ 1 rfl (.pointer (some ⟨g6, 21, none⟩)) <| sD 2 rfl (bv a21) (Quiet.cell 3 g6 21 30 5 (bv (a0 ^^^ o0) :: bv (a1 ^^^ o1) :: [bv (a2 ^^^ o2), bv (a3 ^^^ o3), bv (a4 ^^^ o4), bv (a5 ^^^ o5), bv (a6 ^^^ o6), bv (a7 ^^^ o7), bv (a8 ^^^ o8), bv (a9 ^^^ o9), bv (a10 ^^^ o10), bv (a11 ^^^ o11), bv (a12 ^^^ o12), bv (a13 ^^^ o13), bv (a14 ^^^ o14), bv (a15 ^^^ o15), bv (a16 ^^^ o16), bv (a17 ^^^ o17), bv (a18 ^^^ o18), bv (a19 ^^^ o19), bv (a20 ^^^ o20), bv a21, bv a22, bv a23, bv a24, bv a25, bv a26, bv a27, bv a28, bv a29, bv a30, bv a31]).toArray _ _ rfl kR kR Tryd.underlying5 rfl _ kR) <| sZ 3 rfl (.int .i64 21) <| sZ 4 rfl (.pointer (some ⟨g5, 21, none⟩)) <| sD 5 rfl (bv o21) (qC 2 g5 21 56 5 (bv o0 :: bv o1 :: [bv o2, bv o3, bv o4, bv o5, bv o6, bv o7, bv o8, bv o9, bv o10, bv o11, bv o12, bv o13, bv o14, bv o15, bv o16, bv o17, bv o18, bv o19, bv o20, bv o21, bv o22, bv o23, bv o24, bv o25, bv o26, bv o27, bv o28, bv o29, bv o30, bv o31]).toArray rfl Tryd.underlying5) <| sD 6 rfl (bv (a21 ^^^ o21)) (Quiet.pure (fun w => xor_bv w _ _ _ _ a21 o21 rfl rfl rfl)) <| sZ 7 rfl (.pointer (some ⟨g6, 21, none⟩)) ?_
  refine Sy.writeD 8 rfl kR (by rfl) kR 3 g6 30 (bv (a0 ^^^ o0) :: bv (a1 ^^^ o1) :: [bv (a2 ^^^ o2), bv (a3 ^^^ o3), bv (a4 ^^^ o4), bv (a5 ^^^ o5), bv (a6 ^^^ o6), bv (a7 ^^^ o7), bv (a8 ^^^ o8), bv (a9 ^^^ o9), bv (a10 ^^^ o10), bv (a11 ^^^ o11), bv (a12 ^^^ o12), bv (a13 ^^^ o13), bv (a14 ^^^ o14), bv (a15 ^^^ o15), bv (a16 ^^^ o16), bv (a17 ^^^ o17), bv (a18 ^^^ o18), bv (a19 ^^^ o19), bv (a20 ^^^ o20), bv a21, bv a22, bv a23, bv a24, bv a25, bv a26, bv a27, bv a28, bv a29, bv a30, bv a31]).toArray (bv (a0 ^^^ o0) :: bv (a1 ^^^ o1) :: [bv (a2 ^^^ o2), bv (a3 ^^^ o3), bv (a4 ^^^ o4), bv (a5 ^^^ o5), bv (a6 ^^^ o6), bv (a7 ^^^ o7), bv (a8 ^^^ o8), bv (a9 ^^^ o9), bv (a10 ^^^ o10), bv (a11 ^^^ o11), bv (a12 ^^^ o12), bv (a13 ^^^ o13), bv (a14 ^^^ o14), bv (a15 ^^^ o15), bv (a16 ^^^ o16), bv (a17 ^^^ o17), bv (a18 ^^^ o18), bv (a19 ^^^ o19), bv (a20 ^^^ o20), bv (a21 ^^^ o21), bv a22, bv a23, bv a24, bv a25, bv a26, bv a27, bv a28, bv a29, bv a30, bv a31]).toArray kR (wO 21 5 (bv (a21 ^^^ o21)) rfl) ?_
  refine sE ?_
  refine Sy.in_ ?_
  refine Sy.then_ ?_
  refine Sy.region ?_
  refine sP (.int .i64 22) <| sP (.int .i64 22) ?_
  refine Sy.nil ?_
  refine Sy.again ?_
  refine Sy.tidyR (G := [(2, .slice A n c), (4, .pointer (some ⟨g1, 0, none⟩)), (6, .pointer (some ⟨g2, 0, none⟩)), (8, .pointer (some ⟨g5, 0, none⟩)), (9, .pointer (some ⟨g6, 0, none⟩)), (16, .int .i64 22)]) (M := [(g1, 31, (key.map bv).toArray), (g2, 24, (fcs 0)), (g5, 56, (bv o0 :: bv o1 :: [bv o2, bv o3, bv o4, bv o5, bv o6, bv o7, bv o8, bv o9, bv o10, bv o11, bv o12, bv o13, bv o14, bv o15, bv o16, bv o17, bv o18, bv o19, bv o20, bv o21, bv o22, bv o23, bv o24, bv o25, bv o26, bv o27, bv o28, bv o29, bv o30, bv o31]).toArray), (g6, 30, (bv (a0 ^^^ o0) :: bv (a1 ^^^ o1) :: [bv (a2 ^^^ o2), bv (a3 ^^^ o3), bv (a4 ^^^ o4), bv (a5 ^^^ o5), bv (a6 ^^^ o6), bv (a7 ^^^ o7), bv (a8 ^^^ o8), bv (a9 ^^^ o9), bv (a10 ^^^ o10), bv (a11 ^^^ o11), bv (a12 ^^^ o12), bv (a13 ^^^ o13), bv (a14 ^^^ o14), bv (a15 ^^^ o15), bv (a16 ^^^ o16), bv (a17 ^^^ o17), bv (a18 ^^^ o18), bv (a19 ^^^ o19), bv (a20 ^^^ o20), bv (a21 ^^^ o21), bv a22, bv a23, bv a24, bv a25, bv a26, bv a27, bv a28, bv a29, bv a30, bv a31]).toArray)]) [true, true, true, true] kR (all_cons kR (all_cons kR (all_cons kR (all_cons kR (all_cons kR (all_cons kR all_nil)))))) ?_
  refine Sy.round ?_
  refine sC ?_
  refine sP (.bool true) ?_
  refine sG ?_
  refine Sy.seq ?_
  refine sT ?_
  refine Sy.skip ?_
  refine Sy.then_ ?_
  refine Sy.seq ?_
  refine Sy.block ?_
  refine sC ?_
  refine sP (.int .i64 22) <| sP (.int .i64 22) ?_
  refine sG ?_
  refine Sy.regionD (fun j => j == 8) kR ?_
  refine sZ 0 rfl (.int .i64 22) <| sZ 1 rfl (.pointer (some ⟨g6, 22, none⟩)) <| sD 2 rfl (bv a22) (Quiet.cell 3 g6 22 30 5 (bv (a0 ^^^ o0) :: bv (a1 ^^^ o1) :: [bv (a2 ^^^ o2), bv (a3 ^^^ o3), bv (a4 ^^^ o4), bv (a5 ^^^ o5), bv (a6 ^^^ o6), bv (a7 ^^^ o7), bv (a8 ^^^ o8), bv (a9 ^^^ o9), bv (a10 ^^^ o10), bv (a11 ^^^ o11), bv (a12 ^^^ o12), bv (a13 ^^^ o13), bv (a14 ^^^ o14), bv (a15 ^^^ o15), bv (a16 ^^^ o16), bv (a17 ^^^ o17), bv (a18 ^^^ o18), bv (a19 ^^^ o19), bv (a20 ^^^ o20), bv (a21 ^^^ o21), bv a22, bv a23, bv a24, bv a25, bv a26, bv a27, bv a28, bv a29, bv a30, bv a31]).toArray _ _ rfl kR kR Tryd.underlying5 rfl _ kR) <| sZ 3 rfl (.int .i64 22) <| sZ 4 rfl (.pointer (some ⟨g5, 22, none⟩)) <| sD 5 rfl (bv o22) (qC 2 g5 22 56 5 (bv o0 :: bv o1 :: [bv o2, bv o3, bv o4, bv o5, bv o6, bv o7, bv o8, bv o9, bv o10, bv o11, bv o12, bv o13, bv o14, bv o15, bv o16, bv o17, bv o18, bv o19, bv o20, bv o21, bv o22, bv o23, bv o24, bv o25, bv o26, bv o27, bv o28, bv o29, bv o30, bv o31]).toArray rfl Tryd.underlying5) <| sD 6 rfl (bv (a22 ^^^ o22)) (Quiet.pure (fun w => xor_bv w _ _ _ _ a22 o22 rfl rfl rfl)) <| sZ 7 rfl (.pointer (some ⟨g6, 22, none⟩)) ?_
  refine Sy.writeD 8 rfl kR (by rfl) kR 3 g6 30 (bv (a0 ^^^ o0) :: bv (a1 ^^^ o1) :: [bv (a2 ^^^ o2), bv (a3 ^^^ o3), bv (a4 ^^^ o4), bv (a5 ^^^ o5), bv (a6 ^^^ o6), bv (a7 ^^^ o7), bv (a8 ^^^ o8), bv (a9 ^^^ o9), bv (a10 ^^^ o10), bv (a11 ^^^ o11), bv (a12 ^^^ o12), bv (a13 ^^^ o13), bv (a14 ^^^ o14), bv (a15 ^^^ o15), bv (a16 ^^^ o16), bv (a17 ^^^ o17), bv (a18 ^^^ o18), bv (a19 ^^^ o19), bv (a20 ^^^ o20), bv (a21 ^^^ o21), bv a22, bv a23, bv a24, bv a25, bv a26, bv a27, bv a28, bv a29, bv a30, bv a31]).toArray (bv (a0 ^^^ o0) :: bv (a1 ^^^ o1) :: [bv (a2 ^^^ o2), bv (a3 ^^^ o3), bv (a4 ^^^ o4), bv (a5 ^^^ o5), bv (a6 ^^^ o6), bv (a7 ^^^ o7), bv (a8 ^^^ o8), bv (a9 ^^^ o9), bv (a10 ^^^ o10), bv (a11 ^^^ o11), bv (a12 ^^^ o12), bv (a13 ^^^ o13), bv (a14 ^^^ o14), bv (a15 ^^^ o15), bv (a16 ^^^ o16), bv (a17 ^^^ o17), bv (a18 ^^^ o18), bv (a19 ^^^ o19), bv (a20 ^^^ o20), bv (a21 ^^^ o21), bv (a22 ^^^ o22), bv a23, bv a24, bv a25, bv a26, bv a27, bv a28, bv a29, bv a30, bv a31]).toArray kR (wO 22 5 (bv (a22 ^^^ o22)) rfl) ?_
  refine sE ?_
  refine Sy.in_ ?_
  refine Sy.then_ ?_
  refine Sy.region ?_
  refine sP (.int .i64 23) <| sP (.int .i64 23) ?_
  refine Sy.nil ?_
  refine Sy.again ?_
  refine Sy.tidyR (G := [(2, .slice A n c), (4, .pointer (some ⟨g1, 0, none⟩)), (6, .pointer (some ⟨g2, 0, none⟩)), (8, .pointer (some ⟨g5, 0, none⟩)), (9, .pointer (some ⟨g6, 0, none⟩)), (16, .int .i64 23)]) (M := [(g1, 31, (key.map bv).toArray), (g2, 24, (fcs 0)), (g5, 56, (bv o0 :: bv o1 :: [bv o2, bv o3, bv o4, bv o5, bv o6, bv o7, bv o8, bv o9, bv o10, bv o11, bv o12, bv o13, bv o14, bv o15, bv o16, bv o17, bv o18, bv o19, bv o20, bv o21, bv o22, bv o23, bv o24, bv o25, bv o26, bv o27, bv o28, bv o29, bv o30, bv o31]).toArray), (g6, 30, (bv (a0 ^^^ o0) :: bv (a1 ^^^ o1) :: [bv (a2 ^^^ o2), bv (a3 ^^^ o3), bv (a4 ^^^ o4), bv (a5 ^^^ o5), bv (a6 ^^^ o6), bv (a7 ^^^ o7), bv (a8 ^^^ o8), bv (a9 ^^^ o9), bv (a10 ^^^ o10), bv (a11 ^^^ o11), bv (a12 ^^^ o12), bv (a13 ^^^ o13), bv (a14 ^^^ o14), bv (a15 ^^^ o15), bv (a16 ^^^ o16), bv (a17 ^^^ o17), bv (a18 ^^^ o18), bv (a19 ^^^ o19), bv (a20 ^^^ o20), bv (a21 ^^^ o21), bv (a22 ^^^ o22), bv a23, bv a24, bv a25, bv a26, bv a27, bv a28, bv a29, bv a30, bv a31]).toArray)]) [true, true, true, true] kR (all_cons kR (all_cons kR (all_cons kR (all_cons kR (all_cons kR (all_cons kR all_nil)))))) ?_
  refine Sy.round ?_
  refine sC ?_
  refine sP (.bool true) ?_
  refine sG ?_
  refine Sy.seq ?_
  refine sT ?_
  refine Sy.skip ?_
  refine Sy.then_ ?_
  refine Sy.seq ?_
  refine Sy.block ?_
  refine sC ?_
  refine sP (.int .i64 23) <| sP (.int .i64 23) ?_
  refine sG ?_
  refine Sy.regionD (fun j => j == 8) kR ?_
  refine sZ 0 rfl (.int .i64 23) <| sZ 1 rfl (.pointer (some ⟨g6, 23, none⟩)) <| sD 2 rfl (bv a23) (Quiet.cell 3 g6 23 30 5 (bv (a0 ^^^ o0) :: bv (a1 ^^^ o1) :: [bv (a2 ^^^ o2), bv (a3 ^^^ o3), bv (a4 ^^^ o4), bv (a5 ^^^ o5), bv (a6 ^^^ o6), bv (a7 ^^^ o7), bv (a8 ^^^ o8), bv (a9 ^^^ o9), bv (a10 ^^^ o10), bv (a11 ^^^ o11), bv (a12 ^^^ o12), bv (a13 ^^^ o13), bv (a14 ^^^ o14), bv (a15 ^^^ o15), bv (a16 ^^^ o16), bv (a17 ^^^ o17), bv (a18 ^^^ o18), bv (a19 ^^^ o19), bv (a20 ^^^ o20), bv (a21 ^^^ o21), bv (a22 ^^^ o22), bv a23, bv a24, bv a25, bv a26, bv a27, bv a28, bv a29, bv a30, bv a31]).toArray _ _ rfl kR kR Tryd.underlying5 rfl _ kR) <| sZ 3 rfl (.int .i64 23) <| sZ 4 rfl (.pointer (some ⟨g5, 23, none⟩)) <| sD 5 rfl (bv o23) (qC 2 g5 23 56 5 (bv o0 :: bv o1 :: [bv o2, bv o3, bv o4, bv o5, bv o6, bv o7, bv o8, bv o9, bv o10, bv o11, bv o12, bv o13, bv o14, bv o15, bv o16, bv o17, bv o18, bv o19, bv o20, bv o21, bv o22, bv o23, bv o24, bv o25, bv o26, bv o27, bv o28, bv o29, bv o30, bv o31]).toArray rfl Tryd.underlying5) <| sD 6 rfl (bv (a23 ^^^ o23)) (Quiet.pure (fun w => xor_bv w _ _ _ _ a23 o23 rfl rfl rfl)) <| sZ 7 rfl (.pointer (some ⟨g6, 23, none⟩)) ?_
  refine Sy.writeD 8 rfl kR (by rfl) kR 3 g6 30 (bv (a0 ^^^ o0) :: bv (a1 ^^^ o1) :: [bv (a2 ^^^ o2), bv (a3 ^^^ o3), bv (a4 ^^^ o4), bv (a5 ^^^ o5), bv (a6 ^^^ o6), bv (a7 ^^^ o7), bv (a8 ^^^ o8), bv (a9 ^^^ o9), bv (a10 ^^^ o10), bv (a11 ^^^ o11), bv (a12 ^^^ o12), bv (a13 ^^^ o13), bv (a14 ^^^ o14), bv (a15 ^^^ o15), bv (a16 ^^^ o16), bv (a17 ^^^ o17), bv (a18 ^^^ o18), bv (a19 ^^^ o19), bv (a20 ^^^ o20), bv (a21 ^^^ o21), bv (a22 ^^^ o22), bv a23, bv a24, bv a25, bv a26, bv a27, bv a28, bv a29, bv a30, bv a31]).toArray (bv (a0 ^^^ o0) :: bv (a1 ^^^ o1) :: [bv (a2 ^^^ o2), bv (a3 ^^^ o3), bv (a4 ^^^ o4), bv (a5 ^^^ o5), bv (a6 ^^^ o6), bv (a7 ^^^ o7), bv (a8 ^^^ o8), bv (a9 ^^^ o9), bv (a10 ^^^ o10), bv (a11 ^^^ o11), bv (a12 ^^^ o12), bv (a13 ^^^ o13), bv (a14 ^^^ o14), bv (a15 ^^^ o15), bv (a16 ^^^ o16), bv (a17 ^^^ o17), bv (a18 ^^^ o18), bv (a19 ^^^ o19), bv (a20 ^^^ o20), bv (a21 ^^^ o21), bv (a22 ^^^ o22), bv (a23 ^^^ o23), bv a24, bv a25, bv a26, bv a27, bv a28, bv a29, bv a30, bv a31]).toArray kR (wO 23 5 (bv (a23 ^^^ o23)) rfl) ?_
  refine sE ?_
  refine Sy.in_ ?_
  refine Sy.then_ ?_
  refine Sy.region ?_
  refine sP (.int .i64 24) <| sP (.int .i64 24) ?_
  refine Sy.nil ?_
  refine Sy.again ?_
  refine Sy.tidyR (G := [(2, .slice A n c), (4, .pointer (some ⟨g1, 0, none⟩)), (6, .pointer (some ⟨g2, 0, none⟩)), (8, .pointer (some ⟨g5, 0, none⟩)), (9, .pointer (some ⟨g6, 0, none⟩)), (16, .int .i64 24)]) (M := [(g1, 31, (key.map bv).toArray), (g2, 24, (fcs 0)), (g5, 56, (bv o0 :: bv o1 :: [bv o2, bv o3, bv o4, bv o5, bv o6, bv o7, bv o8, bv o9, bv o10, bv o11, bv o12, bv o13, bv o14, bv o15, bv o16, bv o17, bv o18, bv o19, bv o20, bv o21, bv o22, bv o23, bv o24, bv o25, bv o26, bv o27, bv o28, bv o29, bv o30, bv o31]).toArray), (g6, 30, (bv (a0 ^^^ o0) :: bv (a1 ^^^ o1) :: [bv (a2 ^^^ o2), bv (a3 ^^^ o3), bv (a4 ^^^ o4), bv (a5 ^^^ o5), bv (a6 ^^^ o6), bv (a7 ^^^ o7), bv (a8 ^^^ o8), bv (a9 ^^^ o9), bv (a10 ^^^ o10), bv (a11 ^^^ o11), bv (a12 ^^^ o12), bv (a13 ^^^ o13), bv (a14 ^^^ o14), bv (a15 ^^^ o15), bv (a16 ^^^ o16), bv (a17 ^^^ o17), bv (a18 ^^^ o18), bv (a19 ^^^ o19), bv (a20 ^^^ o20), bv (a21 ^^^ o21), bv (a22 ^^^ o22), bv (a23 ^^^ o23), bv a24, bv a25, bv a26, bv a27, bv a28, bv a29, bv a30, bv a31]).toArray)]) [true, true, true, true] kR (all_cons kR (all_cons kR (all_cons kR (all_cons kR (all_cons kR (all_cons kR all_nil)))))) ?_
  refine Sy.round ?_
  refine sC ?_
  refine sP (.bool true) ?_
  refine sG ?_
  refine Sy.seq ?_
  refine sT ?_
  refine Sy.skip ?_
  refine Sy.then_ ?_
  refine Sy.seq ?_
  refine Sy.block ?_
  refine sC ?_
  refine sP (.int .i64 24) <| sP (.int .i64 24) ?_
  refine sG ?_
  refine Sy.regionD (fun j => j == 8) kR ?_
  refine sZ 0 rfl (.int .i64 24) <| sZ 1 rfl (.pointer (some ⟨g6, 24, none⟩)) <| sD 2 rfl (bv a24) (Quiet.cell 3 g6 24 30 5 (bv (a0 ^^^ o0) :: bv (a1 ^^^ o1) :: [bv (a2 ^^^ o2), bv (a3 ^^^ o3), bv (a4 ^^^ o4), bv (a5 ^^^ o5), bv (a6 ^^^ o6), bv (a7 ^^^ o7), bv (a8 ^^^ o8), bv (a9 ^^^ o9), bv (a10 ^^^ o10), bv (a11 ^^^ o11), bv (a12 ^^^ o12), bv (a13 ^^^ o13), bv (a14 ^^^ o14), bv (a15 ^^^ o15), bv (a16 ^^^ o16), bv (a17 ^^^ o17), bv (a18 ^^^ o18), bv (a19 ^^^ o19), bv (a20 ^^^ o20), bv (a21 ^^^ o21), bv (a22 ^^^ o22), bv (a23 ^^^ o23), bv a24, bv a25, bv a26, bv a27, bv a28, bv a29, bv a30, bv a31]).toArray _ _ rfl kR kR Tryd.underlying5 rfl _ kR) <| sZ 3 rfl (.int .i64 24) <| sZ 4 rfl (.pointer (some ⟨g5, 24, none⟩)) <| sD 5 rfl (bv o24) (qC 2 g5 24 56 5 (bv o0 :: bv o1 :: [bv o2, bv o3, bv o4, bv o5, bv o6, bv o7, bv o8, bv o9, bv o10, bv o11, bv o12, bv o13, bv o14, bv o15, bv o16, bv o17, bv o18, bv o19, bv o20, bv o21, bv o22, bv o23, bv o24, bv o25, bv o26, bv o27, bv o28, bv o29, bv o30, bv o31]).toArray rfl Tryd.underlying5) <| sD 6 rfl (bv (a24 ^^^ o24)) (Quiet.pure (fun w => xor_bv w _ _ _ _ a24 o24 rfl rfl rfl)) <| sZ 7 rfl (.pointer (some ⟨g6, 24, none⟩)) ?_
  refine Sy.writeD 8 rfl kR (by rfl) kR 3 g6 30 (bv (a0 ^^^ o0) :: bv (a1 ^^^ o1) :: [bv (a2 ^^^ o2), bv (a3 ^^^ o3), bv (a4 ^^^ o4), bv (a5 ^^^ o5), bv (a6 ^^^ o6), bv (a7 ^^^ o7), bv (a8 ^^^ o8), bv (a9 ^^^ o9), bv (a10 ^^^ o10), bv (a11 ^^^ o11), bv (a12 ^^^ o12), bv (a13 ^^^ o13), bv (a14 ^^^ o14), bv (a15 ^^^ o15), bv (a16 ^^^ o16), bv (a17 ^^^ o17), bv (a18 ^^^ o18), bv (a19 ^^^ o19), bv (a20 ^^^ o20), bv (a21 ^^^ o21), bv (a22 ^^^ o22), bv (a23 ^^^ o23), bv a24, bv a25, bv a26, bv a27, bv a28, bv a29, bv a30, bv a31]).toArray (bv (a0 ^^^ o0) :: bv (a1 ^^^ o1) :: [bv (a2 ^^^ o2), bv (a3 ^^^ o3), bv (a4 ^^^ o4), bv (a5 ^^^ o5), bv (a6 ^^^ o6), bv (a7 ^^^ o7), bv (a8 ^^^ o8), bv (a9 ^^^ o9), bv (a10 ^^^ o10), bv (a11 ^^^ o11), bv (a12 ^^^ o12), bv (a13 ^^^ o13), bv (a14 ^^^ o14), bv (a15 ^^^ o15), bv (a16 ^^^ o16), bv (a17 ^^^ o17), bv (a18 ^^^ o18), bv (a19 ^^^ o19), bv (a20 ^^^ o20), bv (a21 ^^^ o21), bv (a22 ^^^ o22), bv (a23 ^^^ o23), bv (a24 ^^^ o24), bv a25, bv a26, bv a27, bv a28, bv a29, bv a30, bv a31]).toArray kR (wO 24 5 (bv (a24 ^^^ o24)) rfl) ?_
  refine sE ?_
  refine Sy.in_ ?_
  refine Sy.then_ ?_
  refine Sy.region ?_
  refine sP (.int .i64 25) <| sP (.int .i64 25) ?_
  refine Sy.nil ?_
  refine Sy.again ?_
  refine Sy.tidyR (G := [(2, .slice A n c), (4, .pointer (some ⟨g1, 0, none⟩)), (6, .pointer (some ⟨g2, 0, none⟩)), (8, .pointer (some ⟨g5, 0, none⟩)), (9, .pointer (some ⟨g6, 0, none⟩)), (16, .int .i64 25)]) (M := [(g1, 31, (key.map bv).toArray), (g2, 24, (fcs 0)), (g5, 56, (bv o0 :: bv o1 :: [bv o2, bv o3, bv o4, bv o5, bv o6, bv o7, bv o8, bv o9, bv o10, bv o11, bv o12, bv o13, bv o14, bv o15, bv o16, bv o17, bv o18, bv o19, bv o20, bv o21, bv o22, bv o23, bv o24, bv o25, bv o26, bv o27, bv o28, bv o29, bv o30, bv o31]).toArray), (g6, 30, (bv (a0 ^^^ o0) :: bv (a1 ^^^ o1) :: [bv (a2 ^^^ o2), bv (a3 ^^^ o3), bv (a4 ^^^ o4), bv (a5 ^^^ o5), bv (a6 ^^^ o6), bv (a7 ^^^ o7), bv (a8 ^^^ o8), bv (a9 ^^^ o9), bv (a10 ^^^ o10), bv (a11 ^^^ o11), bv (a12 ^^^ o12), bv (a13 ^^^ o13), bv (a14 ^^^ o14), bv (a15 ^^^ o15), bv (a16 ^^^ o16), bv (a17 ^^^ o17), bv (a18 ^^^ o18), bv (a19 ^^^ o19), bv (a20 ^^^ o20), bv (a21 ^^^ o21), bv (a22 ^^^ o22), bv (a23 ^^^ o23), bv (a24 ^^^ o24), bv a25, bv a26, bv a27, bv a28, bv a29, bv a30, bv a31]).toArray)]) [true, true, true, true] kR (all_cons kR (all_cons kR (all_cons kR (all_cons kR (all_cons kR (all_cons kR all_nil)))))) ?_
  refine Sy.round ?_
  refine sC ?_
  refine sP (.bool true) ?_
  refine sG ?_
  refine Sy.seq ?_
  refine sT ?_
  refine Sy.skip ?_
  refine Sy.then_ ?_
  refine Sy.seq ?_
  refine Sy.block ?_
  refine sC ?_
  refine sP (.int .i64 25) <| sP (.int .i64 25) ?_
  refine sG ?_
  refine Sy.regionD (fun j => j == 8) kR ?_
  refine sZ 0 rfl (.int .i64 25) <| sZ 1 rfl (.pointer (some ⟨g6, 25, none⟩)) <| sD 2 rfl (bv a25) (Quiet.cell 3 g6 25 30 5 (bv (a0 ^^^ o0) :: bv (a1 ^^^ o1) :: [bv (a2 ^^^ o2), bv (a3 ^^^ o3), bv (a4 ^^^ o4), bv (a5 ^^^ o5), bv (a6 ^^^ o6), bv (a7 ^^^ o7), bv (a8 ^^^ o8), bv (a9 ^^^ o9), bv (a10 ^^^ o10), bv (a11 ^^^ o11), bv (a12 ^^^ o12), bv (a13 ^^^ o13), bv (a14 ^^^ o14), bv (a15 ^^^ o15), bv (a16 ^^^ o16), bv (a17 ^^^ o17), bv (a18 ^^^ o18), bv (a19 ^^^ o19), bv (a20 ^^^ o20), bv (a21 ^^^ o21), bv (a22 ^^^ o22), bv (a23 ^^^ o23), bv (a24 ^^^ o24), bv a25, bv a26, bv a27, bv a28, bv a29, bv a30, bv a31]).toArray _ _ rfl kR kR Tryd.underlying5 rfl _ kR) <| sZ 3 rfl (.int .i64 25) <| sZ 4 rfl (.pointer (some ⟨g5, 25, none⟩)) <| sD 5 rfl (bv o25) (qC 2 g5 25 56 5 (bv o0 :: bv o1 :: [bv o2, bv o3, bv o4, bv o5, bv o6, bv o7, bv o8, bv o9, bv o10, bv o11, bv o12, bv o13, bv o14, bv o15, bv o16, bv o17, bv o18, bv o19, bv o20, bv o21, bv o22, bv o23, bv o24, bv o25, bv o26, bv o27, bv o28, bv o29, bv o30, bv o31]).toArray rfl Tryd.underlying5) <| sD 6 rfl (bv (a25 ^^^ o25)) (Quiet.pure (fun w => xor_bv w _ _ _ _ a25 o25 rfl rfl rfl)) <| sZ 7 rfl (.pointer (some ⟨g6, 25, none⟩)) ?_
  refine Sy.writeD 8 rfl kR (by rfl) kR 3 g6 30 (bv (a0 ^^^ o0) :: bv (a1 ^^^ o1) :: [bv (a2 ^^^ o2), bv (a3 ^^^ o3), bv (a4 ^^^ o4), bv (a5 ^^^ o5), bv (a6 ^^^ o6), bv (a7 ^^^ o7), bv (a8 ^^^ o8), bv (a9 ^^^ o9), bv (a10 ^^^ o10), bv (a11 ^^^ o11), bv (a12 ^^^ o12), bv (a13 ^^^ o13), bv (a14 ^^^ o14), bv (a15 ^^^ o15), bv (a16 ^^^ o16), bv (a17 ^^^ o17), bv (a18 ^^^ o18), bv (a19 ^^^ o19), bv (a20 ^^^ o20), bv (a21 ^^^ o21), bv (a22 ^^^ o22), bv (a23 ^^^ o23), bv (a24 ^^^ o24), bv a25, bv a26, bv a27, bv a28, bv a29, bv a30, bv a31]).toArray (bv (a0 ^^^ o0) :: bv (a1 ^^^ o1) :: [bv (a2 ^^^ o2), bv (a3 ^^^ o3), bv (a4 ^^^ o4), bv (a5 ^^^ o5), bv (a6 ^^^ o6), bv (a7 ^^^ o7), bv (a8 ^^^ o8), bv (a9 ^^^ o9), bv (a10 ^^^ o10), bv (a11 ^^^ o11), bv (a12 ^^^ o12), bv (a13 ^^^ o13), bv (a14 ^^^ o14), bv (a15 ^^^ o15), bv (a16 ^^^ o16), bv (a17 ^^^ o17), bv (a18 ^^^ o18), bv (a19 ^^^ o19), bv (a20 ^^^ o20), bv (a21 ^^^ o21), bv (a22 ^^^ o22), bv (a23 ^^^ o23), bv (a24 ^^^ o24), bv (a25 ^^^ o25), bv a26, bv a27, bv a28, bv a29, bv a30, bv a31]).toArray kR (wO 25 5 (bv (a25 ^^^ o25)) rfl) ?_
  refine sE ?_
  refine Sy.in_ ?_
  refine Sy.then_ ?_
  refine Sy.region ?_
  refine sP (.int .i64 26) <| sP (.int .i64 26) ?_
  refine Sy.nil ?_
  refine Sy.again ?_
  refine Sy.tidyR (G := [(2, .slice A n c), (4, .pointer (some ⟨g1, 0, none⟩)), (6, .pointer (some ⟨g2, 0, none⟩)), (8, .pointer (some ⟨g5, 0, none⟩)), (9, .pointer (some ⟨g6, 0, none⟩)), (16, .int .i64 26)]) (M := [(g1, 31, (key.map bv).toArray), (g2, 24, (fcs 0)), (g5, 56, (bv o0 :: bv o1 :: [bv o2, bv o3, bv o4, bv o5, bv o6, bv o7, bv o8, bv o9, bv o10, bv o11, bv o12, bv o13, bv o14, bv o15, bv o16, bv o17, bv o18, bv o19, bv o20, bv o21, bv o22, bv o23, bv o24, bv o25, bv o26, bv o27, bv o28, bv o29, bv o30, bv o31]).toArray), (g6, 30, (bv (a0 ^^^ o0) :: bv (a1 ^^^ o1) :: [bv (a2 ^^^ o2), bv (a3 ^^^ o3), bv (a4 ^^^ o4), bv (a5 ^^^ o5), bv (a6 ^^^ o6), bv (a7 ^^^ o7), bv (a8 ^^^ o8), bv (a9 ^^^ o9), bv (a10 ^^^ o10), bv (a11 ^^^ o11), bv (a12 ^^^ o12), bv (a13 ^^^ o13), bv (a14 ^^^ o14), bv (a15 ^^^ o15), bv (a16 ^^^ o16), bv (a17 ^^^ o17), bv (a18 ^^^ o18), bv (a19 ^^^ o19), bv (a20 ^^^ o20), bv (a21 ^^^ o21), bv (a22 ^^^ o22), bv (a23 ^^^ o23), bv (a24 ^^^ o24), bv (a25 ^^^ o25), bv a26, bv a27, bv a28, bv a29, bv a30, bv a31]).toArray)]) [true, true, true, true] kR (all_cons kR (all_cons kR (all_cons kR (all_cons kR (all_cons kR (all_cons kR all_nil)))))) ?_
  refine Sy.round ?_
  refine sC ?_
  refine sP (.bool true) ?_
  refine sG ?_
  refine Sy.seq ?_
  refine sT ?_
  refine Sy.skip ?_
  refine Sy.then_ ?_
  refine Sy.seq ?_
  refine Sy.block ?_
  refine sC ?_
  refine sP (.int .i64 26) <| sP (.int .i64 26) ?_
  refine sG ?_
  refine Sy.regionD (fun j => j == 8) kR ?_
  refine sZ 0 rfl (.int .i64 26) <| sZ 1 rfl (.pointer (some ⟨g6, 26, none⟩)) <| sD 2 rfl (bv a26) (Quiet.cell 3 g6 26 30 5 (bv (a0 ^^^ o0) :: bv (a1 ^^^ o1) :: [bv (a2 ^^^ o2), bv (a3 ^^^ o3), bv (a4 ^^^ o4), bv (a5 ^^^ o5), bv (a6 ^^^ o6), bv (a7 ^^^ o7), bv (a8 ^^^ o8), bv (a9 ^^^ o9), bv (a10 ^^^ o10), bv (a11 ^^^ o11), bv (a12 ^^^ o12), bv (a13 ^^^ o13), bv (a14 ^^^ o14), bv (a15 ^^^ o15), bv (a16 ^^^ o16), bv (a17 ^^^ o17), bv (a18 ^^^ o18), bv (a19 ^^^ o19), bv (a20 ^^^ o20), bv (a21 ^^^ o21), bv (a22 ^^^ o22), bv (a23 ^^^ o23), bv (a24 ^^^ o24), bv (a25 ^^^ o25), bv a26, bv a27, bv a28, bv a29, bv a30, bv a31]).toArray _ _ rfl kR kR Tryd.underlying5 rfl _ kR) <| sZ 3 rfl (.int .i64 26) <| sZ 4 rfl (.pointer (some ⟨g5, 26, none⟩)) <| sD 5 rfl (bv o26) (qC 2 g5 26 56 5 (bv o0 :: bv o1 :: [bv o2, bv o3, bv o4, bv o5, bv o6, bv o7, bv o8, bv o9, bv o10, bv o11, bv o12, bv o13, bv o14, bv o15, bv o16, bv o17, bv o18, bv o19, bv o20, bv o21, bv o22, bv o23, bv o24, bv o25, bv o26, bv o27, bv o28, bv o29, bv o30, bv o31]).toArray rfl Tryd.underlying5) <| sD 6 rfl (bv (a26 ^^^ o26)) (Quiet.pure (fun w => xor_bv w _ _ _ _ a26 o26 rfl rfl rfl)) <| sZ 7 rfl (.pointer (some ⟨g6, 26, none⟩)) ?_
  refine Sy.writeD 8 rfl kR (by rfl) kR 3 g6 30 (bv (a0 ^^^ o0) :: bv (a1 ^^^ o1) :: [bv (a2 ^^^ o2), bv (a3 ^^^ o3), bv (a4 ^^^ o4), bv (a5 ^^^ o5), bv (a6 ^^^ o6), bv (a7 ^^^ o7), bv (a8 ^^^ o8), bv (a9 ^^^ o9), bv (a10 ^^^ o10), bv (a11 ^^^ o11), bv (a12 ^^^ o12), bv (a13 ^^^ o13), bv (a14 ^^^ o14), bv (a15 ^^^ o15), bv (a16 ^^^ o16), bv (a17 ^^^ o17), bv (a18 ^^^ o18), bv (a19 ^^^ o19), bv (a20 ^^^ o20), bv (a21 ^^^ o21), bv (a22 ^^^ o22), bv (a23 ^^^ o23), bv (a24 ^^^ o24), bv (a25 ^^^ o25), bv a26, bv a27, bv a28, bv a29, bv a30, bv a31]).toArray (bv (a0 ^^^ o0) :: bv (a1 ^^^ o1) :: [bv (a2 ^^^ o2), bv (a3 ^^^ o3), bv (a4 ^^^ o4), bv (a5 ^^^ o5), bv (a6 ^^^ o6), bv (a7 ^^^ o7), bv (a8 ^^^ o8), bv (a9 ^^^ o9), bv (a10 ^^^ o10), bv (a11 ^^^ o11), bv (a12 ^^^ o12), bv (a13 ^^^ o13), bv (a14 ^^^ o14), bv (a15 ^^^ o15), bv (a16 ^^^ o16), bv (a17 ^^^ o17), bv (a18 ^^^ o18), bv (a19 ^^^ o19), bv (a20 ^^^ o20), bv (a21 ^^^ o21), bv (a22 ^^^ o22), bv (a23 ^^^ o23), bv (a24 ^^^ o24), bv (a25 ^^^ o25), bv (a26 ^^^ o26), bv a27, bv a28, bv a29, bv a30, bv a31]).toArray kR (wO 26 5 (bv (a26 ^^^ o26)) rfl) ?_
  refine sE ?_
  refine Sy.in_ ?_
  refine Sy.then_ ?_
  refine Sy.region ?_
  refine sP (.int .i64 27) <| sP (.int .i64 27) ?_
  refine Sy.nil ?_
  refine Sy.again ?_
  refine Sy.tidyR (G := [(2, .slice A n c), (4, .pointer (some ⟨g1, 0, none⟩)), (6, .pointer (some ⟨g2, 0, none⟩)), (8, .pointer (some ⟨g5, 0, none⟩)), (9, .pointer (some ⟨g6, 0, none⟩)), (16, .int .i64 27)]) (M := [(g1, 31, (key.map bv).toArray), (g2, 24, (fcs 0)), (g5, 56, (bv o0 :: bv o1 :: [bv o2, bv o3, bv o4, bv o5, bv o6, bv o7, bv o8, bv o9, bv o10, bv o11, bv o12, bv o13, bv o14, bv o15, bv o16, bv o17, bv o18, bv o19, bv o20, bv o21, bv o22, bv o23, bv o24, bv o25, bv o26, bv o27, bv o28, bv o29, bv o30, bv o31]).toArray), (g6, 30, (bv (a0 ^^^ o0) :: bv (a1 ^^^ o1) :: [bv (a2 ^^^ o2), bv (a3 ^^^ o3), bv (a4 ^^^ o4), bv (a5 ^^^ o5), bv (a6 ^^^ o6), bv (a7 ^^^ o7), bv (a8 ^^^ o8), bv (a9 ^^^ o9), bv (a10 ^^^ o10), bv (a11 ^^^ o11), bv (a12 ^^^ o12), bv (a13 ^^^ o13), bv (a14 ^^^ o14), bv (a15 ^^^ o15), bv (a16 ^^^ o16), bv (a17 ^^^ o17), bv (a18 ^^^ o18), bv (a19 ^^^ o19), bv (a20 ^^^ o20), bv (a21 ^^^ o21), bv (a22 ^^^ o22), bv (a23 ^^^ o23), bv (a24 ^^^ o24), bv (a25 ^^^ o25), bv (a26 ^^^ o26), bv a27, bv a28, bv a29, bv a30, bv a31]).toArray)]) [true, true, true, true] kR (all_cons kR (all_cons kR (all_cons kR (all_cons kR (all_cons kR (all_cons kR all_nil)))))) ?_
  refine Sy.round ?_
  refine sC ?_
  refine sP (.bool true) ?_
  refine sG ?_
  refine Sy.seq ?_
  refine sT ?_
  refine Sy.skip ?_
  refine Sy.then_ ?_
  refine Sy.seq ?_
  refine Sy.block ?_
  refine sC ?_
  refine sP (.int .i64 27) <| sP (.int .i64 27) ?_
  refine sG ?_
  refine Sy.regionD (fun j => j == 8) kR ?_
  refine sZ 0 rfl (.int .i64 27) <| sZ 1 rfl (.pointer (some ⟨g6, 27, none⟩)) <| sD 2 rfl (bv a27) (Quiet.cell 3 g6 27 30 5 (bv (a0 ^^^ o0) :: bv (a1 ^^^ o1) :: [bv (a2 ^^^ o2), bv (a3 ^^^ o3), bv (a4 ^^^ o4), bv (a5 ^^^ o5), bv (a6 ^^^ o6), bv (a7 ^^^ o7), bv (a8 ^^^ o8), bv (a9 ^^^ o9), bv (a10 ^^^ o10), bv (a11 ^^^ o11), bv (a12 ^^^ o12), bv (a13 ^^^ o13), bv (a14 ^^^ o14), bv (a15 ^^^ o15), bv (a16 ^^^ o16), bv (a17 ^^^ o17), bv (a18 ^^^ o18), bv (a19 ^^^ o19), bv (a20 ^^^ o20), bv (a21 ^^^ o21), bv (a22 ^^^ o22), bv (a23 ^^^ o23), bv (a24 ^^^ o24), bv (a25 ^^^ o25), bv (a26 ^^^ o26), bv a27, bv a28, bv a29, bv a30, bv a31]).toArray _ _ rfl kR kR Tryd.underlying5 rfl _ kR) <| sZ 3 rfl (.int .i64 27) <| sZ 4 rfl (.pointer (some ⟨g5, 27, none⟩)) <| sD 5 rfl (bv o27) (qC 2 g5 27 56 5 (bv o0 :: bv o1 :: [bv o2, bv o3, bv o4, bv o5, bv o6, bv o7, bv o8, bv o9, bv o10, bv o11, bv o12, bv o13, bv o14, bv o15, bv o16, bv o17, bv o18, bv o19, bv o20, bv o21, bv o22, bv o23, bv o24, bv o25, bv o26, bv o27, bv o28, bv o29, bv o30, bv o31]).toArray rfl Tryd.underlying5) <| sD 6 rfl (bv (a27 ^^^ o27)) (Quiet.pure (fun w => xor_bv w _ _ _ _ a27 o27 rfl rfl rfl)) <| sZ 7 rfl (.pointer (some ⟨g6, 27, none⟩)) ?_
  refine Sy.writeD 8 rfl kR (by rfl) kR 3 g6 30 (bv (a0 ^^^ o0) :: bv (a1 ^^^ o1) :: [bv (a2 ^^^ o2), bv (a3 ^^^ o3), bv (a4 ^^^ o4), bv (a5 ^^^ o5), bv (a6 ^^^ o6), bv (a7 ^^^ o7), bv (a8 ^^^ o8), bv (a9 ^^^ o9), bv (a10 ^^^ o10), bv (a11 ^^^ o11), bv (a12 ^^^ o12), bv (a13 ^^^ o13), bv (a14 ^^^ o14), bv (a15 ^^^ o15), bv (a16 ^^^ o16), bv (a17 ^^^ o17), bv (a18 ^^^ o18), bv (a19 ^^^ o19), bv (a20 ^^^ o20), bv (a21 ^^^ o21), bv (a22 ^^^ o22), bv (a23 ^^^ o23), bv (a24 ^^^ o24), bv (a25 ^^^ o25), bv (a26 ^^^ o26), bv a27, bv a28, bv a29, bv a30, bv a31]).toArray (bv (a0 ^^^ o0) :: bv (a1 ^^^ o1) :: [bv (a2 ^^^ o2), bv (a3 ^^^ o3), bv (a4 ^^^ o4), bv (a5 ^^^ o5), bv (a6 ^^^ o6), bv (a7 ^^^ o7), bv (a8 ^^^ o8), bv (a9 ^^^ o9), bv (a10 ^^^ o10), bv (a11 ^^^ o11), bv (a12 ^^^ o12), bv (a13 ^^^ o13), bv (a14 ^^^ o14), bv (a15 ^^^ o15), bv (a16 ^^^ o16), bv (a17 ^^^ o17), bv (a18 ^^^ o18), bv (a19 ^^^ o19), bv (a20 ^^^ o20), bv (a21 ^^^ o21), bv (a22 ^^^ o22), bv (a23 ^^^ o23), bv (a24 ^^^ o24), bv (a25 ^^^ o25), bv (a26 ^^^ o26), bv (a27 ^^^ o27), bv a28, bv a29, bv a30, bv a31]).toArray kR (wO 27 5 (bv (a27 ^^^ o27)) rfl) ?_
  refine sE ?_
  refine Sy.in_ ?_
  refine Sy.then_ ?_
  refine Sy.region ?_
  refine sP (.int .i64 28) <| sP (.int .i64 28) ?_
  refine Sy.nil ?_
  refine Sy.again ?_
  refine Sy.tidyR (G := [(2, .slice A n c), (4, .pointer (some ⟨g1, 0, none⟩)), (6, .pointer (some ⟨g2, 0, none⟩)), (8, .pointer (some ⟨g5, 0, none⟩)), (9, .pointer (some ⟨g6, 0, none⟩)), (16, .int .i64 28)]) (M := [(g1, 31, (key.map bv).toArray), (g2, 24, (fcs 0)), (g5, 56, (bv o0 :: bv o1 :: [bv o2, bv o3, bv o4, bv o5, bv o6, bv o7, bv o8, bv o9, bv o10, bv o11, bv o12, bv o13, bv o14, bv o15, bv o16, bv o17, bv o18, bv o19, bv o20, bv o21, bv o22, bv o23, bv o24, bv o25, bv o26, bv o27, bv o28, bv o29, bv o30, bv o31]).toArray), (g6, 30, (bv (a0 ^^^ o0) :: bv (a1 ^^^ o1) :: [bv (a2 ^^^ o2), bv (a3 ^^^ o3), bv (a4 ^^^ o4), bv (a5 ^^^ o5), bv (a6 ^^^ o6), bv (a7 ^^^ o7), bv (a8 ^^^ o8), bv (a9 ^^^ o9), bv (a10 ^^^ o10), bv (a11 ^^^ o11), bv (a12 ^^^ o12), bv (a13 ^^^ o13), bv (a14 ^^^ o14), bv (a15 ^^^ o15), bv (a16 ^^^ o16), bv (a17 ^^^ o17), bv (a18 ^^^ o18), bv (a19 ^^^ o19), bv (a20 ^^^ o20), bv (a21 ^^^ o21), bv (a22 ^^^ o22), bv (a23 ^^^ o23), bv (a24 ^^^ o24), bv (a25 ^^^ o25), bv (a26 ^^^ o26), bv (a27 ^^^ o27), bv a28, bv a29, bv a30, bv a31]).toArray)]) [true, true, true, true] kR (all_cons kR (all_cons kR (all_cons kR (all_cons kR (all_cons kR (all_cons kR all_nil)))))) ?_
  refine Sy.round ?_
  refine sC ?_
  refine sP (.bool true) ?_
  refine sG ?_
  refine Sy.seq ?_
  refine sT ?_
  refine Sy.skip ?_
  refine Sy.then_ ?_
  refine Sy.seq ?_
  refine Sy.block ?_
  refine sC ?_
  refine sP (.int .i64 28) <| sP (.int .i64 28) ?_
  refine sG ?_
  refine Sy.regionD (fun j => j == 8) kR ?_
  refine sZ 0 rfl (.int .i64 28) <| sZ 1 rfl (.pointer (some ⟨g6, 28, none⟩)) <| sD 2 rfl (bv a28) (Quiet.cell 3 g6 28 30 5 (bv (a0 ^^^ o0) :: bv (a1 ^^^ o1) :: [bv (a2 ^^^ o2), bv (a3 ^^^ o3), bv (a4 ^^^ o4), bv (a5 ^^^ o5), bv (a6 ^^^ o6), bv (a7 ^^^ o7), bv (a8 ^^^ o8), bv (a9 ^^^ o9), bv (a10 ^^^ o10), bv (a11 ^^^ o11), bv (a12 ^^^ o12), bv (a13 ^^^ o13), bv (a14 ^^^ o14), bv (a15 ^^^ o15), bv (a16 ^^^ o16), bv (a17 ^^^ o17), bv (a18 ^^^ o18), bv (a19 ^^^ o19), bv (a20 ^^^ o20), bv (a21 ^^^ o21), bv (a22 ^^^ o22), bv (a23 ^^^ o23), bv (a24 ^^^ o24), bv (a25 ^^^ o25), bv (a26 ^^^ o26), bv (a27 ^^^ o27), bv a28, bv a29, bv a30, bv a31]).toArray _ _ rfl kR kR Tryd.underlying5 rfl _ kR) <| sZ 3 rfl (.int .i64 28) <| sZ 4 rfl (.pointer (some ⟨g5, 28, none⟩)) <| sD 5 rfl (bv o28) (qC 2 g5 28 56 5 (bv o0 :: bv o1 :: [bv o2, bv o3, bv o4, bv o5, bv o6, bv o7, bv o8, bv o9, bv o10, bv o11, bv o12, bv o13, bv o14, bv o15, bv o16, bv o17, bv o18, bv o19, bv o20, bv o21, bv o22, bv o23, bv o24, bv o25, bv o26, bv o27, bv o28, bv o29, bv o30, bv o31]).toArray rfl Tryd.underlying5) <| sD 6 rfl (bv (a28 ^^^ o28)) (Quiet.pure (fun w => xor_bv w _ _ _ _ a28 o28 rfl rfl rfl)) <| sZ 7 rfl (.pointer (some ⟨g6, 28, none⟩)) ?_
  refine Sy.writeD 8 rfl kR (by rfl) kR 3 g6 30 (bv (a0 ^^^ o0) :: bv (a1 ^^^ o1) :: [bv (a2 ^^^ o2), bv (a3 ^^^ o3), bv (a4 ^^^ o4), bv (a5 ^^^ o5), bv (a6 ^^^ o6), bv (a7 ^^^ o7), bv (a8 ^^^ o8), bv (a9 ^^^ o9), bv (a10 ^^^ o10), bv (a11 ^^^ o11), bv (a12 ^^^ o12), bv (a13 ^^^ o13), bv (a14 ^^^ o14), bv (a15 ^^^ o15), bv (a16 ^^^ o16), bv (a17 ^^^ o17), bv (a18 ^^^ o18), bv (a19 ^^^ o19), bv (a20 ^^^ o20), bv (a21 ^^^ o21), bv (a22 ^^^ o22), bv (a23 ^^^ o23), bv (a24 ^^^ o24), bv (a25 ^^^ o25), bv (a26 ^^^ o26), bv (a27 ^^^ o27), bv a28, bv a29, bv a30, bv a31]).toArray (bv (a0 ^^^ o0) :: bv (a1 ^^^ o1) :: [bv (a2 ^^^ o2), bv (a3 ^^^ o3), bv (a4 ^^^ o4), bv (a5 ^^^ o5), bv (a6 ^^^ o6), bv (a7 ^^^ o7), bv (a8 ^^^ o8), bv (a9 ^^^ o9), bv (a10 ^^^ o10), bv (a11 ^^^ o11), bv (a12 ^^^ o12), bv (a13 ^^^ o13), bv (a14 ^^^ o14), bv (a15 ^^^ o15), bv (a16 ^^^ o16), bv (a17 ^^^ o17), bv (a18 ^^^ o18), bv (a19 ^^^ o19), bv (a20 ^^^ o20), bv (a21 ^^^ o21), bv (a22 ^^^ o22), bv (a23 ^^^ o23), bv (a24 ^^^ o24), bv (a25 ^^^ o25), bv (a26 ^^^ o26), bv (a27 ^^^ o27), bv (a28 ^^^ o28), bv a29, bv a30, bv a31]).toArray kR (wO 28 5 (bv (a28 ^^^ o28)) rfl) ?_
  refine sE ?_
  refine Sy.in_ ?_
  refine Sy.then_ ?_
  refine Sy.region ?_
  refine sP (.int .i64 29) <| sP (.int .i64 29) ?_
  refine Sy.nil ?_
  refine Sy.again ?_
  refine Sy.tidyR (G := [(2, .slice A n c), (4, .pointer (some ⟨g1, 0, none⟩)), (6, .pointer (some ⟨g2, 0, none⟩)), (8, .pointer (some ⟨g5, 0, none⟩)), (9, .pointer (some ⟨g6, 0, none⟩)), (16, .int .i64 29)]) (M := [(g1, 31, (key.map bv).toArray), (g2, 24, (fcs 0)), (g5, 56, (bv o0 :: bv o1 :: [bv o2, bv o3, bv o4, bv o5, bv o6, bv o7, bv o8, bv o9, bv o10, bv o11, bv o12, bv o13, bv o14, bv o15, bv o16, bv o17, bv o18, bv o19, bv o20, bv o21, bv o22, bv o23, bv o24, bv o25, bv o26, bv o27, bv o28, bv o29, bv o30, bv o31]).toArray), (g6, 30, (bv (a0 ^^^ o0) :: bv (a1 ^^^ o1) :: [bv (a2 ^^^ o2), bv (a3 ^^^ o3), bv (a4 ^^^ o4), bv (a5 ^^^ o5), bv (a6 ^^^ o6), bv (a7 ^^^ o7), bv (a8 ^^^ o8), bv (a9 ^^^ o9), bv (a10 ^^^ o10), bv (a11 ^^^ o11), bv (a12 ^^^ o12), bv (a13 ^^^ o13), bv (a14 ^^^ o14), bv (a15 ^^^ o15), bv (a16 ^^^ o16), bv (a17 ^^^ o17), bv (a18 ^^^ o18), bv (a19 ^^^ o19), bv (a20 ^^^ o20), bv (a21 ^^^ o21), bv (a22 ^^^ o22), bv (a23 ^^^ o23), bv (a24 ^^^ o24), bv (a25 ^^^ o25), bv (a26 ^^^ o26), bv (a27 ^^^ o27), bv (a28 ^^^ o28), bv a29, bv a30, bv a31]).toArray)]) [true, true, true, true] kR (all_cons kR (all_cons kR (all_cons kR (all_cons kR (all_cons kR (all_cons kR all_nil)))))) ?_
  refine Sy.round ?_
  refine sC ?_
  refine sP (.bool true) ?_
  refine sG ?_
  refine Sy.seq ?_
  refine sT ?_
  refine Sy.skip ?_
  refine Sy.then_ ?_
  refine Sy.seq ?_
  refine Sy.block ?_
  refine sC ?_
  refine sP (.int .i64 29) <| sP (.int .i64 29) ?_
  refine sG ?_
  refine Sy.regionD (fun j => j == 8) kR ?_
  refine sZ 0 rfl (.int .i64 29) <| sZ 1 rfl (.pointer (some ⟨g6, 29, none⟩)) <| sD 2 rfl (bv a29) (Quiet.cell 3 g6 29 30 5 (bv (a0 ^^^ o0) :: bv (a1 ^^^ o1) :: [bv (a2 ^^^ o2), bv (a3 ^^^ o3), bv (a4 ^^^ o4), bv (a5 ^^^ o5), bv (a6 ^^^ o6), bv (a7 ^^^ o7), bv (a8 ^^^ o8), bv (a9 ^^^ o9), bv (a10 ^^^ o10), bv (a11 ^^^ o11), bv (a12 ^^^ o12), bv (a13 ^^^ o13), bv (a14 ^^^ o14), bv (a15 ^^^ o15), bv (a16 ^^^ o16), bv (a17 ^^^ o17), bv (a18 ^^^ o18), bv (a19 ^^^ o19), bv (a20 ^^^ o20), bv (a21 ^^^ o21), bv (a22 ^^^ o22), bv (a23 ^^^ o23), bv (a24 ^^^ o24), bv (a25 ^^^ o25), bv (a26 ^^^ o26), bv (a27 ^^^ o27), bv (a28 ^^^ o28), bv a29, bv a30, bv a31]).toArray _ _ rfl kR kR Tryd.underlying5 rfl _ kR) <| sZ 3 rfl (.int .i64 29) <| sZ 4 rfl (.pointer (some ⟨g5, 29, none⟩)) <| sD 5 rfl (bv o29) (qC 2 g5 29 56 5 (bv o0 :: bv o1 :: [bv o2, bv o3, bv o4, bv o5, bv o6, bv o7, bv o8, bv o9, bv o10, bv o11, bv o12, bv o13, bv o14, bv o15, bv o16, bv o17, bv o18, bv o19, bv o20, bv o21, bv o22, bv o23, bv o24, bv o25, bv o26, bv o27, bv o28, bv o29, bv o30, bv o31]).toArray rfl Tryd.underlying5) <| sD 6 rfl (bv (a29 ^^^ o29)) (Quiet.pure (fun w => xor_bv w _ _ _ _ a29 o29 rfl rfl rfl)) <| sZ 7 rfl (.pointer (some ⟨g6, 29, none⟩)) ?_
  refine Sy.writeD 8 rfl kR (by rfl) kR 3 g6 30 (bv (a0 ^^^ o0) :: bv (a1 ^^^ o1) :: [bv (a2 ^^^ o2), bv (a3 ^^^ o3), bv (a4 ^^^ o4), bv (a5 ^^^ o5), bv (a6 ^^^ o6), bv (a7 ^^^ o7), bv (a8 ^^^ o8), bv (a9 ^^^ o9), bv (a10 ^^^ o10), bv (a11 ^^^ o11), bv (a12 ^^^ o12), bv (a13 ^^^ o13), bv (a14 ^^^ o14), bv (a15 ^^^ o15), bv (a16 ^^^ o16), bv (a17 ^^^ o17), bv (a18 ^^^ o18), bv (a19 ^^^ o19), bv (a20 ^^^ o20), bv (a21 ^^^ o21), bv (a22 ^^^ o22), bv (a23 ^^^ o23), bv (a24 ^^^ o24), bv (a25 ^^^ o25), bv (a26 ^^^ o26), bv (a27 ^^^ o27), bv (a28 ^^^ o28), bv a29, bv a30, bv a31]).toArray (bv (a0 ^^^ o0) :: bv (a1 ^^^ o1) :: [bv (a2 ^^^ o2), bv (a3 ^^^ o3), bv (a4 ^^^ o4), bv (a5 ^^^ o5), bv (a6 ^^^ o6), bv (a7 ^^^ o7), bv (a8 ^^^ o8), bv (a9 ^^^ o9), bv (a10 ^^^ o10), bv (a11 ^^^ o11), bv (a12 ^^^ o12), bv (a13 ^^^ o13), bv (a14 ^^^ o14), bv (a15 ^^^ o15), bv (a16 ^^^ o16), bv (a17 ^^^ o17), bv (a18 ^^^ o18), bv (a19 ^^^ o19), bv (a20 ^^^ o20), bv (a21 ^^^ o21), bv (a22 ^^^ o22), bv (a23 ^^^ o23), bv (a24 ^^^ o24), bv (a25 ^^^ o25), bv (a26 ^^^ o26), bv (a27 ^^^ o27), bv (a28 ^^^ o28), bv (a29 ^^^ o29), bv a30, bv a31]).toArray kR (wO 29 5 (bv (a29 ^^^ o29)) rfl) ?_
  refine sE ?_
  refine Sy.in_ ?_
  refine Sy.then_ ?_
  refine Sy.region ?_
  refine sP (.int .i64 30) <| sP (.int .i64 30) ?_
  refine Sy.nil ?_
  refine Sy.again ?_
  refine Sy.tidyR (G := [(2, .slice A n c), (4, .pointer (some ⟨g1, 0, none⟩)), (6, .pointer (some ⟨g2, 0, none⟩)), (8, .pointer (some ⟨g5, 0, none⟩)), (9, .pointer (some ⟨g6, 0, none⟩)), (16, .int .i64 30)]) (M := [(g1, 31, (key.map bv).toArray), (g2, 24, (fcs 0)), (g5, 56, (bv o0 :: bv o1 :: [bv o2, bv o3, bv o4, bv o5, bv o6, bv o7, bv o8, bv o9, bv o10, bv o11, bv o12, bv o13, bv o14, bv o15, bv o16, bv o17, bv o18, bv o19, bv o20, bv o21, bv o22, bv o23, bv o24, bv o25, bv o26, bv o27, bv o28, bv o29, bv o30, bv o31]).toArray), (g6, 30, (bv (a0 ^^^ o0) :: bv (a1 ^^^ o1) :: [bv (a2 ^^^ o2), bv (a3 ^^^ o3), bv (a4 ^^^ o4), bv (a5 ^^^ o5), bv (a6 ^^^ o6), bv (a7 ^^^ o7), bv (a8 ^^^ o8), bv (a9 ^^^ o9), bv (a10 ^^^ o10), bv (a11 ^^^ o11), bv (a12 ^^^ o12), bv (a13 ^^^ o13), bv (a14 ^^^ o14), bv (a15 ^^^ o15), bv (a16 ^^^ o16), bv (a17 ^^^ o17), bv (a18 ^^^ o18), bv (a19 ^^^ o19), bv (a20 ^^^ o20), bv (a21 ^^^ o21), bv (a22 ^^^ o22), bv (a23 ^^^ o23), bv (a24 ^^^ o24), bv (a25 ^^^ o25), bv (a26 ^^^ o26), bv (a27 ^^^ o27), bv (a28 ^^^ o28), bv (a29 ^^^ o29), bv a30, bv a31]).toArray)]) [true, true, true, true] kR (all_cons kR (all_cons kR (all_cons kR (all_cons kR (all_cons kR (all_cons kR all_nil)))))) ?_
  refine Sy.round ?_
  refine sC ?_
  refine sP (.bool true) ?_
  refine sG ?_
  refine Sy.seq ?_
  refine sT ?_
  refine Sy.skip ?_
  refine Sy.then_ ?_
  refine Sy.seq ?_
  refine Sy.block ?_
  refine sC ?_
  refine sP (.int .i64 30) <| sP (.int .i64 30) ?_
  refine sG ?_
  refine Sy.regionD (fun j => j == 8) kR ?_
  refine sZ 0 rfl (.int .i64 30) <| sZ 1 rfl (.pointer (some ⟨g6, 30, none⟩)) <| sD 2 rfl (bv a30) (Quiet.cell 3 g6 30 30 5 (bv (a0 ^^^ o0) :: bv (a1 ^^^ o1) :: [bv (a2 ^^^ o2), bv (a3 ^^^ o3), bv (a4 ^^^ o4), bv (a5 ^^^ o5), bv (a6 ^^^ o6), bv (a7 ^^^ o7), bv (a8 ^^^ o8), bv (a9 ^^^ o9), bv (a10 ^^^ o10), bv (a11 ^^^ o11), bv (a12 ^^^ o12), bv (a13 ^^^ o13), bv (a14 ^^^ o14), bv (a15 ^^^ o15), bv (a16 ^^^ o16), bv (a17 ^^^ o17), bv (a18 ^^^ o18), bv (a19 ^^^ o19), bv (a20 ^^^ o20), bv (a21 ^^^ o21), bv (a22 ^^^ o22), bv (a23 ^^^ o23), bv (a24 ^^^ o24), bv (a25 ^^^ o25), bv (a26 ^^^ o26), bv (a27 ^^^ o27), bv (a28 ^^^ o28), bv (a29 ^^^ o29), bv a30, bv a31]).toArray _ _ rfl kR kR Tryd.underlying5 rfl _ kR) <| sZ 3 rfl (.int .i64 30) <| sZ 4 rfl (.pointer (some ⟨g5, 30, none⟩)) <| sD 5 rfl (bv o30) (qC 2 g5 30 56 5 (bv o0 :: bv o1 :: [bv o2, bv o3, bv o4, bv o5, bv o6, bv o7, bv o8, bv o9, bv o10, bv o11, bv o12, bv o13, bv o14, bv o15, bv o16, bv o17, bv o18, bv o19, bv o20, bv o21, bv o22, bv o23, bv o24, bv o25, bv o26, bv o27, bv o28, bv o29, bv o30, bv o31]).toArray rfl Tryd.underlying5) <| sD 6 rfl (bv (a30 ^^^ o30)) (Quiet.pure (fun w => xor_bv w _ _ _ _ a30 o30 rfl rfl rfl)) <| sZ 7 rfl (.pointer (some ⟨g6, 30, none⟩)) ?_
  refine Sy.writeD 8 rfl kR (by rfl) kR 3 g6 30 (bv (a0 ^^^ o0) :: bv (a1 ^^^ o1) :: [bv (a2 ^^^ o2), bv (a3 ^^^ o3), bv (a4 ^^^ o4), bv (a5 ^^^ o5), bv (a6 ^^^ o6), bv (a7 ^^^ o7), bv (a8 ^^^ o8), bv (a9 ^^^ o9), bv (a10 ^^^ o10), bv (a11 ^^^ o11), bv (a12 ^^^ o12), bv (a13 ^^^ o13), bv (a14 ^^^ o14), bv (a15 ^^^ o15), bv (a16 ^^^ o16), bv (a17 ^^^ o17), bv (a18 ^^^ o18), bv (a19 ^^^ o19), bv (a20 ^^^ o20), bv (a21 ^^^ o21), bv (a22 ^^^ o22), bv (a23 ^^^ o23), bv (a24 ^^^ o24), bv (a25 ^^^ o25), bv (a26 ^^^ o26), bv (a27 ^^^ o27), bv (a28 ^^^ o28), bv (a29 ^^^ o29), bv a30, bv a31]).toArray (bv (a0 ^^^ o0) :: bv (a1 ^^^ o1) :: [bv (a2 ^^^ o2), bv (a3 ^^^ o3), bv (a4 ^^^ o4), bv (a5 ^^^ o5), bv (a6 ^^^ o6), bv (a7 ^^^ o7), bv (a8 ^^^ o8), bv (a9 ^^^ o9), bv (a10 ^^^ o10), bv (a11 ^^^ o11), bv (a12 ^^^ o12), bv (a13 ^^^ o13), bv (a14 ^^^ o14), bv (a15 ^^^ o15), bv (a16 ^^^ o16), bv (a17 ^^^ o17), bv (a18 ^^^ o18), bv (a19 ^^^ o19), bv (a20 ^^^ o20), bv (a21 ^^^ o21), bv (a22 ^^^ o22), bv (a23 ^^^ o23), bv (a24 ^^^ o24), bv (a25 ^^^ o25), bv (a26 ^^^ o26), bv (a27 ^^^ o27), bv (a28 ^^^ o28), bv (a29 ^^^ o29), bv (a30 ^^^ o30), bv a31]).toArray kR (wO 30 5 (bv (a30 ^^^ o30)) rfl) ?_
  refine sE ?_
  refine Sy.in_ ?_
  refine Sy.then_ ?_
  refine Sy.region ?_
  refine sP (.int .i64 31) <| sP (.int .i64 31) ?_
  refine Sy.nil ?_
  refine Sy.again ?_
  refine Sy.tidyR (G := [(2, .slice A n c), (4, .pointer (some ⟨g1, 0, none⟩)), (6, .pointer (some ⟨g2, 0, none⟩)), (8, .pointer (some ⟨g5, 0, none⟩)), (9, .pointer (some ⟨g6, 0, none⟩)), (16, .int .i64 31)]) (M := [(g1, 31, (key.map bv).toArray), (g2, 24, (fcs 0)), (g5, 56, (bv o0 :: bv o1 :: [bv o2, bv o3, bv o4, bv o5, bv o6, bv o7, bv o8, bv o9, bv o10, bv o11, bv o12, bv o13, bv o14, bv o15, bv o16, bv o17, bv o18, bv o19, bv o20, bv o21, bv o22, bv o23, bv o24, bv o25, bv o26, bv o27, bv o28, bv o29, bv o30, bv o31]).toArray), (g6, 30, (bv (a0 ^^^ o0) :: bv (a1 ^^^ o1) :: [bv (a2 ^^^ o2), bv (a3 ^^^ o3), bv (a4 ^^^ o4), bv (a5 ^^^ o5), bv (a6 ^^^ o6), bv (a7 ^^^ o7), bv (a8 ^^^ o8), bv (a9 ^^^ o9), bv (a10 ^^^ o10), bv (a11 ^^^ o11), bv (a12 ^^^ o12), bv (a13 ^^^ o13), bv (a14 ^^^ o14), bv (a15 ^^^ o15), bv (a16 ^^^ o16), bv (a17 ^^^ o17), bv (a18 ^^^ o18), bv (a19 ^^^ o19), bv (a20 ^^^ o20), bv (a21 ^^^ o21), bv (a22 ^^^ o22), bv (a23 ^^^ o23), bv (a24 ^^^ o24), bv (a25 ^^^ o25), bv (a26 ^^^ o26), bv (a27 ^^^ o27), bv (a28 ^^^ o28), bv (a29 ^^^ o29), bv (a30 ^^^ o30), bv a31]).toArray)]) [true, true, true, true] kR (all_cons kR (all_cons kR (all_cons kR (all_cons kR (all_cons kR (all_cons kR all_nil)))))) ?_
  refine Sy.round ?_
  refine sC ?_
  refine sP (.bool true) ?_
  refine sG ?_
  refine Sy.seq ?_
  refine sT ?_
  refine Sy.skip ?_
  refine Sy.then_ ?_
  refine Sy.seq ?_
  refine Sy.block ?_
  refine sC ?_
  refine sP (.int .i64 31) <| sP (.int .i64 31) ?_
  refine sG ?_
  refine Sy.regionD (fun j => j == 8) kR ?_
  refine sZ 0 rfl (.int .i64 31) <| sZ 1 rfl (.pointer (some ⟨g6, 31, none⟩)) <| sD 2 rfl (bv a31) (Quiet.cell 3 g6 31 30 5 (bv (a0 ^^^ o0) :: bv (a1 ^^^ o1) :: [bv (a2 ^^^ o2), bv (a3 ^^^ o3), bv (a4 ^^^ o4), bv (a5 ^^^ o5), bv (a6 ^^^ o6), bv (a7 ^^^ o7), bv (a8 ^^^ o8), bv (a9 ^^^ o9), bv (a10 ^^^ o10), bv (a11 ^^^ o11), bv (a12 ^^^ o12), bv (a13 ^^^ o13), bv (a14 ^^^ o14), bv (a15 ^^^ o15), bv (a16 ^^^ o16), bv (a17 ^^^ o17), bv (a18 ^^^ o18), bv (a19 ^^^ o19), bv (a20 ^^^ o20), bv (a21 ^^^ o21), bv (a22 ^^^ o22), bv (a23 ^^^ o23), bv (a24 ^^^ o24), bv (a25 ^^^ o25), bv (a26 ^^^ o26), bv (a27 ^^^ o27), bv (a28 ^^^ o28), bv (a29 ^^^ o29), bv (a30 ^^^ o30), bv a31]).toArray _ _ rfl kR kR Tryd.underlying5 rfl _ kR) <| sZ 3 rfl (.int .i64 31) <| sZ 4 rfl (.pointer (some ⟨g5, 31, none⟩)) <| sD 5 rfl (bv o31) (qC 2 g5 31 56 5 (bv o0 :: bv o1 :: [bv o2, bv o3, bv o4, bv o5, bv o6, bv o7, bv o8, bv o9, bv o10, bv o11, bv o12, bv o13, bv o14, bv o15, bv o16, bv o17, bv o18, bv o19, bv o20, bv o21, bv o22, bv o23, bv o24, bv o25, bv o26, bv o27, bv o28, bv o29, bv o30, bv o31]).toArray rfl Tryd.underlying5) <| sD 6 rfl (bv (a31 ^^^ o31)) (Quiet.pure (fun w => xor_bv w _ _ _ _ a31 o31 rfl rfl rfl)) <| sZ 7 rfl (.pointer (some ⟨g6, 31, none⟩)) ?_
  refine Sy.writeD 8 rfl kR (by rfl) kR 3 g6 30 (bv (a0 ^^^ o0) :: bv (a1 ^^^ o1) :: [bv (a2 ^^^ o2), bv (a3 ^^^ o3), bv (a4 ^^^ o4), bv (a5 ^^^ o5), bv (a6 ^^^ o6), bv (a7 ^^^ o7), bv (a8 ^^^ o8), bv (a9 ^^^ o9), bv (a10 ^^^ o10), bv (a11 ^^^ o11), bv (a12 ^^^ o12), bv (a13 ^^^ o13), bv (a14 ^^^ o14), bv (a15 ^^^ o15), bv (a16 ^^^ o16), bv (a17 ^^^ o17), bv (a18 ^^^ o18), bv (a19 ^^^ o19), bv (a20 ^^^ o20), bv (a21 ^^^ o21), bv (a22 ^^^ o22), bv (a23 ^^^ o23), bv (a24 ^^^ o24), bv (a25 ^^^ o25), bv (a26 ^^^ o26), bv (a27 ^^^ o27), bv (a28 ^^^ o28), bv (a29 ^^^ o29), bv (a30 ^^^ o30), bv a31]).toArray (bv (a0 ^^^ o0) :: bv (a1 ^^^ o1) :: [bv (a2 ^^^ o2), bv (a3 ^^^ o3), bv (a4 ^^^ o4), bv (a5 ^^^ o5), bv (a6 ^^^ o6), bv (a7 ^^^ o7), bv (a8 ^^^ o8), bv (a9 ^^^ o9), bv (a10 ^^^ o10), bv (a11 ^^^ o11), bv (a12 ^^^ o12), bv (a13 ^^^ o13), bv (a14 ^^^ o14), bv (a15 ^^^ o15), bv (a16 ^^^ o16), bv (a17 ^^^ o17), bv (a18 ^^^ o18), bv (a19 ^^^ o19), bv (a20 ^^^ o20), bv (a21 ^^^ o21), bv (a22 ^^^ o22), bv (a23 ^^^ o23), bv (a24 ^^^ o24), bv (a25 ^^^ o25), bv (a26 ^^^ o26), bv (a27 ^^^ o27), bv (a28 ^^^ o28), bv (a29 ^^^ o29), bv (a30 ^^^ o30), bv (a31 ^^^ o31)]).toArray kR (wO 31 5 (bv (a31 ^^^ o31)) rfl) ?_
  refine sE ?_
  refine Sy.in_ ?_
  refine Sy.then_ ?_
  refine Sy.region ?_
  refine sP (.int .i64 32) <| sP (.int .i64 32) ?_
  refine Sy.nil ?_
  refine Sy.again ?_
  refine Sy.tidyR (G := [(2, .slice A n c), (4, .pointer (some ⟨g1, 0, none⟩)), (6, .pointer (some ⟨g2, 0, none⟩)), (8, .pointer (some ⟨g5, 0, none⟩)), (9, .pointer (some ⟨g6, 0, none⟩)), (16, .int .i64 32)]) (M := [(g1, 31, (key.map bv).toArray), (g2, 24, (fcs 0)), (g5, 56, (bv o0 :: bv o1 :: [bv o2, bv o3, bv o4, bv o5, bv o6, bv o7, bv o8, bv o9, bv o10, bv o11, bv o12, bv o13, bv o14, bv o15, bv o16, bv o17, bv o18, bv o19, bv o20, bv o21, bv o22, bv o23, bv o24, bv o25, bv o26, bv o27, bv o28, bv o29, bv o30, bv o31]).toArray), (g6, 30, (bv (a0 ^^^ o0) :: bv (a1 ^^^ o1) :: [bv (a2 ^^^ o2), bv (a3 ^^^ o3), bv (a4 ^^^ o4), bv (a5 ^^^ o5), bv (a6 ^^^ o6), bv (a7 ^^^ o7), bv (a8 ^^^ o8), bv (a9 ^^^ o9), bv (a10 ^^^ o10), bv (a11 ^^^ o11), bv (a12 ^^^ o12), bv (a13 ^^^ o13), bv (a14 ^^^ o14), bv (a15 ^^^ o15), bv (a16 ^^^ o16), bv (a17 ^^^ o17), bv (a18 ^^^ o18), bv (a19 ^^^ o19), bv (a20 ^^^ o20), bv (a21 ^^^ o21), bv (a22 ^^^ o22), bv (a23 ^^^ o23), bv (a24 ^^^ o24), bv (a25 ^^^ o25), bv (a26 ^^^ o26), bv (a27 ^^^ o27), bv (a28 ^^^ o28), bv (a29 ^^^ o29), bv (a30 ^^^ o30), bv (a31 ^^^ o31)]).toArray)]) [true, true, true, true] kR (all_cons kR (all_cons kR (all_cons kR (all_cons kR (all_cons kR (all_cons kR all_nil)))))) ?_
  refine Sy.round ?_
  refine sC ?_
  refine sP (.bool false) ?_
  refine sG ?_
  refine Sy.seq ?_
  refine sU ?_
  refine Sy.exit ?_
  refine Sy.then_exit ?_
  refine Sy.then_exit ?_
  refine Sy.in_exit ?_
  refine sR (fun j => j == 6) ?_
  refine sZ 0 rfl (.slice (some ⟨g6, 0, none⟩) 32 32) <| sZ 1 rfl (.slice (some ⟨g1, 0, none⟩) 32 32) <| sZ 2 rfl (.slice A n c) ?_
  refine Sy.makeD 3 rfl kR kR 25 #[.slice (some ⟨g6, 0, none⟩) 32 32, .slice (some ⟨g1, 0, none⟩) 32 32, .slice A n c] (fun g => .slice (some ⟨g, 0, none⟩) 3 3) kF (fun g7 => ?_)
  refine sD 4 rfl (.agg ((Sh.taggedS nonceNm.data.toList (((a0 ^^^ o0) :: (a1 ^^^ o1) :: [(a2 ^^^ o2), (a3 ^^^ o3), (a4 ^^^ o4), (a5 ^^^ o5), (a6 ^^^ o6), (a7 ^^^ o7), (a8 ^^^ o8), (a9 ^^^ o9), (a10 ^^^ o10), (a11 ^^^ o11), (a12 ^^^ o12), (a13 ^^^ o13), (a14 ^^^ o14), (a15 ^^^ o15), (a16 ^^^ o16), (a17 ^^^ o17), (a18 ^^^ o18), (a19 ^^^ o19), (a20 ^^^ o20), (a21 ^^^ o21), (a22 ^^^ o22), (a23 ^^^ o23), (a24 ^^^ o24), (a25 ^^^ o25), (a26 ^^^ o26), (a27 ^^^ o27), (a28 ^^^ o28), (a29 ^^^ o29), (a30 ^^^ o30), (a31 ^^^ o31)]) ++ key ++ m)).map bv).toArray) (qG 22 #[.string nonceNm, .slice (some ⟨g7, 0, none⟩) 3 3] (fun w hw => tag3_c w nonceNm (by decide) g7 g6 g1 _ _ _ ((a0 ^^^ o0) :: (a1 ^^^ o1) :: [(a2 ^^^ o2), (a3 ^^^ o3), (a4 ^^^ o4), (a5 ^^^ o5), (a6 ^^^ o6), (a7 ^^^ o7), (a8 ^^^ o8), (a9 ^^^ o9), (a10 ^^^ o10), (a11 ^^^ o11), (a12 ^^^ o12), (a13 ^^^ o13), (a14 ^^^ o14), (a15 ^^^ o15), (a16 ^^^ o16), (a17 ^^^ o17), (a18 ^^^ o18), (a19 ^^^ o19), (a20 ^^^ o20), (a21 ^^^ o21), (a22 ^^^ o22), (a23 ^^^ o23), (a24 ^^^ o24), (a25 ^^^ o25), (a26 ^^^ o26), (a27 ^^^ o27), (a28 ^^^ o28), (a29 ^^^ o29), (a30 ^^^ o30), (a31 ^^^ o31)]) key m A c rfl hkey n hn hm hc hc2 (hw.get (i := 3) rfl) (hw.get (i := 0) rfl) (hs.below hw.below) (hw.get (i := 4) rfl) (ht.below hw.below ht.lt))) <| sD 5 rfl (fv (valB (Sh.taggedS nonceNm.data.toList (((a0 ^^^ o0) :: (a1 ^^^ o1) :: [(a2 ^^^ o2), (a3 ^^^ o3), (a4 ^^^ o4), (a5 ^^^ o5), (a6 ^^^ o6), (a7 ^^^ o7), (a8 ^^^ o8), (a9 ^^^ o9), (a10 ^^^ o10), (a11 ^^^ o11), (a12 ^^^ o12), (a13 ^^^ o13), (a14 ^^^ o14), (a15 ^^^ o15), (a16 ^^^ o16), (a17 ^^^ o17), (a18 ^^^ o18), (a19 ^^^ o19), (a20 ^^^ o20), (a21 ^^^ o21), (a22 ^^^ o22), (a23 ^^^ o23), (a24 ^^^ o24), (a25 ^^^ o25), (a26 ^^^ o26), (a27 ^^^ o27), (a28 ^^^ o28), (a29 ^^^ o29), (a30 ^^^ o30), (a31 ^^^ o31)]) ++ key ++ m)) % Sc.pM)) (qF 23 #[.agg ((Sh.taggedS nonceNm.data.toList (((a0 ^^^ o0) :: (a1 ^^^ o1) :: [(a2 ^^^ o2), (a3 ^^^ o3), (a4 ^^^ o4), (a5 ^^^ o5), (a6 ^^^ o6), (a7 ^^^ o7), (a8 ^^^ o8), (a9 ^^^ o9), (a10 ^^^ o10), (a11 ^^^ o11), (a12 ^^^ o12), (a13 ^^^ o13), (a14 ^^^ o14), (a15 ^^^ o15), (a16 ^^^ o16), (a17 ^^^ o17), (a18 ^^^ o18), (a19 ^^^ o19), (a20 ^^^ o20), (a21 ^^^ o21), (a22 ^^^ o22), (a23 ^^^ o23), (a24 ^^^ o24), (a25 ^^^ o25), (a26 ^^^ o26), (a27 ^^^ o27), (a28 ^^^ o28), (a29 ^^^ o29), (a30 ^^^ o30), (a31 ^^^ o31)]) ++ key ++ m)).map bv).toArray] (fun w => Sc.reduceB_any w (Sh.taggedS nonceNm.data.toList (((a0 ^^^ o0) :: (a1 ^^^ o1) :: [(a2 ^^^ o2), (a3 ^^^ o3), (a4 ^^^ o4), (a5 ^^^ o5), (a6 ^^^ o6), (a7 ^^^ o7), (a8 ^^^ o8), (a9 ^^^ o9), (a10 ^^^ o10), (a11 ^^^ o11), (a12 ^^^ o12), (a13 ^^^ o13), (a14 ^^^ o14), (a15 ^^^ o15), (a16 ^^^ o16), (a17 ^^^ o17), (a18 ^^^ o18), (a19 ^^^ o19), (a20 ^^^ o20), (a21 ^^^ o21), (a22 ^^^ o22), (a23 ^^^ o23), (a24 ^^^ o24), (a25 ^^^ o25), (a26 ^^^ o26), (a27 ^^^ o27), (a28 ^^^ o28), (a29 ^^^ o29), (a30 ^^^ o30), (a31 ^^^ o31)]) ++ key ++ m)) (tagS_length _ _))) <| sX 6 rfl 1 g2 24 (fcs 0) (fcs (valB (Sh.taggedS nonceNm.data.toList (((a0 ^^^ o0) :: (a1 ^^^ o1) :: [(a2 ^^^ o2), (a3 ^^^ o3), (a4 ^^^ o4), (a5 ^^^ o5), (a6 ^^^ o6), (a7 ^^^ o7), (a8 ^^^ o8), (a9 ^^^ o9), (a10 ^^^ o10), (a11 ^^^ o11), (a12 ^^^ o12), (a13 ^^^ o13), (a14 ^^^ o14), (a15 ^^^ o15), (a16 ^^^ o16), (a17 ^^^ o17), (a18 ^^^ o18), (a19 ^^^ o19), (a20 ^^^ o20), (a21 ^^^ o21), (a22 ^^^ o22), (a23 ^^^ o23), (a24 ^^^ o24), (a25 ^^^ o25), (a26 ^^^ o26), (a27 ^^^ o27), (a28 ^^^ o28), (a29 ^^^ o29), (a30 ^^^ o30), (a31 ^^^ o31)]) ++ key ++ m)) % Sc.pM)) (wS 0 24 (fcs (valB (Sh.taggedS nonceNm.data.toList (((a0 ^^^ o0) :: (a1 ^^^ o1) :: [(a2 ^^^ o2), (a3 ^^^ o3), (a4 ^^^ o4), (a5 ^^^ o5), (a6 ^^^ o6), (a7 ^^^ o7), (a8 ^^^ o8), (a9 ^^^ o9), (a10 ^^^ o10), (a11 ^^^ o11), (a12 ^^^ o12), (a13 ^^^ o13), (a14 ^^^ o14), (a15 ^^^ o15), (a16 ^^^ o16), (a17 ^^^ o17), (a18 ^^^ o18), (a19 ^^^ o19), (a20 ^^^ o20), (a21 ^^^ o21), (a22 ^^^ o22), (a23 ^^^ o23), (a24 ^^^ o24), (a25 ^^^ o25), (a26 ^^^ o26), (a27 ^^^ o27), (a28 ^^^ o28), (a29 ^^^ o29), (a30 ^^^ o30), (a31 ^^^ o31)]) ++ key ++ m)) % Sc.pM)) rfl) ?_
  refine sI ?_
  refine Sy.ret ?_
  rw [show (fv (nonceS d key m) : Value) = fv (valB (Sh.taggedS nonceNm.data.toList (((a0 ^^^ o0) :: (a1 ^^^ o1) :: [(a2 ^^^ o2), (a3 ^^^ o3), (a4 ^^^ o4), (a5 ^^^ o5), (a6 ^^^ o6), (a7 ^^^ o7), (a8 ^^^ o8), (a9 ^^^ o9), (a10 ^^^ o10), (a11 ^^^ o11), (a12 ^^^ o12), (a13 ^^^ o13), (a14 ^^^ o14), (a15 ^^^ o15), (a16 ^^^ o16), (a17 ^^^ o17), (a18 ^^^ o18), (a19 ^^^ o19), (a20 ^^^ o20), (a21 ^^^ o21), (a22 ^^^ o22), (a23 ^^^ o23), (a24 ^^^ o24), (a25 ^^^ o25), (a26 ^^^ o26), (a27 ^^^ o27), (a28 ^^^ o28), (a29 ^^^ o29), (a30 ^^^ o30), (a31 ^^^ o31)]) ++ key ++ m)) % Sc.pM) from by unfold nonceS auxM; rw [hT, hM]; rfl]
  exact rC (v := fv (valB (Sh.taggedS nonceNm.data.toList (((a0 ^^^ o0) :: (a1 ^^^ o1) :: [(a2 ^^^ o2), (a3 ^^^ o3), (a4 ^^^ o4), (a5 ^^^ o5), (a6 ^^^ o6), (a7 ^^^ o7), (a8 ^^^ o8), (a9 ^^^ o9), (a10 ^^^ o10), (a11 ^^^ o11), (a12 ^^^ o12), (a13 ^^^ o13), (a14 ^^^ o14), (a15 ^^^ o15), (a16 ^^^ o16), (a17 ^^^ o17), (a18 ^^^ o18), (a19 ^^^ o19), (a20 ^^^ o20), (a21 ^^^ o21), (a22 ^^^ o22), (a23 ^^^ o23), (a24 ^^^ o24), (a25 ^^^ o25), (a26 ^^^ o26), (a27 ^^^ o27), (a28 ^^^ o28), (a29 ^^^ o29), (a30 ^^^ o30), (a31 ^^^ o31)]) ++ key ++ m)) % Sc.pM)) 24 g2 1 (fcs (valB (Sh.taggedS nonceNm.data.toList (((a0 ^^^ o0) :: (a1 ^^^ o1) :: [(a2 ^^^ o2), (a3 ^^^ o3), (a4 ^^^ o4), (a5 ^^^ o5), (a6 ^^^ o6), (a7 ^^^ o7), (a8 ^^^ o8), (a9 ^^^ o9), (a10 ^^^ o10), (a11 ^^^ o11), (a12 ^^^ o12), (a13 ^^^ o13), (a14 ^^^ o14), (a15 ^^^ o15), (a16 ^^^ o16), (a17 ^^^ o17), (a18 ^^^ o18), (a19 ^^^ o19), (a20 ^^^ o20), (a21 ^^^ o21), (a22 ^^^ o22), (a23 ^^^ o23), (a24 ^^^ o24), (a25 ^^^ o25), (a26 ^^^ o26), (a27 ^^^ o27), (a28 ^^^ o28), (a29 ^^^ o29), (a30 ^^^ o30), (a31 ^^^ o31)]) ++ key ++ m)) % Sc.pM)) rfl Tryd.underlying24
end Go.Proofs.YtbofhoonlmikcaaDoor.Cu

end
