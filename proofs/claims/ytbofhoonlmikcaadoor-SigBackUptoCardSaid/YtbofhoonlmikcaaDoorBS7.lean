/-
  Texts of ours, put together: SigM, SigK, EqB, SigAlive, SigBackL.
-/
import Derived.Test.YtbofhoonlmikcaaDoorBS6
set_option linter.unusedVariables false
set_option linter.unusedSimpArgs false
section
namespace Go.Proofs.YtbofhoonlmikcaaDoor.Cu
open Go.RowKit Go.Proofs.YtbofhoonlmikcaaDoor Go.Proofs.YtbofhoonlmikcaaDoor.Sy

/-- the even one of a number's point and its contrary -/
def evE (k : Nat) : Pt := match evP k with
  | none => none
  | some (x, y) => if y.val % 2 = 1 then some (x, -y) else some (x, y)
theorem nN_pM : nN = Sc.pM := by decide +kernel
theorem nm_p {P : Pt} (hP : Ec.On P) (k : Nat) : Ec.nm finv (k % Sc.pM) P = Ec.nm finv k P := by
  have h := nm_modN hP k
  rwa [nN_pM] at h
theorem nm_negP {P : Pt} (hP : Ec.On P) (k : Nat) : Ec.nm finv (Sc.negP k % Sc.pM) P = Ec.neg (Ec.nm finv (k % Sc.pM) P) := by
  have hlt : k % Sc.pM < Sc.pM := Sc.mod_lt_p k
  have e1 : Ec.nm finv (Sc.negP k % Sc.pM) P = Ec.nm finv (Sc.pM - k % Sc.pM) P := by
    unfold Sc.negP
    rw [nm_p hP, nm_p hP]
  have e2 : Ec.add finv (Ec.nm finv (k % Sc.pM) P) (Ec.nm finv (Sc.pM - k % Sc.pM) P) = none := by
    rw [← Ec.nm_add fld hP, show k % Sc.pM + (Sc.pM - k % Sc.pM) = Sc.pM by omega, ← nm_p hP, Nat.mod_self]
    rfl
  have o1 := hP.nm fld (k % Sc.pM)
  have o2 := hP.nm fld (Sc.pM - k % Sc.pM)
  rw [e1]
  have e3 := congrArg (Ec.add finv (Ec.neg (Ec.nm finv (k % Sc.pM) P))) e2
  rw [← Ec.assoc fld o1.neg o1 o2, Ec.neg_add, Ec.zero_add, Ec.add_zero] at e3
  exact e3
theorem evE_is (k : Nat) : Ec.nm finv (evD k % Sc.pM) bP = evE k := by
  unfold evD evE
  rcases h : evP k with _ | ⟨x, y⟩
  · rfl
  · show Ec.nm finv ((if y.val % 2 = 1 then Sc.negP k else k) % Sc.pM) bP = if y.val % 2 = 1 then some (x, -y) else some (x, y)
    by_cases hy : y.val % 2 = 1
    · rw [if_pos hy, if_pos hy, nm_negP bP_on]
      have h' : Ec.nm finv (k % Sc.pM) bP = some (x, y) := h
      rw [h']
      rfl
    · rw [if_neg hy, if_neg hy]
      exact h
theorem evE_lift {k : Nat} (h : (evP k).isSome = true) : liftP (evX (evP k)) = evE k ∧ liftB (evX (evP k)) = true := by
  have ho := evP_on k
  unfold evE
  rcases e : evP k with _ | ⟨x, y⟩
  · rw [e] at h; cases h
  · rw [e] at ho
    have hl := lift_x x y ho
    refine ⟨hl, ?_⟩
    cases hb : liftB (bytesS x.val) with
    | true => exact hb
    | false =>
      rw [lift_no hb] at hl
      split at hl <;> cases hl
theorem evE_enc {k : Nat} (h : (evP k).isSome = true) : encS (evE k) = 2 :: evX (evP k) := by
  have ho := evP_on k
  unfold evE
  rcases e : evP k with _ | ⟨x, y⟩
  · rw [e] at h; cases h
  · rw [e] at ho
    show encS (if y.val % 2 = 1 then some (x, -y) else some (x, y)) = 2 :: bytesS x.val
    by_cases hy : y.val % 2 = 1
    · rw [if_pos hy]
      have hn := val_neg' y (no_two x y ho)
      show (if (-y).val % 2 = 1 then (3 : UInt8) else 2) :: bytesS x.val = _
      rw [if_neg (by omega)]
    · rw [if_neg hy]
      show (if y.val % 2 = 1 then (3 : UInt8) else 2) :: bytesS x.val = _
      rw [if_neg hy]
theorem sig_first (d : Nat) (key m : List UInt8) (k : Nat) : ((sigS d key m k).drop 0).take 32 = evX (evP k) := by
  unfold sigS
  rw [List.drop_zero, List.take_append_of_le_length (by rw [evX_length]; exact Nat.le_refl _), List.take_of_length_le (by rw [evX_length]; exact Nat.le_refl _)]
theorem sig_last (d : Nat) (key m : List UInt8) (k : Nat) : ((sigS d key m k).drop 32).take 32 = bytesS (ansS d key m k % Sc.pM) := by
  unfold sigS
  rw [List.drop_append_of_le_length (by rw [evX_length]; exact Nat.le_refl _), List.drop_of_length_le (by rw [evX_length]; exact Nat.le_refl _), List.nil_append, List.take_of_length_le (by rw [bytesS_length]; exact Nat.le_refl _)]
theorem readS_bytes (z : Nat) : Sc.readS (bytesS (z % Sc.pM)) = (z % Sc.pM, true) := by
  unfold Sc.readS
  rw [valB_bytesS _ (Sc.mod_lt z), if_pos (Sc.mod_lt_p z)]
/-- the point that a signature's answer leads to -/
theorem rPt_sig (sec k e : Nat) {a b : Nat} {i : Bool} (hd : dec a b i = evE sec) : rPt (Sc.addP (evD k) (Sc.mulP e (evD sec)) % Sc.pM) (Sc.negP e) a b i = evE k := by
  have oB : Ec.On bP := bP_on
  have oE : Ec.On (evE sec) := by rw [← evE_is]; exact oB.nm fld _
  have oK : Ec.On (evE k) := by rw [← evE_is]; exact oB.nm fld _
  unfold rPt
  rw [hd, nm_negP oE]
  have e1 : Ec.nm finv (Sc.addP (evD k) (Sc.mulP e (evD sec)) % Sc.pM % Sc.pM) bP = Ec.add finv (evE k) (Ec.nm finv (e % Sc.pM) (evE sec)) := by
    rw [nm_p oB, nm_p oB]
    unfold Sc.addP Sc.mulP
    rw [nm_p oB, Ec.nm_add fld oB, nm_p oB, Ec.nm_mul fld oB, nm_p oE, ← evE_is k, ← evE_is sec, nm_p oB, nm_p oB]
  rw [e1]
  have o1 := oE.nm fld (e % Sc.pM)
  rw [Ec.assoc fld oK o1 o1.neg, Ec.add_neg, Ec.add_zero]
theorem verB_gen {key m s X Zb : List UInt8} {P E : Pt} {z e : Nat} (he : chalS X key m = e) (h1 : liftB key = true) (h2 : liftP key = P) (h3 : (s.drop 0).take 32 = X) (h4 : (s.drop 32).take 32 = Zb) (h5 : (Sc.readS Zb).1 = z) (h6 : (Sc.readS Zb).2 = true)
    (h7 : rPt z (Sc.negP e) (pX P) (pY P) (pI P) = E) (h8 : encS E = 2 :: X) (h9 : X.length = 32) : verB key m s = true := by
  unfold verB ansB
  rw [h3, he, h1, h2, h4, h6, h5, h7, h8]
  have h10 : (((2 : UInt8) :: X).drop 1).take 32 = X := by
    rw [List.drop_succ_cons, List.drop_zero, List.take_of_length_le (by rw [h9]; exact Nat.le_refl _)]
  rw [h10]
  simp
/-- WHAT IS SIGNED IS VERIFIED -/
theorem verB_sig (sec : Nat) (m : List UInt8) (h : signB sec m = true) : verB (evX (evP sec)) m (signL sec m) = true := by
  have hs := h
  unfold signB at hs
  rw [Bool.and_eq_true] at hs
  obtain ⟨h1, h2⟩ := hs
  obtain ⟨l1, l2⟩ := evE_lift h1
  have hd : dec (pX (evE sec)) (pY (evE sec)) (pI (evE sec)) = evE sec := dec_parts (by rw [← evE_is]; exact bP_on.nm fld _)
  have e1 : signL sec m = sigS (evD sec) (evX (evP sec)) m (nonS sec m) := by
    unfold signL
    rw [if_pos h]
  rw [e1]
  generalize nonS sec m = k at h2 ⊢
  have hr := readS_bytes (ansS (evD sec) (evX (evP sec)) m k)
  exact verB_gen (e := chalS (evX (evP k)) (evX (evP sec)) m) rfl l2 l1 (sig_first _ _ _ _) (sig_last _ _ _ _) (congrArg Prod.fst hr) (congrArg Prod.snd hr) (rPt_sig sec k _ hd) (evE_enc h2) (evX_length _)
end Go.Proofs.YtbofhoonlmikcaaDoor.Cu

end
section
namespace Go.Proofs.YtbofhoonlmikcaaDoor.Cu
open Go.RowKit Go.Proofs.YtbofhoonlmikcaaDoor Go.Proofs.YtbofhoonlmikcaaDoor.Sy

theorem evD_some {k : Nat} {x y : Fp} (h : evP k = some (x, y)) : evD k = if y.val % 2 = 1 then Sc.negP k else k := by
  unfold evD
  rw [h]
theorem if_yes {c a b d : Nat} (h : c = 1) (e : a = d) : (if c = 1 then a else b) = d := by rw [if_pos h, e]
theorem signB_of {sec : Nat} {m : List UInt8} {k : Nat} {x y u v : Fp} (hk : nonS sec m = k) (h1 : evP sec = some (x, y)) (h2 : evP k = some (u, v)) : signB sec m = true := by
  unfold signB
  rw [hk, h1, h2]
  rfl
theorem signL_of {sec : Nat} {m X Y : List UInt8} {k d e D z : Nat} (hB : signB sec m = true) (hk : nonS sec m = k) (hd : evD sec = d) (hX : evX (evP k) = X) (hY : evX (evP sec) = Y) (hc : chalS X Y m = e) (hD : evD k = D) (hz : Sc.addP D (Sc.mulP e d) % Sc.pM = z) : signL sec m = X ++ bytesS z := by
  unfold signL
  rw [if_pos hB, hk]
  unfold sigS ansS
  rw [hX, hY, hc, hd, hD, hz]
def k0 : Nat := 13197915491876976259551408334663313131887465579707439106007590226688883891305
set_option maxRecDepth 100000 in
theorem big_3 : 3 % 2 ^ 256 = 3 := by decide +kernel
set_option maxRecDepth 100000 in
theorem chain_3 : gK 3 256 0 0 0 (isK 112711660439710606056748659173929673102114977341539408544630613555209775888121 25583027980570883691656905877401976406448868254816295069919888960541586679410) = true := by decide +kernel
theorem evP_3 : evP 3 = some (fm 112711660439710606056748659173929673102114977341539408544630613555209775888121, fm 25583027980570883691656905877401976406448868254816295069919888960541586679410) := by
  unfold evP
  rw [nm_p bP_on]
  exact gK_some big_3 chain_3
set_option maxRecDepth 100000 in
theorem big_K : k0 % 2 ^ 256 = k0 := by decide +kernel
set_option maxRecDepth 100000 in
theorem chain_K : gK k0 256 0 0 0 (isK 105402166627418795092072804961744245450567089294823101265006251985280030114325 59979214474319322165094783228164233363219353906398054566988269642334758084391) = true := by decide +kernel
theorem evP_K : evP k0 = some (fm 105402166627418795092072804961744245450567089294823101265006251985280030114325, fm 59979214474319322165094783228164233363219353906398054566988269642334758084391) := by
  unfold evP
  rw [nm_p bP_on]
  exact gK_some big_K chain_K
set_option maxRecDepth 100000 in
theorem evD_3 : evD 3 = 3 := by
  unfold evD
  rw [evP_3]
  decide +kernel
theorem evX_3 : evX (evP 3) = bytesS 112711660439710606056748659173929673102114977341539408544630613555209775888121 := by
  rw [evP_3]
  rfl
set_option maxRecDepth 100000 in
theorem odd_K : (fm 59979214474319322165094783228164233363219353906398054566988269642334758084391).val % 2 = 1 := by decide +kernel
set_option maxRecDepth 100000 in
theorem neg_K : Sc.negP k0 = 102594173745439219164019576674024594720950098699367465276597572914829277603032 := by decide +kernel
theorem evD_K : evD k0 = 102594173745439219164019576674024594720950098699367465276597572914829277603032 := (evD_some evP_K).trans (if_yes odd_K neg_K)
theorem evX_K : evX (evP k0) = bytesS 105402166627418795092072804961744245450567089294823101265006251985280030114325 := by
  rw [evP_K]
  rfl
set_option maxRecDepth 100000 in
theorem nonce_3 : nonceS 3 (bytesS 112711660439710606056748659173929673102114977341539408544630613555209775888121) (List.replicate 32 0) = k0 := by decide +kernel
theorem nonS_3 : nonS 3 (List.replicate 32 0) = k0 := by
  unfold nonS
  rw [evD_3, evX_3]
  exact nonce_3
set_option maxRecDepth 100000 in
theorem chal_3 : chalS (bytesS 105402166627418795092072804961744245450567089294823101265006251985280030114325) (bytesS 112711660439710606056748659173929673102114977341539408544630613555209775888121) (List.replicate 32 0) = 48720319366320448218248931228309816100339060958010591740548832691369990260430 := by decide +kernel
theorem signB_3 : signB 3 (List.replicate 32 0) = true := signB_of nonS_3 evP_3 evP_K
set_option maxRecDepth 100000 in
theorem ans_3 : Sc.addP 102594173745439219164019576674024594720950098699367465276597572914829277603032 (Sc.mulP 48720319366320448218248931228309816100339060958010591740548832691369990260430 3) % Sc.pM = 17170953369768172971624400341578227316292153015249431733033744705902925395648 := by decide +kernel
/-- the signature that the document fixes -/
theorem signL_3 : signL 3 (List.replicate 32 0) = bytesS 105402166627418795092072804961744245450567089294823101265006251985280030114325 ++ bytesS 17170953369768172971624400341578227316292153015249431733033744705902925395648 := signL_of signB_3 nonS_3 evD_3 evX_K evX_3 chal_3 evD_K ans_3
end Go.Proofs.YtbofhoonlmikcaaDoor.Cu

end
section
namespace Go.Proofs.YtbofhoonlmikcaaDoor.Cu
open Go.RowKit Go.Proofs.YtbofhoonlmikcaaDoor Go.Proofs.YtbofhoonlmikcaaDoor.Sy

theorem eql_sig (w : World) (F : Slots) (o : Oper) (x y : Operand) (a b : List UInt8) (ha : a.length = 64) (hb : b.length = 64) {yt : TypeId} (ho : o.op = .binOp .eql 27 x y yt) (hx : evF F x = .agg (a.map bv).toArray) (hy : evF F y = .agg (b.map bv).toArray) : (execOp (evF F) o).run Tryd.prog w = .ok (.value (.bool (decide (a = b)))) w := by
  have h1 : (eqGuard .eql 27 x y (.agg (a.map bv).toArray) (.agg (b.map bv).toArray)).run Tryd.prog w = .ok () w := by go_simp
  have h2 : (binOp .eql 27 (.agg (a.map bv).toArray) (.agg (b.map bv).toArray)).run Tryd.prog w = .ok (.bool (decide (a = b))) w := by
    have h := run_equalIn_bytes (P := Tryd.prog) w 9998 27 5 64 Tryd.underlying27 Tryd.underlying5 (fun W => by kernel_rfl) a b ha hb
    rw [run_eql_struct, show (10000 : Nat) = 9998 + 2 from rfl, show (Op.equalIn (9998 + 2) 27 (.agg (a.map bv).toArray) (.agg (b.map bv).toArray)).run Tryd.prog w = _ from h]
    by_cases e : a = b <;> simp [e]
  unfold execOp
  simp only [ho, hx, hy, Sem.run_bind, h1, h2, Result.andThen_ok, Sem.run_pure]
end Go.Proofs.YtbofhoonlmikcaaDoor.Cu

end
section
namespace Go.Proofs.YtbofhoonlmikcaaDoor.Cu
open Go.RowKit Go.Proofs.YtbofhoonlmikcaaDoor Go.Proofs.YtbofhoonlmikcaaDoor.Sy

theorem s_first : (signL 3 (List.replicate 32 (0 : UInt8))).getD 0 0 = UInt8.ofNat 233 := by
  rw [signL_3]
  decide +kernel
theorem s_last : (signL 3 (List.replicate 32 (0 : UInt8))).getD 63 0 = UInt8.ofNat 192 := by
  rw [signL_3]
  decide +kernel
theorem signL_length (sec : Nat) (m : List UInt8) : (signL sec m).length = 64 := by
  unfold signL
  split
  · exact sigS_length _ _ _ _
  · rfl
set_option maxHeartbeats 4000000 in
set_option maxRecDepth 100000 in
theorem alive6 (w : World) (ht : Sh.TabAt w 0) : Calls Tryd.prog 6 #[] w (Gets w (.bool true)) := by
  obtain ⟨S, hS⟩ : ∃ S, S = signL 3 (List.replicate 32 (0 : UInt8)) := ⟨_, rfl⟩
  obtain ⟨K, hK⟩ : ∃ K, K = evX (evP 3) := ⟨_, rfl⟩
  have hSl : S.length = 64 := by rw [hS]; exact signL_length _ _
  have hKl : K.length = 32 := by rw [hK]; exact evX_length _
  have h0 : S.getD 0 0 = UInt8.ofNat 233 := by rw [hS]; exact s_first
  have h63 : S.getD 63 0 = UInt8.ofNat 192 := by rw [hS]; exact s_last
  have hv : verB K (List.replicate 32 (0 : UInt8)) S = true := by rw [hS, hK]; exact verB_sig 3 _ signB_3
  have pub : (evP 3).isSome = true := by rw [evP_3]; rfl
  refine Sy.enter (args := []) Tryd.func6 rfl kL ?_
  refine sC ?_
  refine sP (.bool false) ?_
  refine sA ?_
  refine Sy.make kR 5 ((List.replicate 32 (0 : UInt8)).map bv).toArray (fun g => .slice (some ⟨g, 0, none⟩) 32 32) kF (fun g0 => ?_)
  refine sP (.slice (some ⟨g0, 0, none⟩) 32 32) ?_
  refine sA ?_
  refine sP (fv 3) <| sP (.slice (some ⟨g0, 0, none⟩) 32 32) <| sS (.tuple #[.agg (S.map bv).toArray, .bool true]) (qG 4 #[fv 3, .slice (some ⟨g0, 0, none⟩) 32 32] (fun w hw => by have q := Sign_any w 3 (by decide) (some ⟨g0, 0, none⟩) (List.replicate 32 (0 : UInt8)) 32 32 rfl (by decide) (by decide) (by decide) (Sh.Src.of_blk (hw.get (i := 0) rfl)) (ht.below hw.below ht.lt); rw [signB_3, ← hS] at q; exact q)) <| sP (.tuple #[.agg (S.map bv).toArray, .bool true]) <| sP (.agg (S.map bv).toArray) <| sP (.bool true) ?_
  refine sM 27 (.int .u8 0 :: .int .u8 0 :: .int .u8 0 :: .int .u8 0 :: .int .u8 0 :: .int .u8 0 :: .int .u8 0 :: .int .u8 0 :: .int .u8 0 :: .int .u8 0 :: .int .u8 0 :: .int .u8 0 :: .int .u8 0 :: .int .u8 0 :: .int .u8 0 :: .int .u8 0 :: .int .u8 0 :: .int .u8 0 :: .int .u8 0 :: .int .u8 0 :: .int .u8 0 :: .int .u8 0 :: .int .u8 0 :: .int .u8 0 :: .int .u8 0 :: .int .u8 0 :: .int .u8 0 :: .int .u8 0 :: .int .u8 0 :: .int .u8 0 :: .int .u8 0 :: .int .u8 0 :: .int .u8 0 :: .int .u8 0 :: [.int .u8 0, .int .u8 0, .int .u8 0, .int .u8 0, .int .u8 0, .int .u8 0, .int .u8 0, .int .u8 0, .int .u8 0, .int .u8 0, .int .u8 0, .int .u8 0, .int .u8 0, .int .u8 0, .int .u8 0, .int .u8 0, .int .u8 0, .int .u8 0, .int .u8 0, .int .u8 0, .int .u8 0, .int .u8 0, .int .u8 0, .int .u8 0, .int .u8 0, .int .u8 0, .int .u8 0, .int .u8 0, .int .u8 0, .int .u8 0]).toArray (fun g1 => ?_)
  refine sW 1 g1 27 (.int .u8 0 :: .int .u8 0 :: .int .u8 0 :: .int .u8 0 :: .int .u8 0 :: .int .u8 0 :: .int .u8 0 :: .int .u8 0 :: .int .u8 0 :: .int .u8 0 :: .int .u8 0 :: .int .u8 0 :: .int .u8 0 :: .int .u8 0 :: .int .u8 0 :: .int .u8 0 :: .int .u8 0 :: .int .u8 0 :: .int .u8 0 :: .int .u8 0 :: .int .u8 0 :: .int .u8 0 :: .int .u8 0 :: .int .u8 0 :: .int .u8 0 :: .int .u8 0 :: .int .u8 0 :: .int .u8 0 :: .int .u8 0 :: .int .u8 0 :: .int .u8 0 :: .int .u8 0 :: .int .u8 0 :: .int .u8 0 :: [.int .u8 0, .int .u8 0, .int .u8 0, .int .u8 0, .int .u8 0, .int .u8 0, .int .u8 0, .int .u8 0, .int .u8 0, .int .u8 0, .int .u8 0, .int .u8 0, .int .u8 0, .int .u8 0, .int .u8 0, .int .u8 0, .int .u8 0, .int .u8 0, .int .u8 0, .int .u8 0, .int .u8 0, .int .u8 0, .int .u8 0, .int .u8 0, .int .u8 0, .int .u8 0, .int .u8 0, .int .u8 0, .int .u8 0, .int .u8 0]).toArray (S.map bv).toArray (Writes.store 0 27 (S.map bv).toArray _ _ rfl kR kR (by rw [key_sz S hSl]; kernel_rfl) (by rw [key_sz S hSl]; exact Nat.le_of_ble_eq_true kR) (key_one _) (key_set _ _ (by rw [hSl]; kernel_rfl))) <| sP (.bool true) ?_
  refine sA ?_
  refine sP (fv 3) <| sS (.tuple #[.agg (K.map bv).toArray, .bool true]) (qF 5 #[fv 3] (fun w => by have q := public_any w 3 (by decide); rw [pub, ← hK] at q; exact q)) <| sP (.tuple #[.agg (K.map bv).toArray, .bool true]) <| sP (.agg (K.map bv).toArray) <| sP (.bool true) ?_
  refine sM 31 (.int .u8 0 :: .int .u8 0 :: [.int .u8 0, .int .u8 0, .int .u8 0, .int .u8 0, .int .u8 0, .int .u8 0, .int .u8 0, .int .u8 0, .int .u8 0, .int .u8 0, .int .u8 0, .int .u8 0, .int .u8 0, .int .u8 0, .int .u8 0, .int .u8 0, .int .u8 0, .int .u8 0, .int .u8 0, .int .u8 0, .int .u8 0, .int .u8 0, .int .u8 0, .int .u8 0, .int .u8 0, .int .u8 0, .int .u8 0, .int .u8 0, .int .u8 0, .int .u8 0]).toArray (fun g2 => ?_)
  refine sW 2 g2 31 (.int .u8 0 :: .int .u8 0 :: [.int .u8 0, .int .u8 0, .int .u8 0, .int .u8 0, .int .u8 0, .int .u8 0, .int .u8 0, .int .u8 0, .int .u8 0, .int .u8 0, .int .u8 0, .int .u8 0, .int .u8 0, .int .u8 0, .int .u8 0, .int .u8 0, .int .u8 0, .int .u8 0, .int .u8 0, .int .u8 0, .int .u8 0, .int .u8 0, .int .u8 0, .int .u8 0, .int .u8 0, .int .u8 0, .int .u8 0, .int .u8 0, .int .u8 0, .int .u8 0]).toArray (K.map bv).toArray (Writes.store 0 31 (K.map bv).toArray _ _ rfl kR kR (by rw [key_sz K hKl]; kernel_rfl) (by rw [key_sz K hKl]; exact Nat.le_of_ble_eq_true kR) (key_one _) (key_set _ _ (by rw [hKl]; kernel_rfl))) <| sP (.bool true) ?_
  refine sA ?_
  refine sP (.bool true) <| sP (.bool true) <| sP (.bool true) <| sP (.bool true) <| sP (.bool true) <| sP (.pointer (some ⟨g1, 0, none⟩)) <| sS (bv (S.getD 0 0)) (Quiet.cell 1 g1 0 27 5 (S.map bv).toArray _ _ rfl kR kR Tryd.underlying5 rfl _ (key_at S hSl 0 (by decide))) <| sS (.bool true) (Quiet.pure (fun w => (eql_u8 w _ _ _ _ (S.getD 0 0) 233 (by decide) rfl rfl rfl).trans (by rw [decide_eq_true h0]))) ?_
  refine sP (.bool true) <| sP (.bool true) <| sP (.pointer (some ⟨g1, 63, none⟩)) <| sS (bv (S.getD 63 0)) (Quiet.cell 1 g1 63 27 5 (S.map bv).toArray _ _ rfl kR kR Tryd.underlying5 rfl _ (key_at S hSl 63 (by decide))) <| sS (.bool true) (Quiet.pure (fun w => (eql_u8 w _ _ _ _ (S.getD 63 0) 192 (by decide) rfl rfl rfl).trans (by rw [decide_eq_true h63]))) <| sP (.bool true) <| sP (.bool true) <| sS (.agg (K.map bv).toArray) (Quiet.load 2 g2 0 32 31 31 (K.map bv).toArray _ _ rfl kR kR Tryd.underlying31 rfl kR _ (key_whole K hKl) (key_size K hKl)) ?_
  refine sP (.slice (some ⟨g0, 0, none⟩) 32 32) <| sS (.agg (S.map bv).toArray) (Quiet.load 1 g1 0 64 27 27 (S.map bv).toArray _ _ rfl kR kR Tryd.underlying27 rfl kR _ (key_whole S hSl) (key_size S hSl)) <| sS (.bool true) (qG 7 #[.agg (K.map bv).toArray, .slice (some ⟨g0, 0, none⟩) 32 32, .agg (S.map bv).toArray] (fun w hw => by have q := verify_any w K S hKl hSl (some ⟨g0, 0, none⟩) (List.replicate 32 (0 : UInt8)) 32 32 rfl (by decide) (by decide) (by decide) (Sh.Src.of_blk (hw.get (i := 0) rfl)) (ht.below hw.below ht.lt); rw [hv] at q; exact q)) <| sP (.bool true) <| sP (.bool true) ?_
  refine sG ?_
  refine Sy.ret ?_
  exact rV (.bool true) rfl
end Go.Proofs.YtbofhoonlmikcaaDoor.Cu

end
section
namespace Go.Proofs.YtbofhoonlmikcaaDoor.Cu
open Go.RowKit Go.Proofs.YtbofhoonlmikcaaDoor Go.Proofs.YtbofhoonlmikcaaDoor.Sy
set_option maxRecDepth 100000
set_option maxHeartbeats 4000000

theorem back_no (w : World) (A : Option Addr) (m : List UInt8) (n c : Nat) (hn : m.length = n) (hm : n ≤ 999999900) (hc : n ≤ c) (hc2 : c ≤ 9223372036854775807) (hs : Sh.Src w A m) (ht : Sh.TabAt w 0) (sec : Nat) (hsec : sec < K4) (hB : signB sec m = false) : Calls Tryd.prog 3 #[fv sec, .slice A n c] w (Gets w (.bool true)) := by
  obtain ⟨S, hS⟩ : ∃ S, S = signL sec m := ⟨_, rfl⟩
  obtain ⟨K, hK⟩ : ∃ K, K = evX (evP sec) := ⟨_, rfl⟩
  have hSl : S.length = 64 := by rw [hS]; exact signL_length _ _
  have hKl : K.length = 32 := by rw [hK]; exact evX_length _
  have hz : S = List.replicate 64 (0 : UInt8) := by
    rw [hS]
    unfold signL
    rw [hB]
    rfl
  obtain ⟨b0, hb0⟩ : ∃ b, b = (evP sec).isSome := ⟨_, rfl⟩
  refine Sy.enter (args := [fv sec, .slice A n c]) Tryd.func3 rfl kL ?_
  refine sC ?_
  refine sM 24 (fcs sec) (fun g0 => ?_)
  refine sP (.bool false) ?_
  refine sA ?_
  refine sS (fv sec) (qL 0 g0 0 4 24 24 (fcs sec) rfl Tryd.underlying24) <| sP (.slice A n c) <| sS (.tuple #[.agg (S.map bv).toArray, .bool false]) (qG 4 #[fv sec, .slice A n c] (fun w hw => by have q := Sign_any w sec hsec A m n c hn hm hc hc2 (hs.below hw.below) (ht.below hw.below ht.lt); rw [hB, ← hS] at q; exact q)) <| sP (.tuple #[.agg (S.map bv).toArray, .bool false]) <| sP (.agg (S.map bv).toArray) <| sP (.bool false) ?_
  refine sM 27 (.int .u8 0 :: .int .u8 0 :: .int .u8 0 :: .int .u8 0 :: .int .u8 0 :: .int .u8 0 :: .int .u8 0 :: .int .u8 0 :: .int .u8 0 :: .int .u8 0 :: .int .u8 0 :: .int .u8 0 :: .int .u8 0 :: .int .u8 0 :: .int .u8 0 :: .int .u8 0 :: .int .u8 0 :: .int .u8 0 :: .int .u8 0 :: .int .u8 0 :: .int .u8 0 :: .int .u8 0 :: .int .u8 0 :: .int .u8 0 :: .int .u8 0 :: .int .u8 0 :: .int .u8 0 :: .int .u8 0 :: .int .u8 0 :: .int .u8 0 :: .int .u8 0 :: .int .u8 0 :: .int .u8 0 :: .int .u8 0 :: [.int .u8 0, .int .u8 0, .int .u8 0, .int .u8 0, .int .u8 0, .int .u8 0, .int .u8 0, .int .u8 0, .int .u8 0, .int .u8 0, .int .u8 0, .int .u8 0, .int .u8 0, .int .u8 0, .int .u8 0, .int .u8 0, .int .u8 0, .int .u8 0, .int .u8 0, .int .u8 0, .int .u8 0, .int .u8 0, .int .u8 0, .int .u8 0, .int .u8 0, .int .u8 0, .int .u8 0, .int .u8 0, .int .u8 0, .int .u8 0]).toArray (fun g1 => ?_)
  refine sW 1 g1 27 (.int .u8 0 :: .int .u8 0 :: .int .u8 0 :: .int .u8 0 :: .int .u8 0 :: .int .u8 0 :: .int .u8 0 :: .int .u8 0 :: .int .u8 0 :: .int .u8 0 :: .int .u8 0 :: .int .u8 0 :: .int .u8 0 :: .int .u8 0 :: .int .u8 0 :: .int .u8 0 :: .int .u8 0 :: .int .u8 0 :: .int .u8 0 :: .int .u8 0 :: .int .u8 0 :: .int .u8 0 :: .int .u8 0 :: .int .u8 0 :: .int .u8 0 :: .int .u8 0 :: .int .u8 0 :: .int .u8 0 :: .int .u8 0 :: .int .u8 0 :: .int .u8 0 :: .int .u8 0 :: .int .u8 0 :: .int .u8 0 :: [.int .u8 0, .int .u8 0, .int .u8 0, .int .u8 0, .int .u8 0, .int .u8 0, .int .u8 0, .int .u8 0, .int .u8 0, .int .u8 0, .int .u8 0, .int .u8 0, .int .u8 0, .int .u8 0, .int .u8 0, .int .u8 0, .int .u8 0, .int .u8 0, .int .u8 0, .int .u8 0, .int .u8 0, .int .u8 0, .int .u8 0, .int .u8 0, .int .u8 0, .int .u8 0, .int .u8 0, .int .u8 0, .int .u8 0, .int .u8 0]).toArray (S.map bv).toArray (Writes.store 0 27 (S.map bv).toArray _ _ rfl kR kR (by rw [key_sz S hSl]; kernel_rfl) (by rw [key_sz S hSl]; exact Nat.le_of_ble_eq_true kR) (key_one _) (key_set _ _ (by rw [hSl]; kernel_rfl))) <| sP (.bool false) ?_
  refine sA ?_
  refine sS (fv sec) (qL 0 g0 0 4 24 24 (fcs sec) rfl Tryd.underlying24) <| sS (.tuple #[.agg (K.map bv).toArray, .bool b0]) (qF 5 #[fv sec] (fun w => by have q := public_any w sec hsec; rw [← hK, ← hb0] at q; exact q)) <| sP (.tuple #[.agg (K.map bv).toArray, .bool b0]) <| sP (.agg (K.map bv).toArray) <| sP (.bool b0) ?_
  refine sM 31 (.int .u8 0 :: .int .u8 0 :: [.int .u8 0, .int .u8 0, .int .u8 0, .int .u8 0, .int .u8 0, .int .u8 0, .int .u8 0, .int .u8 0, .int .u8 0, .int .u8 0, .int .u8 0, .int .u8 0, .int .u8 0, .int .u8 0, .int .u8 0, .int .u8 0, .int .u8 0, .int .u8 0, .int .u8 0, .int .u8 0, .int .u8 0, .int .u8 0, .int .u8 0, .int .u8 0, .int .u8 0, .int .u8 0, .int .u8 0, .int .u8 0, .int .u8 0, .int .u8 0]).toArray (fun g2 => ?_)
  refine sW 2 g2 31 (.int .u8 0 :: .int .u8 0 :: [.int .u8 0, .int .u8 0, .int .u8 0, .int .u8 0, .int .u8 0, .int .u8 0, .int .u8 0, .int .u8 0, .int .u8 0, .int .u8 0, .int .u8 0, .int .u8 0, .int .u8 0, .int .u8 0, .int .u8 0, .int .u8 0, .int .u8 0, .int .u8 0, .int .u8 0, .int .u8 0, .int .u8 0, .int .u8 0, .int .u8 0, .int .u8 0, .int .u8 0, .int .u8 0, .int .u8 0, .int .u8 0, .int .u8 0, .int .u8 0]).toArray (K.map bv).toArray (Writes.store 0 31 (K.map bv).toArray _ _ rfl kR kR (by rw [key_sz K hKl]; kernel_rfl) (by rw [key_sz K hKl]; exact Nat.le_of_ble_eq_true kR) (key_one _) (key_set _ _ (by rw [hKl]; kernel_rfl))) <| sP (.bool b0) ?_
  refine sG ?_
  refine Sy.seq ?_
  refine sC ?_
  refine sP (.bool false) <| sP (.bool true) ?_
  refine sG ?_
  refine sT ?_
  refine sC ?_
  refine sS (.bool true) (qG 6 #[] (fun w hw => alive6 w (ht.below hw.below ht.lt))) <| sP (.bool true) <| sS (.agg (S.map bv).toArray) (Quiet.load 1 g1 0 64 27 27 (S.map bv).toArray _ _ rfl kR kR Tryd.underlying27 rfl kR _ (key_whole S hSl) (key_size S hSl)) <| sP (.agg ((.int .u8 0 :: .int .u8 0 :: .int .u8 0 :: .int .u8 0 :: .int .u8 0 :: .int .u8 0 :: .int .u8 0 :: .int .u8 0 :: .int .u8 0 :: .int .u8 0 :: .int .u8 0 :: .int .u8 0 :: .int .u8 0 :: .int .u8 0 :: .int .u8 0 :: .int .u8 0 :: .int .u8 0 :: .int .u8 0 :: .int .u8 0 :: .int .u8 0 :: .int .u8 0 :: .int .u8 0 :: .int .u8 0 :: .int .u8 0 :: .int .u8 0 :: .int .u8 0 :: .int .u8 0 :: .int .u8 0 :: .int .u8 0 :: .int .u8 0 :: .int .u8 0 :: .int .u8 0 :: .int .u8 0 :: .int .u8 0 :: [.int .u8 0, .int .u8 0, .int .u8 0, .int .u8 0, .int .u8 0, .int .u8 0, .int .u8 0, .int .u8 0, .int .u8 0, .int .u8 0, .int .u8 0, .int .u8 0, .int .u8 0, .int .u8 0, .int .u8 0, .int .u8 0, .int .u8 0, .int .u8 0, .int .u8 0, .int .u8 0, .int .u8 0, .int .u8 0, .int .u8 0, .int .u8 0, .int .u8 0, .int .u8 0, .int .u8 0, .int .u8 0, .int .u8 0, .int .u8 0]) : List Value).toArray) <| sS (.bool true) (Quiet.pure (fun w => (eql_sig w _ _ _ _ S (List.replicate 64 (0 : UInt8)) hSl List.length_replicate rfl rfl rfl).trans (by rw [decide_eq_true hz]))) <| sP (.bool true) <| sP (.bool true) ?_
  refine sG ?_
  refine Sy.ret ?_
  refine Sy.then_ret ?_
  exact rV (.bool true) rfl
theorem back_yes (w : World) (A : Option Addr) (m : List UInt8) (n c : Nat) (hn : m.length = n) (hm : n ≤ 999999900) (hc : n ≤ c) (hc2 : c ≤ 9223372036854775807) (hs : Sh.Src w A m) (ht : Sh.TabAt w 0) (sec : Nat) (hsec : sec < K4) (hB : signB sec m = true) : Calls Tryd.prog 3 #[fv sec, .slice A n c] w (Gets w (.bool true)) := by
  obtain ⟨S, hS⟩ : ∃ S, S = signL sec m := ⟨_, rfl⟩
  obtain ⟨K, hK⟩ : ∃ K, K = evX (evP sec) := ⟨_, rfl⟩
  have hSl : S.length = 64 := by rw [hS]; exact signL_length _ _
  have hKl : K.length = 32 := by rw [hK]; exact evX_length _
  have hv : verB K m S = true := by rw [hS, hK]; exact verB_sig sec m hB
  obtain ⟨b0, hb0⟩ : ∃ b, b = (evP sec).isSome := ⟨_, rfl⟩
  obtain rfl : b0 = true := by
    rw [hb0]
    unfold signB at hB
    exact (Bool.and_eq_true_iff.1 hB).1
  refine Sy.enter (args := [fv sec, .slice A n c]) Tryd.func3 rfl kL ?_
  refine sC ?_
  refine sM 24 (fcs sec) (fun g0 => ?_)
  refine sP (.bool false) ?_
  refine sA ?_
  refine sS (fv sec) (qL 0 g0 0 4 24 24 (fcs sec) rfl Tryd.underlying24) <| sP (.slice A n c) <| sS (.tuple #[.agg (S.map bv).toArray, .bool true]) (qG 4 #[fv sec, .slice A n c] (fun w hw => by have q := Sign_any w sec hsec A m n c hn hm hc hc2 (hs.below hw.below) (ht.below hw.below ht.lt); rw [hB, ← hS] at q; exact q)) <| sP (.tuple #[.agg (S.map bv).toArray, .bool true]) <| sP (.agg (S.map bv).toArray) <| sP (.bool true) ?_
  refine sM 27 (.int .u8 0 :: .int .u8 0 :: .int .u8 0 :: .int .u8 0 :: .int .u8 0 :: .int .u8 0 :: .int .u8 0 :: .int .u8 0 :: .int .u8 0 :: .int .u8 0 :: .int .u8 0 :: .int .u8 0 :: .int .u8 0 :: .int .u8 0 :: .int .u8 0 :: .int .u8 0 :: .int .u8 0 :: .int .u8 0 :: .int .u8 0 :: .int .u8 0 :: .int .u8 0 :: .int .u8 0 :: .int .u8 0 :: .int .u8 0 :: .int .u8 0 :: .int .u8 0 :: .int .u8 0 :: .int .u8 0 :: .int .u8 0 :: .int .u8 0 :: .int .u8 0 :: .int .u8 0 :: .int .u8 0 :: .int .u8 0 :: [.int .u8 0, .int .u8 0, .int .u8 0, .int .u8 0, .int .u8 0, .int .u8 0, .int .u8 0, .int .u8 0, .int .u8 0, .int .u8 0, .int .u8 0, .int .u8 0, .int .u8 0, .int .u8 0, .int .u8 0, .int .u8 0, .int .u8 0, .int .u8 0, .int .u8 0, .int .u8 0, .int .u8 0, .int .u8 0, .int .u8 0, .int .u8 0, .int .u8 0, .int .u8 0, .int .u8 0, .int .u8 0, .int .u8 0, .int .u8 0]).toArray (fun g1 => ?_)
  refine sW 1 g1 27 (.int .u8 0 :: .int .u8 0 :: .int .u8 0 :: .int .u8 0 :: .int .u8 0 :: .int .u8 0 :: .int .u8 0 :: .int .u8 0 :: .int .u8 0 :: .int .u8 0 :: .int .u8 0 :: .int .u8 0 :: .int .u8 0 :: .int .u8 0 :: .int .u8 0 :: .int .u8 0 :: .int .u8 0 :: .int .u8 0 :: .int .u8 0 :: .int .u8 0 :: .int .u8 0 :: .int .u8 0 :: .int .u8 0 :: .int .u8 0 :: .int .u8 0 :: .int .u8 0 :: .int .u8 0 :: .int .u8 0 :: .int .u8 0 :: .int .u8 0 :: .int .u8 0 :: .int .u8 0 :: .int .u8 0 :: .int .u8 0 :: [.int .u8 0, .int .u8 0, .int .u8 0, .int .u8 0, .int .u8 0, .int .u8 0, .int .u8 0, .int .u8 0, .int .u8 0, .int .u8 0, .int .u8 0, .int .u8 0, .int .u8 0, .int .u8 0, .int .u8 0, .int .u8 0, .int .u8 0, .int .u8 0, .int .u8 0, .int .u8 0, .int .u8 0, .int .u8 0, .int .u8 0, .int .u8 0, .int .u8 0, .int .u8 0, .int .u8 0, .int .u8 0, .int .u8 0, .int .u8 0]).toArray (S.map bv).toArray (Writes.store 0 27 (S.map bv).toArray _ _ rfl kR kR (by rw [key_sz S hSl]; kernel_rfl) (by rw [key_sz S hSl]; exact Nat.le_of_ble_eq_true kR) (key_one _) (key_set _ _ (by rw [hSl]; kernel_rfl))) <| sP (.bool true) ?_
  refine sA ?_
  refine sS (fv sec) (qL 0 g0 0 4 24 24 (fcs sec) rfl Tryd.underlying24) <| sS (.tuple #[.agg (K.map bv).toArray, .bool true]) (qF 5 #[fv sec] (fun w => by have q := public_any w sec hsec; rw [← hK, ← hb0] at q; exact q)) <| sP (.tuple #[.agg (K.map bv).toArray, .bool true]) <| sP (.agg (K.map bv).toArray) <| sP (.bool true) ?_
  refine sM 31 (.int .u8 0 :: .int .u8 0 :: [.int .u8 0, .int .u8 0, .int .u8 0, .int .u8 0, .int .u8 0, .int .u8 0, .int .u8 0, .int .u8 0, .int .u8 0, .int .u8 0, .int .u8 0, .int .u8 0, .int .u8 0, .int .u8 0, .int .u8 0, .int .u8 0, .int .u8 0, .int .u8 0, .int .u8 0, .int .u8 0, .int .u8 0, .int .u8 0, .int .u8 0, .int .u8 0, .int .u8 0, .int .u8 0, .int .u8 0, .int .u8 0, .int .u8 0, .int .u8 0]).toArray (fun g2 => ?_)
  refine sW 2 g2 31 (.int .u8 0 :: .int .u8 0 :: [.int .u8 0, .int .u8 0, .int .u8 0, .int .u8 0, .int .u8 0, .int .u8 0, .int .u8 0, .int .u8 0, .int .u8 0, .int .u8 0, .int .u8 0, .int .u8 0, .int .u8 0, .int .u8 0, .int .u8 0, .int .u8 0, .int .u8 0, .int .u8 0, .int .u8 0, .int .u8 0, .int .u8 0, .int .u8 0, .int .u8 0, .int .u8 0, .int .u8 0, .int .u8 0, .int .u8 0, .int .u8 0, .int .u8 0, .int .u8 0]).toArray (K.map bv).toArray (Writes.store 0 31 (K.map bv).toArray _ _ rfl kR kR (by rw [key_sz K hKl]; kernel_rfl) (by rw [key_sz K hKl]; exact Nat.le_of_ble_eq_true kR) (key_one _) (key_set _ _ (by rw [hKl]; kernel_rfl))) <| sP (.bool true) ?_
  refine sG ?_
  refine Sy.seq ?_
  refine sC ?_
  refine sP (.bool true) <| sP (.bool false) ?_
  refine sG ?_
  refine sU ?_
  refine Sy.skip ?_
  refine sB ?_
  refine sS (.bool true) (qG 6 #[] (fun w hw => alive6 w (ht.below hw.below ht.lt))) <| sP (.bool true) <| sP (.bool true) <| sP (.bool true) <| sP (.bool true) <| sS (.agg (K.map bv).toArray) (Quiet.load 2 g2 0 32 31 31 (K.map bv).toArray _ _ rfl kR kR Tryd.underlying31 rfl kR _ (key_whole K hKl) (key_size K hKl)) <| sP (.slice A n c) <| sS (.agg (S.map bv).toArray) (Quiet.load 1 g1 0 64 27 27 (S.map bv).toArray _ _ rfl kR kR Tryd.underlying27 rfl kR _ (key_whole S hSl) (key_size S hSl)) ?_
  refine sS (.bool true) (qG 7 #[.agg (K.map bv).toArray, .slice A n c, .agg (S.map bv).toArray] (fun w hw => by have q := verify_any w K S hKl hSl A m n c hn hm hc hc2 (hs.below hw.below) (ht.below hw.below ht.lt); rw [hv] at q; exact q)) <| sP (.bool true) <| sP (.bool true) ?_
  refine sG ?_
  refine Sy.ret ?_
  exact rV (.bool true) rfl
/-- what is signed is verified -/
theorem law_sigback (w : World) (sec : Nat) (hsec : sec < K4) (A : Option Addr) (m : List UInt8) (n c : Nat) (hn : m.length = n) (hm : n ≤ 999999900) (hc : n ≤ c) (hc2 : c ≤ 9223372036854775807) (hs : Sh.Src w A m) (ht : Sh.TabAt w 0) : Calls Tryd.prog 3 #[fv sec, .slice A n c] w (Gets w (.bool true)) := by
  cases hB : signB sec m with
  | false => exact back_no w A m n c hn hm hc hc2 hs ht sec hsec hB
  | true => exact back_yes w A m n c hn hm hc hc2 hs ht sec hsec hB
end Go.Proofs.YtbofhoonlmikcaaDoor.Cu

end
