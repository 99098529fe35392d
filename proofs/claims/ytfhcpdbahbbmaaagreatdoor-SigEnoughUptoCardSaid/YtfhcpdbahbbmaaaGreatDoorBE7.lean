/-
  Texts of ours, put together: SigM, SigK, SigAlive, EnA, ComM, ComV, EnB, SigN, ScFold, ScRefAdd, ScRefMul, GenM, GenR, ScRefs, SigR, SigV, EnC, SigEnoughL.
-/
import Derived.Test.YtfhcpdbahbbmaaaGreatDoorBE6
set_option linter.unusedVariables false
set_option linter.unusedSimpArgs false
section
namespace Go.Proofs.YtfhcpdbahbbmaaaGreatDoor.Cu
open Go.RowKit Go.Proofs.YtfhcpdbahbbmaaaGreatDoor Go.Proofs.YtfhcpdbahbbmaaaGreatDoor.Sy

def evE (k : Nat) : Pt := match evP k with
 | none => none
 | some (x, y) => if y.val % 2 = 1 then some (x, -y) else some (x, y)
theorem nN_pM : nN = Sc.pM := by decide +kernel
theorem nm_p {P : Pt} (hP : Ec.On P) (k : Nat) : Ec.nm finv (k % Sc.pM) P = Ec.nm finv k P := by
 have h := nm_modN hP k
 rwa [nN_pM] at h
theorem nm_negP {P : Pt} (hP : Ec.On P) (k : Nat) : Ec.nm finv (Sc.negP k % Sc.pM) P = Ec.neg (Ec.nm finv (k % Sc.pM) P) := by
 have hlt : k % Sc.pM < Sc.pM := Sc.mod_lt_p k
 have e1 : Ec.nm finv (Sc.negP k % Sc.pM) P = Ec.nm finv (Sc.pM - k % Sc.pM) P := by
  unfold Sc.negP
  rw [nm_p hP, nm_p hP]
 have e2 : Ec.add finv (Ec.nm finv (k % Sc.pM) P) (Ec.nm finv (Sc.pM - k % Sc.pM) P) = none := by
  rw [← Ec.nm_add fld hP, show k % Sc.pM + (Sc.pM - k % Sc.pM) = Sc.pM by omega, ← nm_p hP, Nat.mod_self]
  rfl
 have o1 := hP.nm fld (k % Sc.pM)
 have o2 := hP.nm fld (Sc.pM - k % Sc.pM)
 rw [e1]
 have e3 := congrArg (Ec.add finv (Ec.neg (Ec.nm finv (k % Sc.pM) P))) e2
 rw [← Ec.assoc fld o1.neg o1 o2, Ec.neg_add, Ec.zero_add, Ec.add_zero] at e3
 exact e3
theorem evE_is (k : Nat) : Ec.nm finv (evD k % Sc.pM) bP = evE k := by
 unfold evD evE
 rcases h : evP k with _ | ⟨x, y⟩
 ·rfl
 ·show Ec.nm finv ((if y.val % 2 = 1 then Sc.negP k else k) % Sc.pM) bP = if y.val % 2 = 1 then some (x, -y) else some (x, y)
  by_cases hy : y.val % 2 = 1
  ·rw [if_pos hy, if_pos hy, nm_negP bP_on]
   have h' : Ec.nm finv (k % Sc.pM) bP = some (x, y) := h
   rw [h']
   rfl
  ·rw [if_neg hy, if_neg hy]
   exact h
theorem evE_lift {k : Nat} (h : (evP k).isSome = true) : liftP (evX (evP k)) = evE k ∧ liftB (evX (evP k)) = true := by
 have ho := evP_on k
 unfold evE
 rcases e : evP k with _ | ⟨x, y⟩
 ·rw [e] at h; cases h
 ·rw [e] at ho
  have hl := lift_x x y ho
  refine ⟨hl, ?_⟩
  cases hb : liftB (bytesS x.val) with
  | true => exact hb
  | false =>
   rw [lift_no hb] at hl
   split at hl <;> cases hl
theorem evE_enc {k : Nat} (h : (evP k).isSome = true) : encS (evE k) = 2 :: evX (evP k) := by
 have ho := evP_on k
 unfold evE
 rcases e : evP k with _ | ⟨x, y⟩
 ·rw [e] at h; cases h
 ·rw [e] at ho
  show encS (if y.val % 2 = 1 then some (x, -y) else some (x, y)) = 2 :: bytesS x.val
  by_cases hy : y.val % 2 = 1
  ·rw [if_pos hy]
   have hn := val_neg' y (no_two x y ho)
   show (if (-y).val % 2 = 1 then (3 : UInt8) else 2) :: bytesS x.val = _
   rw [if_neg (by omega)]
  ·rw [if_neg hy]
   show (if y.val % 2 = 1 then (3 : UInt8) else 2) :: bytesS x.val = _
   rw [if_neg hy]
theorem sig_first (d : Nat) (key m : List UInt8) (k : Nat) : ((sigS d key m k).drop 0).take 32 = evX (evP k) := by
 unfold sigS
 rw [List.drop_zero, List.take_append_of_le_length (by rw [evX_length]; exact Nat.le_refl _), List.take_of_length_le (by rw [evX_length]; exact Nat.le_refl _)]
theorem sig_last (d : Nat) (key m : List UInt8) (k : Nat) : ((sigS d key m k).drop 32).take 32 = bytesS (ansS d key m k % Sc.pM) := by
 unfold sigS
 rw [List.drop_append_of_le_length (by rw [evX_length]; exact Nat.le_refl _), List.drop_of_length_le (by rw [evX_length]; exact Nat.le_refl _), List.nil_append, List.take_of_length_le (by rw [bytesS_length]; exact Nat.le_refl _)]
theorem readS_bytes (z : Nat) : Sc.readS (bytesS (z % Sc.pM)) = (z % Sc.pM, true) := by
 unfold Sc.readS
 rw [valB_bytesS _ (Sc.mod_lt z), if_pos (Sc.mod_lt_p z)]
theorem rPt_sig (sec k e : Nat) {a b : Nat} {i : Bool} (hd : dec a b i = evE sec) : rPt (Sc.addP (evD k) (Sc.mulP e (evD sec)) % Sc.pM) (Sc.negP e) a b i = evE k := by
 have oB : Ec.On bP := bP_on
 have oE : Ec.On (evE sec) := by rw [← evE_is]; exact oB.nm fld _
 have oK : Ec.On (evE k) := by rw [← evE_is]; exact oB.nm fld _
 unfold rPt
 rw [hd, nm_negP oE]
 have e1 : Ec.nm finv (Sc.addP (evD k) (Sc.mulP e (evD sec)) % Sc.pM % Sc.pM) bP = Ec.add finv (evE k) (Ec.nm finv (e % Sc.pM) (evE sec)) := by
  rw [nm_p oB, nm_p oB]
  unfold Sc.addP Sc.mulP
  rw [nm_p oB, Ec.nm_add fld oB, nm_p oB, Ec.nm_mul fld oB, nm_p oE, ← evE_is k, ← evE_is sec, nm_p oB, nm_p oB]
 rw [e1]
 have o1 := oE.nm fld (e % Sc.pM)
 rw [Ec.assoc fld oK o1 o1.neg, Ec.add_neg, Ec.add_zero]
theorem verB_gen {key m s X Zb : List UInt8} {P E : Pt} {z e : Nat} (he : chalS X key m = e) (h1 : liftB key = true) (h2 : liftP key = P) (h3 : (s.drop 0).take 32 = X) (h4 : (s.drop 32).take 32 = Zb) (h5 : (Sc.readS Zb).1 = z) (h6 : (Sc.readS Zb).2 = true)
  (h7 : rPt z (Sc.negP e) (pX P) (pY P) (pI P) = E) (h8 : encS E = 2 :: X) (h9 : X.length = 32) : verB key m s = true := by
 unfold verB ansB
 rw [h3, he, h1, h2, h4, h6, h5, h7, h8]
 have h10 : (((2 : UInt8) :: X).drop 1).take 32 = X := by
  rw [List.drop_succ_cons, List.drop_zero, List.take_of_length_le (by rw [h9]; exact Nat.le_refl _)]
 rw [h10]
 simp
theorem verB_sig (sec : Nat) (m : List UInt8) (h : signB sec m = true) : verB (evX (evP sec)) m (signL sec m) = true := by
 have hs := h
 unfold signB at hs
 rw [Bool.and_eq_true] at hs
 obtain ⟨h1, h2⟩ := hs
 obtain ⟨l1, l2⟩ := evE_lift h1
 have hd : dec (pX (evE sec)) (pY (evE sec)) (pI (evE sec)) = evE sec := dec_parts (by rw [← evE_is]; exact bP_on.nm fld _)
 have e1 : signL sec m = sigS (evD sec) (evX (evP sec)) m (nonS sec m) := by
  unfold signL
  rw [if_pos h]
 rw [e1]
 generalize nonS sec m = k at h2 ⊢
 have hr := readS_bytes (ansS (evD sec) (evX (evP sec)) m k)
 exact verB_gen (e := chalS (evX (evP k)) (evX (evP sec)) m) rfl l2 l1 (sig_first _ _ _ _) (sig_last _ _ _ _) (congrArg Prod.fst hr) (congrArg Prod.snd hr) (rPt_sig sec k _ hd) (evE_enc h2) (evX_length _)
end Go.Proofs.YtfhcpdbahbbmaaaGreatDoor.Cu

end
section
namespace Go.Proofs.YtfhcpdbahbbmaaaGreatDoor.Cu
open Go.RowKit Go.Proofs.YtfhcpdbahbbmaaaGreatDoor Go.Proofs.YtfhcpdbahbbmaaaGreatDoor.Sy

theorem evD_some {k : Nat} {x y : Fp} (h : evP k = some (x, y)) : evD k = if y.val % 2 = 1 then Sc.negP k else k := by
 unfold evD
 rw [h]
theorem if_yes {c a b d : Nat} (h : c = 1) (e : a = d) : (if c = 1 then a else b) = d := by rw [if_pos h, e]
theorem signB_of {sec : Nat} {m : List UInt8} {k : Nat} {x y u v : Fp} (hk : nonS sec m = k) (h1 : evP sec = some (x, y)) (h2 : evP k = some (u, v)) : signB sec m = true := by
 unfold signB
 rw [hk, h1, h2]
 rfl
theorem signL_of {sec : Nat} {m X Y : List UInt8} {k d e D z : Nat} (hB : signB sec m = true) (hk : nonS sec m = k) (hd : evD sec = d) (hX : evX (evP k) = X) (hY : evX (evP sec) = Y) (hc : chalS X Y m = e) (hD : evD k = D) (hz : Sc.addP D (Sc.mulP e d) % Sc.pM = z) : signL sec m = X ++ bytesS z := by
 unfold signL
 rw [if_pos hB, hk]
 unfold sigS ansS
 rw [hX, hY, hc, hd, hD, hz]
def k0 : Nat := 13197915491876976259551408334663313131887465579707439106007590226688883891305
set_option maxRecDepth 100000 in
theorem big_3 : 3 % 2 ^ 256 = 3 := by decide +kernel
set_option maxRecDepth 100000 in
theorem chain_3 : gK 3 256 0 0 0 (isK 112711660439710606056748659173929673102114977341539408544630613555209775888121 25583027980570883691656905877401976406448868254816295069919888960541586679410) = true := by decide +kernel
theorem evP_3 : evP 3 = some (fm 112711660439710606056748659173929673102114977341539408544630613555209775888121, fm 25583027980570883691656905877401976406448868254816295069919888960541586679410) := by
 unfold evP
 rw [nm_p bP_on]
 exact gK_some big_3 chain_3
set_option maxRecDepth 100000 in
theorem big_K : k0 % 2 ^ 256 = k0 := by decide +kernel
set_option maxRecDepth 100000 in
theorem chain_K : gK k0 256 0 0 0 (isK 105402166627418795092072804961744245450567089294823101265006251985280030114325 59979214474319322165094783228164233363219353906398054566988269642334758084391) = true := by decide +kernel
theorem evP_K : evP k0 = some (fm 105402166627418795092072804961744245450567089294823101265006251985280030114325, fm 59979214474319322165094783228164233363219353906398054566988269642334758084391) := by
 unfold evP
 rw [nm_p bP_on]
 exact gK_some big_K chain_K
set_option maxRecDepth 100000 in
theorem evD_3 : evD 3 = 3 := by
 unfold evD
 rw [evP_3]
 decide +kernel
theorem evX_3 : evX (evP 3) = bytesS 112711660439710606056748659173929673102114977341539408544630613555209775888121 := by
 rw [evP_3]
 rfl
set_option maxRecDepth 100000 in
theorem odd_K : (fm 59979214474319322165094783228164233363219353906398054566988269642334758084391).val % 2 = 1 := by decide +kernel
set_option maxRecDepth 100000 in
theorem neg_K : Sc.negP k0 = 102594173745439219164019576674024594720950098699367465276597572914829277603032 := by decide +kernel
theorem evD_K : evD k0 = 102594173745439219164019576674024594720950098699367465276597572914829277603032 := (evD_some evP_K).trans (if_yes odd_K neg_K)
theorem evX_K : evX (evP k0) = bytesS 105402166627418795092072804961744245450567089294823101265006251985280030114325 := by
 rw [evP_K]
 rfl
set_option maxRecDepth 100000 in
theorem nonce_3 : nonceS 3 (bytesS 112711660439710606056748659173929673102114977341539408544630613555209775888121) (List.replicate 32 0) = k0 := by decide +kernel
theorem nonS_3 : nonS 3 (List.replicate 32 0) = k0 := by
 unfold nonS
 rw [evD_3, evX_3]
 exact nonce_3
set_option maxRecDepth 100000 in
theorem chal_3 : chalS (bytesS 105402166627418795092072804961744245450567089294823101265006251985280030114325) (bytesS 112711660439710606056748659173929673102114977341539408544630613555209775888121) (List.replicate 32 0) = 48720319366320448218248931228309816100339060958010591740548832691369990260430 := by decide +kernel
theorem signB_3 : signB 3 (List.replicate 32 0) = true := signB_of nonS_3 evP_3 evP_K
set_option maxRecDepth 100000 in
theorem ans_3 : Sc.addP 102594173745439219164019576674024594720950098699367465276597572914829277603032 (Sc.mulP 48720319366320448218248931228309816100339060958010591740548832691369990260430 3) % Sc.pM = 17170953369768172971624400341578227316292153015249431733033744705902925395648 := by decide +kernel
theorem signL_3 : signL 3 (List.replicate 32 0) = bytesS 105402166627418795092072804961744245450567089294823101265006251985280030114325 ++ bytesS 17170953369768172971624400341578227316292153015249431733033744705902925395648 := signL_of signB_3 nonS_3 evD_3 evX_K evX_3 chal_3 evD_K ans_3
end Go.Proofs.YtfhcpdbahbbmaaaGreatDoor.Cu

end
section
namespace Go.Proofs.YtfhcpdbahbbmaaaGreatDoor.Cu
open Go.RowKit Go.Proofs.YtfhcpdbahbbmaaaGreatDoor Go.Proofs.YtfhcpdbahbbmaaaGreatDoor.Sy

theorem s_first : (signL 3 (List.replicate 32 (0 : UInt8))).getD 0 0 = UInt8.ofNat 233 := by
 rw [signL_3]
 decide +kernel
theorem s_last : (signL 3 (List.replicate 32 (0 : UInt8))).getD 63 0 = UInt8.ofNat 192 := by
 rw [signL_3]
 decide +kernel
theorem signL_length (sec : Nat) (m : List UInt8) : (signL sec m).length = 64 := by
 unfold signL
 split
 ·exact sigS_length _ _ _ _
 ·rfl
set_option maxHeartbeats 4000000 in
set_option maxRecDepth 100000 in
theorem alive6 (w : World) (ht : Sh.TabAt w 1) : Calls Tryz.prog 15 #[] w (Gets w (.bool true)) := by
 obtain ⟨S, hS⟩ : ∃ S, S = signL 3 (List.replicate 32 (0 : UInt8)) := ⟨_, rfl⟩
 obtain ⟨K, hK⟩ : ∃ K, K = evX (evP 3) := ⟨_, rfl⟩
 have hSl : S.length = 64 := by rw [hS]; exact signL_length _ _
 have hKl : K.length = 32 := by rw [hK]; exact evX_length _
 have h0 : S.getD 0 0 = UInt8.ofNat 233 := by rw [hS]; exact s_first
 have h63 : S.getD 63 0 = UInt8.ofNat 192 := by rw [hS]; exact s_last
 have hv : verB K (List.replicate 32 (0 : UInt8)) S = true := by rw [hS, hK]; exact verB_sig 3 _ signB_3
 have pub : (evP 3).isSome = true := by rw [evP_3]; rfl
 refine Sy.enter (args := []) Tryz.func15 rfl kL ?_
 refine sC ?_
 refine sP (.bool false) ?_
 refine sA ?_
 refine Sy.make kR 5 ((List.replicate 32 (0 : UInt8)).map bv).toArray (fun g => .slice (some ⟨g, 0, none⟩) 32 32) kF (fun g0 => ?_)
 refine sP (.slice (some ⟨g0, 0, none⟩) 32 32) ?_
 refine sA ?_
 refine sP (fv 3) <| sP (.slice (some ⟨g0, 0, none⟩) 32 32) <| sS (.tuple #[.agg (S.map bv).toArray, .bool true]) (qG 11 #[fv 3, .slice (some ⟨g0, 0, none⟩) 32 32] (fun w hw => by have q := Sign_any w 3 (by decide) (some ⟨g0, 0, none⟩) (List.replicate 32 (0 : UInt8)) 32 32 rfl (by decide) (by decide) (by decide) (Sh.Src.of_blk (hw.get (i := 0) rfl)) (ht.below hw.below ht.lt); rw [signB_3, ← hS] at q; exact q)) <| sP (.tuple #[.agg (S.map bv).toArray, .bool true]) <| sP (.agg (S.map bv).toArray) <| sP (.bool true) ?_
 refine sM 27 (Zl 64).toArray (fun g1 => ?_)
 refine sW 1 g1 27 (Zl 64).toArray (S.map bv).toArray (Writes.store 0 27 (S.map bv).toArray _ _ rfl kR kR (by rw [key_sz S hSl]; kernel_rfl) (by rw [key_sz S hSl]; exact Nat.le_of_ble_eq_true kR) (key_one _) (key_set _ _ (by rw [hSl]; kernel_rfl))) <| sP (.bool true) ?_
 refine sA ?_
 refine sP (fv 3) <| sS (.tuple #[.agg (K.map bv).toArray, .bool true]) (qF 13 #[fv 3] (fun w => by have q := public_any w 3 (by decide); rw [pub, ← hK] at q; exact q)) <| sP (.tuple #[.agg (K.map bv).toArray, .bool true]) <| sP (.agg (K.map bv).toArray) <| sP (.bool true) ?_
 refine sM 31 (Zl 32).toArray (fun g2 => ?_)
 refine sW 2 g2 31 (Zl 32).toArray (K.map bv).toArray (Writes.store 0 31 (K.map bv).toArray _ _ rfl kR kR (by rw [key_sz K hKl]; kernel_rfl) (by rw [key_sz K hKl]; exact Nat.le_of_ble_eq_true kR) (key_one _) (key_set _ _ (by rw [hKl]; kernel_rfl))) <| sP (.bool true) ?_
 refine sA ?_
 refine sP (.bool true) <| sP (.bool true) <| sP (.bool true) <| sP (.bool true) <| sP (.bool true) <| sP (.pointer (some ⟨g1, 0, none⟩)) <| sS (bv (S.getD 0 0)) (Quiet.cell 1 g1 0 27 5 (S.map bv).toArray _ _ rfl kR kR Tryz.underlying5 rfl _ (key_at S hSl 0 (by decide))) <| sS (.bool true) (Quiet.pure (fun w => (eql_u8 w _ _ _ _ (S.getD 0 0) 233 (by decide) rfl rfl rfl).trans (by rw [decide_eq_true h0]))) ?_
 refine sP (.bool true) <| sP (.bool true) <| sP (.pointer (some ⟨g1, 63, none⟩)) <| sS (bv (S.getD 63 0)) (Quiet.cell 1 g1 63 27 5 (S.map bv).toArray _ _ rfl kR kR Tryz.underlying5 rfl _ (key_at S hSl 63 (by decide))) <| sS (.bool true) (Quiet.pure (fun w => (eql_u8 w _ _ _ _ (S.getD 63 0) 192 (by decide) rfl rfl rfl).trans (by rw [decide_eq_true h63]))) <| sP (.bool true) <| sP (.bool true) <| sS (.agg (K.map bv).toArray) (Quiet.load 2 g2 0 32 31 31 (K.map bv).toArray _ _ rfl kR kR Tryz.underlying31 rfl kR _ (key_whole K hKl) (key_size K hKl)) ?_
 refine sP (.slice (some ⟨g0, 0, none⟩) 32 32) <| sS (.agg (S.map bv).toArray) (Quiet.load 1 g1 0 64 27 27 (S.map bv).toArray _ _ rfl kR kR Tryz.underlying27 rfl kR _ (key_whole S hSl) (key_size S hSl)) <| sS (.bool true) (qG 49 #[.agg (K.map bv).toArray, .slice (some ⟨g0, 0, none⟩) 32 32, .agg (S.map bv).toArray] (fun w hw => by have q := verify_any w K S hKl hSl (some ⟨g0, 0, none⟩) (List.replicate 32 (0 : UInt8)) 32 32 rfl (by decide) (by decide) (by decide) (Sh.Src.of_blk (hw.get (i := 0) rfl)) (ht.below hw.below ht.lt); rw [hv] at q; exact q)) <| sP (.bool true) <| sP (.bool true) ?_
 refine sG <| Sy.ret ?_
 exact rV (.bool true) rfl
end Go.Proofs.YtfhcpdbahbbmaaaGreatDoor.Cu

end
section
namespace Go.Proofs.YtfhcpdbahbbmaaaGreatDoor.Cu
open Go.RowKit Go.Proofs.YtfhcpdbahbbmaaaGreatDoor Go.Proofs.YtfhcpdbahbbmaaaGreatDoor.Sy Go.ChangeShapes Go.WideShapes Go.MapKept Go.ChangeMaps Go.WideElems
open Go.WideMaps (KeyLaw ArrKey)

def diffB (N : Nat) (K : Nat → List UInt8) : Bool := decide (((List.range N).map K).Nodup)
theorem diffB_iff (N : Nat) (K : Nat → List UInt8) : diffB N K = true ↔ ∀ i j, i < j → j < N → K i ≠ K j := by
 unfold diffB
 rw [decide_eq_true_iff, List.Nodup, List.pairwise_map, List.pairwise_iff_getElem]
 constructor
 ·intro h i j hij hj
  have q := h i j (by simpa using Nat.lt_trans hij hj) (by simpa using hj) hij
  rwa [List.getElem_range, List.getElem_range] at q
 ·intro h i j hi hj hij
  rw [List.getElem_range, List.getElem_range]
  exact h i j hij (by simpa using hj)
def validB (T : Int) (N : Nat) (K : Nat → List UInt8) : Bool := decide (T ≥ 1) && decide (T ≤ (N : Int)) && decide (N ≤ 16) && diffB N K
def nxt (Z : Nat → Int) : Nat → Int
 | 0 => 0
 | i + 1 => Z i + 1
def okS (m : List UInt8) (N : Nat) (K : Nat → List UInt8) (Z : Nat → Int) (S : Nat → List UInt8) (i : Nat) : Bool := decide (nxt Z i ≤ Z i) && (decide (Z i < (N : Int)) && verB (K (Z i).toNat) m (S i))
def enB (m : List UInt8) (T : Int) (N : Nat) (K : Nat → List UInt8) (M : Nat) (Z : Nat → Int) (S : Nat → List UInt8) : Bool := validB T N K && (decide (T ≤ (M : Int)) && (List.range M).all (okS m N K Z S))
section
variable {m : List UInt8} {T : Int} {N M : Nat} {K : Nat → List UInt8} {Z : Nat → Int} {S : Nat → List UInt8}
theorem en_bad (h : validB T N K = false) : enB m T N K M Z S = false := by unfold enB; rw [h]; rfl
theorem en_few (h : (M : Int) < T) : enB m T N K M Z S = false := by
 unfold enB
 rw [show decide (T ≤ (M : Int)) = false from decide_eq_false (by omega), Bool.false_and, Bool.and_false]
theorem en_no {k : Nat} (hk : k < M) (h : okS m N K Z S k = false) : enB m T N K M Z S = false := by
 unfold enB
 have : (List.range M).all (okS m N K Z S) = false := by
  rw [List.all_eq_false]
  exact ⟨k, List.mem_range.2 hk, by rw [h]; decide⟩
 rw [this, Bool.and_false, Bool.and_false]
theorem en_yes (h : validB T N K = true) (h2 : ¬ (M : Int) < T) (h3 : ∀ j, j < M → okS m N K Z S j = true) : enB m T N K M Z S = true := by
 unfold enB
 rw [h, show decide (T ≤ (M : Int)) = true from decide_eq_true (by omega), Bool.true_and, Bool.true_and, List.all_eq_true]
 exact fun j hj => h3 j (List.mem_range.1 hj)
theorem ok_low {k : Nat} (h : Z k < nxt Z k) : okS m N K Z S k = false := by
 unfold okS
 rw [show decide (nxt Z k ≤ Z k) = false from decide_eq_false (by omega)]
 rfl
theorem ok_high {k : Nat} (h : Z k ≥ (N : Int)) : okS m N K Z S k = false := by
 unfold okS
 rw [show decide (Z k < (N : Int)) = false from decide_eq_false (by omega), Bool.false_and, Bool.and_false]
theorem ok_ver {k q : Nat} (h1 : ¬ Z k < nxt Z k) (h2 : ¬ Z k ≥ (N : Int)) (hq : Z k = (q : Int)) : okS m N K Z S k = verB (K q) m (S k) := by
 unfold okS
 rw [show decide (nxt Z k ≤ Z k) = true from decide_eq_true (by omega), show decide (Z k < (N : Int)) = true from decide_eq_true (by omega), hq]
 rfl
theorem ok_sub {k : Nat} (h : okS m N K Z S k = true) : nxt Z k ≤ Z k ∧ Z k < (N : Int) := by
 unfold okS at h
 rw [Bool.and_eq_true, Bool.and_eq_true, decide_eq_true_iff, decide_eq_true_iff] at h
 exact ⟨h.1, h.2.1⟩
theorem nxt_pos {k : Nat} (h : ∀ j, j < k → okS m N K Z S j = true) : ∀ i, i ≤ k → 0 ≤ nxt Z i
 | 0, _ => Int.le_refl 0
 | i + 1, hi => by
  have h1 := nxt_pos h i (by omega)
  have h2 := ok_sub (h i (by omega))
  show (0 : Int) ≤ Z i + 1
  omega
end
def kfn (K : Nat → List UInt8) (i : Nat) : Value := .agg ((K i).map bv).toArray
theorem kArr : ArrKey Tryz.prog 31 5 32 := ⟨Tryz.underlying31, by kernel_rfl, by kernel_rfl, by kernel_rfl⟩
theorem kTypes : ∃ m, Tryz.prog.types.size = m + 1 := ⟨Tryz.prog.types.size - 1, by kernel_rfl⟩
theorem kLaw : KeyLaw Tryz.prog 31 := ArrKey.law kArr
theorem kZero : ∀ u : World, (zeroValue 3).run Tryz.prog u = .ok (.int .i64 0) u := fun _ => by kernel_rfl
theorem kKeys (K : Nat → List UInt8) (hK : ∀ i, (K i).length = 32) (k : Nat) : ∀ x ∈ dist (kfn K) k, ∃ l, keyOf Tryz.prog 31 x = some l := fun x hx => by
 obtain ⟨i, _, rfl⟩ := (dist_mem _ _ _).1 hx
 exact keyOf_bytes kArr Tryz.underlying5 kTypes (hK i)
theorem bv_inj {a b : List UInt8} (h : Value.agg (a.map bv).toArray = Value.agg (b.map bv).toArray) : a = b := by
 have h1 : a.map bv = b.map bv := by
  injection h with h
  simpa using congrArg Array.toList h
 have inj : ∀ x y : UInt8, bv x = bv y → x = y := fun x y e => by
  unfold bv at e
  injection e with _ e
  exact UInt8.toNat_inj.1 (by omega)
 exact (List.map_inj_right inj).1 h1
theorem dist_diff (N : Nat) (K : Nat → List UInt8) {es : Array MapEntry} {cl : Nat} (h : Ents es cl (dist (kfn K) N)) : decide ((es.size : Int) = (N : Int)) = diffB N K := by
 rw [Bool.eq_iff_iff, decide_eq_true_iff, diffB_iff, h.size]
 have q := dist_all (kfn K) N
 constructor
 ·intro e i j hij hj e2
  exact q.1 (by omega) i j hij hj (congrArg (fun l : List UInt8 => Value.agg (l.map bv).toArray) e2)
 ·intro e
  have := q.2 fun i j hij hj e2 => e i j hij hj (bv_inj e2)
  omega
set_option maxHeartbeats 4000000 in
set_option maxRecDepth 100000 in
theorem diff_any (w : World) (A : Option Addr) (N c : Nat) (K : Nat → List UInt8) (hK : ∀ i, (K i).length = 32) (hN : N ≤ 4611686018427387904) (hlk : Lst w 32 A N (fun i => (K i).map bv)) : Calls Tryz.prog 109 #[.slice A N c] w (Gets w (.bool (diffB N K))) := by
 obtain ⟨gK, oK, hT⟩ := hlk
 refine Sy.enter (args := [.slice A N c]) Tryz.func109 rfl kL ?_
 refine sC ?_
 refine sP (.bool false) ?_
 refine sA ?_
 refine Sy.makeMapS kR 204 rfl (fun bm fz0 hmp => ?_)
 refine sP (.map (some bm)) ?_
 refine sG <| Sy.seq <| sC ?_
 refine sP (.slice A N c) <| sP (.int .i64 ((N : Nat) : Int)) <| sP (.int .i64 0) ?_
 refine sG <| Sy.block ?_
 refine Sy.loopM N bm (fun k1 => [(0, .slice A N c), (3, .map (some bm)), (7, .slice A N c), (8, .int .i64 ((N : Nat) : Int)), (9, .int .i64 ((k1 : Nat) : Int))]) (fun k1 => []) (fun k es cl => Ents es cl (dist (kfn K) k)) [] hmp Ents.empty (all_cons kR (all_cons kR (all_cons kR (all_cons kR (all_cons kR all_nil))))) kR (fun k1 es1 cl1 fz1 hk1 hh1 hmp1 => ?_)
 refine sC ?_
 obtain ⟨b1, hb1⟩ : ∃ z : Bool, z = decide (k1 < N) := ⟨_, rfl⟩
 refine sS (.bool b1) (Quiet.pure (exec_int .lss _ _ _ .i64 _ _ _ rfl rfl rfl (int_lss _ _ _ _ _ (by rw [hb1]; exact decide_eq_decide.2 (by omega))))) ?_
 refine sG <| Sy.seq ?_
 cases b1
 ·have lb1 : ¬ (k1 < N) := of_decide_eq_false hb1.symm
  refine sU <| Sy.exit <| Sy.then_exit <| Sy.then_exit ?_
  obtain rfl : N = k1 := by omega
  refine Sy.in_exit <| sB ?_
  refine sP (.map (some bm)) <| sS (.int .i64 (es1.size : Int)) (Quiet.lenMap 204 _ hmp1 rfl kR kR) <| sP (.slice A N c) <| sP (.int .i64 ((N : Nat) : Int)) ?_
  obtain ⟨b2, hb2⟩ : ∃ z : Bool, z = decide ((es1.size : Int) = ((N : Nat) : Int)) := ⟨_, rfl⟩
  refine sS (.bool b2) (Quiet.pure (exec_int .eql _ _ _ .i64 _ _ _ rfl rfl rfl (int_eql _ _ _ _ _ hb2.symm))) <| sP (.bool b2) ?_
  refine sG <| Sy.ret ?_
  refine Sy.outM ?_
  rw [show (.bool (diffB N K) : Value) = .bool b2 from by rw [← dist_diff N K hh1]; exact congrArg Value.bool hb2.symm]
  exact rV (.bool b2) rfl
 ·have lb1 : k1 < N := of_decide_eq_true hb1.symm
  refine sT <| Sy.skip <| Sy.then_ <| Sy.seq <| Sy.block <| sC ?_
  refine sS (.pointer (some ⟨gK, oK + k1 * 32, none⟩)) (Quiet.pure (exec_atO 36 _ _ _ A gK oK N c k1 32 .i64 (hT (by omega)).1 rfl rfl rfl Tryz.underlying36 kF (by omega))) <| sS (.agg ((K k1).map bv).toArray) (Quiet.there gK (oK + k1 * 32) 32 31 ((K k1).map bv) _ _ rfl kR (hT (by omega)).2.1 ((hT (by omega)).2.2 k1 (by omega)) Tryz.underlying31 rfl kR ((List.length_map ..).trans (hK _)) _ rfl) ?_
  refine sM 31 (Zl 32).toArray (fun g0 => ?_)
  refine sW 0 g0 31 (Zl 32).toArray ((K k1).map bv).toArray (Writes.store 0 31 ((K k1).map bv).toArray _ _ rfl kR kR (by rw [key_sz (K k1) (hK _)]; kernel_rfl) (by rw [key_sz (K k1) (hK _)]; exact Nat.le_of_ble_eq_true kR) (key_one _) (key_set _ _ (by rw [(hK _)]; kernel_rfl))) ?_
  refine sG ?_
  refine Sy.regionD (fun j => j == 4 || j == 6) kR ?_
  refine sZ 0 rfl (.map (some bm)) <| sD 1 rfl (.agg ((K k1).map bv).toArray) (Quiet.load 0 g0 0 32 31 31 ((K k1).map bv).toArray _ _ rfl kR kR Tryz.underlying31 rfl kR _ (key_whole (K k1) (hK _)) (key_size (K k1) (hK _))) ?_
  obtain ⟨kl, hkey⟩ := keyOf_bytes kArr Tryz.underlying5 kTypes (hK k1)
  refine Sy.anyOf [2, 4] kR (by decide) (Sy.each2 ?_ ?_)
  ·refine Sy.oneLook rfl kR hmp1 (fun v => ∃ z : Int, v = .int .i64 z) (fun wl hl => ?_) (fun v hv => ?_)
   ·obtain ⟨z, hz⟩ := Ents.look hh1 kLaw Tryz.underlying204 kZero (kKeys K hK k1) hkey hl
    exact ⟨_, exec_look rfl kR kR hz, z, rfl⟩
   ·obtain ⟨z, rfl⟩ := hv
    refine Sy.stepDA 3 rfl kR (fun _ _ _ _ h => h) kR (.int .i64 (IntKind.i64.wrap (z + 1))) (exec_int .add _ _ _ .i64 _ _ _ rfl rfl rfl (int_add _ _ _ _ _ rfl)) ?_
    refine Sy.anyOf [4] kR (by decide) (Sy.each1 ?_)
    refine Sy.oneMap rfl rfl kR hmp1 (fun v es' cl' => ∃ (v0 : Value) (st : Nat), v = .tuple #[v0, goInt st] ∧ Ents es' cl' (dist (kfn K) (k1 + 1)) ∧ ∀ (w2 : World) (z : Int), w2.heap[bm]? = some (.map es' cl') → ∃ es2 cl2, (Instr.entryStore 204 (.map (some bm)) (goInt st) (.int .i64 z)).run Tryz.prog w2 = .ok () (setBlock w2 bm (.map es2 cl2)) ∧ Ents es2 cl2 (dist (kfn K) (k1 + 1))) (fun wl hl => ?_) (fun v es2 cl2 fz2 hR hmp2 => ?_)
    ·obtain ⟨v0, st, e1, c1, hr, q1, q2⟩ := Ents.entry hh1 kLaw Tryz.underlying204 kZero (kKeys K hK k1) hkey hl
     exact ⟨_, e1, c1, .inl (exec_entry rfl kR kR hr), v0, st, rfl, q1, q2⟩
    ·obtain ⟨v0, st, rfl, hh2, hst⟩ := hR
     refine Sy.stepDA 5 rfl kR (fun _ _ _ _ h => h) kR (goInt st) kF ?_
     refine Sy.anyOf [6] kR (by decide) (Sy.each1 ?_)
     refine Sy.oneMap rfl rfl kR hmp2 (fun _ es' cl' => Ents es' cl' (dist (kfn K) (k1 + 1))) (fun wl hl => ?_) (fun v es3 cl3 fz3 hfin hmpf => ?_)
     ·obtain ⟨e2, c2, hr, q⟩ := hst wl (IntKind.i64.wrap (z + 1)) hl
      exact ⟨undef, e2, c2, .inr ⟨exec_estore rfl kR kR kR hr, rfl⟩, q⟩
     ·refine sE ?_
      refine Sy.in_ <| Sy.then_ <| Sy.region ?_
      refine sS (.int .i64 ((k1 + 1 : Nat) : Int)) (Quiet.pure (exec_int .add _ _ _ .i64 _ _ _ rfl rfl rfl (int_add _ _ _ _ _ ((wrap_i64 (by omega) (by omega)).trans (by omega))))) <| sP (.int .i64 ((k1 + 1 : Nat) : Int)) ?_
      refine Sy.nil ?_
      exact Sy.againM (w0 := (Base.of w).re fz0) (fz := fz3) [false] (by omega) hfin hmpf (all_cons kR (all_cons kR (all_cons kR (all_cons kR (all_cons kR all_nil))))) kR
  ·refine Sy.oneMap rfl rfl kR hmp1 (fun v es' cl' => ∃ (v0 : Value) (st : Nat), v = .tuple #[v0, goInt st] ∧ Ents es' cl' (dist (kfn K) (k1 + 1)) ∧ ∀ (w2 : World) (z : Int), w2.heap[bm]? = some (.map es' cl') → ∃ es2 cl2, (Instr.entryStore 204 (.map (some bm)) (goInt st) (.int .i64 z)).run Tryz.prog w2 = .ok () (setBlock w2 bm (.map es2 cl2)) ∧ Ents es2 cl2 (dist (kfn K) (k1 + 1))) (fun wl hl => ?_) (fun v es2 cl2 fz2 hR hmp2 => ?_)
   ·obtain ⟨v0, st, e1, c1, hr, q1, q2⟩ := Ents.entry hh1 kLaw Tryz.underlying204 kZero (kKeys K hK k1) hkey hl
    exact ⟨_, e1, c1, .inl (exec_entry rfl kR kR hr), v0, st, rfl, q1, q2⟩
   ·obtain ⟨v0, st, rfl, hh2, hst⟩ := hR
    refine Sy.stepDA 5 rfl kR (fun _ _ _ _ h => h) kR (goInt st) kF ?_
    refine Sy.anyOf [2] kR (by decide) (Sy.each1 ?_)
    refine Sy.oneLook rfl kR hmp2 (fun v => ∃ z : Int, v = .int .i64 z) (fun wl hl => ?_) (fun v hv => ?_)
    ·obtain ⟨z, hz⟩ := Ents.look hh2 kLaw Tryz.underlying204 kZero (kKeys K hK (k1 + 1)) hkey hl
     exact ⟨_, exec_look rfl kR kR hz, z, rfl⟩
    ·obtain ⟨z, rfl⟩ := hv
     refine Sy.stepDA 3 rfl kR (fun _ _ _ _ h => h) kR (.int .i64 (IntKind.i64.wrap (z + 1))) (exec_int .add _ _ _ .i64 _ _ _ rfl rfl rfl (int_add _ _ _ _ _ rfl)) ?_
     refine Sy.anyOf [6] kR (by decide) (Sy.each1 ?_)
     refine Sy.oneMap rfl rfl kR hmp2 (fun _ es' cl' => Ents es' cl' (dist (kfn K) (k1 + 1))) (fun wl hl => ?_) (fun v es3 cl3 fz3 hfin hmpf => ?_)
     ·obtain ⟨e2, c2, hr, q⟩ := hst wl (IntKind.i64.wrap (z + 1)) hl
      exact ⟨undef, e2, c2, .inr ⟨exec_estore rfl kR kR kR hr, rfl⟩, q⟩
     ·refine sE ?_
      refine Sy.in_ <| Sy.then_ <| Sy.region ?_
      refine sS (.int .i64 ((k1 + 1 : Nat) : Int)) (Quiet.pure (exec_int .add _ _ _ .i64 _ _ _ rfl rfl rfl (int_add _ _ _ _ _ ((wrap_i64 (by omega) (by omega)).trans (by omega))))) <| sP (.int .i64 ((k1 + 1 : Nat) : Int)) ?_
      refine Sy.nil ?_
      exact Sy.againM (w0 := (Base.of w).re fz0) (fz := fz3) [false] (by omega) hfin hmpf (all_cons kR (all_cons kR (all_cons kR (all_cons kR (all_cons kR all_nil))))) kR
end Go.Proofs.YtfhcpdbahbbmaaaGreatDoor.Cu

end
section
namespace Go.Proofs.YtfhcpdbahbbmaaaGreatDoor.Cu
open Go.RowKit Go.Proofs.YtfhcpdbahbbmaaaGreatDoor Go.Proofs.YtfhcpdbahbbmaaaGreatDoor.Sy

end Go.Proofs.YtfhcpdbahbbmaaaGreatDoor.Cu

end
section
namespace Go.Proofs.YtfhcpdbahbbmaaaGreatDoor.Cu
open Go.RowKit Go.Proofs.YtfhcpdbahbbmaaaGreatDoor Go.Proofs.YtfhcpdbahbbmaaaGreatDoor.Sy
set_option maxRecDepth 100000
set_option maxHeartbeats 4000000

theorem lP {n : Nat} (h : n < K4 := by first | assumption | exact small_lt (by assumption) | exact pX_lt _ | exact pY_lt _ | exact lt4 _ | exact Sc.mod_lt _ | decide +kernel) : n < K4 := h
theorem mulR_of {P R : Pt} {k a b : Nat} {i : Bool} (hk : k < K4) (ha : a < K4) (hb : b < K4) (h1 : dec a b i = P) (he : Ec.nm finv (k % Sc.pM) P = R) (w : World) : Calls Tryz.prog 30 #[fv k, pv a b i] w (Gets w (pv (pX R) (pY R) (pI R))) := by
 have h := mulRe_any w k a b i hk ha hb
 rw [h1, he, ptv_parts] at h
 exact h
end Go.Proofs.YtfhcpdbahbbmaaaGreatDoor.Cu

end
section
namespace Go.Proofs.YtfhcpdbahbbmaaaGreatDoor.Cu
open Go.RowKit Go.Proofs.YtfhcpdbahbbmaaaGreatDoor Go.Proofs.YtfhcpdbahbbmaaaGreatDoor.Sy
set_option maxRecDepth 100000
set_option maxHeartbeats 4000000

theorem valid_any (w : World) (T : Int) (A : Option Addr) (N c : Nat) (K : Nat → List UInt8) (hK : ∀ i, (K i).length = 32) (hN : N ≤ 4611686018427387904) (hlk : Lst w 32 A N (fun i => (K i).map bv)) : Calls Tryz.prog 50 #[.agg #[.int .i64 T, .slice A N c]] w (Gets w (.bool (validB T N K))) := by
 refine Sy.enter (args := [.agg #[.int .i64 T, .slice A N c]]) Tryz.func50 rfl kL ?_
 refine sC ?_
 refine sM 38 #[.int .i64 T, .slice A N c] (fun g0 => ?_)
 refine sP (.bool false) ?_
 refine sA ?_
 refine sP (.pointer (some ⟨g0, 0, none⟩)) <| sS (.int .i64 T) (qC 0 g0 0 38 3 #[.int .i64 T, .slice A N c] rfl Tryz.underlying3) ?_
 obtain ⟨b1, hb1⟩ : ∃ z : Bool, z = decide (T ≥ 1) := ⟨_, rfl⟩
 refine sS (.bool b1) (Quiet.pure (exec_int .geq _ _ _ .i64 _ _ _ rfl rfl rfl (int_geq _ _ _ _ _ hb1.symm))) <| sP (.bool b1) ?_
 cases b1
 ·have lb1 : ¬ (T ≥ 1) := of_decide_eq_false hb1.symm
  refine sN <| sN <| sN <| sN <| sN <| sN ?_
  refine sP (.bool false) <| sP (.bool false) ?_
  refine sN <| sN <| sN <| sN ?_
  refine sP (.bool false) <| sP (.bool false) ?_
  refine sN <| sN <| sN ?_
  refine sP (.bool false) <| sP (.bool false) ?_
  refine sG <| Sy.ret ?_
  rw [show (.bool (validB T N K) : Value) = .bool false from by unfold validB; simp only [show decide (T ≥ 1) = false from decide_eq_false lb1]; rfl]
  exact rV (.bool false) rfl
 ·have lb1 : T ≥ 1 := of_decide_eq_true hb1.symm
  refine sP (.pointer (some ⟨g0, 0, none⟩)) <| sS (.int .i64 T) (qC 0 g0 0 38 3 #[.int .i64 T, .slice A N c] rfl Tryz.underlying3) <| sP (.pointer (some ⟨g0, 1, none⟩)) <| sS (.slice A N c) (Quiet.cell 0 g0 1 38 36 #[.int .i64 T, .slice A N c] _ _ rfl kR kR Tryz.underlying36 rfl _ kR) <| sP (.int .i64 ((N : Nat) : Int)) ?_
  obtain ⟨b2, hb2⟩ : ∃ z : Bool, z = decide (T ≤ ((N : Nat) : Int)) := ⟨_, rfl⟩
  refine sS (.bool b2) (Quiet.pure (exec_int .leq _ _ _ .i64 _ _ _ rfl rfl rfl (int_leq _ _ _ _ _ hb2.symm))) <| sP (.bool b2) <| sP (.bool b2) ?_
  cases b2
  ·have lb2 : ¬ (T ≤ ((N : Nat) : Int)) := of_decide_eq_false hb2.symm
   refine sN <| sN <| sN <| sN ?_
   refine sP (.bool false) <| sP (.bool false) ?_
   refine sN <| sN <| sN ?_
   refine sP (.bool false) <| sP (.bool false) ?_
   refine sG <| Sy.ret ?_
   rw [show (.bool (validB T N K) : Value) = .bool false from by unfold validB; simp only [show decide (T ≥ 1) = true from decide_eq_true lb1, show decide (T ≤ (N : Int)) = false from decide_eq_false lb2]; rfl]
   exact rV (.bool false) rfl
  ·have lb2 : T ≤ ((N : Nat) : Int) := of_decide_eq_true hb2.symm
   refine sP (.pointer (some ⟨g0, 1, none⟩)) <| sS (.slice A N c) (Quiet.cell 0 g0 1 38 36 #[.int .i64 T, .slice A N c] _ _ rfl kR kR Tryz.underlying36 rfl _ kR) <| sP (.int .i64 ((N : Nat) : Int)) ?_
   obtain ⟨b3, hb3⟩ : ∃ z : Bool, z = decide (N ≤ 16) := ⟨_, rfl⟩
   refine sS (.bool b3) (Quiet.pure (exec_int .leq _ _ _ .i64 _ _ _ rfl rfl rfl (int_leq _ _ _ _ _ (by rw [hb3]; exact decide_eq_decide.2 (by omega))))) <| sP (.bool b3) <| sP (.bool b3) ?_
   cases b3
   ·have lb3 : ¬ (N ≤ 16) := of_decide_eq_false hb3.symm
    refine sN <| sN <| sN ?_
    refine sP (.bool false) <| sP (.bool false) ?_
    refine sG <| Sy.ret ?_
    rw [show (.bool (validB T N K) : Value) = .bool false from by unfold validB; simp only [show decide (T ≥ 1) = true from decide_eq_true lb1, show decide (T ≤ (N : Int)) = true from decide_eq_true lb2, show decide (N ≤ 16) = false from decide_eq_false lb3]; rfl]
    exact rV (.bool false) rfl
   ·have lb3 : N ≤ 16 := of_decide_eq_true hb3.symm
    refine sP (.pointer (some ⟨g0, 1, none⟩)) <| sS (.slice A N c) (Quiet.cell 0 g0 1 38 36 #[.int .i64 T, .slice A N c] _ _ rfl kR kR Tryz.underlying36 rfl _ kR) ?_
    obtain ⟨b4, hb4⟩ : ∃ z : Bool, z = diffB N K := ⟨_, rfl⟩
    refine sS (.bool b4) (qG 109 #[.slice A N c] (fun w hw => by rw [hb4]; exact diff_any w A N c K hK hN (hlk.below hw.below))) <| sP (.bool b4) <| sP (.bool b4) ?_
    refine sG <| Sy.ret ?_
    rw [show (.bool (validB T N K) : Value) = .bool b4 from by unfold validB; simp only [show decide (T ≥ 1) = true from decide_eq_true lb1, show decide (T ≤ (N : Int)) = true from decide_eq_true lb2, show decide (N ≤ 16) = true from decide_eq_true lb3]; rw [hb4]; rfl]
    exact rV (.bool b4) rfl
theorem enough_any (w : World) (T : Int) (A : Option Addr) (N c : Nat) (K : Nat → List UInt8) (hK : ∀ i, (K i).length = 32) (hN : N ≤ 4611686018427387904) (hlk : Lst w 32 A N (fun i => (K i).map bv)) (B : Option Addr) (M d : Nat) (Z : Nat → Int) (S : Nat → List UInt8) (hS : ∀ i, (S i).length = 64) (hZ : ∀ i, -9223372036854775808 ≤ Z i ∧ Z i < 9223372036854775808) (hM : M ≤ 4611686018427387904) (hls : Lst w 65 B M (fun i => sgc (Z i) (S i))) (X : Option Addr) (m : List UInt8) (n e : Nat) (hn : m.length = n) (hm : n ≤ 999999900) (he : n ≤ e) (he2 : e ≤ 9223372036854775807) (hs : Sh.Src w X m) (ht : Sh.TabAt w 1) : Calls Tryz.prog 16 #[.agg #[.int .i64 T, .slice A N c], .slice X n e, .slice B M d] w (Gets w (.bool (enB m T N K M Z S))) := by
 have hlk0 := hlk
 obtain ⟨gK, oK, hT⟩ := hlk
 obtain ⟨gS, oS, hU⟩ := hls
 refine Sy.enter (args := [.agg #[.int .i64 T, .slice A N c], .slice X n e, .slice B M d]) Tryz.func16 rfl kL ?_
 refine sC ?_
 refine sM 38 #[.int .i64 T, .slice A N c] (fun g0 => ?_)
 refine sP (.bool false) ?_
 refine sG <| Sy.seq <| sC ?_
 refine sS (.agg #[.int .i64 T, .slice A N c]) (qL 0 g0 0 2 38 38 #[.int .i64 T, .slice A N c] rfl Tryz.underlying38) ?_
 obtain ⟨b1, hb1⟩ : ∃ z : Bool, z = validB T N K := ⟨_, rfl⟩
 refine sS (.bool b1) (qG 50 #[.agg #[.int .i64 T, .slice A N c]] (fun w hw => by rw [hb1]; exact valid_any w T A N c K hK hN (hlk0.below hw.below))) ?_
 cases b1
 ·refine sP (.bool true) <| sP (.bool true) ?_
  refine sN <| sN <| sN <| sN <| sN ?_
  refine sP (.bool true) ?_
  refine sG <| sT <| sC ?_
  refine sP (.bool false) ?_
  refine sG <| Sy.ret <| Sy.then_ret ?_
  rw [show (.bool (enB m T N K M Z S) : Value) = .bool false from by rw [en_bad hb1.symm]]
  exact rV (.bool false) rfl
 ·refine sP (.bool false) <| sP (.bool false) <| sP (.slice B M d) <| sP (.int .i64 ((M : Nat) : Int)) <| sP (.pointer (some ⟨g0, 0, none⟩)) <| sS (.int .i64 T) (qC 0 g0 0 38 3 #[.int .i64 T, .slice A N c] rfl Tryz.underlying3) ?_
  obtain ⟨b2, hb2⟩ : ∃ z : Bool, z = decide (((M : Nat) : Int) < T) := ⟨_, rfl⟩
  refine sS (.bool b2) (Quiet.pure (exec_int .lss _ _ _ .i64 _ _ _ rfl rfl rfl (int_lss _ _ _ _ _ hb2.symm))) <| sP (.bool b2) ?_
  refine sG ?_
  cases b2
  ·have lb2 : ¬ (((M : Nat) : Int) < T) := of_decide_eq_false hb2.symm
   refine sU <| Sy.skip <| sB ?_
   refine sP (.int .i64 0) ?_
   refine sG <| Sy.seq <| sC ?_
   refine sP (.slice B M d) <| sP (.int .i64 ((M : Nat) : Int)) <| sP (.int .i64 0) ?_
   refine sG <| Sy.block ?_
   refine Sy.loopH M (fun k1 => ∀ j, j < k1 → okS m N K Z S j = true) (fun k1 => [(1, .slice X n e), (2, .slice B M d), (3, .pointer (some ⟨g0, 0, none⟩)), (7, .int .i64 (nxt Z k1)), (20, .slice B M d), (21, .int .i64 ((M : Nat) : Int)), (22, .int .i64 ((k1 : Nat) : Int))]) (fun k1 => [(g0, 38, #[.int .i64 T, .slice A N c])]) [true] (M := [(g0, 38, #[.int .i64 T, .slice A N c])]) (fun j hj => absurd hj (Nat.not_lt_zero _)) (all_cons kR (all_cons kR (all_cons kR (all_cons kR (all_cons kR (all_cons kR (all_cons kR all_nil))))))) kR (bcons rfl rfl) (fun k1 hk1 hh => ?_)
   have hh1 := hh
   have hz := hZ k1
   refine sC ?_
   obtain ⟨b3, hb3⟩ : ∃ z : Bool, z = decide (k1 < M) := ⟨_, rfl⟩
   refine sS (.bool b3) (Quiet.pure (exec_int .lss _ _ _ .i64 _ _ _ rfl rfl rfl (int_lss _ _ _ _ _ (by rw [hb3]; exact decide_eq_decide.2 (by omega))))) ?_
   refine sG <| Sy.seq ?_
   cases b3
   ·have lb3 : ¬ (k1 < M) := of_decide_eq_false hb3.symm
    refine sU <| Sy.exit <| Sy.then_exit <| Sy.then_exit ?_
    obtain rfl : M = k1 := by omega
    refine Sy.in_exit <| sB ?_
    refine sP (.bool true) ?_
    refine sG <| Sy.ret ?_
    rw [show (.bool (enB m T N K M Z S) : Value) = .bool true from by rw [en_yes hb1.symm lb2 hh1]]
    exact rV (.bool true) rfl
   ·have lb3 : k1 < M := of_decide_eq_true hb3.symm
    refine sT <| Sy.skip <| Sy.then_ <| Sy.seq <| Sy.block <| sC ?_
    refine sS (.pointer (some ⟨gS, oS + k1 * 65, none⟩)) (Quiet.pure (exec_atO 39 _ _ _ B gS oS M d k1 65 .i64 (hU (by omega)).1 rfl rfl rfl Tryz.underlying39 kF (by omega))) <| sS (.agg (sgc (Z k1) (S k1)).toArray) (Quiet.there gS (oS + k1 * 65) 65 43 (sgc (Z k1) (S k1)) _ _ rfl kR (hU (by omega)).2.1 ((hU (by omega)).2.2 k1 (by omega)) Tryz.underlying43 rfl kR (sgc_len (n := 64) _ (hS _)) _ rfl) ?_
    refine sM 43 (sgc 0 (List.replicate 64 (0 : UInt8))).toArray (fun g1 => ?_)
    refine sW 1 g1 43 (sgc 0 (List.replicate 64 (0 : UInt8))).toArray (sgc (Z k1) (S k1)).toArray (Writes.row 43 (sgc (Z k1) (S k1)) 65 _ _ rfl kR kR kR (sgc_len (n := 64) _ (hS _)) kR (sgc_one _ _)) ?_
    refine sG <| Sy.seq <| Sy.seq ?_
    refine Sy.regionD (fun j => false) kR ?_
    refine sZ 0 rfl (.pointer (some ⟨g1, 0, none⟩)) <| sD 1 rfl (.int .i64 (Z k1)) (qC 1 g1 0 43 3 (sgc (Z k1) (S k1)).toArray rfl Tryz.underlying3) <| sZ 2 rfl (.int .i64 (nxt Z k1)) ?_
    obtain ⟨b4, hb4⟩ : ∃ z : Bool, z = decide ((Z k1) < (nxt Z k1)) := ⟨_, rfl⟩
    refine sD 3 rfl (.bool b4) (Quiet.pure (exec_int .lss _ _ _ .i64 _ _ _ rfl rfl rfl (int_lss _ _ _ _ _ hb4.symm))) <| sZ 4 rfl (.bool b4) ?_
    cases b4
    ·have lb4 : ¬ ((Z k1) < (nxt Z k1)) := of_decide_eq_false hb4.symm
     refine sZ 5 rfl (.pointer (some ⟨g1, 0, none⟩)) <| sD 6 rfl (.int .i64 (Z k1)) (qC 1 g1 0 43 3 (sgc (Z k1) (S k1)).toArray rfl Tryz.underlying3) <| sZ 7 rfl (.pointer (some ⟨g0, 1, none⟩)) <| sD 8 rfl (.slice A N c) (Quiet.cell 0 g0 1 38 36 #[.int .i64 T, .slice A N c] _ _ rfl kR kR Tryz.underlying36 rfl _ kR) <| sZ 9 rfl (.int .i64 ((N : Nat) : Int)) ?_
     obtain ⟨b5, hb5⟩ : ∃ z : Bool, z = decide ((Z k1) ≥ ((N : Nat) : Int)) := ⟨_, rfl⟩
     refine sD 10 rfl (.bool b5) (Quiet.pure (exec_int .geq _ _ _ .i64 _ _ _ rfl rfl rfl (int_geq _ _ _ _ _ hb5.symm))) <| sZ 11 rfl (.bool b5) <| sZ 12 rfl (.bool b5) ?_
     cases b5
     ·have lb5 : ¬ ((Z k1) ≥ ((N : Nat) : Int)) := of_decide_eq_false hb5.symm
      refine sZ 13 rfl (.pointer (some ⟨g0, 1, none⟩)) <| sD 14 rfl (.slice A N c) (Quiet.cell 0 g0 1 38 36 #[.int .i64 T, .slice A N c] _ _ rfl kR kR Tryz.underlying36 rfl _ kR) <| sZ 15 rfl (.pointer (some ⟨g1, 0, none⟩)) <| sD 16 rfl (.int .i64 (Z k1)) (qC 1 g1 0 43 3 (sgc (Z k1) (S k1)).toArray rfl Tryz.underlying3) ?_
      have hnp := nxt_pos hh1 k1 (Nat.le_refl _)
      obtain ⟨q1, hq1⟩ : ∃ q : Nat, (Z k1) = (q : Int) := ⟨((Z k1)).toNat, by omega⟩
      refine sD 17 rfl (.pointer (some ⟨gK, oK + q1 * 32, none⟩)) (Quiet.pure (exec_atO 36 _ _ _ A gK oK N c q1 32 .i64 (hT (by omega)).1 rfl rfl (show Value.int .i64 (Z k1) = .int .i64 ((q1 : Nat) : Int) from by rw [hq1]) Tryz.underlying36 kF (by omega))) <| sD 18 rfl (.agg ((K q1).map bv).toArray) (Quiet.there gK (oK + q1 * 32) 32 31 ((K q1).map bv) _ _ rfl kR (hT (by omega)).2.1 ((hT (by omega)).2.2 q1 (by omega)) Tryz.underlying31 rfl kR ((List.length_map ..).trans (hK _)) _ rfl) <| sZ 19 rfl (.slice X n e) <| sZ 20 rfl (.pointer (some ⟨g1, 1, none⟩)) <| sD 21 rfl (.agg ((S k1).map bv).toArray) (Quiet.mid 1 g1 1 64 43 27 (sgc (Z k1) (S k1)) ((S k1).map bv) _ _ rfl kR kR Tryz.underlying27 rfl kR (sgc_mid _ (hS _)) (by rw [sgc_len (n := 64) _ (hS _)]; decide)) ?_
      obtain ⟨b6, hb6⟩ : ∃ z : Bool, z = verB (K q1) m (S k1) := ⟨_, rfl⟩
      refine sD 22 rfl (.bool b6) (qG 49 #[.agg ((K q1).map bv).toArray, .slice X n e, .agg ((S k1).map bv).toArray] (fun w hw => by rw [hb6]; exact verify_any w (K q1) (S k1) (hK _) (hS _) X m n e hn hm he he2 (hs.below hw.below) (ht.below hw.below ht.lt))) ?_
      cases b6
      ·refine sZ 23 rfl (.bool true) <| sZ 24 rfl (.bool true) ?_
       refine sI ?_
       refine sT <| sC ?_
       refine sP (.bool false) ?_
       refine sG <| Sy.ret <| Sy.then_ret <| Sy.in_ret <| Sy.then_ret <| Sy.then_ret <| Sy.in_ret <| Sy.then_ret ?_
       rw [show (.bool (enB m T N K M Z S) : Value) = .bool false from by rw [en_no lb3 ((ok_ver lb4 lb5 hq1).trans hb6.symm)]]
       exact rV (.bool false) rfl
      ·have hok : okS m N K Z S k1 = true := (ok_ver lb4 lb5 hq1).trans hb6.symm
       have hsb := ok_sub hok
       refine sZ 23 rfl (.bool false) <| sZ 24 rfl (.bool false) ?_
       refine sI ?_
       refine sU <| Sy.skip <| Sy.then_ <| Sy.region ?_
       refine sP (.pointer (some ⟨g1, 0, none⟩)) <| sS (.int .i64 (Z k1)) (qC 1 g1 0 43 3 (sgc (Z k1) (S k1)).toArray rfl Tryz.underlying3) <| sS (.int .i64 ((Z k1) + 1)) (Quiet.pure (exec_int .add _ _ _ .i64 _ _ _ rfl rfl rfl (int_add _ _ _ _ _ (wrap_i64 (by omega) (by omega))))) <| sP (.int .i64 ((Z k1) + 1)) ?_
       refine Sy.nil <| Sy.in_ <| Sy.then_ <| Sy.region ?_
       refine sS (.int .i64 ((k1 + 1 : Nat) : Int)) (Quiet.pure (exec_int .add _ _ _ .i64 _ _ _ rfl rfl rfl (int_add _ _ _ _ _ ((wrap_i64 (by omega) (by omega)).trans (by omega))))) <| sP (.int .i64 ((k1 + 1 : Nat) : Int)) ?_
       refine Sy.nil ?_
       exact Sy.againH [true, false] (M := [(g0, 38, #[.int .i64 T, .slice A N c])]) (by omega) (fun j hj => (Nat.lt_succ_iff_lt_or_eq.1 hj).elim (hh1 j) (fun h => by rw [h]; exact hok)) (all_cons kR (all_cons kR (all_cons kR (all_cons kR (all_cons kR (all_cons kR (all_cons kR all_nil))))))) kR (bcons rfl rfl)
     ·have lb5 : (Z k1) ≥ ((N : Nat) : Int) := of_decide_eq_true hb5.symm
      refine sQ 13 rfl <| sQ 14 rfl <| sQ 15 rfl <| sQ 16 rfl <| sQ 17 rfl <| sQ 18 rfl <| sQ 19 rfl <| sQ 20 rfl ?_
      refine sQ 21 rfl <| sQ 22 rfl <| sQ 23 rfl <| sZ 24 rfl (.bool true) ?_
      refine sI ?_
      refine sT <| sC ?_
      refine sP (.bool false) ?_
      refine sG <| Sy.ret <| Sy.then_ret <| Sy.in_ret <| Sy.then_ret <| Sy.then_ret <| Sy.in_ret <| Sy.then_ret ?_
      rw [show (.bool (enB m T N K M Z S) : Value) = .bool false from by rw [en_no lb3 (ok_high lb5)]]
      exact rV (.bool false) rfl
    ·have lb4 : (Z k1) < (nxt Z k1) := of_decide_eq_true hb4.symm
     refine sQ 5 rfl <| sQ 6 rfl <| sQ 7 rfl <| sQ 8 rfl <| sQ 9 rfl <| sQ 10 rfl <| sZ 11 rfl (.bool true) <| sZ 12 rfl (.bool true) ?_
     refine sQ 13 rfl <| sQ 14 rfl <| sQ 15 rfl <| sQ 16 rfl <| sQ 17 rfl <| sQ 18 rfl <| sQ 19 rfl <| sQ 20 rfl ?_
     refine sQ 21 rfl <| sQ 22 rfl <| sQ 23 rfl <| sZ 24 rfl (.bool true) ?_
     refine sI ?_
     refine sT <| sC ?_
     refine sP (.bool false) ?_
     refine sG <| Sy.ret <| Sy.then_ret <| Sy.in_ret <| Sy.then_ret <| Sy.then_ret <| Sy.in_ret <| Sy.then_ret ?_
     rw [show (.bool (enB m T N K M Z S) : Value) = .bool false from by rw [en_no lb3 (ok_low lb4)]]
     exact rV (.bool false) rfl
  ·have lb2 : ((M : Nat) : Int) < T := of_decide_eq_true hb2.symm
   refine sT <| sC ?_
   refine sP (.bool false) ?_
   refine sG <| Sy.ret <| Sy.then_ret ?_
   rw [show (.bool (enB m T N K M Z S) : Value) = .bool false from by rw [en_few lb2]]
   exact rV (.bool false) rfl
end Go.Proofs.YtfhcpdbahbbmaaaGreatDoor.Cu

end
section
namespace Go.Proofs.YtfhcpdbahbbmaaaGreatDoor.Cu
open Go.RowKit Go.Proofs.YtfhcpdbahbbmaaaGreatDoor Go.Proofs.YtfhcpdbahbbmaaaGreatDoor.Sy

def okR : Pt → Nat → Bool
 | none, _ => false
 | some (x, y), n => decide (y.val % 2 = 0) && decide (x.val = n)
def vrP (key m s : List UInt8) : Pt := Ec.add finv (Ec.nm finv ((Sc.readS ((s.drop 32).take 32)).1 % Sc.pM) bP) (Ec.neg (Ec.nm finv (chalS ((s.drop 0).take 32) key m % Sc.pM) (liftP key)))
def refB (key m s : List UInt8) : Bool := liftB key && decide (valB ((s.drop 0).take 32) < pM) && (Sc.readS ((s.drop 32).take 32)).2 && okR (vrP key m s) (valB ((s.drop 0).take 32))
theorem vrP_is (key m s : List UInt8) : rPt (Sc.readS ((s.drop 32).take 32)).1 (Sc.negP (chalS ((s.drop 0).take 32) key m)) (pX (liftP key)) (pY (liftP key)) (pI (liftP key)) = vrP key m s := by
 unfold rPt vrP
 rw [dec_parts (liftP_on key), nm_negP (liftP_on key)]
theorem code_ok (R : Pt) (X : List UInt8) (hX : X.length = 32) : (decide ((encS R).getD 0 0 = UInt8.ofNat 2) && decide (((encS R).drop 1).take 32 = X)) = (decide (valB X < pM) && okR R (valB X)) := by
 rcases R with _ | ⟨x, y⟩
 ·show (decide ((0 : UInt8) = UInt8.ofNat 2) && _) = (_ && false)
  rw [Bool.and_false, show decide ((0 : UInt8) = UInt8.ofNat 2) = false from by decide]
  rfl
 ·have e1 : ((encS (some (x, y))).drop 1).take 32 = bytesS x.val := by
   show (bytesS x.val).take 32 = _
   rw [List.take_of_length_le (by rw [bytesS_length]; exact Nat.le_refl _)]
  have e2 : decide ((encS (some (x, y))).getD 0 0 = UInt8.ofNat 2) = decide (y.val % 2 = 0) := by
   show decide ((if y.val % 2 = 1 then (3 : UInt8) else 2) = UInt8.ofNat 2) = _
   by_cases h : y.val % 2 = 1
   ·rw [if_pos h, decide_eq_false (show ¬ (3 : UInt8) = UInt8.ofNat 2 by decide), decide_eq_false (by omega)]
   ·rw [if_neg h, decide_eq_true (show (2 : UInt8) = UInt8.ofNat 2 by decide), decide_eq_true (by omega)]
  have e3 : decide (bytesS x.val = X) = (decide (valB X < pM) && decide (x.val = valB X)) := by
   by_cases h : bytesS x.val = X
   ·have hv : valB X = x.val := by rw [← h]; exact valB_bytesS _ (lt4 x)
    have hx := x.isLt
    rw [decide_eq_true h, hv, decide_eq_true rfl, decide_eq_true hx]
    rfl
   ·have hn : ¬ x.val = valB X := fun q => h (by rw [q]; exact bytesS_valB X hX)
    rw [decide_eq_false h, decide_eq_false hn, Bool.and_false]
  rw [e1, e2, e3]
  show _ = (_ && (decide (y.val % 2 = 0) && decide (x.val = valB X)))
  cases decide (y.val % 2 = 0) <;> cases decide (valB X < pM) <;> rfl
theorem ref_ver (key m s : List UInt8) (hs : s.length = 64) : refB key m s = verB key m s := by
 have h := code_ok (vrP key m s) ((s.drop 0).take 32) (part_len hs (by decide))
 unfold refB verB ansB
 rw [vrP_is, h]
 cases liftB key <;> cases decide (valB ((s.drop 0).take 32) < pM) <;> cases (Sc.readS ((s.drop 32).take 32)).2 <;> rfl
end Go.Proofs.YtfhcpdbahbbmaaaGreatDoor.Cu

end
section
namespace Go.Proofs.YtfhcpdbahbbmaaaGreatDoor.Sc
open Go.RowKit Go.Lib Go.Proofs.YtfhcpdbahbbmaaaGreatDoor

end Go.Proofs.YtfhcpdbahbbmaaaGreatDoor.Sc

end
section
namespace Go.Proofs.YtfhcpdbahbbmaaaGreatDoor.Sc
open Go.RowKit Go.Lib

section
variable {P : Program} {ops : Array Oper}
end

end Go.Proofs.YtfhcpdbahbbmaaaGreatDoor.Sc

end
section
namespace Go.Proofs.YtfhcpdbahbbmaaaGreatDoor.Sc
open Go.RowKit Go.Lib Go.Proofs.YtfhcpdbahbbmaaaGreatDoor

end Go.Proofs.YtfhcpdbahbbmaaaGreatDoor.Sc

end
section
namespace Go.Proofs.YtfhcpdbahbbmaaaGreatDoor.Cu
open Go.RowKit Go.Proofs.YtfhcpdbahbbmaaaGreatDoor Go.Proofs.YtfhcpdbahbbmaaaGreatDoor.Sy
set_option maxRecDepth 100000

end Go.Proofs.YtfhcpdbahbbmaaaGreatDoor.Cu

end
section
namespace Go.Proofs.YtfhcpdbahbbmaaaGreatDoor.Cu
open Go.RowKit Go.Proofs.YtfhcpdbahbbmaaaGreatDoor Go.Proofs.YtfhcpdbahbbmaaaGreatDoor.Sy

theorem textN_any (w : World) (nm : List UInt8) (hnm : nm.length = 32) : Calls Tryz.prog 72 #[.agg (nm.map bv).toArray] w (GetsN w (fun vq Mq => ∃ (g : Nat) (sp : List Value) (cap : Nat), vq = .slice (some ⟨g, 0, none⟩) 32 cap ∧ (32 ≤ cap ∧ cap ≤ 9223372036854775807) ∧ Mq = [(g, 5, (nm.map bv ++ sp).toArray)])) := by
 refine (Sh.textR_any w nm hnm).mono ?_
 rintro e w' ⟨g, cap, rfl, ho, hl, hb⟩
 unfold Sh.OwnB at ho
 rw [hnm] at ho
 rcases ho.2 with ⟨h0, _⟩ | ⟨g', cap', cur, hv, hg, hk, q3, q4, q5, q6⟩
 ·cases h0
 ·cases hv
  have hc : cur = (nm.map bv ++ cur.toList.drop 32).toArray := by
   rw [Nat.mul_one] at q6
   rw [← q6, List.take_append_drop]
  refine ⟨_, [(g, 5, cur)], rfl, ⟨g, cur.toList.drop 32, cap, rfl, ⟨by omega, by simp only [maxLen] at q4; omega⟩, by rw [← hc]⟩, hb, fun g1 t1 cs1 hm => ?_, by simp⟩
  simp only [List.mem_singleton, Prod.mk.injEq] at hm
  obtain ⟨rfl, rfl, rfl⟩ := hm
  exact ⟨hg, hk⟩
theorem src_own {w : World} {g : Nat} {t : TypeId} {m : List UInt8} {sp : List Value} (hb : Blk w g t (m.map bv ++ sp).toArray) : Sh.Src w (some ⟨g, 0, none⟩) m := fun _ => ⟨g, 0, rfl, hb.lt, fun j u hj => by
 rw [Nat.zero_add]
 refine (hb.cell j).trans ?_
 have hl := (List.getElem?_eq_some_iff.1 hj).1
 rw [List.getElem?_toArray, List.getElem?_append_left (by rw [List.length_map]; exact hl), List.getElem?_map, hj]
 rfl⟩
end Go.Proofs.YtfhcpdbahbbmaaaGreatDoor.Cu

end
section
namespace Go.Proofs.YtfhcpdbahbbmaaaGreatDoor.Cu
open Go.RowKit Go.Proofs.YtfhcpdbahbbmaaaGreatDoor Go.Proofs.YtfhcpdbahbbmaaaGreatDoor.Sy
set_option maxRecDepth 100000
set_option maxHeartbeats 4000000

theorem own_cell {w : World} {g : Nat} {t : TypeId} {m : List UInt8} {sp : List Value} (hb : Blk w g t (m.map bv ++ sp).toArray) (j : Nat) (u : UInt8) (hj : m[j]? = some u) : w.cell? ⟨g, j, none⟩ = some (bv u) := by
 refine (hb.cell j).trans ?_
 have hl := (List.getElem?_eq_some_iff.1 hj).1
 rw [List.getElem?_toArray, List.getElem?_append_left (by rw [List.length_map]; exact hl), List.getElem?_map, hj]
 rfl
theorem nsc_any (w : World) (a : Nat) (ha : a < K4) : Calls Tryz.prog 34 #[fv a] w (Gets w (fv (a % Sc.pM))) := by
 refine Sy.enter (args := [fv a]) Tryz.func34 rfl kL ?_
 refine sC ?_
 refine sM 24 (fcs a) (fun g0 => ?_)
 refine sM 24 (fcs 0) (fun g1 => ?_)
 refine sH (fun j => j == 5) ?_
 refine sD 0 rfl (.agg modN) (qF 75 #[] (Sc.refN_any)) <| sD 1 rfl (fv a) (qL 0 g0 0 4 24 24 (fcs a) rfl Tryz.underlying24) <| sD 2 rfl (fv a) (qF 76 #[fv a] (fun w => Sc.refOf_any w a (by first | assumption | exact Sc.mod_lt _ | exact lt4 _ | exact valB_lt32 _ (by first | assumption | exact bytesS_length _) | decide +kernel))) <| sD 3 rfl (fv (a % Sc.pM)) (qF 74 #[.agg modN, fv a] (fun w => Sc.normR_any w a (by first | assumption | exact Sc.mod_lt _ | exact lt4 _ | exact valB_lt32 _ (by first | assumption | exact bytesS_length _) | decide +kernel))) <| sD 4 rfl (fv (a % Sc.pM)) (qF 85 #[fv (a % Sc.pM)] (fun w => Sc.refSc_any w (a % Sc.pM) (by first | assumption | exact Sc.mod_lt _ | exact lt4 _ | exact valB_lt32 _ (by first | assumption | exact bytesS_length _) | decide +kernel))) <| sX 5 rfl 1 g1 24 (fcs 0) (fcs (a % Sc.pM)) (wS 0 24 (fcs (a % Sc.pM)) rfl) ?_
 refine sI ?_
 refine Sy.ret ?_
 exact rC (v := fv (a % Sc.pM)) 24 g1 1 (fcs (a % Sc.pM)) rfl Tryz.underlying24
theorem rsc_any (w : World) (l : List UInt8) (hl : l.length = 32) : Calls Tryz.prog 104 #[.agg (l.map bv).toArray] w (Gets w (fv (valB l % Sc.pM))) := by
 refine Sy.enter (args := [.agg (l.map bv).toArray]) Tryz.func104 rfl kL ?_
 refine sC ?_
 refine sM 47 (l.map bv).toArray (fun g0 => ?_)
 refine sM 24 (fcs 0) (fun g1 => ?_)
 refine sA ?_
 refine sS (.agg (l.map bv).toArray) (Quiet.load 0 g0 0 32 47 47 (l.map bv).toArray _ _ rfl kR kR Tryz.underlying47 rfl kR _ (key_whole l hl) (key_size l hl)) ?_
 refine Sy.callN kR 72 #[.agg (l.map bv).toArray] kF (fun vq Mq => ∃ (g : Nat) (sp : List Value) (cap : Nat), vq = .slice (some ⟨g, 0, none⟩) 32 cap ∧ (32 ≤ cap ∧ cap ≤ 9223372036854775807) ∧ Mq = [(g, 5, (l.map bv ++ sp).toArray)]) (fun w _ => textN_any w l hl) (fun vq Mq hR0 => ?_)
 obtain ⟨go1, spo1, cpo1, rfl, hcpo1, rfl⟩ := hR0
 refine sS (fv (valB l)) (qG 52 #[.slice (some ⟨go1, 0, none⟩) 32 cpo1] (fun w hw => numberR_any w go1 cpo1 l hl (hw.get (i := 2) rfl).lt (own_cell (hw.get (i := 2) rfl)) hcpo1.1 hcpo1.2)) <| sS (fv (valB l)) (qF 85 #[fv (valB l)] (fun w => Sc.refSc_any w (valB l) (by first | assumption | exact Sc.mod_lt _ | exact lt4 _ | exact valB_lt32 _ (by first | assumption | exact bytesS_length _) | decide +kernel))) <| sS (fv ((valB l) % Sc.pM)) (qF 34 #[fv (valB l)] (fun w => nsc_any w (valB l) (by first | assumption | exact Sc.mod_lt _ | exact lt4 _ | exact valB_lt32 _ (by first | assumption | exact bytesS_length _) | decide +kernel))) <| sW 1 g1 24 (fcs 0) (fcs ((valB l) % Sc.pM)) (wS 0 24 (fcs ((valB l) % Sc.pM)) rfl) ?_
 refine sG <| Sy.ret ?_
 exact rC (v := fv ((valB l) % Sc.pM)) 24 g1 1 (fcs ((valB l) % Sc.pM)) rfl Tryz.underlying24
end Go.Proofs.YtfhcpdbahbbmaaaGreatDoor.Cu

end
section
namespace Go.Proofs.YtfhcpdbahbbmaaaGreatDoor.Cu
open Go.RowKit Go.Proofs.YtfhcpdbahbbmaaaGreatDoor Go.Proofs.YtfhcpdbahbbmaaaGreatDoor.Sy
set_option maxRecDepth 100000
set_option maxHeartbeats 4000000

theorem key_sym {l : List UInt8} {n : Nat} (h : l.length = n) {k o : Nat} (hk : k < n) (ho : o = k) : ((l.map bv).toArray)[o]? = some (bv (l.getD k 0)) := by
 subst h ho
 rw [List.getElem?_toArray, List.getElem?_map, List.getD_eq_getElem?_getD, List.getElem?_eq_getElem hk]
 rfl
theorem cat_get1 {X Y : List UInt8} {n k : Nat} (hX : X.length = n) (hk : k < n) : (X ++ Y).getD k 0 = X.getD k 0 := by
 rw [List.getD_eq_getElem?_getD, List.getD_eq_getElem?_getD, List.getElem?_append_left (by omega)]
theorem cat_get2 {X Y : List UInt8} {n k : Nat} (hX : X.length = n) : (X ++ Y).getD (n + k) 0 = Y.getD k 0 := by
 rw [List.getD_eq_getElem?_getD, List.getD_eq_getElem?_getD, List.getElem?_append_right (by omega), hX, Nat.add_sub_cancel_left]
theorem red_any (w : World) (nm : ByteArray) (hnm : nm.size ≤ 1000000000) (T : Option Addr) (ts : List Sh.Tx) (n ct : Nat) (hn : ts.length = n) (hn2 : n ≤ 1000000000) (hT : Sh.Texts w T ts) (htr : Sh.TabAt w 0) (hm : (Sh.cat ts).length ≤ 1000000000) : Calls Tryz.prog 45 #[.string nm, .slice T n ct] w (Gets w (fv (valB (Sh.taggedS nm.data.toList (Sh.cat ts)) % Sc.pM))) := by
 refine Sy.enter (args := [.string nm, .slice T n ct]) Tryz.func45 rfl kL ?_
 refine sC ?_
 refine sM 24 (fcs 0) (fun g0 => ?_)
 refine sA ?_
 refine sP (.string nm) <| sP (.slice T n ct) <| sS (.agg ((Sh.taggedS nm.data.toList (Sh.cat ts)).map bv).toArray) (qG 44 #[.string nm, .slice T n ct] (fun w hw => by have q := Sh.taggedR_any w nm T ts ct (hT.below hw.below) (htr.below hw.below htr.lt) hnm hm (by omega); rw [hn] at q; exact q)) <| sS (fv (valB (Sh.taggedS nm.data.toList (Sh.cat ts)) % Sc.pM)) (qF 104 #[.agg ((Sh.taggedS nm.data.toList (Sh.cat ts)).map bv).toArray] (fun w => rsc_any w (Sh.taggedS nm.data.toList (Sh.cat ts)) (tagS_length _ _))) <| sW 0 g0 24 (fcs 0) (fcs (valB (Sh.taggedS nm.data.toList (Sh.cat ts)) % Sc.pM)) (wS 0 24 (fcs (valB (Sh.taggedS nm.data.toList (Sh.cat ts)) % Sc.pM)) rfl) ?_
 refine sG <| Sy.ret ?_
 exact rC (v := fv (valB (Sh.taggedS nm.data.toList (Sh.cat ts)) % Sc.pM)) 24 g0 0 (fcs (valB (Sh.taggedS nm.data.toList (Sh.cat ts)) % Sc.pM)) rfl Tryz.underlying24
theorem rdR_any (w : World) (g cp : Nat) (l : List UInt8) (hl : l.length = 32) (hg : g < w.heap.size) (hc : ∀ j u, l[j]? = some u → w.cell? ⟨g, j, none⟩ = some (bv u)) (h1 : 32 ≤ cp) (h2 : cp ≤ 9223372036854775807) : Calls Tryz.prog 55 #[.slice (some ⟨g, 0, none⟩) 32 cp] w (Gets w (.tuple #[fv (Sc.readS l).1, .bool (Sc.readS l).2])) := by
 refine Sy.enter (args := [.slice (some ⟨g, 0, none⟩) 32 cp]) Tryz.func55 rfl kL ?_
 refine sC ?_
 refine sM 24 (fcs 0) (fun g0 => ?_)
 refine sP (.bool false) ?_
 refine sA ?_
 refine sP (.slice (some ⟨g, 0, none⟩) 32 cp) <| sS (fv (valB l)) (qG 52 #[.slice (some ⟨g, 0, none⟩) 32 cp] (fun w hw => numberR_any w g cp l hl (Nat.lt_of_lt_of_le hg hw.below.size) (fun j u hj => (Below.cell (p := ⟨g, j, none⟩) hw.below hg).trans (hc j u hj)) h1 h2)) ?_
 refine sM 97 (fcs 0) (fun g1 => ?_)
 refine sW 1 g1 97 (fcs 0) (fcs (valB l)) (wS 0 97 (fcs (valB l)) rfl) ?_
 refine sH (fun j => false) ?_
 refine sD 0 rfl (.agg modN) (qF 75 #[] (Sc.refN_any)) <| sD 1 rfl (fv (valB l)) (qL 1 g1 0 4 97 97 (fcs (valB l)) rfl Tryz.underlying97) ?_
 obtain ⟨b1, hb1⟩ : ∃ z : Bool, z = decide (valB l < Sc.pM) := ⟨_, rfl⟩
 refine sD 2 rfl (.bool b1) (qF 53 #[.agg modN, fv (valB l)] (fun w => by rw [hb1]; exact Sc.rightR_any w (valB l) (valB_lt32 l hl))) <| sZ 3 rfl (.bool b1) ?_
 refine sI ?_
 refine Sy.seq <| sC ?_
 refine sP (.slice (some ⟨g, 0, none⟩) 32 cp) <| sP (.int .i64 32) <| sP (.bool false) <| sP (.bool false) <| sP (.bool b1) ?_
 cases b1
 ·refine sP (.bool true) <| sP (.bool true) ?_
  refine sG <| sT <| sC ?_
  refine sP (fv 0) <| sW 0 g0 24 (fcs 0) (fcs 0) (wS 0 24 (fcs 0) rfl) <| sP (.bool false) ?_
  refine sG <| Sy.ret <| Sy.then_ret ?_
  rw [show (.tuple #[fv (Sc.readS l).1, .bool (Sc.readS l).2] : Value) = .tuple #[fv 0, .bool false] from by unfold Sc.readS; rw [if_neg (of_decide_eq_false hb1.symm)]]
  exact Sy.ret2 (v := fv 0) (u := .bool false) rfl (.inl (Res.cell (ty' := 24) g0 0 (fcs 0) _ kR kR Tryz.underlying24 rfl kR kR)) (.inl (show _ = _ by kernel_rfl))
 ·refine sP (.bool false) <| sP (.bool false) ?_
  refine sG <| sU <| Sy.skip <| sB ?_
  refine sS (fv (valB l)) (qL 1 g1 0 4 97 97 (fcs (valB l)) rfl Tryz.underlying97) <| sS (fv (valB l)) (qF 85 #[fv (valB l)] (fun w => Sc.refSc_any w (valB l) (by first | assumption | exact Sc.mod_lt _ | exact lt4 _ | exact valB_lt32 _ (by first | assumption | exact bytesS_length _) | decide +kernel))) <| sW 0 g0 24 (fcs 0) (fcs (valB l)) (wS 0 24 (fcs (valB l)) rfl) <| sP (.bool true) ?_
  refine sG <| Sy.ret ?_
  rw [show (.tuple #[fv (Sc.readS l).1, .bool (Sc.readS l).2] : Value) = .tuple #[fv (valB l), .bool true] from by unfold Sc.readS; rw [if_pos (of_decide_eq_true hb1.symm)]]
  exact Sy.ret2 (v := fv (valB l)) (u := .bool true) rfl (.inl (Res.cell (ty' := 24) g0 0 (fcs (valB l)) _ kR kR Tryz.underlying24 rfl kR kR)) (.inl (show _ = _ by kernel_rfl))
end Go.Proofs.YtfhcpdbahbbmaaaGreatDoor.Cu

end
section
namespace Go.Proofs.YtfhcpdbahbbmaaaGreatDoor.Cu
open Go.RowKit Go.Proofs.YtfhcpdbahbbmaaaGreatDoor Go.Proofs.YtfhcpdbahbbmaaaGreatDoor.Sy

def refC (key m X Y : List UInt8) : Bool := liftB key && decide (valB X < pM) && (Sc.readS Y).2 && okR (Ec.add finv (Ec.nm finv ((Sc.readS Y).1 % Sc.pM) bP) (Ec.neg (Ec.nm finv (chalS X key m % Sc.pM) (liftP key)))) (valB X)
theorem refC_is (key m X Y : List UInt8) (hX : X.length = 32) (hY : Y.length = 32) : refC key m X Y = refB key m (X ++ Y) := by
 have e1 : ((X ++ Y).drop 0).take 32 = X := by rw [List.drop_zero, ← hX, List.take_left]
 have e2 : ((X ++ Y).drop 32).take 32 = Y := by rw [← hX, List.drop_left, hX, ← hY, List.take_length]
 unfold refC refB vrP
 rw [e1, e2]
theorem okR_raw {R : Pt} {x y : Nat} {i : Bool} (h : dec x y i = R) (hr : rightB x y i = true) (n : Nat) : okR R n = (!i && (decide (y % 18446744073709551616 % 2 = 0) && decide (x = n))) := by
 subst h
 cases i with
 | true =>
  rw [dec_inf]
  rfl
 | false =>
  have hr' := hr
  unfold rightB at hr
  rw [if_neg (by decide), Bool.and_eq_true, Bool.and_eq_true, decide_eq_true_eq, decide_eq_true_eq, decide_eq_true_eq] at hr
  have e : dec x y false = some (⟨x, hr.1.1⟩, ⟨y, hr.1.2⟩) := by
   unfold dec
   rw [dif_pos ⟨rfl, hr.1.1, hr.1.2, hr.2⟩]
  rw [e]
  show (decide (y % 2 = 0) && decide (x = n)) = _
  rw [show y % 18446744073709551616 % 2 = y % 2 by omega]
  rfl
theorem negR_of {P R : Pt} {a b : Nat} {i : Bool} (ha : a < K4) (hb : b < K4) (h1 : dec a b i = P) (he : Ec.neg P = R) (w : World) : Calls Tryz.prog 57 #[pv a b i] w (Gets w (pv (pX R) (pY R) (pI R))) := by
 have h := negRe_any w a b i ha hb
 rw [h1, he, ptv_parts] at h
 exact h
theorem add_raw {P Q R : Pt} {a b c d x y : Nat} {i j k : Bool} (ha : a < K4) (hb : b < K4) (hc : c < K4) (hd : d < K4) (h1 : dec a b i = P) (h2 : dec c d j = Q) (he : Ec.add finv P Q = R) (h3 : ptv R = pv x y k) (w : World) : Calls Tryz.prog 56 #[pv a b i, pv c d j] w (Gets w (pv x y k)) := by
 have h := addRe_any w a b i c d j ha hb hc hd
 rw [h1, h2, he, h3] at h
 exact h
theorem ok_own {w : World} {g : Nat} {t : TypeId} {l : List UInt8} {sp : List Value} {c : Nat} (hb : Blk w g t (l.map bv ++ sp).toArray) (hl : l.length = 32) (hc : 32 ≤ c ∧ c ≤ 9223372036854775807) : (Sh.Tx.mk (some ⟨g, 0, none⟩) l c).ok w := ⟨src_own hb, by show l.length ≤ c; omega, hc.2⟩
theorem val_own {g c : Nat} {l : List UInt8} (hl : l.length = 32) : (Sh.Tx.mk (some ⟨g, 0, none⟩) l c).val = .slice (some ⟨g, 0, none⟩) 32 c := by
 unfold Sh.Tx.val
 rw [hl]
theorem red3_c {w : World} {nm : ByteArray} (hnm : nm.size ≤ 1000000000) {g g1 g2 : Nat} {t t1 t2 : TypeId} {x y m : List UInt8} {A : Option Addr} {c cx cy n : Nat} {sx sy : List Value} (hx : x.length = 32) (hy : y.length = 32) (hn : m.length = n) (hm : n ≤ 999999900) (hc : n ≤ c) (hc2 : c ≤ 9223372036854775807)
  (h1 : Blk w g1 t1 (x.map bv ++ sx).toArray) (c1 : 32 ≤ cx ∧ cx ≤ 9223372036854775807) (h2 : Blk w g2 t2 (y.map bv ++ sy).toArray) (c2 : 32 ≤ cy ∧ cy ≤ 9223372036854775807) (hs : Sh.Src w A m) (hb : Blk w g t #[.slice (some ⟨g1, 0, none⟩) 32 cx, .slice (some ⟨g2, 0, none⟩) 32 cy, .slice A n c]) (ht : Sh.TabAt w 0) :
  Calls Tryz.prog 45 #[.string nm, .slice (some ⟨g, 0, none⟩) 3 3] w (Gets w (fv (valB (Sh.taggedS nm.data.toList (x ++ y ++ m)) % Sc.pM))) := by
 subst hn
 have e : Sh.cat [⟨some ⟨g1, 0, none⟩, x, cx⟩, ⟨some ⟨g2, 0, none⟩, y, cy⟩, ⟨A, m, c⟩] = x ++ y ++ m := by simp [Sh.cat]
 have q := red_any w nm hnm (some ⟨g, 0, none⟩) [⟨some ⟨g1, 0, none⟩, x, cx⟩, ⟨some ⟨g2, 0, none⟩, y, cy⟩, ⟨A, m, c⟩] 3 3 rfl (by decide) (texts_blk (by
  rw [List.map_cons, List.map_cons, List.map_cons, List.map_nil, val_own hx, val_own hy]
  exact hb) (ok3 (ok_own h1 hx c1) (ok_own h2 hy c2) ⟨hs, hc, hc2⟩)) ht (by rw [e, List.length_append, List.length_append, hx, hy]; omega)
 rw [e] at q
 exact q
set_option maxHeartbeats 4000000 in
set_option maxRecDepth 100000 in
theorem verR_any (w : World) (key X Y : List UInt8) (hkey : key.length = 32) (hX : X.length = 32) (hY : Y.length = 32) (A : Option Addr) (m : List UInt8) (n c : Nat) (hn : m.length = n) (hm : n ≤ 999999900) (hc : n ≤ c) (hc2 : c ≤ 9223372036854775807) (hs : Sh.Src w A m) (htr : Sh.TabAt w 0) : Calls Tryz.prog 19 #[.agg (key.map bv).toArray, .slice A n c, .agg ((X ++ Y).map bv).toArray] w (Gets w (.bool (refC key m X Y))) := by
 refine Sy.enter (args := [.agg (key.map bv).toArray, .slice A n c, .agg ((X ++ Y).map bv).toArray]) Tryz.func19 rfl kL ?_
 refine sC ?_
 refine sM 31 (key.map bv).toArray (fun g0 => ?_)
 refine sM 27 ((X ++ Y).map bv).toArray (fun g1 => ?_)
 refine sP (.bool false) ?_
 refine sA ?_
 refine sP (.slice none 0 0) ?_
 refine sA ?_
 refine sP (.slice none 0 0) ?_
 refine sA ?_
 refine sP (.slice none 0 0) ?_
 refine sG <| Sy.seq <| sC ?_
 refine sP (.int .i64 0) ?_
 refine sG <| Sy.block ?_
 refine Sy.loopN (31 + 1 + 1) ?_
 refine Sy.round <| Sy.seq <| sC ?_
 refine sP (.int .i64 0) <| sP (.bool true) ?_
 refine sG <| sT <| Sy.skip <| Sy.then_ <| Sy.seq <| Sy.block <| sC ?_
 refine sP (.slice none 0 0) <| sP (.int .i64 0) <| sP (.pointer (some ⟨g1, 0, none⟩)) <| sS (bv (X.getD 0 0)) (Quiet.cell 1 g1 0 27 5 ((X ++ Y).map bv).toArray _ _ rfl kR kR Tryz.underlying5 rfl _ ((key_at (X ++ Y) (cat_length hX hY) 0 (by decide)).trans (congrArg (fun z => some (bv z)) (cat_get1 hX (by decide))))) ?_
 refine Sy.make kR 5 #[bv (X.getD 0 0)] (fun g => .slice (some ⟨g, 0, none⟩) 1 1) kF (fun g2 => ?_)
 refine Sy.appendNil kR 25 5 _ _ Tryz.underlying25 info_u8 rfl rfl rfl rfl _ _ rfl kR 2 g2 0 1 1 5 #[bv (X.getD 0 0)] [bv (X.getD 0 0)] kR kR kR rfl (by decide) (by intro u hu; simp only [List.mem_cons, List.not_mem_nil, or_false] at hu; subst hu; rfl) (by decide) (fun q1 c1 s1 e1 m1 => ?_)
 refine sP (.slice (some ⟨q1, 0, none⟩) 1 c1) ?_
 refine sA ?_
 refine sP (.slice none 0 0) <| sP (.int .i64 0) <| sP (.int .i64 32) <| sP (.pointer (some ⟨g1, 32, none⟩)) <| sS (bv (Y.getD 0 0)) (Quiet.cell 1 g1 32 27 5 ((X ++ Y).map bv).toArray _ _ rfl kR kR Tryz.underlying5 rfl _ ((key_at (X ++ Y) (cat_length hX hY) 32 (by decide)).trans (congrArg (fun z => some (bv z)) (cat_get2 (k := 0) hX)))) ?_
 refine Sy.make kR 5 #[bv (Y.getD 0 0)] (fun g => .slice (some ⟨g, 0, none⟩) 1 1) kF (fun g3 => ?_)
 refine Sy.appendNil kR 25 5 _ _ Tryz.underlying25 info_u8 rfl rfl rfl rfl _ _ rfl kR 4 g3 0 1 1 5 #[bv (Y.getD 0 0)] [bv (Y.getD 0 0)] kR kR kR rfl (by decide) (by intro u hu; simp only [List.mem_cons, List.not_mem_nil, or_false] at hu; subst hu; rfl) (by decide) (fun q2 c2 s2 e2 m2 => ?_)
 refine sP (.slice (some ⟨q2, 0, none⟩) 1 c2) ?_
 refine sG <| Sy.region ?_
 refine sP (.slice none 0 0) <| sP (.int .i64 0) <| sP (.pointer (some ⟨g0, 0, none⟩)) <| sS (bv (key.getD 0 0)) (Quiet.cell 0 g0 0 31 5 (key.map bv).toArray _ _ rfl kR kR Tryz.underlying5 rfl _ (key_at key hkey 0 (by decide))) ?_
 refine Sy.make kR 5 #[bv (key.getD 0 0)] (fun g => .slice (some ⟨g, 0, none⟩) 1 1) kF (fun g4 => ?_)
 refine Sy.appendNil kR 25 5 _ _ Tryz.underlying25 info_u8 rfl rfl rfl rfl _ _ rfl kR 6 g4 0 1 1 5 #[bv (key.getD 0 0)] [bv (key.getD 0 0)] kR kR kR rfl (by decide) (by intro u hu; simp only [List.mem_cons, List.not_mem_nil, or_false] at hu; subst hu; rfl) (by decide) (fun q3 c3 s3 e3 m3 => ?_)
 refine sP (.slice (some ⟨q3, 0, none⟩) 1 c3) ?_
 refine Sy.nil <| Sy.in_ <| Sy.then_ <| Sy.region ?_
 refine sP (.int .i64 0) <| sP (.int .i64 1) <| sP (.int .i64 1) ?_
 refine Sy.nil <| Sy.again ?_
 refine Sy.loopXR (T := (Nat × Nat × List Value) × (Nat × Nat × List Value) × (Nat × Nat × List Value)) 31 (fun k1 y1 => [(1, .slice A n c), (3, .pointer (some ⟨g0, 0, none⟩)), (5, .pointer (some ⟨g1, 0, none⟩)), (7, .slice (some ⟨y1.1.1, 0, none⟩) (k1 + 1) y1.1.2.1), (8, .slice (some ⟨y1.2.1.1, 0, none⟩) (k1 + 1) y1.2.1.2.1), (9, .slice (some ⟨y1.2.2.1, 0, none⟩) (k1 + 1) y1.2.2.2.1), (10, .int .i64 ((k1 + 1 : Nat) : Int))]) (fun k1 y1 => [(g0, 31, (key.map bv).toArray), (g1, 27, ((X ++ Y).map bv).toArray), (y1.1.1, 5, ((X.take k1).map bv ++ ([bv (X.getD k1 0)] ++ y1.1.2.2)).toArray), (y1.2.1.1, 5, ((Y.take k1).map bv ++ ([bv (Y.getD k1 0)] ++ y1.2.1.2.2)).toArray), (y1.2.2.1, 5, ((key.take k1).map bv ++ ([bv (key.getD k1 0)] ++ y1.2.2.2.2)).toArray)]) (fun k1 y1 => (y1.1.2.2.length + (k1 + 1) = y1.1.2.1 ∧ y1.1.2.1 ≤ maxLen) ∧ (y1.2.1.2.2.length + (k1 + 1) = y1.2.1.2.1 ∧ y1.2.1.2.1 ≤ maxLen) ∧ (y1.2.2.2.2.length + (k1 + 1) = y1.2.2.2.1 ∧ y1.2.2.2.1 ≤ maxLen)) ((q1, c1, s1), (q2, c2, s2), (q3, c3, s3)) [true, true, false, true, false, true, false, true] ⟨⟨e1, m1⟩, ⟨e2, m2⟩, e3, m3⟩ (all_cons kR (all_cons kR (all_cons kR (all_cons kR (all_cons kR (all_cons kR (all_cons kR all_nil))))))) kR (fun k1 y1 hk1 hh1 => ?_)
 refine Sy.seq <| sC ?_
 refine sP (.int .i64 ((k1 + 1 : Nat) : Int)) ?_
 obtain ⟨b1, hb1⟩ : ∃ z : Bool, z = decide (k1 + 1 < 32) := ⟨_, rfl⟩
 refine sS (.bool b1) (Quiet.pure (exec_int .lss _ _ _ .i64 _ _ _ rfl rfl rfl (int_lss _ _ _ _ _ (by rw [hb1]; exact decide_eq_decide.2 (by omega))))) ?_
 refine sG ?_
 cases b1
 ·have lb1 : ¬ (k1 + 1 < 32) := of_decide_eq_false hb1.symm
  refine sU <| Sy.exit <| Sy.then_exit <| Sy.then_exit ?_
  obtain rfl : k1 = 31 := by omega
  have hc1 : 32 ≤ y1.1.2.1 ∧ y1.1.2.1 ≤ 9223372036854775807 := by
   have q := hh1.1
   simp only [maxLen] at q
   exact ⟨by omega, by omega⟩
  have hc2_ : 32 ≤ y1.2.1.2.1 ∧ y1.2.1.2.1 ≤ 9223372036854775807 := by
   have q := hh1.2.1
   simp only [maxLen] at q
   exact ⟨by omega, by omega⟩
  have hc3 : 32 ≤ y1.2.2.2.1 ∧ y1.2.2.2.1 ≤ 9223372036854775807 := by
   have q := hh1.2.2
   simp only [maxLen] at q
   exact ⟨by omega, by omega⟩
  have lvX : valB X < K4 := valB_lt32 X hX
  refine Sy.in_exit <| Sy.then_ ?_
  refine Sy.tidyC (G := [(1, .slice A n c), (3, .pointer (some ⟨g0, 0, none⟩)), (5, .pointer (some ⟨g1, 0, none⟩)), (7, .slice (some ⟨y1.1.1, 0, none⟩) 32 y1.1.2.1), (8, .slice (some ⟨y1.2.1.1, 0, none⟩) 32 y1.2.1.2.1), (9, .slice (some ⟨y1.2.2.1, 0, none⟩) 32 y1.2.2.2.1)]) (N := [(g0, 31, (key.map bv).toArray), (g1, 27, ((X ++ Y).map bv).toArray), (y1.1.1, 5, (X.map bv ++ y1.1.2.2).toArray), (y1.2.1.1, 5, (Y.map bv ++ y1.2.1.2.2).toArray), (y1.2.2.1, 5, (key.map bv ++ y1.2.2.2.2).toArray)]) [true, true, true, true, true] rfl (bcons rfl (bcons rfl (bcons (beq (congrArg List.toArray (apd_full X 31 hX))) (bcons (beq (congrArg List.toArray (apd_full Y 31 hY))) (bcons (beq (congrArg List.toArray (apd_full key 31 hkey))) rfl))))) (all_cons kR (all_cons kR (all_cons kR (all_cons kR (all_cons kR (all_cons kR all_nil)))))) ?_
  refine sC ?_
  refine sS (.agg (key.map bv).toArray) (Quiet.load 0 g0 0 32 31 31 (key.map bv).toArray _ _ rfl kR kR Tryz.underlying31 rfl kR _ (key_whole key hkey) (key_size key hkey)) ?_
  obtain ⟨b2, hb2⟩ : ∃ z : Bool, z = liftB key := ⟨_, rfl⟩
  obtain ⟨R1, hR1⟩ : ∃ P : Pt, P = liftP key := ⟨_, rfl⟩
  have oR1 : Ec.On R1 := by rw [hR1]; exact liftP_on _
  refine sS (.tuple #[pv (pX R1) (pY R1) (pI R1), .bool b2]) (qF 51 #[.agg (key.map bv).toArray] (fun w => by rw [← ptv_parts, hR1, hb2]; exact liftR_any w key hkey)) <| sP (.tuple #[pv (pX R1) (pY R1) (pI R1), .bool b2]) <| sP (pv (pX R1) (pY R1) (pI R1)) <| sP (.bool b2) ?_
  refine sM 71 (pcs 0 0 false) (fun g5 => ?_)
  refine sW 5 g5 71 (pcs 0 0 false) (pcs (pX R1) (pY R1) (pI R1)) (wS 0 71 (pcs (pX R1) (pY R1) (pI R1)) rfl) <| sP (.bool b2) ?_
  refine sA ?_
  refine sP (.slice (some ⟨y1.1.1, 0, none⟩) 32 y1.1.2.1) <| sS (fv (valB X)) (qG 52 #[.slice (some ⟨y1.1.1, 0, none⟩) 32 y1.1.2.1] (fun w hw => numberR_any w y1.1.1 y1.1.2.1 X hX (hw.get (i := 2) rfl).lt (own_cell (hw.get (i := 2) rfl)) hc1.1 hc1.2)) ?_
  refine sM 97 (fcs 0) (fun g6 => ?_)
  refine sW 6 g6 97 (fcs 0) (fcs (valB X)) (wS 0 97 (fcs (valB X)) rfl) ?_
  refine sH (fun j => false) ?_
  refine sD 0 rfl (.agg modcs) (qF 54 #[] (refP_any)) <| sD 1 rfl (fv (valB X)) (qL 6 g6 0 4 97 97 (fcs (valB X)) rfl Tryz.underlying97) ?_
  obtain ⟨b3, hb3⟩ : ∃ z : Bool, z = decide (valB X < pM) := ⟨_, rfl⟩
  refine sD 2 rfl (.bool b3) (qF 53 #[.agg modcs, fv (valB X)] (fun w => by rw [hb3]; exact rightR_any w (valB X) (valB_lt32 X hX))) <| sZ 3 rfl (.bool b3) ?_
  refine sE ?_
  refine sB ?_
  refine sP (.slice (some ⟨y1.2.1.1, 0, none⟩) 32 y1.2.1.2.1) ?_
  obtain ⟨b4, hb4⟩ : ∃ z : Bool, z = (Sc.readS Y).2 := ⟨_, rfl⟩
  have lrY : (Sc.readS Y).1 < K4 := readS_lt Y
  refine sS (.tuple #[fv ((Sc.readS Y).1), .bool b4]) (qG 55 #[.slice (some ⟨y1.2.1.1, 0, none⟩) 32 y1.2.1.2.1] (fun w hw => by rw [hb4]; exact rdR_any w y1.2.1.1 y1.2.1.2.1 Y hY (hw.get (i := 3) rfl).lt (own_cell (hw.get (i := 3) rfl)) hc2_.1 hc2_.2)) <| sP (.tuple #[fv ((Sc.readS Y).1), .bool b4]) <| sP (fv ((Sc.readS Y).1)) <| sP (.bool b4) ?_
  refine sM 24 (fcs 0) (fun g7 => ?_)
  refine sW 7 g7 24 (fcs 0) (fcs ((Sc.readS Y).1)) (wS 0 24 (fcs ((Sc.readS Y).1)) rfl) <| sP (.bool b4) ?_
  refine sG <| Sy.seq <| sC ?_
  refine sP (.bool b2) ?_
  cases b2
  ·refine sP (.bool true) <| sP (.bool true) ?_
   refine sN <| sN ?_
   refine sP (.bool true) <| sP (.bool true) ?_
   refine sN <| sN ?_
   refine sP (.bool true) ?_
   refine sG <| sT <| sC ?_
   refine sP (.bool false) ?_
   refine sG <| Sy.ret <| Sy.then_ret ?_
   rw [show (.bool (refC key m X Y) : Value) = .bool false from by unfold refC; rw [← hb2, ← hb3, ← hb4] <;> rfl]
   exact rV (.bool false) rfl
  ·refine sP (.bool false) <| sP (.bool false) <| sP (.bool b3) ?_
   cases b3
   ·refine sP (.bool true) <| sP (.bool true) <| sP (.bool true) ?_
    refine sN <| sN ?_
    refine sP (.bool true) ?_
    refine sG <| sT <| sC ?_
    refine sP (.bool false) ?_
    refine sG <| Sy.ret <| Sy.then_ret ?_
    rw [show (.bool (refC key m X Y) : Value) = .bool false from by unfold refC; rw [← hb2, ← hb3, ← hb4] <;> rfl]
    exact rV (.bool false) rfl
   ·refine sP (.bool false) <| sP (.bool false) <| sP (.bool false) <| sP (.bool b4) ?_
    cases b4
    ·refine sP (.bool true) <| sP (.bool true) ?_
     refine sG <| sT <| sC ?_
     refine sP (.bool false) ?_
     refine sG <| Sy.ret <| Sy.then_ret ?_
     rw [show (.bool (refC key m X Y) : Value) = .bool false from by unfold refC; rw [← hb2, ← hb3, ← hb4] <;> rfl]
     exact rV (.bool false) rfl
    ·refine sP (.bool false) <| sP (.bool false) ?_
     refine sG <| sU <| Sy.skip <| sB ?_
     refine sP (.slice (some ⟨y1.1.1, 0, none⟩) 32 y1.1.2.1) <| sP (.slice (some ⟨y1.2.2.1, 0, none⟩) 32 y1.2.2.2.1) <| sP (.slice A n c) ?_
     refine Sy.make kR 25 #[.slice (some ⟨y1.1.1, 0, none⟩) 32 y1.1.2.1, .slice (some ⟨y1.2.2.1, 0, none⟩) 32 y1.2.2.2.1, .slice A n c] (fun g => .slice (some ⟨g, 0, none⟩) 3 3) kF (fun g8 => ?_)
     obtain ⟨z1, hz1⟩ : ∃ z : Nat, z = chalS X key m := ⟨_, rfl⟩
     have lz1 : z1 < K4 := by rw [hz1]; exact Sc.mod_lt _
     refine sS (fv z1) (qG 45 #[.string challengeNm, .slice (some ⟨g8, 0, none⟩) 3 3] (fun w hw => by rw [hz1]; exact red3_c (by decide) hX hkey hn hm hc hc2 (hw.get (i := 2) rfl) hc1 (hw.get (i := 4) rfl) hc3 (hs.below hw.below) (hw.get (i := 8) rfl) (htr.below hw.below htr.lt))) ?_
     refine sM 24 (fcs 0) (fun g9 => ?_)
     refine sW 9 g9 24 (fcs 0) (fcs z1) (wS 0 24 (fcs z1) rfl) ?_
     refine sH (fun j => j == 9) ?_
     refine sD 0 rfl (fv ((Sc.readS Y).1)) (qL 7 g7 0 4 24 24 (fcs ((Sc.readS Y).1)) rfl Tryz.underlying24) <| sD 1 rfl (pv (pX bP) (pY bP) (pI bP)) (qF 31 #[] (fun w => by rw [← ptv_parts]; exact baseR_c w)) ?_
     obtain ⟨R2, hR2⟩ : ∃ P : Pt, P = Ec.nm finv ((Sc.readS Y).1 % Sc.pM) bP := ⟨_, rfl⟩
     have oR2 : Ec.On R2 := by rw [hR2]; exact bP_on.nm fld _
     refine sD 2 rfl (pv (pX R2) (pY R2) (pI R2)) (qF 30 #[fv ((Sc.readS Y).1), pv (pX bP) (pY bP) (pI bP)] (mulR_of lP lP lP (dec_parts bP_on) hR2.symm)) <| sD 3 rfl (fv z1) (qL 9 g9 0 4 24 24 (fcs z1) rfl Tryz.underlying24) <| sD 4 rfl (pv (pX R1) (pY R1) (pI R1)) (qL 5 g5 0 9 71 71 (pcs (pX R1) (pY R1) (pI R1)) rfl Tryz.underlying71) ?_
     obtain ⟨R3, hR3⟩ : ∃ P : Pt, P = Ec.nm finv (z1 % Sc.pM) R1 := ⟨_, rfl⟩
     have oR3 : Ec.On R3 := by rw [hR3]; exact oR1.nm fld _
     refine sD 5 rfl (pv (pX R3) (pY R3) (pI R3)) (qF 30 #[fv z1, pv (pX R1) (pY R1) (pI R1)] (mulR_of lP lP lP (dec_parts oR1) hR3.symm)) ?_
     obtain ⟨R4, hR4⟩ : ∃ P : Pt, P = Ec.neg R3 := ⟨_, rfl⟩
     have oR4 : Ec.On R4 := by rw [hR4]; exact oR3.neg
     refine sD 6 rfl (pv (pX R4) (pY R4) (pI R4)) (qF 57 #[pv (pX R3) (pY R3) (pI R3)] (negR_of lP lP (dec_parts oR3) hR4.symm)) ?_
     obtain ⟨R5, hR5⟩ : ∃ P : Pt, P = Ec.add finv R2 R4 := ⟨_, rfl⟩
     have oR5 : Ec.On R5 := by rw [hR5]; exact Ec.On.add fld oR2 oR4
     obtain ⟨ax, ay, ai, lax, lay, ea, da, ra⟩ := ptv_raw R5 oR5
     refine sD 7 rfl (pv ax ay ai) (qF 56 #[pv (pX R2) (pY R2) (pI R2), pv (pX R4) (pY R4) (pI R4)] (add_raw lP lP lP lP (dec_parts oR2) (dec_parts oR4) hR5.symm ea)) ?_
     refine sO 8 rfl 71 (pcs 0 0 false) (fun g10 => ?_)
     refine sX 9 rfl 10 g10 71 (pcs 0 0 false) (pcs ax ay ai) (wS 0 71 (pcs ax ay ai) rfl) ?_
     refine sE ?_
     refine sR (fun j => false) ?_
     refine sZ 0 rfl (.pointer (some ⟨g10, 8, none⟩)) <| sD 1 rfl (.bool ai) (qC 10 g10 8 71 4 (pcs ax ay ai) rfl Tryz.underlying4) ?_
     cases ai
     ·refine sZ 2 rfl (.bool true) <| sZ 3 rfl (.bool true) <| sZ 4 rfl (.pointer (some ⟨g10, 4, none⟩)) <| sZ 5 rfl (.pointer (some ⟨g10, 4, none⟩)) <| sD 6 rfl (qv (ay % 18446744073709551616)) (qC 10 g10 4 71 22 (pcs ax ay false) rfl Tryz.underlying22) <| sD 7 rfl (.int .u64 (((ay % 18446744073709551616) % 2 : Nat) : Int)) (Quiet.pure (fun w => rem2 w _ _ _ _ (ay % 18446744073709551616) rfl rfl rfl (Nat.mod_lt _ (by decide)))) ?_
      obtain ⟨b5, hb5⟩ : ∃ z : Bool, z = decide ((ay % 18446744073709551616) % 2 = 0) := ⟨_, rfl⟩
      refine sD 8 rfl (.bool b5) (Quiet.pure (exec_int .eql _ _ _ .u64 _ _ _ rfl rfl rfl (int_eql _ _ _ _ _ (by rw [hb5]; exact decide_eq_decide.2 (by omega))))) <| sZ 9 rfl (.bool b5) <| sZ 10 rfl (.bool b5) ?_
      cases b5
      ·have lb5 : ¬ ((ay % 18446744073709551616) % 2 = 0) := of_decide_eq_false hb5.symm
       refine sQ 11 rfl <| sQ 12 rfl <| sQ 13 rfl <| sQ 14 rfl <| sQ 15 rfl <| sZ 16 rfl (.bool false) <| sZ 17 rfl (.bool false) ?_
       refine sI ?_
       refine Sy.ret ?_
       rw [show (.bool (refC key m X Y) : Value) = .bool false from by unfold refC; rw [← hb2, ← hb3, ← hb4, ← hz1, ← hR1, ← hR2, ← hR3, ← hR4, ← hR5, okR_raw da ra]; rw [← hb5] <;> rfl]
       exact rV (.bool false) rfl
      ·have lb5 : (ay % 18446744073709551616) % 2 = 0 := of_decide_eq_true hb5.symm
       refine sZ 11 rfl (.pointer (some ⟨g10, 0, none⟩)) <| sD 12 rfl (fv ax) (qL 10 g10 0 4 71 69 (pcs ax ay false) rfl Tryz.underlying69) <| sD 13 rfl (fv (valB X)) (qL 6 g6 0 4 97 97 (fcs (valB X)) rfl Tryz.underlying97) <| sD 14 rfl (fv (valB X)) (qF 58 #[fv (valB X)] (fun w => refFe_any w (valB X) (by first | assumption | exact Sc.mod_lt _ | exact lt4 _ | exact valB_lt32 _ (by first | assumption | exact bytesS_length _) | decide +kernel))) ?_
       obtain ⟨b6, hb6⟩ : ∃ z : Bool, z = decide (ax = (valB X)) := ⟨_, rfl⟩
       refine sD 15 rfl (.bool b6) (Quiet.pure (fun w => by rw [hb6]; exact eql_fe w _ _ _ _ _ _ rfl rfl rfl lK lK)) <| sZ 16 rfl (.bool b6) <| sZ 17 rfl (.bool b6) ?_
       refine sI ?_
       refine Sy.ret ?_
       rw [show (.bool (refC key m X Y) : Value) = .bool b6 from by unfold refC; rw [← hb2, ← hb3, ← hb4, ← hz1, ← hR1, ← hR2, ← hR3, ← hR4, ← hR5, okR_raw da ra]; rw [← hb5, ← hb6] <;> rfl]
       exact rV (.bool b6) rfl
     ·refine sZ 2 rfl (.bool false) <| sZ 3 rfl (.bool false) <| sQ 4 rfl <| sQ 5 rfl <| sQ 6 rfl <| sQ 7 rfl <| sQ 8 rfl <| sZ 9 rfl (.bool false) ?_
      refine sZ 10 rfl (.bool false) <| sQ 11 rfl <| sQ 12 rfl <| sQ 13 rfl <| sQ 14 rfl <| sQ 15 rfl <| sZ 16 rfl (.bool false) <| sZ 17 rfl (.bool false) ?_
      refine sI ?_
      refine Sy.ret ?_
      rw [show (.bool (refC key m X Y) : Value) = .bool false from by unfold refC; rw [← hb2, ← hb3, ← hb4, ← hz1, ← hR1, ← hR2, ← hR3, ← hR4, ← hR5, okR_raw da ra]; rfl]
      exact rV (.bool false) rfl
 ·have lb1 : k1 + 1 < 32 := of_decide_eq_true hb1.symm
  refine sT <| Sy.skip <| Sy.then_ <| Sy.seq <| Sy.block <| sC ?_
  refine sP (.slice (some ⟨y1.1.1, 0, none⟩) (k1 + 1) y1.1.2.1) <| sP (.int .i64 ((k1 + 1 : Nat) : Int)) <| sS (.pointer (some ⟨g1, 0 + (k1 + 1) * 1, none⟩)) (Quiet.pure (exec_atA 27 _ _ _ g1 0 _ (k1 + 1) 1 .i64 rfl rfl rfl Tryz.underlying27 kF (by omega))) <| sS (bv (X.getD (k1 + 1) 0)) (Quiet.cell 1 g1 (0 + (k1 + 1) * 1) 27 5 ((X ++ Y).map bv).toArray _ _ rfl kR kR Tryz.underlying5 rfl _ ((key_sym (cat_length hX hY) (k := k1 + 1) (by omega) (by omega)).trans (congrArg (fun z => some (bv z)) (cat_get1 hX (by omega))))) ?_
  refine Sy.make kR 5 #[bv (X.getD (k1 + 1) 0)] (fun g => .slice (some ⟨g, 0, none⟩) 1 1) kF (fun g11 => ?_)
  refine Sy.append kR 25 5 _ _ Tryz.underlying25 info_u8 rfl rfl rfl rfl _ _ rfl 2 y1.1.1 (k1 + 1) y1.1.2.1 ((X.take k1).map bv ++ ([bv (X.getD k1 0)] ++ y1.1.2.2)).toArray ((X.take (k1 + 1)).map bv) kR kR (apd_take X k1 hX y1.1.2.2 (by omega)) (apd_len X k1 hX (by omega)) (apd_size X k1 hX y1.1.2.2 hh1.1.1 (by omega)) hh1.1.2 5 g11 0 1 1 5 #[bv (X.getD (k1 + 1) 0)] [bv (X.getD (k1 + 1) 0)] kR kR kR rfl (by intro u hu; simp only [List.mem_cons, List.not_mem_nil, or_false] at hu; subst hu; rfl) (by omega) (fun q4 c4 s4 e4 m4 => ?_)
  refine sP (.slice (some ⟨q4, 0, none⟩) (k1 + 1 + 1) c4) ?_
  refine sA ?_
  refine sP (.slice (some ⟨y1.2.1.1, 0, none⟩) (k1 + 1) y1.2.1.2.1) <| sP (.int .i64 ((k1 + 1 : Nat) : Int)) <| sS (.int .i64 ((32 + (k1 + 1) : Nat) : Int)) (Quiet.pure (exec_int .add _ _ _ .i64 _ _ _ rfl rfl rfl (int_add _ _ _ _ _ ((wrap_i64 (by omega) (by omega)).trans (by omega))))) <| sS (.pointer (some ⟨g1, 0 + (32 + (k1 + 1)) * 1, none⟩)) (Quiet.pure (exec_atA 27 _ _ _ g1 0 _ (32 + (k1 + 1)) 1 .i64 rfl rfl rfl Tryz.underlying27 kF (by omega))) <| sS (bv (Y.getD (k1 + 1) 0)) (Quiet.cell 1 g1 (0 + (32 + (k1 + 1)) * 1) 27 5 ((X ++ Y).map bv).toArray _ _ rfl kR kR Tryz.underlying5 rfl _ ((key_sym (cat_length hX hY) (k := 32 + (k1 + 1)) (by omega) (by omega)).trans (congrArg (fun z => some (bv z)) (cat_get2 hX)))) ?_
  refine Sy.make kR 5 #[bv (Y.getD (k1 + 1) 0)] (fun g => .slice (some ⟨g, 0, none⟩) 1 1) kF (fun g12 => ?_)
  refine Sy.append kR 25 5 _ _ Tryz.underlying25 info_u8 rfl rfl rfl rfl _ _ rfl 3 y1.2.1.1 (k1 + 1) y1.2.1.2.1 ((Y.take k1).map bv ++ ([bv (Y.getD k1 0)] ++ y1.2.1.2.2)).toArray ((Y.take (k1 + 1)).map bv) kR kR (apd_take Y k1 hY y1.2.1.2.2 (by omega)) (apd_len Y k1 hY (by omega)) (apd_size Y k1 hY y1.2.1.2.2 hh1.2.1.1 (by omega)) hh1.2.1.2 6 g12 0 1 1 5 #[bv (Y.getD (k1 + 1) 0)] [bv (Y.getD (k1 + 1) 0)] kR kR kR rfl (by intro u hu; simp only [List.mem_cons, List.not_mem_nil, or_false] at hu; subst hu; rfl) (by omega) (fun q5 c5 s5 e5 m5 => ?_)
  refine sP (.slice (some ⟨q5, 0, none⟩) (k1 + 1 + 1) c5) ?_
  refine sG <| Sy.region ?_
  refine sP (.slice (some ⟨y1.2.2.1, 0, none⟩) (k1 + 1) y1.2.2.2.1) <| sP (.int .i64 ((k1 + 1 : Nat) : Int)) <| sS (.pointer (some ⟨g0, 0 + (k1 + 1) * 1, none⟩)) (Quiet.pure (exec_atA 31 _ _ _ g0 0 _ (k1 + 1) 1 .i64 rfl rfl rfl Tryz.underlying31 kF (by omega))) <| sS (bv (key.getD (k1 + 1) 0)) (Quiet.cell 0 g0 (0 + (k1 + 1) * 1) 31 5 (key.map bv).toArray _ _ rfl kR kR Tryz.underlying5 rfl _ (key_sym hkey (k := k1 + 1) (by omega) (by omega))) ?_
  refine Sy.make kR 5 #[bv (key.getD (k1 + 1) 0)] (fun g => .slice (some ⟨g, 0, none⟩) 1 1) kF (fun g13 => ?_)
  refine Sy.append kR 25 5 _ _ Tryz.underlying25 info_u8 rfl rfl rfl rfl _ _ rfl 4 y1.2.2.1 (k1 + 1) y1.2.2.2.1 ((key.take k1).map bv ++ ([bv (key.getD k1 0)] ++ y1.2.2.2.2)).toArray ((key.take (k1 + 1)).map bv) kR kR (apd_take key k1 hkey y1.2.2.2.2 (by omega)) (apd_len key k1 hkey (by omega)) (apd_size key k1 hkey y1.2.2.2.2 hh1.2.2.1 (by omega)) hh1.2.2.2 7 g13 0 1 1 5 #[bv (key.getD (k1 + 1) 0)] [bv (key.getD (k1 + 1) 0)] kR kR kR rfl (by intro u hu; simp only [List.mem_cons, List.not_mem_nil, or_false] at hu; subst hu; rfl) (by omega) (fun q6 c6 s6 e6 m6 => ?_)
  refine sP (.slice (some ⟨q6, 0, none⟩) (k1 + 1 + 1) c6) ?_
  refine Sy.nil <| Sy.in_ <| Sy.then_ <| Sy.region ?_
  refine sP (.int .i64 ((k1 + 1 : Nat) : Int)) <| sS (.int .i64 (((k1 + 1) + 1 : Nat) : Int)) (Quiet.pure (exec_int .add _ _ _ .i64 _ _ _ rfl rfl rfl (int_add _ _ _ _ _ ((wrap_i64 (by omega) (by omega)).trans (by omega))))) <| sP (.int .i64 (((k1 + 1) + 1 : Nat) : Int)) ?_
  refine Sy.nil ?_
  exact Sy.againX (((q4, c4, s4), (q5, c5, s5), (q6, c6, s6))) [true, true, true, true, true, false, false, false] (by omega) (⟨⟨e4, m4⟩, ⟨e5, m5⟩, e6, m6⟩) (all_cons kR (all_cons kR (all_cons kR (all_cons kR (all_cons kR (all_cons kR (all_cons kR all_nil))))))) kR
end Go.Proofs.YtfhcpdbahbbmaaaGreatDoor.Cu

end
section
namespace Go.Proofs.YtfhcpdbahbbmaaaGreatDoor.Cu
open Go.RowKit Go.Proofs.YtfhcpdbahbbmaaaGreatDoor Go.Proofs.YtfhcpdbahbbmaaaGreatDoor.Sy
set_option maxRecDepth 100000
set_option maxHeartbeats 4000000

theorem may_diff {N : Nat} {K : Nat → List UInt8} (h : ∀ a, a < N → a ≤ 16 → ∀ b, b < a → K b ≠ K a) (hN : N ≤ 16) : diffB N K = true := (diffB_iff N K).2 fun i j hij hj => h j hj (by omega) i hij
theorem may_no {T : Int} {N : Nat} {K : Nat → List UInt8} {i k : Nat} (hi : i < N) (hk : k < i) (e : K k = K i) : validB T N K = false := by
 unfold validB
 have : diffB N K = false := by
  cases h : diffB N K with
  | false => rfl
  | true => exact absurd e ((diffB_iff N K).1 h k i hk hi)
 rw [this, Bool.and_false]
theorem nxt_at (Z : Nat → Int) (k : Nat) : (k = 0 → nxt Z k = 0) ∧ (0 < k → nxt Z k = Z (k - 1) + 1) := by
 cases k with
 | zero => exact ⟨fun _ => rfl, fun h => absurd h (Nat.lt_irrefl _)⟩
 | succ k => exact ⟨fun h => absurd h (Nat.succ_ne_zero _), fun _ => rfl⟩
theorem verR_full (w : World) (key s : List UInt8) (hkey : key.length = 32) (hs64 : s.length = 64) (X : Option Addr) (m : List UInt8) (n e : Nat) (hn : m.length = n) (hm : n ≤ 999999900) (he : n ≤ e) (he2 : e ≤ 9223372036854775807) (hs : Sh.Src w X m) (htr : Sh.TabAt w 0) : Calls Tryz.prog 19 #[.agg (key.map bv).toArray, .slice X n e, .agg (s.map bv).toArray] w (Gets w (.bool (verB key m s))) := by
 have h1 : (s.take 32).length = 32 := by rw [List.length_take]; omega
 have h2 : (s.drop 32).length = 32 := by rw [List.length_drop]; omega
 have q := verR_any w key (s.take 32) (s.drop 32) hkey h1 h2 X m n e hn hm he he2 hs htr
 rw [refC_is key m _ _ h1 h2, ref_ver key m _ (by rw [List.length_append]; omega), List.take_append_drop] at q
 exact q
theorem may_any (w : World) (T : Int) (A : Option Addr) (N c : Nat) (K : Nat → List UInt8) (hK : ∀ i, (K i).length = 32) (hN : N ≤ 4611686018427387904) (hlk : Lst w 32 A N (fun i => (K i).map bv)) : Calls Tryz.prog 18 #[.agg #[.int .i64 T, .slice A N c]] w (Gets w (.bool (validB T N K))) := by
 obtain ⟨gK, oK, hT⟩ := hlk
 refine Sy.enter (args := [.agg #[.int .i64 T, .slice A N c]]) Tryz.func18 rfl kL ?_
 refine sC ?_
 refine sM 38 #[.int .i64 T, .slice A N c] (fun g0 => ?_)
 refine sP (.bool false) ?_
 refine sG <| Sy.seq <| sC ?_
 refine sP (.int .i64 0) ?_
 refine sG <| Sy.block ?_
 refine Sy.loopH N (fun k1 => ∀ a, a < k1 → a ≤ 16 → ∀ b, b < a → K b ≠ K a) (fun k1 => [(1, .pointer (some ⟨g0, 0, none⟩)), (3, .int .i64 ((k1 : Nat) : Int))]) (fun k1 => [(g0, 38, #[.int .i64 T, .slice A N c])]) [true] (M := [(g0, 38, #[.int .i64 T, .slice A N c])]) (fun a ha => absurd ha (Nat.not_lt_zero _)) (all_cons kR (all_cons kR all_nil)) kR (bcons rfl rfl) (fun k1 hk1 hh => ?_)
 have hh1 := hh
 refine Sy.seq <| sC ?_
 refine sP (.int .i64 ((k1 : Nat) : Int)) <| sP (.pointer (some ⟨g0, 1, none⟩)) <| sS (.slice A N c) (Quiet.cell 0 g0 1 38 36 #[.int .i64 T, .slice A N c] _ _ rfl kR kR Tryz.underlying36 rfl _ kR) <| sP (.int .i64 ((N : Nat) : Int)) ?_
 obtain ⟨b1, hb1⟩ : ∃ z : Bool, z = decide (k1 < N) := ⟨_, rfl⟩
 refine sS (.bool b1) (Quiet.pure (exec_int .lss _ _ _ .i64 _ _ _ rfl rfl rfl (int_lss _ _ _ _ _ (by rw [hb1]; exact decide_eq_decide.2 (by omega))))) ?_
 refine sG ?_
 cases b1
 ·have lb1 : ¬ (k1 < N) := of_decide_eq_false hb1.symm
  refine sU <| Sy.exit <| Sy.then_exit <| Sy.then_exit ?_
  obtain rfl : N = k1 := by omega
  refine Sy.in_exit <| sB ?_
  refine sP (.pointer (some ⟨g0, 0, none⟩)) <| sS (.int .i64 T) (qC 0 g0 0 38 3 #[.int .i64 T, .slice A N c] rfl Tryz.underlying3) ?_
  obtain ⟨b2, hb2⟩ : ∃ z : Bool, z = decide (T ≥ 1) := ⟨_, rfl⟩
  refine sS (.bool b2) (Quiet.pure (exec_int .geq _ _ _ .i64 _ _ _ rfl rfl rfl (int_geq _ _ _ _ _ hb2.symm))) <| sP (.bool b2) ?_
  cases b2
  ·have lb2 : ¬ (T ≥ 1) := of_decide_eq_false hb2.symm
   refine sN <| sN <| sN <| sN <| sN <| sN ?_
   refine sP (.bool false) <| sP (.bool false) ?_
   refine sN <| sN <| sN <| sN ?_
   refine sP (.bool false) <| sP (.bool false) ?_
   refine sG <| Sy.ret ?_
   rw [show (.bool (validB T N K) : Value) = .bool false from by unfold validB; simp only [show decide (T ≥ 1) = false from decide_eq_false lb2]; rfl]
   exact rV (.bool false) rfl
  ·have lb2 : T ≥ 1 := of_decide_eq_true hb2.symm
   refine sP (.pointer (some ⟨g0, 0, none⟩)) <| sS (.int .i64 T) (qC 0 g0 0 38 3 #[.int .i64 T, .slice A N c] rfl Tryz.underlying3) <| sP (.pointer (some ⟨g0, 1, none⟩)) <| sS (.slice A N c) (Quiet.cell 0 g0 1 38 36 #[.int .i64 T, .slice A N c] _ _ rfl kR kR Tryz.underlying36 rfl _ kR) <| sP (.int .i64 ((N : Nat) : Int)) ?_
   obtain ⟨b3, hb3⟩ : ∃ z : Bool, z = decide (T ≤ ((N : Nat) : Int)) := ⟨_, rfl⟩
   refine sS (.bool b3) (Quiet.pure (exec_int .leq _ _ _ .i64 _ _ _ rfl rfl rfl (int_leq _ _ _ _ _ hb3.symm))) <| sP (.bool b3) <| sP (.bool b3) ?_
   cases b3
   ·have lb3 : ¬ (T ≤ ((N : Nat) : Int)) := of_decide_eq_false hb3.symm
    refine sN <| sN <| sN <| sN ?_
    refine sP (.bool false) <| sP (.bool false) ?_
    refine sG <| Sy.ret ?_
    rw [show (.bool (validB T N K) : Value) = .bool false from by unfold validB; simp only [show decide (T ≥ 1) = true from decide_eq_true lb2, show decide (T ≤ (N : Int)) = false from decide_eq_false lb3]; rfl]
    exact rV (.bool false) rfl
   ·have lb3 : T ≤ ((N : Nat) : Int) := of_decide_eq_true hb3.symm
    refine sP (.pointer (some ⟨g0, 1, none⟩)) <| sS (.slice A N c) (Quiet.cell 0 g0 1 38 36 #[.int .i64 T, .slice A N c] _ _ rfl kR kR Tryz.underlying36 rfl _ kR) <| sP (.int .i64 ((N : Nat) : Int)) ?_
    obtain ⟨b4, hb4⟩ : ∃ z : Bool, z = decide (N ≤ 16) := ⟨_, rfl⟩
    refine sS (.bool b4) (Quiet.pure (exec_int .leq _ _ _ .i64 _ _ _ rfl rfl rfl (int_leq _ _ _ _ _ (by rw [hb4]; exact decide_eq_decide.2 (by omega))))) <| sP (.bool b4) <| sP (.bool b4) ?_
    refine sG <| Sy.ret ?_
    rw [show (.bool (validB T N K) : Value) = .bool b4 from by unfold validB; rw [show decide (T ≥ 1) = true from decide_eq_true lb2, show decide (T ≤ (N : Int)) = true from decide_eq_true lb3, ← hb4]; cases b4 with | false => rfl | true => (rw [may_diff hh1 (of_decide_eq_true hb4.symm)]; rfl)]
    exact rV (.bool b4) rfl
 ·have lb1 : k1 < N := of_decide_eq_true hb1.symm
  refine sT <| Sy.skip <| Sy.then_ <| Sy.seq <| Sy.block <| sC ?_
  refine sP (.int .i64 0) ?_
  refine sG <| Sy.block ?_
  refine Sy.loopH k1 (fun k2 => ∀ b, b < k2 → K b ≠ K k1) (fun k2 => [(1, .pointer (some ⟨g0, 0, none⟩)), (3, .int .i64 ((k1 : Nat) : Int)), (4, .int .i64 ((k2 : Nat) : Int))]) (fun k2 => [(g0, 38, #[.int .i64 T, .slice A N c])]) [true] (M := [(g0, 38, #[.int .i64 T, .slice A N c])]) (fun b hb => absurd hb (Nat.not_lt_zero _)) (all_cons kR (all_cons kR (all_cons kR all_nil))) kR (bcons rfl rfl) (fun k2 hk2 hh => ?_)
  have hh2 := hh
  refine Sy.seq <| sC ?_
  refine sP (.int .i64 ((k2 : Nat) : Int)) <| sP (.int .i64 ((k1 : Nat) : Int)) ?_
  obtain ⟨b5, hb5⟩ : ∃ z : Bool, z = decide (k2 < k1) := ⟨_, rfl⟩
  refine sS (.bool b5) (Quiet.pure (exec_int .lss _ _ _ .i64 _ _ _ rfl rfl rfl (int_lss _ _ _ _ _ (by rw [hb5]; exact decide_eq_decide.2 (by omega))))) <| sP (.bool b5) ?_
  cases b5
  ·have lb5 : ¬ (k2 < k1) := of_decide_eq_false hb5.symm
   refine sN <| sN ?_
   refine sP (.bool false) ?_
   refine sG <| sU <| Sy.exit <| Sy.then_exit <| Sy.then_exit ?_
   have hin : k1 ≤ 16 → ∀ b, b < k1 → K b ≠ K k1 := fun h b hb => hh2 b (by omega)
   refine Sy.in_exit <| Sy.in_ <| Sy.then_ <| Sy.region ?_
   refine sP (.int .i64 ((k1 : Nat) : Int)) <| sS (.int .i64 ((k1 + 1 : Nat) : Int)) (Quiet.pure (exec_int .add _ _ _ .i64 _ _ _ rfl rfl rfl (int_add _ _ _ _ _ ((wrap_i64 (by omega) (by omega)).trans (by omega))))) <| sP (.int .i64 ((k1 + 1 : Nat) : Int)) ?_
   refine Sy.nil ?_
   exact Sy.againH [true] (M := [(g0, 38, #[.int .i64 T, .slice A N c])]) (by omega) (fun a ha h16 => (Nat.lt_succ_iff_lt_or_eq.1 ha).elim (fun h => hh1 a h h16) (fun h => by rw [h] at h16 ⊢; exact hin h16)) (all_cons kR (all_cons kR all_nil)) kR (bcons rfl rfl)
  ·have lb5 : k2 < k1 := of_decide_eq_true hb5.symm
   refine sP (.int .i64 ((k1 : Nat) : Int)) ?_
   obtain ⟨b6, hb6⟩ : ∃ z : Bool, z = decide (k1 ≤ 16) := ⟨_, rfl⟩
   refine sS (.bool b6) (Quiet.pure (exec_int .leq _ _ _ .i64 _ _ _ rfl rfl rfl (int_leq _ _ _ _ _ (by rw [hb6]; exact decide_eq_decide.2 (by omega))))) <| sP (.bool b6) ?_
   refine sG ?_
   cases b6
   ·have lb6 : ¬ (k1 ≤ 16) := of_decide_eq_false hb6.symm
    refine sU <| Sy.exit <| Sy.then_exit <| Sy.then_exit ?_
    have hin : k1 ≤ 16 → ∀ b, b < k1 → K b ≠ K k1 := fun h b hb => hh2 b (by omega)
    refine Sy.in_exit <| Sy.in_ <| Sy.then_ <| Sy.region ?_
    refine sP (.int .i64 ((k1 : Nat) : Int)) <| sS (.int .i64 ((k1 + 1 : Nat) : Int)) (Quiet.pure (exec_int .add _ _ _ .i64 _ _ _ rfl rfl rfl (int_add _ _ _ _ _ ((wrap_i64 (by omega) (by omega)).trans (by omega))))) <| sP (.int .i64 ((k1 + 1 : Nat) : Int)) ?_
    refine Sy.nil ?_
    exact Sy.againH [true] (M := [(g0, 38, #[.int .i64 T, .slice A N c])]) (by omega) (fun a ha h16 => (Nat.lt_succ_iff_lt_or_eq.1 ha).elim (fun h => hh1 a h h16) (fun h => by rw [h] at h16 ⊢; exact hin h16)) (all_cons kR (all_cons kR all_nil)) kR (bcons rfl rfl)
   ·have lb6 : k1 ≤ 16 := of_decide_eq_true hb6.symm
    refine sT <| Sy.skip <| Sy.then_ <| Sy.seq <| Sy.block <| Sy.seq ?_
    refine Sy.regionD (fun j => false) kR ?_
    refine sZ 0 rfl (.pointer (some ⟨g0, 1, none⟩)) <| sD 1 rfl (.slice A N c) (Quiet.cell 0 g0 1 38 36 #[.int .i64 T, .slice A N c] _ _ rfl kR kR Tryz.underlying36 rfl _ kR) <| sZ 2 rfl (.int .i64 ((k2 : Nat) : Int)) <| sD 3 rfl (.pointer (some ⟨gK, oK + k2 * 32, none⟩)) (Quiet.pure (exec_atO 36 _ _ _ A gK oK N c k2 32 .i64 (hT (by omega)).1 rfl rfl rfl Tryz.underlying36 kF (by omega))) <| sD 4 rfl (.agg ((K k2).map bv).toArray) (Quiet.there gK (oK + k2 * 32) 32 31 ((K k2).map bv) _ _ rfl kR (hT (by omega)).2.1 ((hT (by omega)).2.2 k2 (by omega)) Tryz.underlying31 rfl kR ((List.length_map ..).trans (hK _)) _ rfl) <| sZ 5 rfl (.pointer (some ⟨g0, 1, none⟩)) <| sD 6 rfl (.slice A N c) (Quiet.cell 0 g0 1 38 36 #[.int .i64 T, .slice A N c] _ _ rfl kR kR Tryz.underlying36 rfl _ kR) <| sZ 7 rfl (.int .i64 ((k1 : Nat) : Int)) ?_
    refine sD 8 rfl (.pointer (some ⟨gK, oK + k1 * 32, none⟩)) (Quiet.pure (exec_atO 36 _ _ _ A gK oK N c k1 32 .i64 (hT (by omega)).1 rfl rfl rfl Tryz.underlying36 kF (by omega))) <| sD 9 rfl (.agg ((K k1).map bv).toArray) (Quiet.there gK (oK + k1 * 32) 32 31 ((K k1).map bv) _ _ rfl kR (hT (by omega)).2.1 ((hT (by omega)).2.2 k1 (by omega)) Tryz.underlying31 rfl kR ((List.length_map ..).trans (hK _)) _ rfl) ?_
    obtain ⟨b7, hb7⟩ : ∃ z : Bool, z = decide ((K k2) = (K k1)) := ⟨_, rfl⟩
    refine sD 10 rfl (.bool b7) (Quiet.pure (fun w => by rw [hb7]; exact eql_key w _ _ _ _ (K k2) (K k1) (hK _) (hK _) rfl rfl rfl)) ?_
    refine sI ?_
    cases b7
    ·have lb7 : ¬ ((K k2) = (K k1)) := of_decide_eq_false hb7.symm
     refine sU <| Sy.skip <| Sy.in_ <| Sy.then_ <| Sy.region ?_
     refine sP (.int .i64 ((k2 : Nat) : Int)) <| sS (.int .i64 ((k2 + 1 : Nat) : Int)) (Quiet.pure (exec_int .add _ _ _ .i64 _ _ _ rfl rfl rfl (int_add _ _ _ _ _ ((wrap_i64 (by omega) (by omega)).trans (by omega))))) <| sP (.int .i64 ((k2 + 1 : Nat) : Int)) ?_
     refine Sy.nil ?_
     exact Sy.againH [true] (M := [(g0, 38, #[.int .i64 T, .slice A N c])]) (by omega) (fun b hb => (Nat.lt_succ_iff_lt_or_eq.1 hb).elim (hh2 b) (fun h => by rw [h]; exact lb7)) (all_cons kR (all_cons kR (all_cons kR all_nil))) kR (bcons rfl rfl)
    ·have lb7 : (K k2) = (K k1) := of_decide_eq_true hb7.symm
     refine sT <| sC ?_
     refine sP (.bool false) ?_
     refine sG <| Sy.ret <| Sy.in_ret <| Sy.then_ret <| Sy.then_ret <| Sy.in_ret <| Sy.in_ret <| Sy.then_ret <| Sy.then_ret <| Sy.in_ret <| Sy.then_ret ?_
     rw [show (.bool (validB T N K) : Value) = .bool false from by rw [may_no lb1 lb5 lb7]]
     exact rV (.bool false) rfl
theorem enR_any (w : World) (T : Int) (A : Option Addr) (N c : Nat) (K : Nat → List UInt8) (hK : ∀ i, (K i).length = 32) (hN : N ≤ 4611686018427387904) (hlk : Lst w 32 A N (fun i => (K i).map bv)) (B : Option Addr) (M d : Nat) (Z : Nat → Int) (S : Nat → List UInt8) (hS : ∀ i, (S i).length = 64) (hZ : ∀ i, -9223372036854775808 ≤ Z i ∧ Z i < 9223372036854775808) (hM : M ≤ 4611686018427387904) (hls : Lst w 65 B M (fun i => sgc (Z i) (S i))) (X : Option Addr) (m : List UInt8) (n e : Nat) (hn : m.length = n) (hm : n ≤ 999999900) (he : n ≤ e) (he2 : e ≤ 9223372036854775807) (hs : Sh.Src w X m) (htr : Sh.TabAt w 0) : Calls Tryz.prog 17 #[.agg #[.int .i64 T, .slice A N c], .slice X n e, .slice B M d] w (Gets w (.bool (enB m T N K M Z S))) := by
 have hlk0 := hlk
 obtain ⟨gK, oK, hT⟩ := hlk
 obtain ⟨gS, oS, hU⟩ := hls
 refine Sy.enter (args := [.agg #[.int .i64 T, .slice A N c], .slice X n e, .slice B M d]) Tryz.func17 rfl kL ?_
 refine sC ?_
 refine sM 38 #[.int .i64 T, .slice A N c] (fun g0 => ?_)
 refine sP (.bool false) ?_
 refine sA ?_
 refine sS (.agg #[.int .i64 T, .slice A N c]) (qL 0 g0 0 2 38 38 #[.int .i64 T, .slice A N c] rfl Tryz.underlying38) ?_
 obtain ⟨b1, hb1⟩ : ∃ z : Bool, z = validB T N K := ⟨_, rfl⟩
 refine sS (.bool b1) (qG 18 #[.agg #[.int .i64 T, .slice A N c]] (fun w hw => by rw [hb1]; exact may_any w T A N c K hK hN (hlk0.below hw.below))) <| sP (.bool b1) ?_
 refine sG <| Sy.seq <| sC ?_
 refine sP (.bool b1) ?_
 cases b1
 ·refine sP (.bool true) <| sP (.bool true) ?_
  refine sN <| sN <| sN <| sN <| sN ?_
  refine sP (.bool true) ?_
  refine sG <| sT <| sC ?_
  refine sP (.bool false) ?_
  refine sG <| Sy.ret <| Sy.then_ret ?_
  rw [show (.bool (enB m T N K M Z S) : Value) = .bool false from by rw [en_bad hb1.symm]]
  exact rV (.bool false) rfl
 ·refine sP (.bool false) <| sP (.bool false) <| sP (.slice B M d) <| sP (.int .i64 ((M : Nat) : Int)) <| sP (.pointer (some ⟨g0, 0, none⟩)) <| sS (.int .i64 T) (qC 0 g0 0 38 3 #[.int .i64 T, .slice A N c] rfl Tryz.underlying3) ?_
  obtain ⟨b2, hb2⟩ : ∃ z : Bool, z = decide (((M : Nat) : Int) < T) := ⟨_, rfl⟩
  refine sS (.bool b2) (Quiet.pure (exec_int .lss _ _ _ .i64 _ _ _ rfl rfl rfl (int_lss _ _ _ _ _ hb2.symm))) <| sP (.bool b2) ?_
  refine sG ?_
  cases b2
  ·have lb2 : ¬ (((M : Nat) : Int) < T) := of_decide_eq_false hb2.symm
   refine sU <| Sy.skip <| Sy.then_ <| Sy.seq <| sC ?_
   refine sP (.int .i64 0) ?_
   refine sG <| Sy.block ?_
   refine Sy.loopH M (fun k1 => ∀ j, j < k1 → okS m N K Z S j = true) (fun k1 => [(1, .slice X n e), (2, .slice B M d), (3, .pointer (some ⟨g0, 0, none⟩)), (8, .int .i64 ((k1 : Nat) : Int))]) (fun k1 => [(g0, 38, #[.int .i64 T, .slice A N c])]) [true] (M := [(g0, 38, #[.int .i64 T, .slice A N c])]) (fun j hj => absurd hj (Nat.not_lt_zero _)) (all_cons kR (all_cons kR (all_cons kR (all_cons kR all_nil)))) kR (bcons rfl rfl) (fun k1 hk1 hh => ?_)
   have hh1 := hh
   have hz := hZ k1
   have hnp := nxt_pos hh1 k1 (Nat.le_refl _)
   obtain ⟨hn0, hn1⟩ := nxt_at Z k1
   refine Sy.seq <| sC ?_
   refine sP (.int .i64 ((k1 : Nat) : Int)) <| sP (.slice B M d) <| sP (.int .i64 ((M : Nat) : Int)) ?_
   obtain ⟨b3, hb3⟩ : ∃ z : Bool, z = decide (k1 < M) := ⟨_, rfl⟩
   refine sS (.bool b3) (Quiet.pure (exec_int .lss _ _ _ .i64 _ _ _ rfl rfl rfl (int_lss _ _ _ _ _ (by rw [hb3]; exact decide_eq_decide.2 (by omega))))) ?_
   refine sG ?_
   cases b3
   ·have lb3 : ¬ (k1 < M) := of_decide_eq_false hb3.symm
    refine sU <| Sy.exit <| Sy.then_exit <| Sy.then_exit ?_
    obtain rfl : M = k1 := by omega
    refine Sy.in_exit <| sB ?_
    refine sP (.bool true) ?_
    refine sG <| Sy.ret ?_
    rw [show (.bool (enB m T N K M Z S) : Value) = .bool true from by rw [en_yes hb1.symm lb2 hh1]]
    exact rV (.bool true) rfl
   ·have lb3 : k1 < M := of_decide_eq_true hb3.symm
    refine sT <| Sy.skip <| Sy.then_ <| Sy.seq <| Sy.block <| Sy.seq <| Sy.seq ?_
    refine Sy.regionD (fun j => false) kR ?_
    refine sZ 0 rfl (.slice B M d) <| sZ 1 rfl (.int .i64 ((k1 : Nat) : Int)) <| sD 2 rfl (.pointer (some ⟨gS, oS + k1 * 65, none⟩)) (Quiet.pure (exec_atO 39 _ _ _ B gS oS M d k1 65 .i64 (hU (by omega)).1 rfl rfl rfl Tryz.underlying39 kF (by omega))) <| sZ 3 rfl (.pointer (some ⟨gS, oS + k1 * 65 + 0, none⟩)) <| sD 4 rfl (.int .i64 (Z k1)) (Quiet.thereOne gS (oS + k1 * 65 + 0) 3 _ _ rfl kR (hU (by omega)).2.1 _ (range_one ((hU (by omega)).2.2 k1 (by omega)) 0 rfl) Tryz.underlying3 rfl) ?_
    obtain ⟨b4, hb4⟩ : ∃ z : Bool, z = decide ((Z k1) < 0) := ⟨_, rfl⟩
    refine sD 5 rfl (.bool b4) (Quiet.pure (exec_int .lss _ _ _ .i64 _ _ _ rfl rfl rfl (int_lss _ _ _ _ _ hb4.symm))) <| sZ 6 rfl (.bool b4) ?_
    cases b4
    ·have lb4 : ¬ ((Z k1) < 0) := of_decide_eq_false hb4.symm
     refine sZ 7 rfl (.slice B M d) <| sZ 8 rfl (.int .i64 ((k1 : Nat) : Int)) <| sD 9 rfl (.pointer (some ⟨gS, oS + k1 * 65, none⟩)) (Quiet.pure (exec_atO 39 _ _ _ B gS oS M d k1 65 .i64 (hU (by omega)).1 rfl rfl rfl Tryz.underlying39 kF (by omega))) <| sZ 10 rfl (.pointer (some ⟨gS, oS + k1 * 65 + 0, none⟩)) <| sD 11 rfl (.int .i64 (Z k1)) (Quiet.thereOne gS (oS + k1 * 65 + 0) 3 _ _ rfl kR (hU (by omega)).2.1 _ (range_one ((hU (by omega)).2.2 k1 (by omega)) 0 rfl) Tryz.underlying3 rfl) <| sZ 12 rfl (.pointer (some ⟨g0, 1, none⟩)) <| sD 13 rfl (.slice A N c) (Quiet.cell 0 g0 1 38 36 #[.int .i64 T, .slice A N c] _ _ rfl kR kR Tryz.underlying36 rfl _ kR) <| sZ 14 rfl (.int .i64 ((N : Nat) : Int)) ?_
     obtain ⟨b5, hb5⟩ : ∃ z : Bool, z = decide ((Z k1) ≥ ((N : Nat) : Int)) := ⟨_, rfl⟩
     refine sD 15 rfl (.bool b5) (Quiet.pure (exec_int .geq _ _ _ .i64 _ _ _ rfl rfl rfl (int_geq _ _ _ _ _ hb5.symm))) <| sZ 16 rfl (.bool b5) <| sZ 17 rfl (.bool b5) ?_
     cases b5
     ·have lb5 : ¬ ((Z k1) ≥ ((N : Nat) : Int)) := of_decide_eq_false hb5.symm
      refine sZ 18 rfl (.int .i64 ((k1 : Nat) : Int)) ?_
      obtain ⟨b6, hb6⟩ : ∃ z : Bool, z = decide (k1 > 0) := ⟨_, rfl⟩
      refine sD 19 rfl (.bool b6) (Quiet.pure (exec_int .gtr _ _ _ .i64 _ _ _ rfl rfl rfl (int_gtr _ _ _ _ _ (by rw [hb6]; exact decide_eq_decide.2 (by omega))))) <| sZ 20 rfl (.bool b6) ?_
      cases b6
      ·have lb6 : ¬ (k1 > 0) := of_decide_eq_false hb6.symm
       refine sQ 21 rfl <| sQ 22 rfl <| sQ 23 rfl <| sQ 24 rfl <| sQ 25 rfl <| sQ 26 rfl <| sQ 27 rfl <| sQ 28 rfl ?_
       refine sQ 29 rfl <| sQ 30 rfl <| sQ 31 rfl <| sQ 32 rfl <| sZ 33 rfl (.bool false) <| sZ 34 rfl (.bool false) ?_
       refine sI ?_
       refine sU <| Sy.skip ?_
       refine sR (fun j => false) ?_
       refine sZ 0 rfl (.pointer (some ⟨g0, 1, none⟩)) <| sD 1 rfl (.slice A N c) (Quiet.cell 0 g0 1 38 36 #[.int .i64 T, .slice A N c] _ _ rfl kR kR Tryz.underlying36 rfl _ kR) <| sZ 2 rfl (.slice B M d) <| sZ 3 rfl (.int .i64 ((k1 : Nat) : Int)) <| sD 4 rfl (.pointer (some ⟨gS, oS + k1 * 65, none⟩)) (Quiet.pure (exec_atO 39 _ _ _ B gS oS M d k1 65 .i64 (hU (by omega)).1 rfl rfl rfl Tryz.underlying39 kF (by omega))) <| sZ 5 rfl (.pointer (some ⟨gS, oS + k1 * 65 + 0, none⟩)) <| sD 6 rfl (.int .i64 (Z k1)) (Quiet.thereOne gS (oS + k1 * 65 + 0) 3 _ _ rfl kR (hU (by omega)).2.1 _ (range_one ((hU (by omega)).2.2 k1 (by omega)) 0 rfl) Tryz.underlying3 rfl) ?_
       obtain ⟨q1, hq1⟩ : ∃ q : Nat, (Z k1) = (q : Int) := ⟨((Z k1)).toNat, by omega⟩
       refine sD 7 rfl (.pointer (some ⟨gK, oK + q1 * 32, none⟩)) (Quiet.pure (exec_atO 36 _ _ _ A gK oK N c q1 32 .i64 (hT (by omega)).1 rfl rfl (show Value.int .i64 (Z k1) = .int .i64 ((q1 : Nat) : Int) from by rw [hq1]) Tryz.underlying36 kF (by omega))) <| sD 8 rfl (.agg ((K q1).map bv).toArray) (Quiet.there gK (oK + q1 * 32) 32 31 ((K q1).map bv) _ _ rfl kR (hT (by omega)).2.1 ((hT (by omega)).2.2 q1 (by omega)) Tryz.underlying31 rfl kR ((List.length_map ..).trans (hK _)) _ rfl) <| sZ 9 rfl (.slice X n e) <| sZ 10 rfl (.slice B M d) <| sZ 11 rfl (.int .i64 ((k1 : Nat) : Int)) <| sD 12 rfl (.pointer (some ⟨gS, oS + k1 * 65, none⟩)) (Quiet.pure (exec_atO 39 _ _ _ B gS oS M d k1 65 .i64 (hU (by omega)).1 rfl rfl rfl Tryz.underlying39 kF (by omega))) <| sZ 13 rfl (.pointer (some ⟨gS, oS + k1 * 65 + 1, none⟩)) <| sD 14 rfl (.agg ((S k1).map bv).toArray) (Quiet.there gS (oS + k1 * 65 + 1) 64 27 ((S k1).map bv) _ _ rfl kR (hU (by omega)).2.1 (range_sub ((hU (by omega)).2.2 k1 (by omega)) 1 (sgc_sub _ _)) Tryz.underlying27 rfl kR ((List.length_map ..).trans (hS _)) _ rfl) ?_
       obtain ⟨b7, hb7⟩ : ∃ z : Bool, z = verB (K q1) m (S k1) := ⟨_, rfl⟩
       refine sD 15 rfl (.bool b7) (qG 19 #[.agg ((K q1).map bv).toArray, .slice X n e, .agg ((S k1).map bv).toArray] (fun w hw => by rw [hb7]; exact verR_full w (K q1) (S k1) (hK _) (hS _) X m n e hn hm he he2 (hs.below hw.below) (htr.below hw.below htr.lt))) <| sZ 16 rfl (.bool b7) ?_
       refine sE ?_
       refine sB ?_
       refine sP (.bool b7) ?_
       cases b7
       ·refine sP (.bool true) ?_
        refine sG <| sT <| sC ?_
        refine sP (.bool false) ?_
        refine sG <| Sy.ret <| Sy.in_ret <| Sy.then_ret <| Sy.then_ret <| Sy.in_ret <| Sy.then_ret ?_
        rw [show (.bool (enB m T N K M Z S) : Value) = .bool false from by rw [en_no lb3 ((ok_ver (by omega) lb5 hq1).trans hb7.symm)]]
        exact rV (.bool false) rfl
       ·have hok : okS m N K Z S k1 = true := (ok_ver (by omega) lb5 hq1).trans hb7.symm
        refine sP (.bool false) ?_
        refine sG <| sU <| Sy.skip <| Sy.in_ <| Sy.then_ <| Sy.region ?_
        refine sP (.int .i64 ((k1 : Nat) : Int)) <| sS (.int .i64 ((k1 + 1 : Nat) : Int)) (Quiet.pure (exec_int .add _ _ _ .i64 _ _ _ rfl rfl rfl (int_add _ _ _ _ _ ((wrap_i64 (by omega) (by omega)).trans (by omega))))) <| sP (.int .i64 ((k1 + 1 : Nat) : Int)) ?_
        refine Sy.nil ?_
        exact Sy.againH [true] (M := [(g0, 38, #[.int .i64 T, .slice A N c])]) (by omega) (fun j hj => (Nat.lt_succ_iff_lt_or_eq.1 hj).elim (hh1 j) (fun h => by rw [h]; exact hok)) (all_cons kR (all_cons kR (all_cons kR (all_cons kR all_nil)))) kR (bcons rfl rfl)
      ·have lb6 : k1 > 0 := of_decide_eq_true hb6.symm
       refine sZ 21 rfl (.slice B M d) <| sZ 22 rfl (.int .i64 ((k1 : Nat) : Int)) <| sD 23 rfl (.pointer (some ⟨gS, oS + k1 * 65, none⟩)) (Quiet.pure (exec_atO 39 _ _ _ B gS oS M d k1 65 .i64 (hU (by omega)).1 rfl rfl rfl Tryz.underlying39 kF (by omega))) <| sZ 24 rfl (.pointer (some ⟨gS, oS + k1 * 65 + 0, none⟩)) <| sD 25 rfl (.int .i64 (Z k1)) (Quiet.thereOne gS (oS + k1 * 65 + 0) 3 _ _ rfl kR (hU (by omega)).2.1 _ (range_one ((hU (by omega)).2.2 k1 (by omega)) 0 rfl) Tryz.underlying3 rfl) <| sZ 26 rfl (.slice B M d) <| sZ 27 rfl (.int .i64 ((k1 : Nat) : Int)) <| sD 28 rfl (.int .i64 ((k1 - 1 : Nat) : Int)) (Quiet.pure (exec_int .sub _ _ _ .i64 _ _ _ rfl rfl rfl (int_sub _ _ _ _ _ ((wrap_i64 (by omega) (by omega)).trans (by omega))))) ?_
       refine sD 29 rfl (.pointer (some ⟨gS, oS + (k1 - 1) * 65, none⟩)) (Quiet.pure (exec_atO 39 _ _ _ B gS oS M d (k1 - 1) 65 .i64 (hU (by omega)).1 rfl rfl rfl Tryz.underlying39 kF (by omega))) <| sZ 30 rfl (.pointer (some ⟨gS, oS + (k1 - 1) * 65 + 0, none⟩)) <| sD 31 rfl (.int .i64 (Z (k1 - 1))) (Quiet.thereOne gS (oS + (k1 - 1) * 65 + 0) 3 _ _ rfl kR (hU (by omega)).2.1 _ (range_one ((hU (by omega)).2.2 (k1 - 1) (by omega)) 0 rfl) Tryz.underlying3 rfl) ?_
       obtain ⟨b8, hb8⟩ : ∃ z : Bool, z = decide ((Z k1) ≤ (Z (k1 - 1))) := ⟨_, rfl⟩
       refine sD 32 rfl (.bool b8) (Quiet.pure (exec_int .leq _ _ _ .i64 _ _ _ rfl rfl rfl (int_leq _ _ _ _ _ hb8.symm))) <| sZ 33 rfl (.bool b8) <| sZ 34 rfl (.bool b8) ?_
       refine sI ?_
       cases b8
       ·have lb8 : ¬ ((Z k1) ≤ (Z (k1 - 1))) := of_decide_eq_false hb8.symm
        refine sU <| Sy.skip ?_
        refine sR (fun j => false) ?_
        refine sZ 0 rfl (.pointer (some ⟨g0, 1, none⟩)) <| sD 1 rfl (.slice A N c) (Quiet.cell 0 g0 1 38 36 #[.int .i64 T, .slice A N c] _ _ rfl kR kR Tryz.underlying36 rfl _ kR) <| sZ 2 rfl (.slice B M d) <| sZ 3 rfl (.int .i64 ((k1 : Nat) : Int)) <| sD 4 rfl (.pointer (some ⟨gS, oS + k1 * 65, none⟩)) (Quiet.pure (exec_atO 39 _ _ _ B gS oS M d k1 65 .i64 (hU (by omega)).1 rfl rfl rfl Tryz.underlying39 kF (by omega))) <| sZ 5 rfl (.pointer (some ⟨gS, oS + k1 * 65 + 0, none⟩)) <| sD 6 rfl (.int .i64 (Z k1)) (Quiet.thereOne gS (oS + k1 * 65 + 0) 3 _ _ rfl kR (hU (by omega)).2.1 _ (range_one ((hU (by omega)).2.2 k1 (by omega)) 0 rfl) Tryz.underlying3 rfl) ?_
        obtain ⟨q2, hq2⟩ : ∃ q : Nat, (Z k1) = (q : Int) := ⟨((Z k1)).toNat, by omega⟩
        refine sD 7 rfl (.pointer (some ⟨gK, oK + q2 * 32, none⟩)) (Quiet.pure (exec_atO 36 _ _ _ A gK oK N c q2 32 .i64 (hT (by omega)).1 rfl rfl (show Value.int .i64 (Z k1) = .int .i64 ((q2 : Nat) : Int) from by rw [hq2]) Tryz.underlying36 kF (by omega))) <| sD 8 rfl (.agg ((K q2).map bv).toArray) (Quiet.there gK (oK + q2 * 32) 32 31 ((K q2).map bv) _ _ rfl kR (hT (by omega)).2.1 ((hT (by omega)).2.2 q2 (by omega)) Tryz.underlying31 rfl kR ((List.length_map ..).trans (hK _)) _ rfl) <| sZ 9 rfl (.slice X n e) <| sZ 10 rfl (.slice B M d) <| sZ 11 rfl (.int .i64 ((k1 : Nat) : Int)) <| sD 12 rfl (.pointer (some ⟨gS, oS + k1 * 65, none⟩)) (Quiet.pure (exec_atO 39 _ _ _ B gS oS M d k1 65 .i64 (hU (by omega)).1 rfl rfl rfl Tryz.underlying39 kF (by omega))) <| sZ 13 rfl (.pointer (some ⟨gS, oS + k1 * 65 + 1, none⟩)) <| sD 14 rfl (.agg ((S k1).map bv).toArray) (Quiet.there gS (oS + k1 * 65 + 1) 64 27 ((S k1).map bv) _ _ rfl kR (hU (by omega)).2.1 (range_sub ((hU (by omega)).2.2 k1 (by omega)) 1 (sgc_sub _ _)) Tryz.underlying27 rfl kR ((List.length_map ..).trans (hS _)) _ rfl) ?_
        obtain ⟨b9, hb9⟩ : ∃ z : Bool, z = verB (K q2) m (S k1) := ⟨_, rfl⟩
        refine sD 15 rfl (.bool b9) (qG 19 #[.agg ((K q2).map bv).toArray, .slice X n e, .agg ((S k1).map bv).toArray] (fun w hw => by rw [hb9]; exact verR_full w (K q2) (S k1) (hK _) (hS _) X m n e hn hm he he2 (hs.below hw.below) (htr.below hw.below htr.lt))) <| sZ 16 rfl (.bool b9) ?_
        refine sE ?_
        refine sB ?_
        refine sP (.bool b9) ?_
        cases b9
        ·refine sP (.bool true) ?_
         refine sG <| sT <| sC ?_
         refine sP (.bool false) ?_
         refine sG <| Sy.ret <| Sy.in_ret <| Sy.then_ret <| Sy.then_ret <| Sy.in_ret <| Sy.then_ret ?_
         rw [show (.bool (enB m T N K M Z S) : Value) = .bool false from by rw [en_no lb3 ((ok_ver (by omega) lb5 hq2).trans hb9.symm)]]
         exact rV (.bool false) rfl
        ·have hok : okS m N K Z S k1 = true := (ok_ver (by omega) lb5 hq2).trans hb9.symm
         refine sP (.bool false) ?_
         refine sG <| sU <| Sy.skip <| Sy.in_ <| Sy.then_ <| Sy.region ?_
         refine sP (.int .i64 ((k1 : Nat) : Int)) <| sS (.int .i64 ((k1 + 1 : Nat) : Int)) (Quiet.pure (exec_int .add _ _ _ .i64 _ _ _ rfl rfl rfl (int_add _ _ _ _ _ ((wrap_i64 (by omega) (by omega)).trans (by omega))))) <| sP (.int .i64 ((k1 + 1 : Nat) : Int)) ?_
         refine Sy.nil ?_
         exact Sy.againH [true] (M := [(g0, 38, #[.int .i64 T, .slice A N c])]) (by omega) (fun j hj => (Nat.lt_succ_iff_lt_or_eq.1 hj).elim (hh1 j) (fun h => by rw [h]; exact hok)) (all_cons kR (all_cons kR (all_cons kR (all_cons kR all_nil)))) kR (bcons rfl rfl)
       ·have lb8 : (Z k1) ≤ (Z (k1 - 1)) := of_decide_eq_true hb8.symm
        refine sT <| sC ?_
        refine sP (.bool false) ?_
        refine sG <| Sy.ret <| Sy.then_ret <| Sy.in_ret <| Sy.then_ret <| Sy.then_ret <| Sy.in_ret <| Sy.then_ret ?_
        rw [show (.bool (enB m T N K M Z S) : Value) = .bool false from by rw [en_no lb3 (ok_low (by omega))]]
        exact rV (.bool false) rfl
     ·have lb5 : (Z k1) ≥ ((N : Nat) : Int) := of_decide_eq_true hb5.symm
      refine sQ 18 rfl <| sQ 19 rfl <| sQ 20 rfl <| sQ 21 rfl <| sQ 22 rfl <| sQ 23 rfl <| sQ 24 rfl <| sQ 25 rfl ?_
      refine sQ 26 rfl <| sQ 27 rfl <| sQ 28 rfl <| sQ 29 rfl <| sQ 30 rfl <| sQ 31 rfl <| sQ 32 rfl <| sQ 33 rfl ?_
      refine sZ 34 rfl (.bool true) ?_
      refine sI ?_
      refine sT <| sC ?_
      refine sP (.bool false) ?_
      refine sG <| Sy.ret <| Sy.then_ret <| Sy.in_ret <| Sy.then_ret <| Sy.then_ret <| Sy.in_ret <| Sy.then_ret ?_
      rw [show (.bool (enB m T N K M Z S) : Value) = .bool false from by rw [en_no lb3 (ok_high lb5)]]
      exact rV (.bool false) rfl
    ·have lb4 : (Z k1) < 0 := of_decide_eq_true hb4.symm
     refine sQ 7 rfl <| sQ 8 rfl <| sQ 9 rfl <| sQ 10 rfl <| sQ 11 rfl <| sQ 12 rfl <| sQ 13 rfl <| sQ 14 rfl ?_
     refine sQ 15 rfl <| sZ 16 rfl (.bool true) <| sZ 17 rfl (.bool true) <| sQ 18 rfl <| sQ 19 rfl <| sQ 20 rfl <| sQ 21 rfl <| sQ 22 rfl ?_
     refine sQ 23 rfl <| sQ 24 rfl <| sQ 25 rfl <| sQ 26 rfl <| sQ 27 rfl <| sQ 28 rfl <| sQ 29 rfl <| sQ 30 rfl ?_
     refine sQ 31 rfl <| sQ 32 rfl <| sQ 33 rfl <| sZ 34 rfl (.bool true) ?_
     refine sI ?_
     refine sT <| sC ?_
     refine sP (.bool false) ?_
     refine sG <| Sy.ret <| Sy.then_ret <| Sy.in_ret <| Sy.then_ret <| Sy.then_ret <| Sy.in_ret <| Sy.then_ret ?_
     rw [show (.bool (enB m T N K M Z S) : Value) = .bool false from by rw [en_no lb3 (ok_low (by omega))]]
     exact rV (.bool false) rfl
  ·have lb2 : ((M : Nat) : Int) < T := of_decide_eq_true hb2.symm
   refine sT <| sC ?_
   refine sP (.bool false) ?_
   refine sG <| Sy.ret <| Sy.then_ret ?_
   rw [show (.bool (enB m T N K M Z S) : Value) = .bool false from by rw [en_few lb2]]
   exact rV (.bool false) rfl
end Go.Proofs.YtfhcpdbahbbmaaaGreatDoor.Cu

end
section
namespace Go.Proofs.YtfhcpdbahbbmaaaGreatDoor.Cu
open Go.RowKit Go.Proofs.YtfhcpdbahbbmaaaGreatDoor Go.Proofs.YtfhcpdbahbbmaaaGreatDoor.Sy

set_option maxHeartbeats 4000000 in
set_option maxRecDepth 100000 in
theorem law_sigenough (w : World) (T : Int) (A : Option Addr) (N c : Nat) (K : Nat → List UInt8) (hK : ∀ i, (K i).length = 32) (hN : N ≤ 4611686018427387904) (hlk : Lst w 32 A N (fun i => (K i).map bv)) (B : Option Addr) (M d : Nat) (Z : Nat → Int) (S : Nat → List UInt8) (hS : ∀ i, (S i).length = 64) (hZ : ∀ i, -9223372036854775808 ≤ Z i ∧ Z i < 9223372036854775808) (hM : M ≤ 4611686018427387904) (hls : Lst w 65 B M (fun i => sgc (Z i) (S i))) (X : Option Addr) (m : List UInt8) (n e : Nat) (hn : m.length = n) (hm : n ≤ 999999900) (he : n ≤ e) (he2 : e ≤ 9223372036854775807) (hs : Sh.Src w X m) (ht : Sh.TabAt w 1) (htr : Sh.TabAt w 0) : Calls Tryz.prog 4 #[.agg #[.int .i64 T, .slice A N c], .slice X n e, .slice B M d] w (Gets w (.bool true)) := by
 obtain ⟨b0, hb0⟩ : ∃ b, b = enB m T N K M Z S := ⟨_, rfl⟩
 refine Sy.enter (args := [.agg #[.int .i64 T, .slice A N c], .slice X n e, .slice B M d]) Tryz.func4 rfl kL ?_
 refine sC ?_
 refine sM 38 #[.int .i64 T, .slice A N c] (fun g0 => ?_)
 refine sP (.bool false) ?_
 refine sH (fun j => false) ?_
 refine sD 0 rfl (.bool true) (qG 15 #[] (fun w hw => alive6 w (ht.below hw.below ht.lt))) <| sZ 1 rfl (.bool true) <| sD 2 rfl (.agg #[.int .i64 T, .slice A N c]) (qL 0 g0 0 2 38 38 #[.int .i64 T, .slice A N c] rfl Tryz.underlying38) <| sZ 3 rfl (.slice X n e) <| sZ 4 rfl (.slice B M d) <| sD 5 rfl (.bool b0) (qG 16 #[.agg #[.int .i64 T, .slice A N c], .slice X n e, .slice B M d] (fun w hw => by rw [hb0]; exact enough_any w T A N c K hK hN (hlk.below hw.below) B M d Z S hS hZ hM (hls.below hw.below) X m n e hn hm he he2 (hs.below hw.below) (ht.below hw.below ht.lt))) <| sD 6 rfl (.agg #[.int .i64 T, .slice A N c]) (qL 0 g0 0 2 38 38 #[.int .i64 T, .slice A N c] rfl Tryz.underlying38) <| sZ 7 rfl (.slice X n e) ?_
 refine sZ 8 rfl (.slice B M d) <| sD 9 rfl (.bool b0) (qG 17 #[.agg #[.int .i64 T, .slice A N c], .slice X n e, .slice B M d] (fun w hw => by rw [hb0]; exact enR_any w T A N c K hK hN (hlk.below hw.below) B M d Z S hS hZ hM (hls.below hw.below) X m n e hn hm he he2 (hs.below hw.below) (htr.below hw.below htr.lt))) <| sD 10 rfl (.bool true) (Quiet.pure (fun w => eql_bool_same w _ _ _ _ b0 rfl rfl rfl)) <| sZ 11 rfl (.bool true) <| sZ 12 rfl (.bool true) ?_
 refine sI ?_
 refine Sy.ret ?_
 exact rV (.bool true) rfl
end Go.Proofs.YtfhcpdbahbbmaaaGreatDoor.Cu

end
