/-
  Texts of ours, put together: SigM, SigK, SigAlive, EnA, ComM, ComV, EnB, SigN, ScFold, ScRefAdd, ScRefMul, GenM, GenR, ScRefs, SigR, SigV, EnC, SymY, SymR, SymQ, ManA, SigManyL.
-/
import Derived.Test.YtfhcpdbahbbmaaaGreatDoorBM6
set_option linter.unusedVariables false
set_option linter.unusedSimpArgs false
namespace Go.Proofs.YtfhcpdbahbbmaaaGreatDoor
section
namespace Cu
open Go.RowKit Sy
def evE (k : Nat) : Pt:=match evP k with
 | none => none
 | some (x,y) => if y.val % 2 = 1 then some (x, -y) else some (x,y)
theorem nN_pM : nN = Sc.pM:=by decide +kernel
theorem nm_p {P : Pt} (hP : Ec.On P) (k : Nat) : Ec.nm finv (k % Sc.pM) P = Ec.nm finv k P:=by
 have h:=nm_modN hP k
 rwa [nN_pM] at h
theorem nm_negP {P : Pt} (hP : Ec.On P) (k : Nat) : Ec.nm finv (Sc.negP k % Sc.pM) P = Ec.neg (Ec.nm finv (k % Sc.pM) P):=by
 have hlt : k % Sc.pM < Sc.pM:=Sc.mod_lt_p k
 have e1 : Ec.nm finv (Sc.negP k % Sc.pM) P = Ec.nm finv (Sc.pM - k % Sc.pM) P:=by
  unfold Sc.negP
  rw [nm_p hP,nm_p hP]
 have e2 : Ec.add finv (Ec.nm finv (k % Sc.pM) P) (Ec.nm finv (Sc.pM - k % Sc.pM) P) = none:=by
  rw [← Ec.nm_add fld hP,show k % Sc.pM + (Sc.pM - k % Sc.pM) = Sc.pM by omega, ← nm_p hP,Nat.mod_self]
  rfl
 have o1:=hP.nm fld (k % Sc.pM)
 have o2:=hP.nm fld (Sc.pM - k % Sc.pM)
 rw [e1]
 have e3:=congrArg (Ec.add finv (Ec.neg (Ec.nm finv (k % Sc.pM) P))) e2
 rw [← Ec.assoc fld o1.neg o1 o2,Ec.neg_add,Ec.zero_add,Ec.add_zero] at e3
 exact e3
theorem evE_is (k : Nat) : Ec.nm finv (evD k % Sc.pM) bP = evE k:=by
 unfold evD evE
 rcases h : evP k with _ | ⟨x,y⟩
 ·rfl
 ·show Ec.nm finv ((if y.val % 2 = 1 then Sc.negP k else k) % Sc.pM) bP = if y.val % 2 = 1 then some (x, -y) else some (x,y)
  by_cases hy : y.val % 2 = 1
  ·rw [if_pos hy,if_pos hy,nm_negP bP_on]
   have h' : Ec.nm finv (k % Sc.pM) bP = some (x,y):=h
   rw [h']
   rfl
  ·rw [if_neg hy,if_neg hy]
   exact h
theorem evE_lift {k : Nat} (h : (evP k).isSome = true) : liftP (evX (evP k)) = evE k ∧ liftB (evX (evP k)) = true:=by
 have ho:=evP_on k
 unfold evE
 rcases e : evP k with _ | ⟨x,y⟩
 ·rw [e] at h; cases h
 ·rw [e] at ho
  have hl:=lift_x x y ho
  refine ⟨hl,?_⟩
  cases hb : liftB (bytesS x.val) with
  | true => exact hb
  | false =>
   rw [lift_no hb] at hl
   split at hl <;> cases hl
theorem evE_enc {k : Nat} (h : (evP k).isSome = true) : encS (evE k) = 2 :: evX (evP k):=by
 have ho:=evP_on k
 unfold evE
 rcases e : evP k with _ | ⟨x,y⟩
 ·rw [e] at h; cases h
 ·rw [e] at ho
  show encS (if y.val % 2 = 1 then some (x, -y) else some (x,y)) = 2 :: bytesS x.val
  by_cases hy : y.val % 2 = 1
  ·rw [if_pos hy]
   have hn:=val_neg' y (no_two x y ho)
   show (if (-y).val % 2 = 1 then (3 : UInt8) else 2) :: bytesS x.val = _
   rw [if_neg (by omega)]
  ·rw [if_neg hy]
   show (if y.val % 2 = 1 then (3 : UInt8) else 2) :: bytesS x.val = _
   rw [if_neg hy]
theorem sig_first (d : Nat) (key m : List UInt8) (k : Nat) : ((sigS d key m k).drop 0).take 32 = evX (evP k):=by
 unfold sigS
 rw [List.drop_zero,List.take_append_of_le_length (by rw [evX_length]; exact Nat.le_refl _),List.take_of_length_le (by rw [evX_length]; exact Nat.le_refl _)]
theorem sig_last (d : Nat) (key m : List UInt8) (k : Nat) : ((sigS d key m k).drop 32).take 32 = bytesS (ansS d key m k % Sc.pM):=by
 unfold sigS
 rw [List.drop_append_of_le_length (by rw [evX_length]; exact Nat.le_refl _),List.drop_of_length_le (by rw [evX_length]; exact Nat.le_refl _),List.nil_append,List.take_of_length_le (by rw [bytesS_length]; exact Nat.le_refl _)]
theorem readS_bytes (z : Nat) : Sc.readS (bytesS (z % Sc.pM)) = (z % Sc.pM,true):=by
 unfold Sc.readS
 rw [valB_bytesS _ (Sc.mod_lt z),if_pos (Sc.mod_lt_p z)]
theorem rPt_sig (sec k e : Nat) {a b : Nat} {i : Bool} (hd : dec a b i = evE sec) : rPt (Sc.addP (evD k) (Sc.mulP e (evD sec)) % Sc.pM) (Sc.negP e) a b i = evE k:=by
 have oB : Ec.On bP:=bP_on
 have oE : Ec.On (evE sec):=by rw [← evE_is]; exact oB.nm fld _
 have oK : Ec.On (evE k):=by rw [← evE_is]; exact oB.nm fld _
 unfold rPt
 rw [hd,nm_negP oE]
 have e1 : Ec.nm finv (Sc.addP (evD k) (Sc.mulP e (evD sec)) % Sc.pM % Sc.pM) bP = Ec.add finv (evE k) (Ec.nm finv (e % Sc.pM) (evE sec)):=by
  rw [nm_p oB,nm_p oB]
  unfold Sc.addP Sc.mulP
  rw [nm_p oB,Ec.nm_add fld oB,nm_p oB,Ec.nm_mul fld oB,nm_p oE, ← evE_is k, ← evE_is sec,nm_p oB,nm_p oB]
 rw [e1]
 have o1:=oE.nm fld (e % Sc.pM)
 rw [Ec.assoc fld oK o1 o1.neg,Ec.add_neg,Ec.add_zero]
theorem verB_gen {key m s X Zb : List UInt8} {P E : Pt} {z e : Nat} (he : chalS X key m = e) (h1 : liftB key = true) (h2 : liftP key = P) (h3 : (s.drop 0).take 32 = X) (h4 : (s.drop 32).take 32 = Zb) (h5 : (Sc.readS Zb).1 = z) (h6 : (Sc.readS Zb).2 = true)
  (h7 : rPt z (Sc.negP e) (pX P) (pY P) (pI P) = E) (h8 : encS E = 2 :: X) (h9 : X.length = 32) : verB key m s = true:=by
 unfold verB ansB
 rw [h3,he,h1,h2,h4,h6,h5,h7,h8]
 have h10 : (((2 : UInt8) :: X).drop 1).take 32 = X:=by
  rw [List.drop_succ_cons,List.drop_zero,List.take_of_length_le (by rw [h9]; exact Nat.le_refl _)]
 rw [h10]
 simp
theorem verB_sig (sec : Nat) (m : List UInt8) (h : signB sec m = true) : verB (evX (evP sec)) m (signL sec m) = true:=by
 have hs:=h
 unfold signB at hs
 rw [Bool.and_eq_true] at hs
 obtain ⟨h1,h2⟩:=hs
 obtain ⟨l1,l2⟩:=evE_lift h1
 have hd : dec (pX (evE sec)) (pY (evE sec)) (pI (evE sec)) = evE sec:=dec_parts (by rw [← evE_is]; exact bP_on.nm fld _)
 have e1 : signL sec m = sigS (evD sec) (evX (evP sec)) m (nonS sec m):=by
  unfold signL
  rw [if_pos h]
 rw [e1]
 generalize nonS sec m = k at h2 ⊢
 have hr:=readS_bytes (ansS (evD sec) (evX (evP sec)) m k)
 exact verB_gen (e:=chalS (evX (evP k)) (evX (evP sec)) m) rfl l2 l1 (sig_first _ _ _ _) (sig_last _ _ _ _) (congrArg Prod.fst hr) (congrArg Prod.snd hr) (rPt_sig sec k _ hd) (evE_enc h2) (evX_length _)
end Cu
end
section
namespace Cu
open Go.RowKit Sy
theorem evD_some {k : Nat} {x y : Fp} (h : evP k = some (x,y)) : evD k = if y.val % 2 = 1 then Sc.negP k else k:=by
 unfold evD
 rw [h]
theorem if_yes {c a b d : Nat} (h : c = 1) (e : a = d) : (if c = 1 then a else b) = d:=by rw [if_pos h,e]
theorem signB_of {sec : Nat} {m : List UInt8} {k : Nat} {x y u v : Fp} (hk : nonS sec m = k) (h1 : evP sec = some (x,y)) (h2 : evP k = some (u,v)) : signB sec m = true:=by
 unfold signB
 rw [hk,h1,h2]
 rfl
theorem signL_of {sec : Nat} {m X Y : List UInt8} {k d e D z : Nat} (hB : signB sec m = true) (hk : nonS sec m = k) (hd : evD sec = d) (hX : evX (evP k) = X) (hY : evX (evP sec) = Y) (hc : chalS X Y m = e) (hD : evD k = D) (hz : Sc.addP D (Sc.mulP e d) % Sc.pM = z) : signL sec m = X ++ bytesS z:=by
 unfold signL
 rw [if_pos hB,hk]
 unfold sigS ansS
 rw [hX,hY,hc,hd,hD,hz]
def k0 : Nat:=13197915491876976259551408334663313131887465579707439106007590226688883891305
set_option maxRecDepth 100000 in
theorem big_3 : 3 % 2 ^ 256 = 3:=by decide +kernel
set_option maxRecDepth 100000 in
theorem chain_3 : gK 3 256 0 0 0 (isK 112711660439710606056748659173929673102114977341539408544630613555209775888121 25583027980570883691656905877401976406448868254816295069919888960541586679410) = true:=by decide +kernel
theorem evP_3 : evP 3 = some (fm 112711660439710606056748659173929673102114977341539408544630613555209775888121,fm 25583027980570883691656905877401976406448868254816295069919888960541586679410):=by
 unfold evP
 rw [nm_p bP_on]
 exact gK_some big_3 chain_3
set_option maxRecDepth 100000 in
theorem big_K : k0 % 2 ^ 256 = k0:=by decide +kernel
set_option maxRecDepth 100000 in
theorem chain_K : gK k0 256 0 0 0 (isK 105402166627418795092072804961744245450567089294823101265006251985280030114325 59979214474319322165094783228164233363219353906398054566988269642334758084391) = true:=by decide +kernel
theorem evP_K : evP k0 = some (fm 105402166627418795092072804961744245450567089294823101265006251985280030114325,fm 59979214474319322165094783228164233363219353906398054566988269642334758084391):=by
 unfold evP
 rw [nm_p bP_on]
 exact gK_some big_K chain_K
set_option maxRecDepth 100000 in
theorem evD_3 : evD 3 = 3:=by
 unfold evD
 rw [evP_3]
 decide +kernel
theorem evX_3 : evX (evP 3) = bytesS 112711660439710606056748659173929673102114977341539408544630613555209775888121:=by
 rw [evP_3]
 rfl
set_option maxRecDepth 100000 in
theorem odd_K : (fm 59979214474319322165094783228164233363219353906398054566988269642334758084391).val % 2 = 1:=by decide +kernel
set_option maxRecDepth 100000 in
theorem neg_K : Sc.negP k0 = 102594173745439219164019576674024594720950098699367465276597572914829277603032:=by decide +kernel
theorem evD_K : evD k0 = 102594173745439219164019576674024594720950098699367465276597572914829277603032:=(evD_some evP_K).trans (if_yes odd_K neg_K)
theorem evX_K : evX (evP k0) = bytesS 105402166627418795092072804961744245450567089294823101265006251985280030114325:=by
 rw [evP_K]
 rfl
set_option maxRecDepth 100000 in
theorem nonce_3 : nonceS 3 (bytesS 112711660439710606056748659173929673102114977341539408544630613555209775888121) (List.replicate 32 0) = k0:=by decide +kernel
theorem nonS_3 : nonS 3 (List.replicate 32 0) = k0:=by
 unfold nonS
 rw [evD_3,evX_3]
 exact nonce_3
set_option maxRecDepth 100000 in
theorem chal_3 : chalS (bytesS 105402166627418795092072804961744245450567089294823101265006251985280030114325) (bytesS 112711660439710606056748659173929673102114977341539408544630613555209775888121) (List.replicate 32 0) = 48720319366320448218248931228309816100339060958010591740548832691369990260430:=by decide +kernel
theorem signB_3 : signB 3 (List.replicate 32 0) = true:=signB_of nonS_3 evP_3 evP_K
set_option maxRecDepth 100000 in
theorem ans_3 : Sc.addP 102594173745439219164019576674024594720950098699367465276597572914829277603032 (Sc.mulP 48720319366320448218248931228309816100339060958010591740548832691369990260430 3) % Sc.pM = 17170953369768172971624400341578227316292153015249431733033744705902925395648:=by decide +kernel
theorem signL_3 : signL 3 (List.replicate 32 0) = bytesS 105402166627418795092072804961744245450567089294823101265006251985280030114325 ++ bytesS 17170953369768172971624400341578227316292153015249431733033744705902925395648:=signL_of signB_3 nonS_3 evD_3 evX_K evX_3 chal_3 evD_K ans_3
end Cu
end
section
namespace Cu
open Go.RowKit Sy
theorem s_first : (signL 3 (List.replicate 32 (0 : UInt8))).getD 0 0 = UInt8.ofNat 233:=by
 rw [signL_3]
 decide +kernel
theorem s_last : (signL 3 (List.replicate 32 (0 : UInt8))).getD 63 0 = UInt8.ofNat 192:=by
 rw [signL_3]
 decide +kernel
theorem signL_length (sec : Nat) (m : List UInt8) : (signL sec m).length = 64:=by
 unfold signL
 split
 ·exact sigS_length _ _ _ _
 ·rfl
set_option maxHeartbeats 4000000 in
set_option maxRecDepth 100000 in
theorem alive6 (w : World) (ht : Sh.TabAt w 1) : Calls Tryz.prog 15 #[] w (Gets w (.bool true)):=by
 obtain ⟨S,hS⟩ : ∃ S,S = signL 3 (List.replicate 32 (0 : UInt8)):=⟨_,rfl⟩
 obtain ⟨K,hK⟩ : ∃ K,K = evX (evP 3):=⟨_,rfl⟩
 have hSl : S.length = 64:=by rw [hS]; exact signL_length _ _
 have hKl : K.length = 32:=by rw [hK]; exact evX_length _
 have h0 : S.getD 0 0 = UInt8.ofNat 233:=by rw [hS]; exact s_first
 have h63 : S.getD 63 0 = UInt8.ofNat 192:=by rw [hS]; exact s_last
 have hv : verB K (List.replicate 32 (0 : UInt8)) S = true:=by rw [hS,hK]; exact verB_sig 3 _ signB_3
 have pub : (evP 3).isSome = true:=by rw [evP_3]; rfl
 refine Sy.enter (args:=[]) Tryz.func15 rfl kL ?_
 refine sC ?_
 refine sP (.bool false) ?_
 refine sA ?_
 refine Sy.make kR 5 ((List.replicate 32 (0 : UInt8)).map bv).toArray (fun g => .slice (some ⟨g,0,none⟩) 32 32) kF (fun g0 => ?_)
 refine sP (.slice (some ⟨g0,0,none⟩) 32 32) ?_
 refine sA ?_
 refine sP (fv 3) <| sP (.slice (some ⟨g0,0,none⟩) 32 32) <| sS (.tuple #[.agg (S.map bv).toArray,.bool true]) (qG 11 #[fv 3,.slice (some ⟨g0,0,none⟩) 32 32] (fun w hw => by have q:=Sign_any w 3 (by decide) (some ⟨g0,0,none⟩) (List.replicate 32 (0 : UInt8)) 32 32 rfl (by decide) (by decide) (by decide) (Sh.Src.of_blk (hw.get (i:=0) rfl)) (ht.below hw.below ht.lt); rw [signB_3, ← hS] at q; exact q)) <| sP (.tuple #[.agg (S.map bv).toArray,.bool true]) <| sP (.agg (S.map bv).toArray) <| sP (.bool true) ?_
 refine sM 27 (Zl 64).toArray (fun g1 => ?_)
 refine sW 1 g1 27 (Zl 64).toArray (S.map bv).toArray (Writes.store 0 27 (S.map bv).toArray _ _ rfl kR kR (by rw [key_sz S hSl]; kernel_rfl) (by rw [key_sz S hSl]; exact Nat.le_of_ble_eq_true kR) (key_one _) (key_set _ _ (by rw [hSl]; kernel_rfl))) <| sP (.bool true) ?_
 refine sA ?_
 refine sP (fv 3) <| sS (.tuple #[.agg (K.map bv).toArray,.bool true]) (qF 13 #[fv 3] (fun w => by have q:=public_any w 3 (by decide); rw [pub, ← hK] at q; exact q)) <| sP (.tuple #[.agg (K.map bv).toArray,.bool true]) <| sP (.agg (K.map bv).toArray) <| sP (.bool true) ?_
 refine sM 31 (Zl 32).toArray (fun g2 => ?_)
 refine sW 2 g2 31 (Zl 32).toArray (K.map bv).toArray (Writes.store 0 31 (K.map bv).toArray _ _ rfl kR kR (by rw [key_sz K hKl]; kernel_rfl) (by rw [key_sz K hKl]; exact Nat.le_of_ble_eq_true kR) (key_one _) (key_set _ _ (by rw [hKl]; kernel_rfl))) <| sP (.bool true) ?_
 refine sA ?_
 refine sP (.bool true) <| sP (.bool true) <| sP (.bool true) <| sP (.bool true) <| sP (.bool true) <| sP (.pointer (some ⟨g1,0,none⟩)) <| sS (bv (S.getD 0 0)) (Quiet.cell 1 g1 0 27 5 (S.map bv).toArray _ _ rfl kR kR Tryz.underlying5 rfl _ (key_at S hSl 0 (by decide))) <| sS (.bool true) (Quiet.pure (fun w => (eql_u8 w _ _ _ _ (S.getD 0 0) 233 (by decide) rfl rfl rfl).trans (by rw [decide_eq_true h0]))) ?_
 refine sP (.bool true) <| sP (.bool true) <| sP (.pointer (some ⟨g1,63,none⟩)) <| sS (bv (S.getD 63 0)) (Quiet.cell 1 g1 63 27 5 (S.map bv).toArray _ _ rfl kR kR Tryz.underlying5 rfl _ (key_at S hSl 63 (by decide))) <| sS (.bool true) (Quiet.pure (fun w => (eql_u8 w _ _ _ _ (S.getD 63 0) 192 (by decide) rfl rfl rfl).trans (by rw [decide_eq_true h63]))) <| sP (.bool true) <| sP (.bool true) <| sS (.agg (K.map bv).toArray) (Quiet.load 2 g2 0 32 31 31 (K.map bv).toArray _ _ rfl kR kR Tryz.underlying31 rfl kR _ (key_whole K hKl) (key_size K hKl)) ?_
 refine sP (.slice (some ⟨g0,0,none⟩) 32 32) <| sS (.agg (S.map bv).toArray) (Quiet.load 1 g1 0 64 27 27 (S.map bv).toArray _ _ rfl kR kR Tryz.underlying27 rfl kR _ (key_whole S hSl) (key_size S hSl)) <| sS (.bool true) (qG 49 #[.agg (K.map bv).toArray,.slice (some ⟨g0,0,none⟩) 32 32,.agg (S.map bv).toArray] (fun w hw => by have q:=verify_any w K S hKl hSl (some ⟨g0,0,none⟩) (List.replicate 32 (0 : UInt8)) 32 32 rfl (by decide) (by decide) (by decide) (Sh.Src.of_blk (hw.get (i:=0) rfl)) (ht.below hw.below ht.lt); rw [hv] at q; exact q)) <| sP (.bool true) <| sP (.bool true) ?_
 refine sG <| Sy.ret ?_
 exact rV (.bool true) rfl
end Cu
end
section
namespace Cu
open Go.RowKit Sy Go.ChangeShapes Go.WideShapes Go.MapKept Go.ChangeMaps Go.WideElems
open Go.WideMaps (KeyLaw ArrKey)
def diffB (N : Nat) (K : Nat → List UInt8) : Bool:=decide (((List.range N).map K).Nodup)
theorem diffB_iff (N : Nat) (K : Nat → List UInt8) : diffB N K = true ↔ ∀ i j,i < j → j < N → K i ≠ K j:=by
 unfold diffB
 rw [decide_eq_true_iff,List.Nodup,List.pairwise_map,List.pairwise_iff_getElem]
 constructor
 ·intro h i j hij hj
  have q:=h i j (by simpa using Nat.lt_trans hij hj) (by simpa using hj) hij
  rwa [List.getElem_range,List.getElem_range] at q
 ·intro h i j hi hj hij
  rw [List.getElem_range,List.getElem_range]
  exact h i j hij (by simpa using hj)
def validB (T : Int) (N : Nat) (K : Nat → List UInt8) : Bool:=decide (T ≥ 1) && decide (T ≤ (N : Int)) && decide (N ≤ 16) && diffB N K
def nxt (Z : Nat → Int) : Nat → Int
 | 0 => 0
 | i + 1 => Z i + 1
def okS (m : List UInt8) (N : Nat) (K : Nat → List UInt8) (Z : Nat → Int) (S : Nat → List UInt8) (i : Nat) : Bool:=decide (nxt Z i ≤ Z i) && (decide (Z i < (N : Int)) && verB (K (Z i).toNat) m (S i))
def enB (m : List UInt8) (T : Int) (N : Nat) (K : Nat → List UInt8) (M : Nat) (Z : Nat → Int) (S : Nat → List UInt8) : Bool:=validB T N K && (decide (T ≤ (M : Int)) && (List.range M).all (okS m N K Z S))
section
variable {m : List UInt8} {T : Int} {N M : Nat} {K : Nat → List UInt8} {Z : Nat → Int} {S : Nat → List UInt8}
theorem en_bad (h : validB T N K = false) : enB m T N K M Z S = false:=by unfold enB; rw [h]; rfl
theorem en_few (h : (M : Int) < T) : enB m T N K M Z S = false:=by
 unfold enB
 rw [show decide (T ≤ (M : Int)) = false from decide_eq_false (by omega),Bool.false_and,Bool.and_false]
theorem en_no {k : Nat} (hk : k < M) (h : okS m N K Z S k = false) : enB m T N K M Z S = false:=by
 unfold enB
 have : (List.range M).all (okS m N K Z S) = false:=by
  rw [List.all_eq_false]
  exact ⟨k,List.mem_range.2 hk,by rw [h]; decide⟩
 rw [this,Bool.and_false,Bool.and_false]
theorem en_yes (h : validB T N K = true) (h2 : ¬ (M : Int) < T) (h3 : ∀ j,j < M → okS m N K Z S j = true) : enB m T N K M Z S = true:=by
 unfold enB
 rw [h,show decide (T ≤ (M : Int)) = true from decide_eq_true (by omega),Bool.true_and,Bool.true_and,List.all_eq_true]
 exact fun j hj => h3 j (List.mem_range.1 hj)
theorem ok_low {k : Nat} (h : Z k < nxt Z k) : okS m N K Z S k = false:=by
 unfold okS
 rw [show decide (nxt Z k ≤ Z k) = false from decide_eq_false (by omega)]
 rfl
theorem ok_high {k : Nat} (h : Z k ≥ (N : Int)) : okS m N K Z S k = false:=by
 unfold okS
 rw [show decide (Z k < (N : Int)) = false from decide_eq_false (by omega),Bool.false_and,Bool.and_false]
theorem ok_ver {k q : Nat} (h1 : ¬ Z k < nxt Z k) (h2 : ¬ Z k ≥ (N : Int)) (hq : Z k = (q : Int)) : okS m N K Z S k = verB (K q) m (S k):=by
 unfold okS
 rw [show decide (nxt Z k ≤ Z k) = true from decide_eq_true (by omega),show decide (Z k < (N : Int)) = true from decide_eq_true (by omega),hq]
 rfl
theorem ok_sub {k : Nat} (h : okS m N K Z S k = true) : nxt Z k ≤ Z k ∧ Z k < (N : Int):=by
 unfold okS at h
 rw [Bool.and_eq_true,Bool.and_eq_true,decide_eq_true_iff,decide_eq_true_iff] at h
 exact ⟨h.1,h.2.1⟩
theorem nxt_pos {k : Nat} (h : ∀ j,j < k → okS m N K Z S j = true) : ∀ i,i ≤ k → 0 ≤ nxt Z i
 | 0,_ => Int.le_refl 0
 | i + 1,hi => by
  have h1:=nxt_pos h i (by omega)
  have h2:=ok_sub (h i (by omega))
  show (0 : Int) ≤ Z i + 1
  omega
end
def kfn (K : Nat → List UInt8) (i : Nat) : Value:=.agg ((K i).map bv).toArray
theorem kArr : ArrKey Tryz.prog 31 5 32:=⟨Tryz.underlying31,by kernel_rfl,by kernel_rfl,by kernel_rfl⟩
theorem kTypes : ∃ m,Tryz.prog.types.size = m + 1:=⟨Tryz.prog.types.size - 1,by kernel_rfl⟩
theorem kLaw : KeyLaw Tryz.prog 31:=ArrKey.law kArr
theorem kZero : ∀ u : World,(zeroValue 3).run Tryz.prog u = .ok (.int .i64 0) u:=fun _ => by kernel_rfl
theorem kKeys (K : Nat → List UInt8) (hK : ∀ i,(K i).length = 32) (k : Nat) : ∀ x ∈ dist (kfn K) k, ∃ l,keyOf Tryz.prog 31 x = some l:=fun x hx => by
 obtain ⟨i,_,rfl⟩:=(dist_mem _ _ _).1 hx
 exact keyOf_bytes kArr Tryz.underlying5 kTypes (hK i)
theorem bv_inj {a b : List UInt8} (h : Value.agg (a.map bv).toArray = Value.agg (b.map bv).toArray) : a = b:=by
 have h1 : a.map bv = b.map bv:=by
  injection h with h
  simpa using congrArg Array.toList h
 have inj : ∀ x y : UInt8,bv x = bv y → x = y:=fun x y e => by
  unfold bv at e
  injection e with _ e
  exact UInt8.toNat_inj.1 (by omega)
 exact (List.map_inj_right inj).1 h1
theorem dist_diff (N : Nat) (K : Nat → List UInt8) {es : Array MapEntry} {cl : Nat} (h : Ents es cl (dist (kfn K) N)) : decide ((es.size : Int) = (N : Int)) = diffB N K:=by
 rw [Bool.eq_iff_iff,decide_eq_true_iff,diffB_iff,h.size]
 have q:=dist_all (kfn K) N
 constructor
 ·intro e i j hij hj e2
  exact q.1 (by omega) i j hij hj (congrArg (fun l : List UInt8 => Value.agg (l.map bv).toArray) e2)
 ·intro e
  have:=q.2 fun i j hij hj e2 => e i j hij hj (bv_inj e2)
  omega
set_option maxHeartbeats 4000000 in
set_option maxRecDepth 100000 in
theorem diff_any (w : World) (A : Option Addr) (N c : Nat) (K : Nat → List UInt8) (hK : ∀ i,(K i).length = 32) (hN : N ≤ 4611686018427387904) (hlk : Lst w 32 A N (fun i => (K i).map bv)) : Calls Tryz.prog 109 #[.slice A N c] w (Gets w (.bool (diffB N K))):=by
 obtain ⟨gK,oK,hT⟩:=hlk
 refine Sy.enter (args:=[.slice A N c]) Tryz.func109 rfl kL ?_
 refine sC ?_
 refine sP (.bool false) ?_
 refine sA ?_
 refine Sy.makeMapS kR 204 rfl (fun bm fz0 hmp => ?_)
 refine sP (.map (some bm)) ?_
 refine sG <| Sy.seq <| sC ?_
 refine sP (.slice A N c) <| sP (.int .i64 ((N : Nat) : Int)) <| sP (.int .i64 0) ?_
 refine sG <| Sy.block ?_
 refine Sy.loopM N bm (fun k1 => [(0,.slice A N c),(3,.map (some bm)),(7,.slice A N c),(8,.int .i64 ((N : Nat) : Int)),(9,.int .i64 ((k1 : Nat) : Int))]) (fun k1 => []) (fun k es cl => Ents es cl (dist (kfn K) k)) [] hmp Ents.empty (all_cons kR (all_cons kR (all_cons kR (all_cons kR (all_cons kR all_nil))))) kR (fun k1 es1 cl1 fz1 hk1 hh1 hmp1 => ?_)
 refine sC ?_
 obtain ⟨b1,hb1⟩ : ∃ z : Bool,z = decide (k1 < N):=⟨_,rfl⟩
 refine sS (.bool b1) (Quiet.pure (exec_int .lss _ _ _ .i64 _ _ _ rfl rfl rfl (int_lss _ _ _ _ _ (by rw [hb1]; exact decide_eq_decide.2 (by omega))))) ?_
 refine sG <| Sy.seq ?_
 cases b1
 ·have lb1 : ¬ (k1 < N):=of_decide_eq_false hb1.symm
  refine sU <| Sy.exit <| Sy.then_exit <| Sy.then_exit ?_
  obtain rfl : N = k1:=by omega
  refine Sy.in_exit <| sB ?_
  refine sP (.map (some bm)) <| sS (.int .i64 (es1.size : Int)) (Quiet.lenMap 204 _ hmp1 rfl kR kR) <| sP (.slice A N c) <| sP (.int .i64 ((N : Nat) : Int)) ?_
  obtain ⟨b2,hb2⟩ : ∃ z : Bool,z = decide ((es1.size : Int) = ((N : Nat) : Int)):=⟨_,rfl⟩
  refine sS (.bool b2) (Quiet.pure (exec_int .eql _ _ _ .i64 _ _ _ rfl rfl rfl (int_eql _ _ _ _ _ hb2.symm))) <| sP (.bool b2) ?_
  refine sG <| Sy.ret ?_
  refine Sy.outM ?_
  rw [show (.bool (diffB N K) : Value) = .bool b2 from by rw [← dist_diff N K hh1]; exact congrArg Value.bool hb2.symm]
  exact rV (.bool b2) rfl
 ·have lb1 : k1 < N:=of_decide_eq_true hb1.symm
  refine sT <| Sy.skip <| Sy.then_ <| Sy.seq <| Sy.block <| sC ?_
  refine sS (.pointer (some ⟨gK,oK + k1 * 32,none⟩)) (Quiet.pure (exec_atO 36 _ _ _ A gK oK N c k1 32 .i64 (hT (by omega)).1 rfl rfl rfl Tryz.underlying36 kF (by omega))) <| sS (.agg ((K k1).map bv).toArray) (Quiet.there gK (oK + k1 * 32) 32 31 ((K k1).map bv) _ _ rfl kR (hT (by omega)).2.1 ((hT (by omega)).2.2 k1 (by omega)) Tryz.underlying31 rfl kR ((List.length_map ..).trans (hK _)) _ rfl) ?_
  refine sM 31 (Zl 32).toArray (fun g0 => ?_)
  refine sW 0 g0 31 (Zl 32).toArray ((K k1).map bv).toArray (Writes.store 0 31 ((K k1).map bv).toArray _ _ rfl kR kR (by rw [key_sz (K k1) (hK _)]; kernel_rfl) (by rw [key_sz (K k1) (hK _)]; exact Nat.le_of_ble_eq_true kR) (key_one _) (key_set _ _ (by rw [(hK _)]; kernel_rfl))) ?_
  refine sG ?_
  refine Sy.regionD (fun j => j == 4 || j == 6) kR ?_
  refine sZ 0 rfl (.map (some bm)) <| sD 1 rfl (.agg ((K k1).map bv).toArray) (Quiet.load 0 g0 0 32 31 31 ((K k1).map bv).toArray _ _ rfl kR kR Tryz.underlying31 rfl kR _ (key_whole (K k1) (hK _)) (key_size (K k1) (hK _))) ?_
  obtain ⟨kl,hkey⟩:=keyOf_bytes kArr Tryz.underlying5 kTypes (hK k1)
  refine Sy.anyOf [2,4] kR (by decide) (Sy.each2 ?_ ?_)
  ·refine Sy.oneLook rfl kR hmp1 (fun v => ∃ z : Int,v = .int .i64 z) (fun wl hl => ?_) (fun v hv => ?_)
   ·obtain ⟨z,hz⟩:=Ents.look hh1 kLaw Tryz.underlying204 kZero (kKeys K hK k1) hkey hl
    exact ⟨_,exec_look rfl kR kR hz,z,rfl⟩
   ·obtain ⟨z,rfl⟩:=hv
    refine Sy.stepDA 3 rfl kR (fun _ _ _ _ h => h) kR (.int .i64 (IntKind.i64.wrap (z + 1))) (exec_int .add _ _ _ .i64 _ _ _ rfl rfl rfl (int_add _ _ _ _ _ rfl)) ?_
    refine Sy.anyOf [4] kR (by decide) (Sy.each1 ?_)
    refine Sy.oneMap rfl rfl kR hmp1 (fun v es' cl' => ∃ (v0 : Value) (st : Nat),v = .tuple #[v0,goInt st] ∧ Ents es' cl' (dist (kfn K) (k1 + 1)) ∧ ∀ (w2 : World) (z : Int),w2.heap[bm]? = some (.map es' cl') → ∃ es2 cl2,(Instr.entryStore 204 (.map (some bm)) (goInt st) (.int .i64 z)).run Tryz.prog w2 = .ok () (setBlock w2 bm (.map es2 cl2)) ∧ Ents es2 cl2 (dist (kfn K) (k1 + 1))) (fun wl hl => ?_) (fun v es2 cl2 fz2 hR hmp2 => ?_)
    ·obtain ⟨v0,st,e1,c1,hr,q1,q2⟩:=Ents.entry hh1 kLaw Tryz.underlying204 kZero (kKeys K hK k1) hkey hl
     exact ⟨_,e1,c1,.inl (exec_entry rfl kR kR hr),v0,st,rfl,q1,q2⟩
    ·obtain ⟨v0,st,rfl,hh2,hst⟩:=hR
     refine Sy.stepDA 5 rfl kR (fun _ _ _ _ h => h) kR (goInt st) kF ?_
     refine Sy.anyOf [6] kR (by decide) (Sy.each1 ?_)
     refine Sy.oneMap rfl rfl kR hmp2 (fun _ es' cl' => Ents es' cl' (dist (kfn K) (k1 + 1))) (fun wl hl => ?_) (fun v es3 cl3 fz3 hfin hmpf => ?_)
     ·obtain ⟨e2,c2,hr,q⟩:=hst wl (IntKind.i64.wrap (z + 1)) hl
      exact ⟨undef,e2,c2,.inr ⟨exec_estore rfl kR kR kR hr,rfl⟩,q⟩
     ·refine sE ?_
      refine Sy.in_ <| Sy.then_ <| Sy.region ?_
      refine sS (.int .i64 ((k1 + 1 : Nat) : Int)) (Quiet.pure (exec_int .add _ _ _ .i64 _ _ _ rfl rfl rfl (int_add _ _ _ _ _ ((wrap_i64 (by omega) (by omega)).trans (by omega))))) <| sP (.int .i64 ((k1 + 1 : Nat) : Int)) ?_
      refine Sy.nil ?_
      exact Sy.againM (w0:=(Base.of w).re fz0) (fz:=fz3) [false] (by omega) hfin hmpf (all_cons kR (all_cons kR (all_cons kR (all_cons kR (all_cons kR all_nil))))) kR
  ·refine Sy.oneMap rfl rfl kR hmp1 (fun v es' cl' => ∃ (v0 : Value) (st : Nat),v = .tuple #[v0,goInt st] ∧ Ents es' cl' (dist (kfn K) (k1 + 1)) ∧ ∀ (w2 : World) (z : Int),w2.heap[bm]? = some (.map es' cl') → ∃ es2 cl2,(Instr.entryStore 204 (.map (some bm)) (goInt st) (.int .i64 z)).run Tryz.prog w2 = .ok () (setBlock w2 bm (.map es2 cl2)) ∧ Ents es2 cl2 (dist (kfn K) (k1 + 1))) (fun wl hl => ?_) (fun v es2 cl2 fz2 hR hmp2 => ?_)
   ·obtain ⟨v0,st,e1,c1,hr,q1,q2⟩:=Ents.entry hh1 kLaw Tryz.underlying204 kZero (kKeys K hK k1) hkey hl
    exact ⟨_,e1,c1,.inl (exec_entry rfl kR kR hr),v0,st,rfl,q1,q2⟩
   ·obtain ⟨v0,st,rfl,hh2,hst⟩:=hR
    refine Sy.stepDA 5 rfl kR (fun _ _ _ _ h => h) kR (goInt st) kF ?_
    refine Sy.anyOf [2] kR (by decide) (Sy.each1 ?_)
    refine Sy.oneLook rfl kR hmp2 (fun v => ∃ z : Int,v = .int .i64 z) (fun wl hl => ?_) (fun v hv => ?_)
    ·obtain ⟨z,hz⟩:=Ents.look hh2 kLaw Tryz.underlying204 kZero (kKeys K hK (k1 + 1)) hkey hl
     exact ⟨_,exec_look rfl kR kR hz,z,rfl⟩
    ·obtain ⟨z,rfl⟩:=hv
     refine Sy.stepDA 3 rfl kR (fun _ _ _ _ h => h) kR (.int .i64 (IntKind.i64.wrap (z + 1))) (exec_int .add _ _ _ .i64 _ _ _ rfl rfl rfl (int_add _ _ _ _ _ rfl)) ?_
     refine Sy.anyOf [6] kR (by decide) (Sy.each1 ?_)
     refine Sy.oneMap rfl rfl kR hmp2 (fun _ es' cl' => Ents es' cl' (dist (kfn K) (k1 + 1))) (fun wl hl => ?_) (fun v es3 cl3 fz3 hfin hmpf => ?_)
     ·obtain ⟨e2,c2,hr,q⟩:=hst wl (IntKind.i64.wrap (z + 1)) hl
      exact ⟨undef,e2,c2,.inr ⟨exec_estore rfl kR kR kR hr,rfl⟩,q⟩
     ·refine sE ?_
      refine Sy.in_ <| Sy.then_ <| Sy.region ?_
      refine sS (.int .i64 ((k1 + 1 : Nat) : Int)) (Quiet.pure (exec_int .add _ _ _ .i64 _ _ _ rfl rfl rfl (int_add _ _ _ _ _ ((wrap_i64 (by omega) (by omega)).trans (by omega))))) <| sP (.int .i64 ((k1 + 1 : Nat) : Int)) ?_
      refine Sy.nil ?_
      exact Sy.againM (w0:=(Base.of w).re fz0) (fz:=fz3) [false] (by omega) hfin hmpf (all_cons kR (all_cons kR (all_cons kR (all_cons kR (all_cons kR all_nil))))) kR
end Cu
end
section
namespace Cu
open Go.RowKit Sy
end Cu
end
section
namespace Cu
open Go.RowKit Sy
set_option maxRecDepth 100000
set_option maxHeartbeats 4000000
theorem lP {n : Nat} (h : n < K4:=by first | assumption | exact small_lt (by assumption) | exact pX_lt _ | exact pY_lt _ | exact lt4 _ | exact Sc.mod_lt _ | decide +kernel) : n < K4:=h
theorem mulR_of {P R : Pt} {k a b : Nat} {i : Bool} (hk : k < K4) (ha : a < K4) (hb : b < K4) (h1 : dec a b i = P) (he : Ec.nm finv (k % Sc.pM) P = R) (w : World) : Calls Tryz.prog 30 #[fv k,pv a b i] w (Gets w (pv (pX R) (pY R) (pI R))):=by
 have h:=mulRe_any w k a b i hk ha hb
 rw [h1,he,ptv_parts] at h
 exact h
end Cu
end
section
namespace Cu
open Go.RowKit Sy
set_option maxRecDepth 100000
set_option maxHeartbeats 4000000
theorem valid_any (w : World) (T : Int) (A : Option Addr) (N c : Nat) (K : Nat → List UInt8) (hK : ∀ i,(K i).length = 32) (hN : N ≤ 4611686018427387904) (hlk : Lst w 32 A N (fun i => (K i).map bv)) : Calls Tryz.prog 50 #[.agg #[.int .i64 T,.slice A N c]] w (Gets w (.bool (validB T N K))):=by
 refine Sy.enter (args:=[.agg #[.int .i64 T,.slice A N c]]) Tryz.func50 rfl kL ?_
 refine sC ?_
 refine sM 38 #[.int .i64 T,.slice A N c] (fun g0 => ?_)
 refine sP (.bool false) ?_
 refine sA ?_
 refine sP (.pointer (some ⟨g0,0,none⟩)) <| sS (.int .i64 T) (qC 0 g0 0 38 3 #[.int .i64 T,.slice A N c] rfl Tryz.underlying3) ?_
 obtain ⟨b1,hb1⟩ : ∃ z : Bool,z = decide (T ≥ 1):=⟨_,rfl⟩
 refine sS (.bool b1) (Quiet.pure (exec_int .geq _ _ _ .i64 _ _ _ rfl rfl rfl (int_geq _ _ _ _ _ hb1.symm))) <| sP (.bool b1) ?_
 cases b1
 ·have lb1 : ¬ (T ≥ 1):=of_decide_eq_false hb1.symm
  refine sN <| sN <| sN <| sN <| sN <| sN ?_
  refine sP (.bool false) <| sP (.bool false) ?_
  refine sN <| sN <| sN <| sN ?_
  refine sP (.bool false) <| sP (.bool false) ?_
  refine sN <| sN <| sN ?_
  refine sP (.bool false) <| sP (.bool false) ?_
  refine sG <| Sy.ret ?_
  rw [show (.bool (validB T N K) : Value) = .bool false from by unfold validB; simp only [show decide (T ≥ 1) = false from decide_eq_false lb1]; rfl]
  exact rV (.bool false) rfl
 ·have lb1 : T ≥ 1:=of_decide_eq_true hb1.symm
  refine sP (.pointer (some ⟨g0,0,none⟩)) <| sS (.int .i64 T) (qC 0 g0 0 38 3 #[.int .i64 T,.slice A N c] rfl Tryz.underlying3) <| sP (.pointer (some ⟨g0,1,none⟩)) <| sS (.slice A N c) (Quiet.cell 0 g0 1 38 36 #[.int .i64 T,.slice A N c] _ _ rfl kR kR Tryz.underlying36 rfl _ kR) <| sP (.int .i64 ((N : Nat) : Int)) ?_
  obtain ⟨b2,hb2⟩ : ∃ z : Bool,z = decide (T ≤ ((N : Nat) : Int)):=⟨_,rfl⟩
  refine sS (.bool b2) (Quiet.pure (exec_int .leq _ _ _ .i64 _ _ _ rfl rfl rfl (int_leq _ _ _ _ _ hb2.symm))) <| sP (.bool b2) <| sP (.bool b2) ?_
  cases b2
  ·have lb2 : ¬ (T ≤ ((N : Nat) : Int)):=of_decide_eq_false hb2.symm
   refine sN <| sN <| sN <| sN ?_
   refine sP (.bool false) <| sP (.bool false) ?_
   refine sN <| sN <| sN ?_
   refine sP (.bool false) <| sP (.bool false) ?_
   refine sG <| Sy.ret ?_
   rw [show (.bool (validB T N K) : Value) = .bool false from by unfold validB; simp only [show decide (T ≥ 1) = true from decide_eq_true lb1,show decide (T ≤ (N : Int)) = false from decide_eq_false lb2]; rfl]
   exact rV (.bool false) rfl
  ·have lb2 : T ≤ ((N : Nat) : Int):=of_decide_eq_true hb2.symm
   refine sP (.pointer (some ⟨g0,1,none⟩)) <| sS (.slice A N c) (Quiet.cell 0 g0 1 38 36 #[.int .i64 T,.slice A N c] _ _ rfl kR kR Tryz.underlying36 rfl _ kR) <| sP (.int .i64 ((N : Nat) : Int)) ?_
   obtain ⟨b3,hb3⟩ : ∃ z : Bool,z = decide (N ≤ 16):=⟨_,rfl⟩
   refine sS (.bool b3) (Quiet.pure (exec_int .leq _ _ _ .i64 _ _ _ rfl rfl rfl (int_leq _ _ _ _ _ (by rw [hb3]; exact decide_eq_decide.2 (by omega))))) <| sP (.bool b3) <| sP (.bool b3) ?_
   cases b3
   ·have lb3 : ¬ (N ≤ 16):=of_decide_eq_false hb3.symm
    refine sN <| sN <| sN ?_
    refine sP (.bool false) <| sP (.bool false) ?_
    refine sG <| Sy.ret ?_
    rw [show (.bool (validB T N K) : Value) = .bool false from by unfold validB; simp only [show decide (T ≥ 1) = true from decide_eq_true lb1,show decide (T ≤ (N : Int)) = true from decide_eq_true lb2,show decide (N ≤ 16) = false from decide_eq_false lb3]; rfl]
    exact rV (.bool false) rfl
   ·have lb3 : N ≤ 16:=of_decide_eq_true hb3.symm
    refine sP (.pointer (some ⟨g0,1,none⟩)) <| sS (.slice A N c) (Quiet.cell 0 g0 1 38 36 #[.int .i64 T,.slice A N c] _ _ rfl kR kR Tryz.underlying36 rfl _ kR) ?_
    obtain ⟨b4,hb4⟩ : ∃ z : Bool,z = diffB N K:=⟨_,rfl⟩
    refine sS (.bool b4) (qG 109 #[.slice A N c] (fun w hw => by rw [hb4]; exact diff_any w A N c K hK hN (hlk.below hw.below))) <| sP (.bool b4) <| sP (.bool b4) ?_
    refine sG <| Sy.ret ?_
    rw [show (.bool (validB T N K) : Value) = .bool b4 from by unfold validB; simp only [show decide (T ≥ 1) = true from decide_eq_true lb1,show decide (T ≤ (N : Int)) = true from decide_eq_true lb2,show decide (N ≤ 16) = true from decide_eq_true lb3]; rw [hb4]; rfl]
    exact rV (.bool b4) rfl
theorem enough_any (w : World) (T : Int) (A : Option Addr) (N c : Nat) (K : Nat → List UInt8) (hK : ∀ i,(K i).length = 32) (hN : N ≤ 4611686018427387904) (hlk : Lst w 32 A N (fun i => (K i).map bv)) (B : Option Addr) (M d : Nat) (Z : Nat → Int) (S : Nat → List UInt8) (hS : ∀ i,(S i).length = 64) (hZ : ∀ i, -9223372036854775808 ≤ Z i ∧ Z i < 9223372036854775808) (hM : M ≤ 4611686018427387904) (hls : Lst w 65 B M (fun i => sgc (Z i) (S i))) (X : Option Addr) (m : List UInt8) (n e : Nat) (hn : m.length = n) (hm : n ≤ 999999900) (he : n ≤ e) (he2 : e ≤ 9223372036854775807) (hs : Sh.Src w X m) (ht : Sh.TabAt w 1) : Calls Tryz.prog 16 #[.agg #[.int .i64 T,.slice A N c],.slice X n e,.slice B M d] w (Gets w (.bool (enB m T N K M Z S))):=by
 have hlk0:=hlk
 obtain ⟨gK,oK,hT⟩:=hlk
 obtain ⟨gS,oS,hU⟩:=hls
 refine Sy.enter (args:=[.agg #[.int .i64 T,.slice A N c],.slice X n e,.slice B M d]) Tryz.func16 rfl kL ?_
 refine sC ?_
 refine sM 38 #[.int .i64 T,.slice A N c] (fun g0 => ?_)
 refine sP (.bool false) ?_
 refine sG <| Sy.seq <| sC ?_
 refine sS (.agg #[.int .i64 T,.slice A N c]) (qL 0 g0 0 2 38 38 #[.int .i64 T,.slice A N c] rfl Tryz.underlying38) ?_
 obtain ⟨b1,hb1⟩ : ∃ z : Bool,z = validB T N K:=⟨_,rfl⟩
 refine sS (.bool b1) (qG 50 #[.agg #[.int .i64 T,.slice A N c]] (fun w hw => by rw [hb1]; exact valid_any w T A N c K hK hN (hlk0.below hw.below))) ?_
 cases b1
 ·refine sP (.bool true) <| sP (.bool true) ?_
  refine sN <| sN <| sN <| sN <| sN ?_
  refine sP (.bool true) ?_
  refine sG <| sT <| sC ?_
  refine sP (.bool false) ?_
  refine sG <| Sy.ret <| Sy.then_ret ?_
  rw [show (.bool (enB m T N K M Z S) : Value) = .bool false from by rw [en_bad hb1.symm]]
  exact rV (.bool false) rfl
 ·refine sP (.bool false) <| sP (.bool false) <| sP (.slice B M d) <| sP (.int .i64 ((M : Nat) : Int)) <| sP (.pointer (some ⟨g0,0,none⟩)) <| sS (.int .i64 T) (qC 0 g0 0 38 3 #[.int .i64 T,.slice A N c] rfl Tryz.underlying3) ?_
  obtain ⟨b2,hb2⟩ : ∃ z : Bool,z = decide (((M : Nat) : Int) < T):=⟨_,rfl⟩
  refine sS (.bool b2) (Quiet.pure (exec_int .lss _ _ _ .i64 _ _ _ rfl rfl rfl (int_lss _ _ _ _ _ hb2.symm))) <| sP (.bool b2) ?_
  refine sG ?_
  cases b2
  ·have lb2 : ¬ (((M : Nat) : Int) < T):=of_decide_eq_false hb2.symm
   refine sU <| Sy.skip <| sB ?_
   refine sP (.int .i64 0) ?_
   refine sG <| Sy.seq <| sC ?_
   refine sP (.slice B M d) <| sP (.int .i64 ((M : Nat) : Int)) <| sP (.int .i64 0) ?_
   refine sG <| Sy.block ?_
   refine Sy.loopH M (fun k1 => ∀ j,j < k1 → okS m N K Z S j = true) (fun k1 => [(1,.slice X n e),(2,.slice B M d),(3,.pointer (some ⟨g0,0,none⟩)),(7,.int .i64 (nxt Z k1)),(20,.slice B M d),(21,.int .i64 ((M : Nat) : Int)),(22,.int .i64 ((k1 : Nat) : Int))]) (fun k1 => [(g0,38,#[.int .i64 T,.slice A N c])]) [true] (M:=[(g0,38,#[.int .i64 T,.slice A N c])]) (fun j hj => absurd hj (Nat.not_lt_zero _)) (all_cons kR (all_cons kR (all_cons kR (all_cons kR (all_cons kR (all_cons kR (all_cons kR all_nil))))))) kR (bcons rfl rfl) (fun k1 hk1 hh => ?_)
   have hh1:=hh
   have hz:=hZ k1
   refine sC ?_
   obtain ⟨b3,hb3⟩ : ∃ z : Bool,z = decide (k1 < M):=⟨_,rfl⟩
   refine sS (.bool b3) (Quiet.pure (exec_int .lss _ _ _ .i64 _ _ _ rfl rfl rfl (int_lss _ _ _ _ _ (by rw [hb3]; exact decide_eq_decide.2 (by omega))))) ?_
   refine sG <| Sy.seq ?_
   cases b3
   ·have lb3 : ¬ (k1 < M):=of_decide_eq_false hb3.symm
    refine sU <| Sy.exit <| Sy.then_exit <| Sy.then_exit ?_
    obtain rfl : M = k1:=by omega
    refine Sy.in_exit <| sB ?_
    refine sP (.bool true) ?_
    refine sG <| Sy.ret ?_
    rw [show (.bool (enB m T N K M Z S) : Value) = .bool true from by rw [en_yes hb1.symm lb2 hh1]]
    exact rV (.bool true) rfl
   ·have lb3 : k1 < M:=of_decide_eq_true hb3.symm
    refine sT <| Sy.skip <| Sy.then_ <| Sy.seq <| Sy.block <| sC ?_
    refine sS (.pointer (some ⟨gS,oS + k1 * 65,none⟩)) (Quiet.pure (exec_atO 39 _ _ _ B gS oS M d k1 65 .i64 (hU (by omega)).1 rfl rfl rfl Tryz.underlying39 kF (by omega))) <| sS (.agg (sgc (Z k1) (S k1)).toArray) (Quiet.there gS (oS + k1 * 65) 65 43 (sgc (Z k1) (S k1)) _ _ rfl kR (hU (by omega)).2.1 ((hU (by omega)).2.2 k1 (by omega)) Tryz.underlying43 rfl kR (sgc_len (n:=64) _ (hS _)) _ rfl) ?_
    refine sM 43 (sgc 0 (List.replicate 64 (0 : UInt8))).toArray (fun g1 => ?_)
    refine sW 1 g1 43 (sgc 0 (List.replicate 64 (0 : UInt8))).toArray (sgc (Z k1) (S k1)).toArray (Writes.row 43 (sgc (Z k1) (S k1)) 65 _ _ rfl kR kR kR (sgc_len (n:=64) _ (hS _)) kR (sgc_one _ _)) ?_
    refine sG <| Sy.seq <| Sy.seq ?_
    refine Sy.regionD (fun j => false) kR ?_
    refine sZ 0 rfl (.pointer (some ⟨g1,0,none⟩)) <| sD 1 rfl (.int .i64 (Z k1)) (qC 1 g1 0 43 3 (sgc (Z k1) (S k1)).toArray rfl Tryz.underlying3) <| sZ 2 rfl (.int .i64 (nxt Z k1)) ?_
    obtain ⟨b4,hb4⟩ : ∃ z : Bool,z = decide ((Z k1) < (nxt Z k1)):=⟨_,rfl⟩
    refine sD 3 rfl (.bool b4) (Quiet.pure (exec_int .lss _ _ _ .i64 _ _ _ rfl rfl rfl (int_lss _ _ _ _ _ hb4.symm))) <| sZ 4 rfl (.bool b4) ?_
    cases b4
    ·have lb4 : ¬ ((Z k1) < (nxt Z k1)):=of_decide_eq_false hb4.symm
     refine sZ 5 rfl (.pointer (some ⟨g1,0,none⟩)) <| sD 6 rfl (.int .i64 (Z k1)) (qC 1 g1 0 43 3 (sgc (Z k1) (S k1)).toArray rfl Tryz.underlying3) <| sZ 7 rfl (.pointer (some ⟨g0,1,none⟩)) <| sD 8 rfl (.slice A N c) (Quiet.cell 0 g0 1 38 36 #[.int .i64 T,.slice A N c] _ _ rfl kR kR Tryz.underlying36 rfl _ kR) <| sZ 9 rfl (.int .i64 ((N : Nat) : Int)) ?_
     obtain ⟨b5,hb5⟩ : ∃ z : Bool,z = decide ((Z k1) ≥ ((N : Nat) : Int)):=⟨_,rfl⟩
     refine sD 10 rfl (.bool b5) (Quiet.pure (exec_int .geq _ _ _ .i64 _ _ _ rfl rfl rfl (int_geq _ _ _ _ _ hb5.symm))) <| sZ 11 rfl (.bool b5) <| sZ 12 rfl (.bool b5) ?_
     cases b5
     ·have lb5 : ¬ ((Z k1) ≥ ((N : Nat) : Int)):=of_decide_eq_false hb5.symm
      refine sZ 13 rfl (.pointer (some ⟨g0,1,none⟩)) <| sD 14 rfl (.slice A N c) (Quiet.cell 0 g0 1 38 36 #[.int .i64 T,.slice A N c] _ _ rfl kR kR Tryz.underlying36 rfl _ kR) <| sZ 15 rfl (.pointer (some ⟨g1,0,none⟩)) <| sD 16 rfl (.int .i64 (Z k1)) (qC 1 g1 0 43 3 (sgc (Z k1) (S k1)).toArray rfl Tryz.underlying3) ?_
      have hnp:=nxt_pos hh1 k1 (Nat.le_refl _)
      obtain ⟨q1,hq1⟩ : ∃ q : Nat,(Z k1) = (q : Int):=⟨((Z k1)).toNat,by omega⟩
      refine sD 17 rfl (.pointer (some ⟨gK,oK + q1 * 32,none⟩)) (Quiet.pure (exec_atO 36 _ _ _ A gK oK N c q1 32 .i64 (hT (by omega)).1 rfl rfl (show Value.int .i64 (Z k1) = .int .i64 ((q1 : Nat) : Int) from by rw [hq1]) Tryz.underlying36 kF (by omega))) <| sD 18 rfl (.agg ((K q1).map bv).toArray) (Quiet.there gK (oK + q1 * 32) 32 31 ((K q1).map bv) _ _ rfl kR (hT (by omega)).2.1 ((hT (by omega)).2.2 q1 (by omega)) Tryz.underlying31 rfl kR ((List.length_map ..).trans (hK _)) _ rfl) <| sZ 19 rfl (.slice X n e) <| sZ 20 rfl (.pointer (some ⟨g1,1,none⟩)) <| sD 21 rfl (.agg ((S k1).map bv).toArray) (Quiet.mid 1 g1 1 64 43 27 (sgc (Z k1) (S k1)) ((S k1).map bv) _ _ rfl kR kR Tryz.underlying27 rfl kR (sgc_mid _ (hS _)) (by rw [sgc_len (n:=64) _ (hS _)]; decide)) ?_
      obtain ⟨b6,hb6⟩ : ∃ z : Bool,z = verB (K q1) m (S k1):=⟨_,rfl⟩
      refine sD 22 rfl (.bool b6) (qG 49 #[.agg ((K q1).map bv).toArray,.slice X n e,.agg ((S k1).map bv).toArray] (fun w hw => by rw [hb6]; exact verify_any w (K q1) (S k1) (hK _) (hS _) X m n e hn hm he he2 (hs.below hw.below) (ht.below hw.below ht.lt))) ?_
      cases b6
      ·refine sZ 23 rfl (.bool true) <| sZ 24 rfl (.bool true) ?_
       refine sI ?_
       refine sT <| sC ?_
       refine sP (.bool false) ?_
       refine sG <| Sy.ret <| Sy.then_ret <| Sy.in_ret <| Sy.then_ret <| Sy.then_ret <| Sy.in_ret <| Sy.then_ret ?_
       rw [show (.bool (enB m T N K M Z S) : Value) = .bool false from by rw [en_no lb3 ((ok_ver lb4 lb5 hq1).trans hb6.symm)]]
       exact rV (.bool false) rfl
      ·have hok : okS m N K Z S k1 = true:=(ok_ver lb4 lb5 hq1).trans hb6.symm
       have hsb:=ok_sub hok
       refine sZ 23 rfl (.bool false) <| sZ 24 rfl (.bool false) ?_
       refine sI ?_
       refine sU <| Sy.skip <| Sy.then_ <| Sy.region ?_
       refine sP (.pointer (some ⟨g1,0,none⟩)) <| sS (.int .i64 (Z k1)) (qC 1 g1 0 43 3 (sgc (Z k1) (S k1)).toArray rfl Tryz.underlying3) <| sS (.int .i64 ((Z k1) + 1)) (Quiet.pure (exec_int .add _ _ _ .i64 _ _ _ rfl rfl rfl (int_add _ _ _ _ _ (wrap_i64 (by omega) (by omega))))) <| sP (.int .i64 ((Z k1) + 1)) ?_
       refine Sy.nil <| Sy.in_ <| Sy.then_ <| Sy.region ?_
       refine sS (.int .i64 ((k1 + 1 : Nat) : Int)) (Quiet.pure (exec_int .add _ _ _ .i64 _ _ _ rfl rfl rfl (int_add _ _ _ _ _ ((wrap_i64 (by omega) (by omega)).trans (by omega))))) <| sP (.int .i64 ((k1 + 1 : Nat) : Int)) ?_
       refine Sy.nil ?_
       exact Sy.againH [true,false] (M:=[(g0,38,#[.int .i64 T,.slice A N c])]) (by omega) (fun j hj => (Nat.lt_succ_iff_lt_or_eq.1 hj).elim (hh1 j) (fun h => by rw [h]; exact hok)) (all_cons kR (all_cons kR (all_cons kR (all_cons kR (all_cons kR (all_cons kR (all_cons kR all_nil))))))) kR (bcons rfl rfl)
     ·have lb5 : (Z k1) ≥ ((N : Nat) : Int):=of_decide_eq_true hb5.symm
      refine sQ 13 rfl <| sQ 14 rfl <| sQ 15 rfl <| sQ 16 rfl <| sQ 17 rfl <| sQ 18 rfl <| sQ 19 rfl <| sQ 20 rfl ?_
      refine sQ 21 rfl <| sQ 22 rfl <| sQ 23 rfl <| sZ 24 rfl (.bool true) ?_
      refine sI ?_
      refine sT <| sC ?_
      refine sP (.bool false) ?_
      refine sG <| Sy.ret <| Sy.then_ret <| Sy.in_ret <| Sy.then_ret <| Sy.then_ret <| Sy.in_ret <| Sy.then_ret ?_
      rw [show (.bool (enB m T N K M Z S) : Value) = .bool false from by rw [en_no lb3 (ok_high lb5)]]
      exact rV (.bool false) rfl
    ·have lb4 : (Z k1) < (nxt Z k1):=of_decide_eq_true hb4.symm
     refine sQ 5 rfl <| sQ 6 rfl <| sQ 7 rfl <| sQ 8 rfl <| sQ 9 rfl <| sQ 10 rfl <| sZ 11 rfl (.bool true) <| sZ 12 rfl (.bool true) ?_
     refine sQ 13 rfl <| sQ 14 rfl <| sQ 15 rfl <| sQ 16 rfl <| sQ 17 rfl <| sQ 18 rfl <| sQ 19 rfl <| sQ 20 rfl ?_
     refine sQ 21 rfl <| sQ 22 rfl <| sQ 23 rfl <| sZ 24 rfl (.bool true) ?_
     refine sI ?_
     refine sT <| sC ?_
     refine sP (.bool false) ?_
     refine sG <| Sy.ret <| Sy.then_ret <| Sy.in_ret <| Sy.then_ret <| Sy.then_ret <| Sy.in_ret <| Sy.then_ret ?_
     rw [show (.bool (enB m T N K M Z S) : Value) = .bool false from by rw [en_no lb3 (ok_low lb4)]]
     exact rV (.bool false) rfl
  ·have lb2 : ((M : Nat) : Int) < T:=of_decide_eq_true hb2.symm
   refine sT <| sC ?_
   refine sP (.bool false) ?_
   refine sG <| Sy.ret <| Sy.then_ret ?_
   rw [show (.bool (enB m T N K M Z S) : Value) = .bool false from by rw [en_few lb2]]
   exact rV (.bool false) rfl
end Cu
end
section
namespace Cu
open Go.RowKit Sy
def okR : Pt → Nat → Bool
 | none,_ => false
 | some (x,y),n => decide (y.val % 2 = 0) && decide (x.val = n)
def vrP (key m s : List UInt8) : Pt:=Ec.add finv (Ec.nm finv ((Sc.readS ((s.drop 32).take 32)).1 % Sc.pM) bP) (Ec.neg (Ec.nm finv (chalS ((s.drop 0).take 32) key m % Sc.pM) (liftP key)))
def refB (key m s : List UInt8) : Bool:=liftB key && decide (valB ((s.drop 0).take 32) < pM) && (Sc.readS ((s.drop 32).take 32)).2 && okR (vrP key m s) (valB ((s.drop 0).take 32))
theorem vrP_is (key m s : List UInt8) : rPt (Sc.readS ((s.drop 32).take 32)).1 (Sc.negP (chalS ((s.drop 0).take 32) key m)) (pX (liftP key)) (pY (liftP key)) (pI (liftP key)) = vrP key m s:=by
 unfold rPt vrP
 rw [dec_parts (liftP_on key),nm_negP (liftP_on key)]
theorem code_ok (R : Pt) (X : List UInt8) (hX : X.length = 32) : (decide ((encS R).getD 0 0 = UInt8.ofNat 2) && decide (((encS R).drop 1).take 32 = X)) = (decide (valB X < pM) && okR R (valB X)):=by
 rcases R with _ | ⟨x,y⟩
 ·show (decide ((0 : UInt8) = UInt8.ofNat 2) && _) = (_ && false)
  rw [Bool.and_false,show decide ((0 : UInt8) = UInt8.ofNat 2) = false from by decide]
  rfl
 ·have e1 : ((encS (some (x,y))).drop 1).take 32 = bytesS x.val:=by
   show (bytesS x.val).take 32 = _
   rw [List.take_of_length_le (by rw [bytesS_length]; exact Nat.le_refl _)]
  have e2 : decide ((encS (some (x,y))).getD 0 0 = UInt8.ofNat 2) = decide (y.val % 2 = 0):=by
   show decide ((if y.val % 2 = 1 then (3 : UInt8) else 2) = UInt8.ofNat 2) = _
   by_cases h : y.val % 2 = 1
   ·rw [if_pos h,decide_eq_false (show ¬ (3 : UInt8) = UInt8.ofNat 2 by decide),decide_eq_false (by omega)]
   ·rw [if_neg h,decide_eq_true (show (2 : UInt8) = UInt8.ofNat 2 by decide),decide_eq_true (by omega)]
  have e3 : decide (bytesS x.val = X) = (decide (valB X < pM) && decide (x.val = valB X)):=by
   by_cases h : bytesS x.val = X
   ·have hv : valB X = x.val:=by rw [← h]; exact valB_bytesS _ (lt4 x)
    have hx:=x.isLt
    rw [decide_eq_true h,hv,decide_eq_true rfl,decide_eq_true hx]
    rfl
   ·have hn : ¬ x.val = valB X:=fun q => h (by rw [q]; exact bytesS_valB X hX)
    rw [decide_eq_false h,decide_eq_false hn,Bool.and_false]
  rw [e1,e2,e3]
  show _ = (_ && (decide (y.val % 2 = 0) && decide (x.val = valB X)))
  cases decide (y.val % 2 = 0) <;> cases decide (valB X < pM) <;> rfl
theorem ref_ver (key m s : List UInt8) (hs : s.length = 64) : refB key m s = verB key m s:=by
 have h:=code_ok (vrP key m s) ((s.drop 0).take 32) (part_len hs (by decide))
 unfold refB verB ansB
 rw [vrP_is,h]
 cases liftB key <;> cases decide (valB ((s.drop 0).take 32) < pM) <;> cases (Sc.readS ((s.drop 32).take 32)).2 <;> rfl
end Cu
end
section
namespace Sc
open Go.RowKit Go.Lib
end Sc
end
section
namespace Sc
open Go.RowKit Go.Lib
section
variable {P : Program} {ops : Array Oper}
end
end Sc
end
section
namespace Sc
open Go.RowKit Go.Lib
end Sc
end
section
namespace Cu
open Go.RowKit Sy
set_option maxRecDepth 100000
end Cu
end
section
namespace Cu
open Go.RowKit Sy
theorem textN_any (w : World) (nm : List UInt8) (hnm : nm.length = 32) : Calls Tryz.prog 72 #[.agg (nm.map bv).toArray] w (GetsN w (fun vq Mq => ∃ (g : Nat) (sp : List Value) (cap : Nat),vq = .slice (some ⟨g,0,none⟩) 32 cap ∧ (32 ≤ cap ∧ cap ≤ 9223372036854775807) ∧ Mq = [(g,5,(nm.map bv ++ sp).toArray)])):=by
 refine (Sh.textR_any w nm hnm).mono ?_
 rintro e w' ⟨g,cap,rfl,ho,hl,hb⟩
 unfold Sh.OwnB at ho
 rw [hnm] at ho
 rcases ho.2 with ⟨h0,_⟩ | ⟨g',cap',cur,hv,hg,hk,q3,q4,q5,q6⟩
 ·cases h0
 ·cases hv
  have hc : cur = (nm.map bv ++ cur.toList.drop 32).toArray:=by
   rw [Nat.mul_one] at q6
   rw [← q6,List.take_append_drop]
  refine ⟨_,[(g,5,cur)],rfl,⟨g,cur.toList.drop 32,cap,rfl,⟨by omega,by simp only [maxLen] at q4; omega⟩,by rw [← hc]⟩,hb,fun g1 t1 cs1 hm => ?_,by simp⟩
  simp only [List.mem_singleton,Prod.mk.injEq] at hm
  obtain ⟨rfl,rfl,rfl⟩:=hm
  exact ⟨hg,hk⟩
theorem src_own {w : World} {g : Nat} {t : TypeId} {m : List UInt8} {sp : List Value} (hb : Blk w g t (m.map bv ++ sp).toArray) : Sh.Src w (some ⟨g,0,none⟩) m:=fun _ => ⟨g,0,rfl,hb.lt,fun j u hj => by
 rw [Nat.zero_add]
 refine (hb.cell j).trans ?_
 have hl:=(List.getElem?_eq_some_iff.1 hj).1
 rw [List.getElem?_toArray,List.getElem?_append_left (by rw [List.length_map]; exact hl),List.getElem?_map,hj]
 rfl⟩
end Cu
end
section
namespace Cu
open Go.RowKit Sy
set_option maxRecDepth 100000
set_option maxHeartbeats 4000000
theorem own_cell {w : World} {g : Nat} {t : TypeId} {m : List UInt8} {sp : List Value} (hb : Blk w g t (m.map bv ++ sp).toArray) (j : Nat) (u : UInt8) (hj : m[j]? = some u) : w.cell? ⟨g,j,none⟩ = some (bv u):=by
 refine (hb.cell j).trans ?_
 have hl:=(List.getElem?_eq_some_iff.1 hj).1
 rw [List.getElem?_toArray,List.getElem?_append_left (by rw [List.length_map]; exact hl),List.getElem?_map,hj]
 rfl
theorem nsc_any (w : World) (a : Nat) (ha : a < K4) : Calls Tryz.prog 34 #[fv a] w (Gets w (fv (a % Sc.pM))):=by
 refine Sy.enter (args:=[fv a]) Tryz.func34 rfl kL ?_
 refine sC ?_
 refine sM 24 (fcs a) (fun g0 => ?_)
 refine sM 24 (fcs 0) (fun g1 => ?_)
 refine sH (fun j => j == 5) ?_
 refine sD 0 rfl (.agg modN) (qF 75 #[] (Sc.refN_any)) <| sD 1 rfl (fv a) (qL 0 g0 0 4 24 24 (fcs a) rfl Tryz.underlying24) <| sD 2 rfl (fv a) (qF 76 #[fv a] (fun w => Sc.refOf_any w a (by first | assumption | exact Sc.mod_lt _ | exact lt4 _ | exact valB_lt32 _ (by first | assumption | exact bytesS_length _) | decide +kernel))) <| sD 3 rfl (fv (a % Sc.pM)) (qF 74 #[.agg modN,fv a] (fun w => Sc.normR_any w a (by first | assumption | exact Sc.mod_lt _ | exact lt4 _ | exact valB_lt32 _ (by first | assumption | exact bytesS_length _) | decide +kernel))) <| sD 4 rfl (fv (a % Sc.pM)) (qF 85 #[fv (a % Sc.pM)] (fun w => Sc.refSc_any w (a % Sc.pM) (by first | assumption | exact Sc.mod_lt _ | exact lt4 _ | exact valB_lt32 _ (by first | assumption | exact bytesS_length _) | decide +kernel))) <| sX 5 rfl 1 g1 24 (fcs 0) (fcs (a % Sc.pM)) (wS 0 24 (fcs (a % Sc.pM)) rfl) ?_
 refine sI ?_
 refine Sy.ret ?_
 exact rC (v:=fv (a % Sc.pM)) 24 g1 1 (fcs (a % Sc.pM)) rfl Tryz.underlying24
theorem rsc_any (w : World) (l : List UInt8) (hl : l.length = 32) : Calls Tryz.prog 104 #[.agg (l.map bv).toArray] w (Gets w (fv (valB l % Sc.pM))):=by
 refine Sy.enter (args:=[.agg (l.map bv).toArray]) Tryz.func104 rfl kL ?_
 refine sC ?_
 refine sM 47 (l.map bv).toArray (fun g0 => ?_)
 refine sM 24 (fcs 0) (fun g1 => ?_)
 refine sA ?_
 refine sS (.agg (l.map bv).toArray) (Quiet.load 0 g0 0 32 47 47 (l.map bv).toArray _ _ rfl kR kR Tryz.underlying47 rfl kR _ (key_whole l hl) (key_size l hl)) ?_
 refine Sy.callN kR 72 #[.agg (l.map bv).toArray] kF (fun vq Mq => ∃ (g : Nat) (sp : List Value) (cap : Nat),vq = .slice (some ⟨g,0,none⟩) 32 cap ∧ (32 ≤ cap ∧ cap ≤ 9223372036854775807) ∧ Mq = [(g,5,(l.map bv ++ sp).toArray)]) (fun w _ => textN_any w l hl) (fun vq Mq hR0 => ?_)
 obtain ⟨go1,spo1,cpo1,rfl,hcpo1,rfl⟩:=hR0
 refine sS (fv (valB l)) (qG 52 #[.slice (some ⟨go1,0,none⟩) 32 cpo1] (fun w hw => numberR_any w go1 cpo1 l hl (hw.get (i:=2) rfl).lt (own_cell (hw.get (i:=2) rfl)) hcpo1.1 hcpo1.2)) <| sS (fv (valB l)) (qF 85 #[fv (valB l)] (fun w => Sc.refSc_any w (valB l) (by first | assumption | exact Sc.mod_lt _ | exact lt4 _ | exact valB_lt32 _ (by first | assumption | exact bytesS_length _) | decide +kernel))) <| sS (fv ((valB l) % Sc.pM)) (qF 34 #[fv (valB l)] (fun w => nsc_any w (valB l) (by first | assumption | exact Sc.mod_lt _ | exact lt4 _ | exact valB_lt32 _ (by first | assumption | exact bytesS_length _) | decide +kernel))) <| sW 1 g1 24 (fcs 0) (fcs ((valB l) % Sc.pM)) (wS 0 24 (fcs ((valB l) % Sc.pM)) rfl) ?_
 refine sG <| Sy.ret ?_
 exact rC (v:=fv ((valB l) % Sc.pM)) 24 g1 1 (fcs ((valB l) % Sc.pM)) rfl Tryz.underlying24
end Cu
end
section
namespace Cu
open Go.RowKit Sy
set_option maxRecDepth 100000
set_option maxHeartbeats 4000000
theorem key_sym {l : List UInt8} {n : Nat} (h : l.length = n) {k o : Nat} (hk : k < n) (ho : o = k) : ((l.map bv).toArray)[o]? = some (bv (l.getD k 0)):=by
 subst h ho
 rw [List.getElem?_toArray,List.getElem?_map,List.getD_eq_getElem?_getD,List.getElem?_eq_getElem hk]
 rfl
theorem cat_get1 {X Y : List UInt8} {n k : Nat} (hX : X.length = n) (hk : k < n) : (X ++ Y).getD k 0 = X.getD k 0:=by
 rw [List.getD_eq_getElem?_getD,List.getD_eq_getElem?_getD,List.getElem?_append_left (by omega)]
theorem cat_get2 {X Y : List UInt8} {n k : Nat} (hX : X.length = n) : (X ++ Y).getD (n + k) 0 = Y.getD k 0:=by
 rw [List.getD_eq_getElem?_getD,List.getD_eq_getElem?_getD,List.getElem?_append_right (by omega),hX,Nat.add_sub_cancel_left]
theorem red_any (w : World) (nm : ByteArray) (hnm : nm.size ≤ 1000000000) (T : Option Addr) (ts : List Sh.Tx) (n ct : Nat) (hn : ts.length = n) (hn2 : n ≤ 1000000000) (hT : Sh.Texts w T ts) (htr : Sh.TabAt w 0) (hm : (Sh.cat ts).length ≤ 1000000000) : Calls Tryz.prog 45 #[.string nm,.slice T n ct] w (Gets w (fv (valB (Sh.taggedS nm.data.toList (Sh.cat ts)) % Sc.pM))):=by
 refine Sy.enter (args:=[.string nm,.slice T n ct]) Tryz.func45 rfl kL ?_
 refine sC ?_
 refine sM 24 (fcs 0) (fun g0 => ?_)
 refine sA ?_
 refine sP (.string nm) <| sP (.slice T n ct) <| sS (.agg ((Sh.taggedS nm.data.toList (Sh.cat ts)).map bv).toArray) (qG 44 #[.string nm,.slice T n ct] (fun w hw => by have q:=Sh.taggedR_any w nm T ts ct (hT.below hw.below) (htr.below hw.below htr.lt) hnm hm (by omega); rw [hn] at q; exact q)) <| sS (fv (valB (Sh.taggedS nm.data.toList (Sh.cat ts)) % Sc.pM)) (qF 104 #[.agg ((Sh.taggedS nm.data.toList (Sh.cat ts)).map bv).toArray] (fun w => rsc_any w (Sh.taggedS nm.data.toList (Sh.cat ts)) (tagS_length _ _))) <| sW 0 g0 24 (fcs 0) (fcs (valB (Sh.taggedS nm.data.toList (Sh.cat ts)) % Sc.pM)) (wS 0 24 (fcs (valB (Sh.taggedS nm.data.toList (Sh.cat ts)) % Sc.pM)) rfl) ?_
 refine sG <| Sy.ret ?_
 exact rC (v:=fv (valB (Sh.taggedS nm.data.toList (Sh.cat ts)) % Sc.pM)) 24 g0 0 (fcs (valB (Sh.taggedS nm.data.toList (Sh.cat ts)) % Sc.pM)) rfl Tryz.underlying24
theorem rdR_any (w : World) (g cp : Nat) (l : List UInt8) (hl : l.length = 32) (hg : g < w.heap.size) (hc : ∀ j u,l[j]? = some u → w.cell? ⟨g,j,none⟩ = some (bv u)) (h1 : 32 ≤ cp) (h2 : cp ≤ 9223372036854775807) : Calls Tryz.prog 55 #[.slice (some ⟨g,0,none⟩) 32 cp] w (Gets w (.tuple #[fv (Sc.readS l).1,.bool (Sc.readS l).2])):=by
 refine Sy.enter (args:=[.slice (some ⟨g,0,none⟩) 32 cp]) Tryz.func55 rfl kL ?_
 refine sC ?_
 refine sM 24 (fcs 0) (fun g0 => ?_)
 refine sP (.bool false) ?_
 refine sA ?_
 refine sP (.slice (some ⟨g,0,none⟩) 32 cp) <| sS (fv (valB l)) (qG 52 #[.slice (some ⟨g,0,none⟩) 32 cp] (fun w hw => numberR_any w g cp l hl (Nat.lt_of_lt_of_le hg hw.below.size) (fun j u hj => (Below.cell (p:=⟨g,j,none⟩) hw.below hg).trans (hc j u hj)) h1 h2)) ?_
 refine sM 97 (fcs 0) (fun g1 => ?_)
 refine sW 1 g1 97 (fcs 0) (fcs (valB l)) (wS 0 97 (fcs (valB l)) rfl) ?_
 refine sH (fun j => false) ?_
 refine sD 0 rfl (.agg modN) (qF 75 #[] (Sc.refN_any)) <| sD 1 rfl (fv (valB l)) (qL 1 g1 0 4 97 97 (fcs (valB l)) rfl Tryz.underlying97) ?_
 obtain ⟨b1,hb1⟩ : ∃ z : Bool,z = decide (valB l < Sc.pM):=⟨_,rfl⟩
 refine sD 2 rfl (.bool b1) (qF 53 #[.agg modN,fv (valB l)] (fun w => by rw [hb1]; exact Sc.rightR_any w (valB l) (valB_lt32 l hl))) <| sZ 3 rfl (.bool b1) ?_
 refine sI ?_
 refine Sy.seq <| sC ?_
 refine sP (.slice (some ⟨g,0,none⟩) 32 cp) <| sP (.int .i64 32) <| sP (.bool false) <| sP (.bool false) <| sP (.bool b1) ?_
 cases b1
 ·refine sP (.bool true) <| sP (.bool true) ?_
  refine sG <| sT <| sC ?_
  refine sP (fv 0) <| sW 0 g0 24 (fcs 0) (fcs 0) (wS 0 24 (fcs 0) rfl) <| sP (.bool false) ?_
  refine sG <| Sy.ret <| Sy.then_ret ?_
  rw [show (.tuple #[fv (Sc.readS l).1,.bool (Sc.readS l).2] : Value) = .tuple #[fv 0,.bool false] from by unfold Sc.readS; rw [if_neg (of_decide_eq_false hb1.symm)]]
  exact Sy.ret2 (v:=fv 0) (u:=.bool false) rfl (.inl (Res.cell (ty':=24) g0 0 (fcs 0) _ kR kR Tryz.underlying24 rfl kR kR)) (.inl (show _ = _ by kernel_rfl))
 ·refine sP (.bool false) <| sP (.bool false) ?_
  refine sG <| sU <| Sy.skip <| sB ?_
  refine sS (fv (valB l)) (qL 1 g1 0 4 97 97 (fcs (valB l)) rfl Tryz.underlying97) <| sS (fv (valB l)) (qF 85 #[fv (valB l)] (fun w => Sc.refSc_any w (valB l) (by first | assumption | exact Sc.mod_lt _ | exact lt4 _ | exact valB_lt32 _ (by first | assumption | exact bytesS_length _) | decide +kernel))) <| sW 0 g0 24 (fcs 0) (fcs (valB l)) (wS 0 24 (fcs (valB l)) rfl) <| sP (.bool true) ?_
  refine sG <| Sy.ret ?_
  rw [show (.tuple #[fv (Sc.readS l).1,.bool (Sc.readS l).2] : Value) = .tuple #[fv (valB l),.bool true] from by unfold Sc.readS; rw [if_pos (of_decide_eq_true hb1.symm)]]
  exact Sy.ret2 (v:=fv (valB l)) (u:=.bool true) rfl (.inl (Res.cell (ty':=24) g0 0 (fcs (valB l)) _ kR kR Tryz.underlying24 rfl kR kR)) (.inl (show _ = _ by kernel_rfl))
end Cu
end
section
namespace Cu
open Go.RowKit Sy
def refC (key m X Y : List UInt8) : Bool:=liftB key && decide (valB X < pM) && (Sc.readS Y).2 && okR (Ec.add finv (Ec.nm finv ((Sc.readS Y).1 % Sc.pM) bP) (Ec.neg (Ec.nm finv (chalS X key m % Sc.pM) (liftP key)))) (valB X)
theorem refC_is (key m X Y : List UInt8) (hX : X.length = 32) (hY : Y.length = 32) : refC key m X Y = refB key m (X ++ Y):=by
 have e1 : ((X ++ Y).drop 0).take 32 = X:=by rw [List.drop_zero, ← hX,List.take_left]
 have e2 : ((X ++ Y).drop 32).take 32 = Y:=by rw [← hX,List.drop_left,hX, ← hY,List.take_length]
 unfold refC refB vrP
 rw [e1,e2]
theorem okR_raw {R : Pt} {x y : Nat} {i : Bool} (h : dec x y i = R) (hr : rightB x y i = true) (n : Nat) : okR R n = (!i && (decide (y % 18446744073709551616 % 2 = 0) && decide (x = n))):=by
 subst h
 cases i with
 | true =>
  rw [dec_inf]
  rfl
 | false =>
  have hr':=hr
  unfold rightB at hr
  rw [if_neg (by decide),Bool.and_eq_true,Bool.and_eq_true,decide_eq_true_eq,decide_eq_true_eq,decide_eq_true_eq] at hr
  have e : dec x y false = some (⟨x,hr.1.1⟩,⟨y,hr.1.2⟩):=by
   unfold dec
   rw [dif_pos ⟨rfl,hr.1.1,hr.1.2,hr.2⟩]
  rw [e]
  show (decide (y % 2 = 0) && decide (x = n)) = _
  rw [show y % 18446744073709551616 % 2 = y % 2 by omega]
  rfl
theorem negR_of {P R : Pt} {a b : Nat} {i : Bool} (ha : a < K4) (hb : b < K4) (h1 : dec a b i = P) (he : Ec.neg P = R) (w : World) : Calls Tryz.prog 57 #[pv a b i] w (Gets w (pv (pX R) (pY R) (pI R))):=by
 have h:=negRe_any w a b i ha hb
 rw [h1,he,ptv_parts] at h
 exact h
theorem add_raw {P Q R : Pt} {a b c d x y : Nat} {i j k : Bool} (ha : a < K4) (hb : b < K4) (hc : c < K4) (hd : d < K4) (h1 : dec a b i = P) (h2 : dec c d j = Q) (he : Ec.add finv P Q = R) (h3 : ptv R = pv x y k) (w : World) : Calls Tryz.prog 56 #[pv a b i,pv c d j] w (Gets w (pv x y k)):=by
 have h:=addRe_any w a b i c d j ha hb hc hd
 rw [h1,h2,he,h3] at h
 exact h
theorem ok_own {w : World} {g : Nat} {t : TypeId} {l : List UInt8} {sp : List Value} {c : Nat} (hb : Blk w g t (l.map bv ++ sp).toArray) (hl : l.length = 32) (hc : 32 ≤ c ∧ c ≤ 9223372036854775807) : (Sh.Tx.mk (some ⟨g,0,none⟩) l c).ok w:=⟨src_own hb,by show l.length ≤ c; omega,hc.2⟩
theorem val_own {g c : Nat} {l : List UInt8} (hl : l.length = 32) : (Sh.Tx.mk (some ⟨g,0,none⟩) l c).val = .slice (some ⟨g,0,none⟩) 32 c:=by
 unfold Sh.Tx.val
 rw [hl]
theorem red3_c {w : World} {nm : ByteArray} (hnm : nm.size ≤ 1000000000) {g g1 g2 : Nat} {t t1 t2 : TypeId} {x y m : List UInt8} {A : Option Addr} {c cx cy n : Nat} {sx sy : List Value} (hx : x.length = 32) (hy : y.length = 32) (hn : m.length = n) (hm : n ≤ 999999900) (hc : n ≤ c) (hc2 : c ≤ 9223372036854775807)
  (h1 : Blk w g1 t1 (x.map bv ++ sx).toArray) (c1 : 32 ≤ cx ∧ cx ≤ 9223372036854775807) (h2 : Blk w g2 t2 (y.map bv ++ sy).toArray) (c2 : 32 ≤ cy ∧ cy ≤ 9223372036854775807) (hs : Sh.Src w A m) (hb : Blk w g t #[.slice (some ⟨g1,0,none⟩) 32 cx,.slice (some ⟨g2,0,none⟩) 32 cy,.slice A n c]) (ht : Sh.TabAt w 0) :
  Calls Tryz.prog 45 #[.string nm,.slice (some ⟨g,0,none⟩) 3 3] w (Gets w (fv (valB (Sh.taggedS nm.data.toList (x ++ y ++ m)) % Sc.pM))):=by
 subst hn
 have e : Sh.cat [⟨some ⟨g1,0,none⟩,x,cx⟩,⟨some ⟨g2,0,none⟩,y,cy⟩,⟨A,m,c⟩] = x ++ y ++ m:=by simp [Sh.cat]
 have q:=red_any w nm hnm (some ⟨g,0,none⟩) [⟨some ⟨g1,0,none⟩,x,cx⟩,⟨some ⟨g2,0,none⟩,y,cy⟩,⟨A,m,c⟩] 3 3 rfl (by decide) (texts_blk (by
  rw [List.map_cons,List.map_cons,List.map_cons,List.map_nil,val_own hx,val_own hy]
  exact hb) (ok3 (ok_own h1 hx c1) (ok_own h2 hy c2) ⟨hs,hc,hc2⟩)) ht (by rw [e,List.length_append,List.length_append,hx,hy]; omega)
 rw [e] at q
 exact q
set_option maxHeartbeats 4000000 in
set_option maxRecDepth 100000 in
theorem verR_any (w : World) (key X Y : List UInt8) (hkey : key.length = 32) (hX : X.length = 32) (hY : Y.length = 32) (A : Option Addr) (m : List UInt8) (n c : Nat) (hn : m.length = n) (hm : n ≤ 999999900) (hc : n ≤ c) (hc2 : c ≤ 9223372036854775807) (hs : Sh.Src w A m) (htr : Sh.TabAt w 0) : Calls Tryz.prog 19 #[.agg (key.map bv).toArray,.slice A n c,.agg ((X ++ Y).map bv).toArray] w (Gets w (.bool (refC key m X Y))):=by
 refine Sy.enter (args:=[.agg (key.map bv).toArray,.slice A n c,.agg ((X ++ Y).map bv).toArray]) Tryz.func19 rfl kL ?_
 refine sC ?_
 refine sM 31 (key.map bv).toArray (fun g0 => ?_)
 refine sM 27 ((X ++ Y).map bv).toArray (fun g1 => ?_)
 refine sP (.bool false) ?_
 refine sA ?_
 refine sP (.slice none 0 0) ?_
 refine sA ?_
 refine sP (.slice none 0 0) ?_
 refine sA ?_
 refine sP (.slice none 0 0) ?_
 refine sG <| Sy.seq <| sC ?_
 refine sP (.int .i64 0) ?_
 refine sG <| Sy.block ?_
 refine Sy.loopN (31 + 1 + 1) ?_
 refine Sy.round <| Sy.seq <| sC ?_
 refine sP (.int .i64 0) <| sP (.bool true) ?_
 refine sG <| sT <| Sy.skip <| Sy.then_ <| Sy.seq <| Sy.block <| sC ?_
 refine sP (.slice none 0 0) <| sP (.int .i64 0) <| sP (.pointer (some ⟨g1,0,none⟩)) <| sS (bv (X.getD 0 0)) (Quiet.cell 1 g1 0 27 5 ((X ++ Y).map bv).toArray _ _ rfl kR kR Tryz.underlying5 rfl _ ((key_at (X ++ Y) (cat_length hX hY) 0 (by decide)).trans (congrArg (fun z => some (bv z)) (cat_get1 hX (by decide))))) ?_
 refine Sy.make kR 5 #[bv (X.getD 0 0)] (fun g => .slice (some ⟨g,0,none⟩) 1 1) kF (fun g2 => ?_)
 refine Sy.appendNil kR 25 5 _ _ Tryz.underlying25 info_u8 rfl rfl rfl rfl _ _ rfl kR 2 g2 0 1 1 5 #[bv (X.getD 0 0)] [bv (X.getD 0 0)] kR kR kR rfl (by decide) (by intro u hu; simp only [List.mem_cons,List.not_mem_nil,or_false] at hu; subst hu; rfl) (by decide) (fun q1 c1 s1 e1 m1 => ?_)
 refine sP (.slice (some ⟨q1,0,none⟩) 1 c1) ?_
 refine sA ?_
 refine sP (.slice none 0 0) <| sP (.int .i64 0) <| sP (.int .i64 32) <| sP (.pointer (some ⟨g1,32,none⟩)) <| sS (bv (Y.getD 0 0)) (Quiet.cell 1 g1 32 27 5 ((X ++ Y).map bv).toArray _ _ rfl kR kR Tryz.underlying5 rfl _ ((key_at (X ++ Y) (cat_length hX hY) 32 (by decide)).trans (congrArg (fun z => some (bv z)) (cat_get2 (k:=0) hX)))) ?_
 refine Sy.make kR 5 #[bv (Y.getD 0 0)] (fun g => .slice (some ⟨g,0,none⟩) 1 1) kF (fun g3 => ?_)
 refine Sy.appendNil kR 25 5 _ _ Tryz.underlying25 info_u8 rfl rfl rfl rfl _ _ rfl kR 4 g3 0 1 1 5 #[bv (Y.getD 0 0)] [bv (Y.getD 0 0)] kR kR kR rfl (by decide) (by intro u hu; simp only [List.mem_cons,List.not_mem_nil,or_false] at hu; subst hu; rfl) (by decide) (fun q2 c2 s2 e2 m2 => ?_)
 refine sP (.slice (some ⟨q2,0,none⟩) 1 c2) ?_
 refine sG <| Sy.region ?_
 refine sP (.slice none 0 0) <| sP (.int .i64 0) <| sP (.pointer (some ⟨g0,0,none⟩)) <| sS (bv (key.getD 0 0)) (Quiet.cell 0 g0 0 31 5 (key.map bv).toArray _ _ rfl kR kR Tryz.underlying5 rfl _ (key_at key hkey 0 (by decide))) ?_
 refine Sy.make kR 5 #[bv (key.getD 0 0)] (fun g => .slice (some ⟨g,0,none⟩) 1 1) kF (fun g4 => ?_)
 refine Sy.appendNil kR 25 5 _ _ Tryz.underlying25 info_u8 rfl rfl rfl rfl _ _ rfl kR 6 g4 0 1 1 5 #[bv (key.getD 0 0)] [bv (key.getD 0 0)] kR kR kR rfl (by decide) (by intro u hu; simp only [List.mem_cons,List.not_mem_nil,or_false] at hu; subst hu; rfl) (by decide) (fun q3 c3 s3 e3 m3 => ?_)
 refine sP (.slice (some ⟨q3,0,none⟩) 1 c3) ?_
 refine Sy.nil <| Sy.in_ <| Sy.then_ <| Sy.region ?_
 refine sP (.int .i64 0) <| sP (.int .i64 1) <| sP (.int .i64 1) ?_
 refine Sy.nil <| Sy.again ?_
 refine Sy.loopXR (T:=(Nat × Nat × List Value) × (Nat × Nat × List Value) × (Nat × Nat × List Value)) 31 (fun k1 y1 => [(1,.slice A n c),(3,.pointer (some ⟨g0,0,none⟩)),(5,.pointer (some ⟨g1,0,none⟩)),(7,.slice (some ⟨y1.1.1,0,none⟩) (k1 + 1) y1.1.2.1),(8,.slice (some ⟨y1.2.1.1,0,none⟩) (k1 + 1) y1.2.1.2.1),(9,.slice (some ⟨y1.2.2.1,0,none⟩) (k1 + 1) y1.2.2.2.1),(10,.int .i64 ((k1 + 1 : Nat) : Int))]) (fun k1 y1 => [(g0,31,(key.map bv).toArray),(g1,27,((X ++ Y).map bv).toArray),(y1.1.1,5,((X.take k1).map bv ++ ([bv (X.getD k1 0)] ++ y1.1.2.2)).toArray),(y1.2.1.1,5,((Y.take k1).map bv ++ ([bv (Y.getD k1 0)] ++ y1.2.1.2.2)).toArray),(y1.2.2.1,5,((key.take k1).map bv ++ ([bv (key.getD k1 0)] ++ y1.2.2.2.2)).toArray)]) (fun k1 y1 => (y1.1.2.2.length + (k1 + 1) = y1.1.2.1 ∧ y1.1.2.1 ≤ maxLen) ∧ (y1.2.1.2.2.length + (k1 + 1) = y1.2.1.2.1 ∧ y1.2.1.2.1 ≤ maxLen) ∧ (y1.2.2.2.2.length + (k1 + 1) = y1.2.2.2.1 ∧ y1.2.2.2.1 ≤ maxLen)) ((q1,c1,s1),(q2,c2,s2),(q3,c3,s3)) [true,true,false,true,false,true,false,true] ⟨⟨e1,m1⟩,⟨e2,m2⟩,e3,m3⟩ (all_cons kR (all_cons kR (all_cons kR (all_cons kR (all_cons kR (all_cons kR (all_cons kR all_nil))))))) kR (fun k1 y1 hk1 hh1 => ?_)
 refine Sy.seq <| sC ?_
 refine sP (.int .i64 ((k1 + 1 : Nat) : Int)) ?_
 obtain ⟨b1,hb1⟩ : ∃ z : Bool,z = decide (k1 + 1 < 32):=⟨_,rfl⟩
 refine sS (.bool b1) (Quiet.pure (exec_int .lss _ _ _ .i64 _ _ _ rfl rfl rfl (int_lss _ _ _ _ _ (by rw [hb1]; exact decide_eq_decide.2 (by omega))))) ?_
 refine sG ?_
 cases b1
 ·have lb1 : ¬ (k1 + 1 < 32):=of_decide_eq_false hb1.symm
  refine sU <| Sy.exit <| Sy.then_exit <| Sy.then_exit ?_
  obtain rfl : k1 = 31:=by omega
  have hc1 : 32 ≤ y1.1.2.1 ∧ y1.1.2.1 ≤ 9223372036854775807:=by
   have q:=hh1.1
   simp only [maxLen] at q
   exact ⟨by omega,by omega⟩
  have hc2_ : 32 ≤ y1.2.1.2.1 ∧ y1.2.1.2.1 ≤ 9223372036854775807:=by
   have q:=hh1.2.1
   simp only [maxLen] at q
   exact ⟨by omega,by omega⟩
  have hc3 : 32 ≤ y1.2.2.2.1 ∧ y1.2.2.2.1 ≤ 9223372036854775807:=by
   have q:=hh1.2.2
   simp only [maxLen] at q
   exact ⟨by omega,by omega⟩
  have lvX : valB X < K4:=valB_lt32 X hX
  refine Sy.in_exit <| Sy.then_ ?_
  refine Sy.tidyC (G:=[(1,.slice A n c),(3,.pointer (some ⟨g0,0,none⟩)),(5,.pointer (some ⟨g1,0,none⟩)),(7,.slice (some ⟨y1.1.1,0,none⟩) 32 y1.1.2.1),(8,.slice (some ⟨y1.2.1.1,0,none⟩) 32 y1.2.1.2.1),(9,.slice (some ⟨y1.2.2.1,0,none⟩) 32 y1.2.2.2.1)]) (N:=[(g0,31,(key.map bv).toArray),(g1,27,((X ++ Y).map bv).toArray),(y1.1.1,5,(X.map bv ++ y1.1.2.2).toArray),(y1.2.1.1,5,(Y.map bv ++ y1.2.1.2.2).toArray),(y1.2.2.1,5,(key.map bv ++ y1.2.2.2.2).toArray)]) [true,true,true,true,true] rfl (bcons rfl (bcons rfl (bcons (beq (congrArg List.toArray (apd_full X 31 hX))) (bcons (beq (congrArg List.toArray (apd_full Y 31 hY))) (bcons (beq (congrArg List.toArray (apd_full key 31 hkey))) rfl))))) (all_cons kR (all_cons kR (all_cons kR (all_cons kR (all_cons kR (all_cons kR all_nil)))))) ?_
  refine sC ?_
  refine sS (.agg (key.map bv).toArray) (Quiet.load 0 g0 0 32 31 31 (key.map bv).toArray _ _ rfl kR kR Tryz.underlying31 rfl kR _ (key_whole key hkey) (key_size key hkey)) ?_
  obtain ⟨b2,hb2⟩ : ∃ z : Bool,z = liftB key:=⟨_,rfl⟩
  obtain ⟨R1,hR1⟩ : ∃ P : Pt,P = liftP key:=⟨_,rfl⟩
  have oR1 : Ec.On R1:=by rw [hR1]; exact liftP_on _
  refine sS (.tuple #[pv (pX R1) (pY R1) (pI R1),.bool b2]) (qF 51 #[.agg (key.map bv).toArray] (fun w => by rw [← ptv_parts,hR1,hb2]; exact liftR_any w key hkey)) <| sP (.tuple #[pv (pX R1) (pY R1) (pI R1),.bool b2]) <| sP (pv (pX R1) (pY R1) (pI R1)) <| sP (.bool b2) ?_
  refine sM 71 (pcs 0 0 false) (fun g5 => ?_)
  refine sW 5 g5 71 (pcs 0 0 false) (pcs (pX R1) (pY R1) (pI R1)) (wS 0 71 (pcs (pX R1) (pY R1) (pI R1)) rfl) <| sP (.bool b2) ?_
  refine sA ?_
  refine sP (.slice (some ⟨y1.1.1,0,none⟩) 32 y1.1.2.1) <| sS (fv (valB X)) (qG 52 #[.slice (some ⟨y1.1.1,0,none⟩) 32 y1.1.2.1] (fun w hw => numberR_any w y1.1.1 y1.1.2.1 X hX (hw.get (i:=2) rfl).lt (own_cell (hw.get (i:=2) rfl)) hc1.1 hc1.2)) ?_
  refine sM 97 (fcs 0) (fun g6 => ?_)
  refine sW 6 g6 97 (fcs 0) (fcs (valB X)) (wS 0 97 (fcs (valB X)) rfl) ?_
  refine sH (fun j => false) ?_
  refine sD 0 rfl (.agg modcs) (qF 54 #[] (refP_any)) <| sD 1 rfl (fv (valB X)) (qL 6 g6 0 4 97 97 (fcs (valB X)) rfl Tryz.underlying97) ?_
  obtain ⟨b3,hb3⟩ : ∃ z : Bool,z = decide (valB X < pM):=⟨_,rfl⟩
  refine sD 2 rfl (.bool b3) (qF 53 #[.agg modcs,fv (valB X)] (fun w => by rw [hb3]; exact rightR_any w (valB X) (valB_lt32 X hX))) <| sZ 3 rfl (.bool b3) ?_
  refine sE ?_
  refine sB ?_
  refine sP (.slice (some ⟨y1.2.1.1,0,none⟩) 32 y1.2.1.2.1) ?_
  obtain ⟨b4,hb4⟩ : ∃ z : Bool,z = (Sc.readS Y).2:=⟨_,rfl⟩
  have lrY : (Sc.readS Y).1 < K4:=readS_lt Y
  refine sS (.tuple #[fv ((Sc.readS Y).1),.bool b4]) (qG 55 #[.slice (some ⟨y1.2.1.1,0,none⟩) 32 y1.2.1.2.1] (fun w hw => by rw [hb4]; exact rdR_any w y1.2.1.1 y1.2.1.2.1 Y hY (hw.get (i:=3) rfl).lt (own_cell (hw.get (i:=3) rfl)) hc2_.1 hc2_.2)) <| sP (.tuple #[fv ((Sc.readS Y).1),.bool b4]) <| sP (fv ((Sc.readS Y).1)) <| sP (.bool b4) ?_
  refine sM 24 (fcs 0) (fun g7 => ?_)
  refine sW 7 g7 24 (fcs 0) (fcs ((Sc.readS Y).1)) (wS 0 24 (fcs ((Sc.readS Y).1)) rfl) <| sP (.bool b4) ?_
  refine sG <| Sy.seq <| sC ?_
  refine sP (.bool b2) ?_
  cases b2
  ·refine sP (.bool true) <| sP (.bool true) ?_
   refine sN <| sN ?_
   refine sP (.bool true) <| sP (.bool true) ?_
   refine sN <| sN ?_
   refine sP (.bool true) ?_
   refine sG <| sT <| sC ?_
   refine sP (.bool false) ?_
   refine sG <| Sy.ret <| Sy.then_ret ?_
   rw [show (.bool (refC key m X Y) : Value) = .bool false from by unfold refC; rw [← hb2, ← hb3, ← hb4] <;> rfl]
   exact rV (.bool false) rfl
  ·refine sP (.bool false) <| sP (.bool false) <| sP (.bool b3) ?_
   cases b3
   ·refine sP (.bool true) <| sP (.bool true) <| sP (.bool true) ?_
    refine sN <| sN ?_
    refine sP (.bool true) ?_
    refine sG <| sT <| sC ?_
    refine sP (.bool false) ?_
    refine sG <| Sy.ret <| Sy.then_ret ?_
    rw [show (.bool (refC key m X Y) : Value) = .bool false from by unfold refC; rw [← hb2, ← hb3, ← hb4] <;> rfl]
    exact rV (.bool false) rfl
   ·refine sP (.bool false) <| sP (.bool false) <| sP (.bool false) <| sP (.bool b4) ?_
    cases b4
    ·refine sP (.bool true) <| sP (.bool true) ?_
     refine sG <| sT <| sC ?_
     refine sP (.bool false) ?_
     refine sG <| Sy.ret <| Sy.then_ret ?_
     rw [show (.bool (refC key m X Y) : Value) = .bool false from by unfold refC; rw [← hb2, ← hb3, ← hb4] <;> rfl]
     exact rV (.bool false) rfl
    ·refine sP (.bool false) <| sP (.bool false) ?_
     refine sG <| sU <| Sy.skip <| sB ?_
     refine sP (.slice (some ⟨y1.1.1,0,none⟩) 32 y1.1.2.1) <| sP (.slice (some ⟨y1.2.2.1,0,none⟩) 32 y1.2.2.2.1) <| sP (.slice A n c) ?_
     refine Sy.make kR 25 #[.slice (some ⟨y1.1.1,0,none⟩) 32 y1.1.2.1,.slice (some ⟨y1.2.2.1,0,none⟩) 32 y1.2.2.2.1,.slice A n c] (fun g => .slice (some ⟨g,0,none⟩) 3 3) kF (fun g8 => ?_)
     obtain ⟨z1,hz1⟩ : ∃ z : Nat,z = chalS X key m:=⟨_,rfl⟩
     have lz1 : z1 < K4:=by rw [hz1]; exact Sc.mod_lt _
     refine sS (fv z1) (qG 45 #[.string challengeNm,.slice (some ⟨g8,0,none⟩) 3 3] (fun w hw => by rw [hz1]; exact red3_c (by decide) hX hkey hn hm hc hc2 (hw.get (i:=2) rfl) hc1 (hw.get (i:=4) rfl) hc3 (hs.below hw.below) (hw.get (i:=8) rfl) (htr.below hw.below htr.lt))) ?_
     refine sM 24 (fcs 0) (fun g9 => ?_)
     refine sW 9 g9 24 (fcs 0) (fcs z1) (wS 0 24 (fcs z1) rfl) ?_
     refine sH (fun j => j == 9) ?_
     refine sD 0 rfl (fv ((Sc.readS Y).1)) (qL 7 g7 0 4 24 24 (fcs ((Sc.readS Y).1)) rfl Tryz.underlying24) <| sD 1 rfl (pv (pX bP) (pY bP) (pI bP)) (qF 31 #[] (fun w => by rw [← ptv_parts]; exact baseR_c w)) ?_
     obtain ⟨R2,hR2⟩ : ∃ P : Pt,P = Ec.nm finv ((Sc.readS Y).1 % Sc.pM) bP:=⟨_,rfl⟩
     have oR2 : Ec.On R2:=by rw [hR2]; exact bP_on.nm fld _
     refine sD 2 rfl (pv (pX R2) (pY R2) (pI R2)) (qF 30 #[fv ((Sc.readS Y).1),pv (pX bP) (pY bP) (pI bP)] (mulR_of lP lP lP (dec_parts bP_on) hR2.symm)) <| sD 3 rfl (fv z1) (qL 9 g9 0 4 24 24 (fcs z1) rfl Tryz.underlying24) <| sD 4 rfl (pv (pX R1) (pY R1) (pI R1)) (qL 5 g5 0 9 71 71 (pcs (pX R1) (pY R1) (pI R1)) rfl Tryz.underlying71) ?_
     obtain ⟨R3,hR3⟩ : ∃ P : Pt,P = Ec.nm finv (z1 % Sc.pM) R1:=⟨_,rfl⟩
     have oR3 : Ec.On R3:=by rw [hR3]; exact oR1.nm fld _
     refine sD 5 rfl (pv (pX R3) (pY R3) (pI R3)) (qF 30 #[fv z1,pv (pX R1) (pY R1) (pI R1)] (mulR_of lP lP lP (dec_parts oR1) hR3.symm)) ?_
     obtain ⟨R4,hR4⟩ : ∃ P : Pt,P = Ec.neg R3:=⟨_,rfl⟩
     have oR4 : Ec.On R4:=by rw [hR4]; exact oR3.neg
     refine sD 6 rfl (pv (pX R4) (pY R4) (pI R4)) (qF 57 #[pv (pX R3) (pY R3) (pI R3)] (negR_of lP lP (dec_parts oR3) hR4.symm)) ?_
     obtain ⟨R5,hR5⟩ : ∃ P : Pt,P = Ec.add finv R2 R4:=⟨_,rfl⟩
     have oR5 : Ec.On R5:=by rw [hR5]; exact Ec.On.add fld oR2 oR4
     obtain ⟨ax,ay,ai,lax,lay,ea,da,ra⟩:=ptv_raw R5 oR5
     refine sD 7 rfl (pv ax ay ai) (qF 56 #[pv (pX R2) (pY R2) (pI R2),pv (pX R4) (pY R4) (pI R4)] (add_raw lP lP lP lP (dec_parts oR2) (dec_parts oR4) hR5.symm ea)) ?_
     refine sO 8 rfl 71 (pcs 0 0 false) (fun g10 => ?_)
     refine sX 9 rfl 10 g10 71 (pcs 0 0 false) (pcs ax ay ai) (wS 0 71 (pcs ax ay ai) rfl) ?_
     refine sE ?_
     refine sR (fun j => false) ?_
     refine sZ 0 rfl (.pointer (some ⟨g10,8,none⟩)) <| sD 1 rfl (.bool ai) (qC 10 g10 8 71 4 (pcs ax ay ai) rfl Tryz.underlying4) ?_
     cases ai
     ·refine sZ 2 rfl (.bool true) <| sZ 3 rfl (.bool true) <| sZ 4 rfl (.pointer (some ⟨g10,4,none⟩)) <| sZ 5 rfl (.pointer (some ⟨g10,4,none⟩)) <| sD 6 rfl (qv (ay % 18446744073709551616)) (qC 10 g10 4 71 22 (pcs ax ay false) rfl Tryz.underlying22) <| sD 7 rfl (.int .u64 (((ay % 18446744073709551616) % 2 : Nat) : Int)) (Quiet.pure (fun w => rem2 w _ _ _ _ (ay % 18446744073709551616) rfl rfl rfl (Nat.mod_lt _ (by decide)))) ?_
      obtain ⟨b5,hb5⟩ : ∃ z : Bool,z = decide ((ay % 18446744073709551616) % 2 = 0):=⟨_,rfl⟩
      refine sD 8 rfl (.bool b5) (Quiet.pure (exec_int .eql _ _ _ .u64 _ _ _ rfl rfl rfl (int_eql _ _ _ _ _ (by rw [hb5]; exact decide_eq_decide.2 (by omega))))) <| sZ 9 rfl (.bool b5) <| sZ 10 rfl (.bool b5) ?_
      cases b5
      ·have lb5 : ¬ ((ay % 18446744073709551616) % 2 = 0):=of_decide_eq_false hb5.symm
       refine sQ 11 rfl <| sQ 12 rfl <| sQ 13 rfl <| sQ 14 rfl <| sQ 15 rfl <| sZ 16 rfl (.bool false) <| sZ 17 rfl (.bool false) ?_
       refine sI ?_
       refine Sy.ret ?_
       rw [show (.bool (refC key m X Y) : Value) = .bool false from by unfold refC; rw [← hb2, ← hb3, ← hb4, ← hz1, ← hR1, ← hR2, ← hR3, ← hR4, ← hR5,okR_raw da ra]; rw [← hb5] <;> rfl]
       exact rV (.bool false) rfl
      ·have lb5 : (ay % 18446744073709551616) % 2 = 0:=of_decide_eq_true hb5.symm
       refine sZ 11 rfl (.pointer (some ⟨g10,0,none⟩)) <| sD 12 rfl (fv ax) (qL 10 g10 0 4 71 69 (pcs ax ay false) rfl Tryz.underlying69) <| sD 13 rfl (fv (valB X)) (qL 6 g6 0 4 97 97 (fcs (valB X)) rfl Tryz.underlying97) <| sD 14 rfl (fv (valB X)) (qF 58 #[fv (valB X)] (fun w => refFe_any w (valB X) (by first | assumption | exact Sc.mod_lt _ | exact lt4 _ | exact valB_lt32 _ (by first | assumption | exact bytesS_length _) | decide +kernel))) ?_
       obtain ⟨b6,hb6⟩ : ∃ z : Bool,z = decide (ax = (valB X)):=⟨_,rfl⟩
       refine sD 15 rfl (.bool b6) (Quiet.pure (fun w => by rw [hb6]; exact eql_fe w _ _ _ _ _ _ rfl rfl rfl lK lK)) <| sZ 16 rfl (.bool b6) <| sZ 17 rfl (.bool b6) ?_
       refine sI ?_
       refine Sy.ret ?_
       rw [show (.bool (refC key m X Y) : Value) = .bool b6 from by unfold refC; rw [← hb2, ← hb3, ← hb4, ← hz1, ← hR1, ← hR2, ← hR3, ← hR4, ← hR5,okR_raw da ra]; rw [← hb5, ← hb6] <;> rfl]
       exact rV (.bool b6) rfl
     ·refine sZ 2 rfl (.bool false) <| sZ 3 rfl (.bool false) <| sQ 4 rfl <| sQ 5 rfl <| sQ 6 rfl <| sQ 7 rfl <| sQ 8 rfl <| sZ 9 rfl (.bool false) ?_
      refine sZ 10 rfl (.bool false) <| sQ 11 rfl <| sQ 12 rfl <| sQ 13 rfl <| sQ 14 rfl <| sQ 15 rfl <| sZ 16 rfl (.bool false) <| sZ 17 rfl (.bool false) ?_
      refine sI ?_
      refine Sy.ret ?_
      rw [show (.bool (refC key m X Y) : Value) = .bool false from by unfold refC; rw [← hb2, ← hb3, ← hb4, ← hz1, ← hR1, ← hR2, ← hR3, ← hR4, ← hR5,okR_raw da ra]; rfl]
      exact rV (.bool false) rfl
 ·have lb1 : k1 + 1 < 32:=of_decide_eq_true hb1.symm
  refine sT <| Sy.skip <| Sy.then_ <| Sy.seq <| Sy.block <| sC ?_
  refine sP (.slice (some ⟨y1.1.1,0,none⟩) (k1 + 1) y1.1.2.1) <| sP (.int .i64 ((k1 + 1 : Nat) : Int)) <| sS (.pointer (some ⟨g1,0 + (k1 + 1) * 1,none⟩)) (Quiet.pure (exec_atA 27 _ _ _ g1 0 _ (k1 + 1) 1 .i64 rfl rfl rfl Tryz.underlying27 kF (by omega))) <| sS (bv (X.getD (k1 + 1) 0)) (Quiet.cell 1 g1 (0 + (k1 + 1) * 1) 27 5 ((X ++ Y).map bv).toArray _ _ rfl kR kR Tryz.underlying5 rfl _ ((key_sym (cat_length hX hY) (k:=k1 + 1) (by omega) (by omega)).trans (congrArg (fun z => some (bv z)) (cat_get1 hX (by omega))))) ?_
  refine Sy.make kR 5 #[bv (X.getD (k1 + 1) 0)] (fun g => .slice (some ⟨g,0,none⟩) 1 1) kF (fun g11 => ?_)
  refine Sy.append kR 25 5 _ _ Tryz.underlying25 info_u8 rfl rfl rfl rfl _ _ rfl 2 y1.1.1 (k1 + 1) y1.1.2.1 ((X.take k1).map bv ++ ([bv (X.getD k1 0)] ++ y1.1.2.2)).toArray ((X.take (k1 + 1)).map bv) kR kR (apd_take X k1 hX y1.1.2.2 (by omega)) (apd_len X k1 hX (by omega)) (apd_size X k1 hX y1.1.2.2 hh1.1.1 (by omega)) hh1.1.2 5 g11 0 1 1 5 #[bv (X.getD (k1 + 1) 0)] [bv (X.getD (k1 + 1) 0)] kR kR kR rfl (by intro u hu; simp only [List.mem_cons,List.not_mem_nil,or_false] at hu; subst hu; rfl) (by omega) (fun q4 c4 s4 e4 m4 => ?_)
  refine sP (.slice (some ⟨q4,0,none⟩) (k1 + 1 + 1) c4) ?_
  refine sA ?_
  refine sP (.slice (some ⟨y1.2.1.1,0,none⟩) (k1 + 1) y1.2.1.2.1) <| sP (.int .i64 ((k1 + 1 : Nat) : Int)) <| sS (.int .i64 ((32 + (k1 + 1) : Nat) : Int)) (Quiet.pure (exec_int .add _ _ _ .i64 _ _ _ rfl rfl rfl (int_add _ _ _ _ _ ((wrap_i64 (by omega) (by omega)).trans (by omega))))) <| sS (.pointer (some ⟨g1,0 + (32 + (k1 + 1)) * 1,none⟩)) (Quiet.pure (exec_atA 27 _ _ _ g1 0 _ (32 + (k1 + 1)) 1 .i64 rfl rfl rfl Tryz.underlying27 kF (by omega))) <| sS (bv (Y.getD (k1 + 1) 0)) (Quiet.cell 1 g1 (0 + (32 + (k1 + 1)) * 1) 27 5 ((X ++ Y).map bv).toArray _ _ rfl kR kR Tryz.underlying5 rfl _ ((key_sym (cat_length hX hY) (k:=32 + (k1 + 1)) (by omega) (by omega)).trans (congrArg (fun z => some (bv z)) (cat_get2 hX)))) ?_
  refine Sy.make kR 5 #[bv (Y.getD (k1 + 1) 0)] (fun g => .slice (some ⟨g,0,none⟩) 1 1) kF (fun g12 => ?_)
  refine Sy.append kR 25 5 _ _ Tryz.underlying25 info_u8 rfl rfl rfl rfl _ _ rfl 3 y1.2.1.1 (k1 + 1) y1.2.1.2.1 ((Y.take k1).map bv ++ ([bv (Y.getD k1 0)] ++ y1.2.1.2.2)).toArray ((Y.take (k1 + 1)).map bv) kR kR (apd_take Y k1 hY y1.2.1.2.2 (by omega)) (apd_len Y k1 hY (by omega)) (apd_size Y k1 hY y1.2.1.2.2 hh1.2.1.1 (by omega)) hh1.2.1.2 6 g12 0 1 1 5 #[bv (Y.getD (k1 + 1) 0)] [bv (Y.getD (k1 + 1) 0)] kR kR kR rfl (by intro u hu; simp only [List.mem_cons,List.not_mem_nil,or_false] at hu; subst hu; rfl) (by omega) (fun q5 c5 s5 e5 m5 => ?_)
  refine sP (.slice (some ⟨q5,0,none⟩) (k1 + 1 + 1) c5) ?_
  refine sG <| Sy.region ?_
  refine sP (.slice (some ⟨y1.2.2.1,0,none⟩) (k1 + 1) y1.2.2.2.1) <| sP (.int .i64 ((k1 + 1 : Nat) : Int)) <| sS (.pointer (some ⟨g0,0 + (k1 + 1) * 1,none⟩)) (Quiet.pure (exec_atA 31 _ _ _ g0 0 _ (k1 + 1) 1 .i64 rfl rfl rfl Tryz.underlying31 kF (by omega))) <| sS (bv (key.getD (k1 + 1) 0)) (Quiet.cell 0 g0 (0 + (k1 + 1) * 1) 31 5 (key.map bv).toArray _ _ rfl kR kR Tryz.underlying5 rfl _ (key_sym hkey (k:=k1 + 1) (by omega) (by omega))) ?_
  refine Sy.make kR 5 #[bv (key.getD (k1 + 1) 0)] (fun g => .slice (some ⟨g,0,none⟩) 1 1) kF (fun g13 => ?_)
  refine Sy.append kR 25 5 _ _ Tryz.underlying25 info_u8 rfl rfl rfl rfl _ _ rfl 4 y1.2.2.1 (k1 + 1) y1.2.2.2.1 ((key.take k1).map bv ++ ([bv (key.getD k1 0)] ++ y1.2.2.2.2)).toArray ((key.take (k1 + 1)).map bv) kR kR (apd_take key k1 hkey y1.2.2.2.2 (by omega)) (apd_len key k1 hkey (by omega)) (apd_size key k1 hkey y1.2.2.2.2 hh1.2.2.1 (by omega)) hh1.2.2.2 7 g13 0 1 1 5 #[bv (key.getD (k1 + 1) 0)] [bv (key.getD (k1 + 1) 0)] kR kR kR rfl (by intro u hu; simp only [List.mem_cons,List.not_mem_nil,or_false] at hu; subst hu; rfl) (by omega) (fun q6 c6 s6 e6 m6 => ?_)
  refine sP (.slice (some ⟨q6,0,none⟩) (k1 + 1 + 1) c6) ?_
  refine Sy.nil <| Sy.in_ <| Sy.then_ <| Sy.region ?_
  refine sP (.int .i64 ((k1 + 1 : Nat) : Int)) <| sS (.int .i64 (((k1 + 1) + 1 : Nat) : Int)) (Quiet.pure (exec_int .add _ _ _ .i64 _ _ _ rfl rfl rfl (int_add _ _ _ _ _ ((wrap_i64 (by omega) (by omega)).trans (by omega))))) <| sP (.int .i64 (((k1 + 1) + 1 : Nat) : Int)) ?_
  refine Sy.nil ?_
  exact Sy.againX (((q4,c4,s4),(q5,c5,s5),(q6,c6,s6))) [true,true,true,true,true,false,false,false] (by omega) (⟨⟨e4,m4⟩,⟨e5,m5⟩,e6,m6⟩) (all_cons kR (all_cons kR (all_cons kR (all_cons kR (all_cons kR (all_cons kR (all_cons kR all_nil))))))) kR
end Cu
end
section
namespace Cu
open Go.RowKit Sy
set_option maxRecDepth 100000
set_option maxHeartbeats 4000000
theorem may_diff {N : Nat} {K : Nat → List UInt8} (h : ∀ a,a < N → a ≤ 16 → ∀ b,b < a → K b ≠ K a) (hN : N ≤ 16) : diffB N K = true:=(diffB_iff N K).2 fun i j hij hj => h j hj (by omega) i hij
theorem may_no {T : Int} {N : Nat} {K : Nat → List UInt8} {i k : Nat} (hi : i < N) (hk : k < i) (e : K k = K i) : validB T N K = false:=by
 unfold validB
 have : diffB N K = false:=by
  cases h : diffB N K with
  | false => rfl
  | true => exact absurd e ((diffB_iff N K).1 h k i hk hi)
 rw [this,Bool.and_false]
theorem verR_full (w : World) (key s : List UInt8) (hkey : key.length = 32) (hs64 : s.length = 64) (X : Option Addr) (m : List UInt8) (n e : Nat) (hn : m.length = n) (hm : n ≤ 999999900) (he : n ≤ e) (he2 : e ≤ 9223372036854775807) (hs : Sh.Src w X m) (htr : Sh.TabAt w 0) : Calls Tryz.prog 19 #[.agg (key.map bv).toArray,.slice X n e,.agg (s.map bv).toArray] w (Gets w (.bool (verB key m s))):=by
 have h1 : (s.take 32).length = 32:=by rw [List.length_take]; omega
 have h2 : (s.drop 32).length = 32:=by rw [List.length_drop]; omega
 have q:=verR_any w key (s.take 32) (s.drop 32) hkey h1 h2 X m n e hn hm he he2 hs htr
 rw [refC_is key m _ _ h1 h2,ref_ver key m _ (by rw [List.length_append]; omega),List.take_append_drop] at q
 exact q
theorem may_any (w : World) (T : Int) (A : Option Addr) (N c : Nat) (K : Nat → List UInt8) (hK : ∀ i,(K i).length = 32) (hN : N ≤ 4611686018427387904) (hlk : Lst w 32 A N (fun i => (K i).map bv)) : Calls Tryz.prog 18 #[.agg #[.int .i64 T,.slice A N c]] w (Gets w (.bool (validB T N K))):=by
 obtain ⟨gK,oK,hT⟩:=hlk
 refine Sy.enter (args:=[.agg #[.int .i64 T,.slice A N c]]) Tryz.func18 rfl kL ?_
 refine sC ?_
 refine sM 38 #[.int .i64 T,.slice A N c] (fun g0 => ?_)
 refine sP (.bool false) ?_
 refine sG <| Sy.seq <| sC ?_
 refine sP (.int .i64 0) ?_
 refine sG <| Sy.block ?_
 refine Sy.loopH N (fun k1 => ∀ a,a < k1 → a ≤ 16 → ∀ b,b < a → K b ≠ K a) (fun k1 => [(1,.pointer (some ⟨g0,0,none⟩)),(3,.int .i64 ((k1 : Nat) : Int))]) (fun k1 => [(g0,38,#[.int .i64 T,.slice A N c])]) [true] (M:=[(g0,38,#[.int .i64 T,.slice A N c])]) (fun a ha => absurd ha (Nat.not_lt_zero _)) (all_cons kR (all_cons kR all_nil)) kR (bcons rfl rfl) (fun k1 hk1 hh => ?_)
 have hh1:=hh
 refine Sy.seq <| sC ?_
 refine sP (.int .i64 ((k1 : Nat) : Int)) <| sP (.pointer (some ⟨g0,1,none⟩)) <| sS (.slice A N c) (Quiet.cell 0 g0 1 38 36 #[.int .i64 T,.slice A N c] _ _ rfl kR kR Tryz.underlying36 rfl _ kR) <| sP (.int .i64 ((N : Nat) : Int)) ?_
 obtain ⟨b1,hb1⟩ : ∃ z : Bool,z = decide (k1 < N):=⟨_,rfl⟩
 refine sS (.bool b1) (Quiet.pure (exec_int .lss _ _ _ .i64 _ _ _ rfl rfl rfl (int_lss _ _ _ _ _ (by rw [hb1]; exact decide_eq_decide.2 (by omega))))) ?_
 refine sG ?_
 cases b1
 ·have lb1 : ¬ (k1 < N):=of_decide_eq_false hb1.symm
  refine sU <| Sy.exit <| Sy.then_exit <| Sy.then_exit ?_
  obtain rfl : N = k1:=by omega
  refine Sy.in_exit <| sB ?_
  refine sP (.pointer (some ⟨g0,0,none⟩)) <| sS (.int .i64 T) (qC 0 g0 0 38 3 #[.int .i64 T,.slice A N c] rfl Tryz.underlying3) ?_
  obtain ⟨b2,hb2⟩ : ∃ z : Bool,z = decide (T ≥ 1):=⟨_,rfl⟩
  refine sS (.bool b2) (Quiet.pure (exec_int .geq _ _ _ .i64 _ _ _ rfl rfl rfl (int_geq _ _ _ _ _ hb2.symm))) <| sP (.bool b2) ?_
  cases b2
  ·have lb2 : ¬ (T ≥ 1):=of_decide_eq_false hb2.symm
   refine sN <| sN <| sN <| sN <| sN <| sN ?_
   refine sP (.bool false) <| sP (.bool false) ?_
   refine sN <| sN <| sN <| sN ?_
   refine sP (.bool false) <| sP (.bool false) ?_
   refine sG <| Sy.ret ?_
   rw [show (.bool (validB T N K) : Value) = .bool false from by unfold validB; simp only [show decide (T ≥ 1) = false from decide_eq_false lb2]; rfl]
   exact rV (.bool false) rfl
  ·have lb2 : T ≥ 1:=of_decide_eq_true hb2.symm
   refine sP (.pointer (some ⟨g0,0,none⟩)) <| sS (.int .i64 T) (qC 0 g0 0 38 3 #[.int .i64 T,.slice A N c] rfl Tryz.underlying3) <| sP (.pointer (some ⟨g0,1,none⟩)) <| sS (.slice A N c) (Quiet.cell 0 g0 1 38 36 #[.int .i64 T,.slice A N c] _ _ rfl kR kR Tryz.underlying36 rfl _ kR) <| sP (.int .i64 ((N : Nat) : Int)) ?_
   obtain ⟨b3,hb3⟩ : ∃ z : Bool,z = decide (T ≤ ((N : Nat) : Int)):=⟨_,rfl⟩
   refine sS (.bool b3) (Quiet.pure (exec_int .leq _ _ _ .i64 _ _ _ rfl rfl rfl (int_leq _ _ _ _ _ hb3.symm))) <| sP (.bool b3) <| sP (.bool b3) ?_
   cases b3
   ·have lb3 : ¬ (T ≤ ((N : Nat) : Int)):=of_decide_eq_false hb3.symm
    refine sN <| sN <| sN <| sN ?_
    refine sP (.bool false) <| sP (.bool false) ?_
    refine sG <| Sy.ret ?_
    rw [show (.bool (validB T N K) : Value) = .bool false from by unfold validB; simp only [show decide (T ≥ 1) = true from decide_eq_true lb2,show decide (T ≤ (N : Int)) = false from decide_eq_false lb3]; rfl]
    exact rV (.bool false) rfl
   ·have lb3 : T ≤ ((N : Nat) : Int):=of_decide_eq_true hb3.symm
    refine sP (.pointer (some ⟨g0,1,none⟩)) <| sS (.slice A N c) (Quiet.cell 0 g0 1 38 36 #[.int .i64 T,.slice A N c] _ _ rfl kR kR Tryz.underlying36 rfl _ kR) <| sP (.int .i64 ((N : Nat) : Int)) ?_
    obtain ⟨b4,hb4⟩ : ∃ z : Bool,z = decide (N ≤ 16):=⟨_,rfl⟩
    refine sS (.bool b4) (Quiet.pure (exec_int .leq _ _ _ .i64 _ _ _ rfl rfl rfl (int_leq _ _ _ _ _ (by rw [hb4]; exact decide_eq_decide.2 (by omega))))) <| sP (.bool b4) <| sP (.bool b4) ?_
    refine sG <| Sy.ret ?_
    rw [show (.bool (validB T N K) : Value) = .bool b4 from by unfold validB; rw [show decide (T ≥ 1) = true from decide_eq_true lb2,show decide (T ≤ (N : Int)) = true from decide_eq_true lb3, ← hb4]; cases b4 with | false => rfl | true => (rw [may_diff hh1 (of_decide_eq_true hb4.symm)]; rfl)]
    exact rV (.bool b4) rfl
 ·have lb1 : k1 < N:=of_decide_eq_true hb1.symm
  refine sT <| Sy.skip <| Sy.then_ <| Sy.seq <| Sy.block <| sC ?_
  refine sP (.int .i64 0) ?_
  refine sG <| Sy.block ?_
  refine Sy.loopH k1 (fun k2 => ∀ b,b < k2 → K b ≠ K k1) (fun k2 => [(1,.pointer (some ⟨g0,0,none⟩)),(3,.int .i64 ((k1 : Nat) : Int)),(4,.int .i64 ((k2 : Nat) : Int))]) (fun k2 => [(g0,38,#[.int .i64 T,.slice A N c])]) [true] (M:=[(g0,38,#[.int .i64 T,.slice A N c])]) (fun b hb => absurd hb (Nat.not_lt_zero _)) (all_cons kR (all_cons kR (all_cons kR all_nil))) kR (bcons rfl rfl) (fun k2 hk2 hh => ?_)
  have hh2:=hh
  refine Sy.seq <| sC ?_
  refine sP (.int .i64 ((k2 : Nat) : Int)) <| sP (.int .i64 ((k1 : Nat) : Int)) ?_
  obtain ⟨b5,hb5⟩ : ∃ z : Bool,z = decide (k2 < k1):=⟨_,rfl⟩
  refine sS (.bool b5) (Quiet.pure (exec_int .lss _ _ _ .i64 _ _ _ rfl rfl rfl (int_lss _ _ _ _ _ (by rw [hb5]; exact decide_eq_decide.2 (by omega))))) <| sP (.bool b5) ?_
  cases b5
  ·have lb5 : ¬ (k2 < k1):=of_decide_eq_false hb5.symm
   refine sN <| sN ?_
   refine sP (.bool false) ?_
   refine sG <| sU <| Sy.exit <| Sy.then_exit <| Sy.then_exit ?_
   have hin : k1 ≤ 16 → ∀ b,b < k1 → K b ≠ K k1:=fun h b hb => hh2 b (by omega)
   refine Sy.in_exit <| Sy.in_ <| Sy.then_ <| Sy.region ?_
   refine sP (.int .i64 ((k1 : Nat) : Int)) <| sS (.int .i64 ((k1 + 1 : Nat) : Int)) (Quiet.pure (exec_int .add _ _ _ .i64 _ _ _ rfl rfl rfl (int_add _ _ _ _ _ ((wrap_i64 (by omega) (by omega)).trans (by omega))))) <| sP (.int .i64 ((k1 + 1 : Nat) : Int)) ?_
   refine Sy.nil ?_
   exact Sy.againH [true] (M:=[(g0,38,#[.int .i64 T,.slice A N c])]) (by omega) (fun a ha h16 => (Nat.lt_succ_iff_lt_or_eq.1 ha).elim (fun h => hh1 a h h16) (fun h => by rw [h] at h16 ⊢; exact hin h16)) (all_cons kR (all_cons kR all_nil)) kR (bcons rfl rfl)
  ·have lb5 : k2 < k1:=of_decide_eq_true hb5.symm
   refine sP (.int .i64 ((k1 : Nat) : Int)) ?_
   obtain ⟨b6,hb6⟩ : ∃ z : Bool,z = decide (k1 ≤ 16):=⟨_,rfl⟩
   refine sS (.bool b6) (Quiet.pure (exec_int .leq _ _ _ .i64 _ _ _ rfl rfl rfl (int_leq _ _ _ _ _ (by rw [hb6]; exact decide_eq_decide.2 (by omega))))) <| sP (.bool b6) ?_
   refine sG ?_
   cases b6
   ·have lb6 : ¬ (k1 ≤ 16):=of_decide_eq_false hb6.symm
    refine sU <| Sy.exit <| Sy.then_exit <| Sy.then_exit ?_
    have hin : k1 ≤ 16 → ∀ b,b < k1 → K b ≠ K k1:=fun h b hb => hh2 b (by omega)
    refine Sy.in_exit <| Sy.in_ <| Sy.then_ <| Sy.region ?_
    refine sP (.int .i64 ((k1 : Nat) : Int)) <| sS (.int .i64 ((k1 + 1 : Nat) : Int)) (Quiet.pure (exec_int .add _ _ _ .i64 _ _ _ rfl rfl rfl (int_add _ _ _ _ _ ((wrap_i64 (by omega) (by omega)).trans (by omega))))) <| sP (.int .i64 ((k1 + 1 : Nat) : Int)) ?_
    refine Sy.nil ?_
    exact Sy.againH [true] (M:=[(g0,38,#[.int .i64 T,.slice A N c])]) (by omega) (fun a ha h16 => (Nat.lt_succ_iff_lt_or_eq.1 ha).elim (fun h => hh1 a h h16) (fun h => by rw [h] at h16 ⊢; exact hin h16)) (all_cons kR (all_cons kR all_nil)) kR (bcons rfl rfl)
   ·have lb6 : k1 ≤ 16:=of_decide_eq_true hb6.symm
    refine sT <| Sy.skip <| Sy.then_ <| Sy.seq <| Sy.block <| Sy.seq ?_
    refine Sy.regionD (fun j => false) kR ?_
    refine sZ 0 rfl (.pointer (some ⟨g0,1,none⟩)) <| sD 1 rfl (.slice A N c) (Quiet.cell 0 g0 1 38 36 #[.int .i64 T,.slice A N c] _ _ rfl kR kR Tryz.underlying36 rfl _ kR) <| sZ 2 rfl (.int .i64 ((k2 : Nat) : Int)) <| sD 3 rfl (.pointer (some ⟨gK,oK + k2 * 32,none⟩)) (Quiet.pure (exec_atO 36 _ _ _ A gK oK N c k2 32 .i64 (hT (by omega)).1 rfl rfl rfl Tryz.underlying36 kF (by omega))) <| sD 4 rfl (.agg ((K k2).map bv).toArray) (Quiet.there gK (oK + k2 * 32) 32 31 ((K k2).map bv) _ _ rfl kR (hT (by omega)).2.1 ((hT (by omega)).2.2 k2 (by omega)) Tryz.underlying31 rfl kR ((List.length_map ..).trans (hK _)) _ rfl) <| sZ 5 rfl (.pointer (some ⟨g0,1,none⟩)) <| sD 6 rfl (.slice A N c) (Quiet.cell 0 g0 1 38 36 #[.int .i64 T,.slice A N c] _ _ rfl kR kR Tryz.underlying36 rfl _ kR) <| sZ 7 rfl (.int .i64 ((k1 : Nat) : Int)) ?_
    refine sD 8 rfl (.pointer (some ⟨gK,oK + k1 * 32,none⟩)) (Quiet.pure (exec_atO 36 _ _ _ A gK oK N c k1 32 .i64 (hT (by omega)).1 rfl rfl rfl Tryz.underlying36 kF (by omega))) <| sD 9 rfl (.agg ((K k1).map bv).toArray) (Quiet.there gK (oK + k1 * 32) 32 31 ((K k1).map bv) _ _ rfl kR (hT (by omega)).2.1 ((hT (by omega)).2.2 k1 (by omega)) Tryz.underlying31 rfl kR ((List.length_map ..).trans (hK _)) _ rfl) ?_
    obtain ⟨b7,hb7⟩ : ∃ z : Bool,z = decide ((K k2) = (K k1)):=⟨_,rfl⟩
    refine sD 10 rfl (.bool b7) (Quiet.pure (fun w => by rw [hb7]; exact eql_key w _ _ _ _ (K k2) (K k1) (hK _) (hK _) rfl rfl rfl)) ?_
    refine sI ?_
    cases b7
    ·have lb7 : ¬ ((K k2) = (K k1)):=of_decide_eq_false hb7.symm
     refine sU <| Sy.skip <| Sy.in_ <| Sy.then_ <| Sy.region ?_
     refine sP (.int .i64 ((k2 : Nat) : Int)) <| sS (.int .i64 ((k2 + 1 : Nat) : Int)) (Quiet.pure (exec_int .add _ _ _ .i64 _ _ _ rfl rfl rfl (int_add _ _ _ _ _ ((wrap_i64 (by omega) (by omega)).trans (by omega))))) <| sP (.int .i64 ((k2 + 1 : Nat) : Int)) ?_
     refine Sy.nil ?_
     exact Sy.againH [true] (M:=[(g0,38,#[.int .i64 T,.slice A N c])]) (by omega) (fun b hb => (Nat.lt_succ_iff_lt_or_eq.1 hb).elim (hh2 b) (fun h => by rw [h]; exact lb7)) (all_cons kR (all_cons kR (all_cons kR all_nil))) kR (bcons rfl rfl)
    ·have lb7 : (K k2) = (K k1):=of_decide_eq_true hb7.symm
     refine sT <| sC ?_
     refine sP (.bool false) ?_
     refine sG <| Sy.ret <| Sy.in_ret <| Sy.then_ret <| Sy.then_ret <| Sy.in_ret <| Sy.in_ret <| Sy.then_ret <| Sy.then_ret <| Sy.in_ret <| Sy.then_ret ?_
     rw [show (.bool (validB T N K) : Value) = .bool false from by rw [may_no lb1 lb5 lb7]]
     exact rV (.bool false) rfl
end Cu
end
section
namespace Sy
open Go.RowKit
theorem St.perm {w0 : Base} {w : World} {L M : Blocks} (h : St w0 w L) (p : L.Perm M) : St w0 w M :=
 ⟨h.below,fun g t cs hm => h.blk g t cs (p.mem_iff.2 hm),(p.map _).nodup_iff.1 h.apart,h.size,h.non⟩
section
variable {P : Program} {w0 : Base} {n : Nat} {Q : Exit → Act → World → Prop} {F : Slots} {L : Blocks} {ops : Array Oper} {ex : Nat → Bool} {fuel : Nat} {listed : Array Bool}
end
end Sy
end
section
namespace Sy
open Go.RowKit
section
variable {P : Program} {w0 : Base} {n : Nat} {Q : Exit → Act → World → Prop} {F : Slots} {L : Blocks} {ops : Array Oper} {o : Oper} {l : List Oper}
def From (w0 : Base) (L : Blocks) (A : Option Addr) (news : List Value) : Prop:=∀ w,St w0 w L → (news = [] ∨ ∃ a,A = some a ∧ ∀ j u,news[j]? = some u → w.cell? (a.add j) = some u)
theorem From.blk {i g f : Nat} {t : TypeId} {cs : Array Value} {news : List Value} (hL : L[i]? = some (g,t,cs)) (hn : (cs.toList.drop f).take news.length = news) : From w0 L (some ⟨g,f,none⟩) news:=fun w hw =>
 .inr ⟨_,rfl,fun j u hj => by
  rw [addr_off]
  exact blk_range (hw.get hL) hn j u hj⟩
theorem appendG (hg : good ops n F o = true) (ts e : TypeId) (inf : TypeInfo) (z : Value) (sz by_ : Nat) (ht : P.underlying ts = some (.slice e)) (hinf : P.info? e = some inf) (hz : inf.zero = some z) (hs1 : inf.size = sz) (hb1 : inf.bytes = by_) (hzs : z.cells.size = sz) (h0 : 0 < sz)
  (s x : Operand) (ho : o.op = .call { callee:=.builtin .append,args:=#[s,x],argTypes:=#[ts,ts] })
  (i g len cap : Nat) (old sp : List Value) (hs : evF F s = .slice (some ⟨g,0,none⟩) len cap) (hL : L[i]? = some (g,e,(old ++ sp).toArray)) (hlen : old.length = len * sz) (hsp : sp.length + len * sz = cap * sz) (hmax : cap ≤ maxLen)
  (A : Option Addr) (m c : Nat) (news : List Value) (hx : evF F x = .slice A m c) (hf : From w0 L A news) (hm : news.length = m * sz) (hmc : m ≤ c) (h1 : ∀ u ∈ news,u.oneCell' = true) (hsmall : (len + m) * by_ ≤ 140737488355328) (h63 : len + m ≤ maxLen)
  (h : ∀ (g' cap' : Nat) (sp' : List Value),sp'.length + (len + m) * sz = cap' * sz → len + m ≤ cap' → cap' ≤ maxLen → wpS P w0 n ops Q (putF F o.dst (.slice (some ⟨g',0,none⟩) (len + m) cap')) (L.set i (g',e,(old ++ news ++ sp').toArray)) l) : wpS P w0 n ops Q F L (o :: l):=fun a w ha hw => by
 obtain ⟨k1,_,k3,_⟩:=good_spec hg
 refine wpList_step fun K hK => ?_
 rw [if_pos (ha.wanted k1)]
 have hb:=hw.get hL
 have hle : len ≤ cap:=Nat.le_of_mul_le_mul_right (by omega) h0
 have step : ∀ v' w',(Builtin.append_ #[ts,ts] o.type #[.slice (some ⟨g,0,none⟩) len cap,.slice A m c]).run P w = .ok v' w' → K (a.put o.dst v') w' → o.wp P a w K Q:=fun v' w' hr hk => by
  unfold Oper.wp
  rw [good_exec hg ha]
  unfold execOp
  simp only [ho,resolve,invoke,builtin,Sem.run_bind,Sem.run_pure,Result.andThen_ok,List.map_toArray,List.map_cons,List.map_nil,hs,hx,hr]
  exact hk
 rcases hf w hw with rfl | ⟨ad,rfl,hn⟩
 ·have hm0 : m = 0:=by
   rcases Nat.eq_zero_or_pos m with h | h
   ·exact h
   ·have:=Nat.mul_pos h h0
    simp at hm
    omega
  subst hm0
  have hr : (Builtin.append_ #[ts,ts] o.type #[.slice (some ⟨g,0,none⟩) len cap,.slice A 0 c]).run P w = .ok (.slice (some ⟨g,0,none⟩) len cap) w:=by
   have hfc : (Builtin.firstCells inf.size 0 (.slice A 0 c)).run P w = .ok #[] w:=by
    cases A with
    | none => simp [Builtin.firstCells,Sem.run_pure]
    | some a => simpa using run_firstCells_some (P:=P) w inf.size 0 a 0 c [] (by simp) (fun j u hj => by cases hj)
   have hst : ∀ a : Addr,(storeCells a []).run P w = .ok () w:=fun a => by simp [storeCells,Sem.run_pure]
   simp [Builtin.append_,run_underlying ht,sizeOf,typeInfo,hinf,hle,Builtin.lenOf,hfc,hst]
  refine step _ w hr ?_
  have hset : L.set i (g,e,(old ++ [] ++ sp).toArray) = L:=by
   rw [List.append_nil]
   refine List.ext_getElem? fun j => ?_
   rw [List.getElem?_set]
   by_cases e' : i = j
   ·subst e'
    rw [if_pos rfl,if_pos (List.getElem?_eq_some_iff.1 hL).1,hL]
   ·rw [if_neg e']
  refine hK _ _ (h g cap sp (by simpa using hsp) (by omega) hmax _ _ (ha.put k3 _) ?_)
  rw [hset]
  exact hw
 ·have hown : w.ownsRow 0 e sz (.slice (some ⟨g,0,none⟩) len cap) len old:=⟨hlen,.inr ⟨g,cap,_,rfl,Nat.zero_le _,hb,hle,hmax,by rw [List.size_toArray,List.length_append]; omega,by show (old ++ sp).take _ = old; rw [List.take_left' hlen]⟩⟩
  have last : ∀ (w' : World) (g' cap' : Nat) (cur : Array Value),cur.size = cap' * sz → len + m ≤ cap' → cap' ≤ maxLen → cur.toList.take ((len + m) * sz) = old ++ news → St w0 w' (L.set i (g',e,cur)) → K (a.put o.dst (.slice (some ⟨g',0,none⟩) (len + m) cap')) w':=fun w' g' cap' cur h2 h2' h3 h4 h5 => by
   have hc : cur = (old ++ news ++ cur.toList.drop ((len + m) * sz)).toArray:=by
    rw [← h4,List.take_append_drop]
   rw [hc] at h5
   refine hK _ _ (h g' cap' _ ?_ h2' h3 _ _ (ha.put k3 _) h5)
   have h6:=Nat.mul_le_mul_right sz h2'
   rw [List.length_drop,Array.length_toList,h2]
   omega
  rcases Nat.lt_or_ge cap (len + m) with hlt | hge
  ·obtain ⟨v',w',hr,hrow,hgr⟩:=run_append_arg_grows (P:=P) w ts o.type e inf z sz by_ ht hinf hz hs1 hb1 hzs h0 ⟨g,0,none⟩ len cap old hlen (hown.cells (g:=g) rfl) ad m c news hm hn hlt h63 hsmall
   refine step v' w' hr ?_
   rcases hrow.2 with ⟨rfl,h0'⟩ | ⟨g',cap',cur,rfl,q1,q2,q3,q4,q5,q6⟩
   ·omega
   ·exact last w' g' cap' cur q5 q3 q4 q6 (hw.setNew (⟨hgr.os,hgr.tape,hgr.output,hgr.size,fun k hk => hgr.block k hk (by simp)⟩) (List.getElem?_eq_some_iff.1 hL).1 q1 q2)
  ·obtain ⟨w',hr,hrow,hgr⟩:=run_append_own_spare (P:=P) w 0 ts o.type e inf sz ht hinf hs1 g len cap old hown ad m c news hm hn h1 hge
   refine step _ w' hr ?_
   rcases hrow.2 with ⟨h0',_⟩ | ⟨g',cap',cur,hv,_,q2,q3,q4,q5,q6⟩
   ·cases h0'
   ·cases hv
    exact last w' g cap cur q5 q3 q4 q6 (hw.set hL hgr q2)
theorem appendE (hg : good ops n F o = true) (ts e : TypeId) (inf : TypeInfo) (z : Value) (sz by_ : Nat) (ht : P.underlying ts = some (.slice e)) (hinf : P.info? e = some inf) (hz : inf.zero = some z) (hs1 : inf.size = sz) (hb1 : inf.bytes = by_) (hzs : z.cells.size = sz) (h0 : 0 < sz)
  (s x : Operand) (ho : o.op = .call { callee:=.builtin .append,args:=#[s,x],argTypes:=#[ts,ts] })
  (i g : Nat) (hs : evF F s = .slice (some ⟨g,0,none⟩) 0 0) (hL : L[i]? = some (g,e,#[]))
  (A : Option Addr) (m c : Nat) (news : List Value) (hx : evF F x = .slice A m c) (hf : From w0 L A news) (hm : news.length = m * sz) (hmc : m ≤ c) (h1 : ∀ u ∈ news,u.oneCell' = true) (hsmall : m * by_ ≤ 140737488355328) (h63 : m ≤ maxLen)
  (h : ∀ (g' cap' : Nat) (sp' : List Value),sp'.length + m * sz = cap' * sz → m ≤ cap' → cap' ≤ maxLen → wpS P w0 n ops Q (putF F o.dst (.slice (some ⟨g',0,none⟩) m cap')) (L.set i (g',e,(news ++ sp').toArray)) l) : wpS P w0 n ops Q F L (o :: l) :=
 appendG hg ts e inf z sz by_ ht hinf hz hs1 hb1 hzs h0 s x ho i g 0 0 [] [] hs hL (by simp) (by simp) (Nat.zero_le _) A m c news hx hf hm hmc h1 (by rw [Nat.zero_add]; exact hsmall) (by rw [Nat.zero_add]; exact h63) (fun g' cap' sp' h1 h2 h3 => by
  rw [Nat.zero_add] at h1 h2 ⊢
  exact h g' cap' sp' h1 h2 h3)
theorem appendGNil (hg : good ops n F o = true) (ts e : TypeId) (inf : TypeInfo) (z : Value) (sz by_ : Nat) (ht : P.underlying ts = some (.slice e)) (hinf : P.info? e = some inf) (hz : inf.zero = some z) (hs1 : inf.size = sz) (hb1 : inf.bytes = by_) (hzs : z.cells.size = sz) (h0 : 0 < sz)
  (s x : Operand) (ho : o.op = .call { callee:=.builtin .append,args:=#[s,x],argTypes:=#[ts,ts] }) (hs : evF F s = .slice none 0 0)
  (A : Option Addr) (m c : Nat) (news : List Value) (hx : evF F x = .slice A m c) (hf : From w0 L A news) (hm : news.length = m * sz) (hm0 : 0 < m) (h1 : ∀ u ∈ news,u.oneCell' = true) (hsmall : m * by_ ≤ 140737488355328) (h63 : m ≤ maxLen)
  (h : ∀ (g' cap' : Nat) (sp' : List Value),sp'.length + m * sz = cap' * sz → m ≤ cap' → cap' ≤ maxLen → wpS P w0 n ops Q (putF F o.dst (.slice (some ⟨g',0,none⟩) m cap')) (L ++ [(g',e,(news ++ sp').toArray)]) l) : wpS P w0 n ops Q F L (o :: l):=fun a w ha hw => by
 obtain ⟨k1,_,k3,_⟩:=good_spec hg
 refine wpList_step fun K hK => ?_
 rw [if_pos (ha.wanted k1)]
 rcases hf w hw with rfl | ⟨ad,rfl,hn⟩
 ·have:=Nat.mul_pos hm0 h0
  simp at hm
  omega
 obtain ⟨v',w',hr,hrow,hgr,hnil⟩:=run_append_own (P:=P) w w.heap.size ts o.type e inf z sz by_ ht hinf hz hs1 hb1 hzs h0 (.slice none 0 0) 0 [] (World.ownsRow_nil w _ e sz) ad m c news hm hn h1 (by omega) (by rw [Nat.zero_add]; exact hsmall) (Nat.le_refl _)
 rcases hrow.2 with ⟨_,h0'⟩ | ⟨g',cap',cur,rfl,q1,q2,q3,q4,q5,q6⟩
 ·omega
 have q6' : cur.toList.take (m * sz) = news:=by simpa using q6
 unfold Oper.wp
 rw [good_exec hg ha]
 unfold execOp
 simp only [ho,resolve,invoke,builtin,Sem.run_bind,Sem.run_pure,Result.andThen_ok,List.map_toArray,List.map_cons,List.map_nil,hs,hx,hr]
 have hc : cur = (news ++ cur.toList.drop (m * sz)).toArray:=by rw [← q6',List.take_append_drop]
 rw [hc] at q2
 rw [Nat.zero_add] at q3 ⊢
 refine hK _ _ (h g' cap' _ ?_ q3 q4 _ _ (ha.put k3 _) (hw.add (⟨hgr.os,hgr.tape,hgr.output,hgr.size,fun k hk => hgr.block k hk (by simp [Value.ownBlock])⟩) q1 q2))
 have h6:=Nat.mul_le_mul_right sz q3
 rw [List.length_drop,Array.length_toList,q5]
 omega
theorem permS {M : Blocks} (p : L.Perm M) (h : wpS P w0 n ops Q F M l) : wpS P w0 n ops Q F L l:=fun a w ha hw => h a w ha (hw.perm p)
end
end Sy
end
section
namespace Sy
open Go.RowKit
structure Slc where
 v : Value
 bl : Blocks
structure Slc.Is (r : Slc) (e : TypeId) (sz : Nat) (xs : List (List Value)) : Prop where
 len : ∀ x ∈ xs,x.length = sz
 one : ∀ x ∈ xs, ∀ u ∈ x,u.oneCell' = true
 row : (xs = [] ∧ r = ⟨.slice none 0 0,[]⟩) ∨ ∃ g cap sp,r = ⟨.slice (some ⟨g,0,none⟩) xs.length cap,[(g,e,(xs.flatten ++ sp).toArray)]⟩ ∧ sp.length + xs.length * sz = cap * sz ∧ xs.length ≤ cap ∧ cap ≤ maxLen
theorem Slc.Is.nil (e : TypeId) (sz : Nat) : Slc.Is ⟨.slice none 0 0,[]⟩ e sz []:=⟨fun _ h => (by cases h),fun _ h => (by cases h),.inl ⟨rfl,rfl⟩⟩
theorem flat_len' {sz : Nat} : ∀ {xs : List (List Value)},(∀ x ∈ xs,x.length = sz) → xs.flatten.length = xs.length * sz
 | [],_ => by simp
 | x :: xs,h => by
  rw [List.flatten_cons,List.length_append,h x (List.mem_cons_self ..),flat_len' fun y hy => h y (List.mem_cons_of_mem _ hy),List.length_cons,Nat.add_mul,Nat.one_mul,Nat.add_comm]
theorem flat_at' {sz : Nat} : ∀ {xs : List (List Value)} (sp : List Value),(∀ x ∈ xs,x.length = sz) → ∀ (j : Nat) (x : List Value),xs[j]? = some x → ((xs.flatten ++ sp).drop (j * sz)).take sz = x
 | [],_,_,_,_,h => by simp at h
 | y :: xs,sp,h,0,x,hx => by
  have hy:=h y (List.mem_cons_self ..)
  simp only [List.getElem?_cons_zero,Option.some.injEq] at hx
  subst hx
  rw [Nat.zero_mul,List.drop_zero,List.flatten_cons,List.append_assoc,List.take_append_of_le_length (by omega),List.take_of_length_le (by omega)]
 | y :: xs,sp,h,j + 1,x,hx => by
  have hy:=h y (List.mem_cons_self ..)
  rw [List.getElem?_cons_succ] at hx
  have ih:=flat_at' sp (fun z hz => h z (List.mem_cons_of_mem _ hz)) j x hx
  rw [List.flatten_cons,List.append_assoc,List.drop_append,hy,List.drop_of_length_le (by rw [hy,Nat.add_mul,Nat.one_mul]; omega),List.nil_append,Nat.add_mul,Nat.one_mul,Nat.add_sub_cancel]
  exact ih
theorem Slc.Is.out {r : Slc} {e : TypeId} {sz : Nat} {xs : List (List Value)} (h : r.Is e sz xs) : ∃ A c,r.v = .slice A xs.length c ∧ xs.length ≤ c ∧ c ≤ maxLen ∧ ∀ {w0 : Base} {w : World} {L : Blocks},St w0 w L → (∀ b ∈ r.bl,b ∈ L) → Lst w sz A xs.length (fun i => xs.getD i []):=by
 rcases h.row with ⟨rfl,rfl⟩ | ⟨g,cap,sp,rfl,h1,h2,h3⟩
 ·exact ⟨none,0,rfl,Nat.le_refl _,Nat.zero_le _,fun _ _ => ⟨0,0,fun hn => absurd hn (Nat.lt_irrefl _)⟩⟩
 ·refine ⟨some ⟨g,0,none⟩,cap,rfl,h2,h3,fun {w0 w L} hw hb => ⟨g,0,fun hn => ?_⟩⟩
  have hbk:=(hw.blk g e _ (hb _ (List.mem_singleton.2 rfl))).2
  refine ⟨rfl,hbk.lt,fun j hj i v hi => ?_⟩
  have hx : xs[j]? = some (xs.getD j []):=by rw [List.getD_eq_getElem?_getD,List.getElem?_eq_getElem hj]; rfl
  have hl:=h.len _ (List.mem_of_getElem? hx)
  have hi' : i < sz:=by rw [← hl]; exact (List.getElem?_eq_some_iff.1 hi).1
  refine (hbk.cell _).trans ?_
  have q:=flat_at' sp h.len j _ hx
  have hi : (xs.getD j [])[i]? = some v:=hi
  rw [← q,List.getElem?_take_of_lt hi',List.getElem?_drop] at hi
  rw [Nat.zero_add,List.getElem?_toArray]
  exact hi
section
variable {P : Program} {w0 : Base} {n : Nat} {Q : Exit → Act → World → Prop} {F : Slots} {pre T : Blocks} {ops : Array Oper} {o : Oper} {l : List Oper}
theorem Quiet.lenR {L : Blocks} {r : Slc} {e t : TypeId} {sz m : Nat} {xs : List (List Value)} (hr : r.Is e sz xs) (hm : xs.length = m) (x : Operand) {e' : TypeId} (ht : P.underlying t = some (.slice e')) (ho : o.op = .call { callee:=.builtin .len,args:=#[x],argTypes:=#[t] }) (hx : evF F x = r.v) : Quiet P w0 F L o (.int .i64 (m : Int)):=Quiet.pure fun w => by
 subst hm
 rcases hr.row with ⟨rfl,rfl⟩ | ⟨g,cap,sp,rfl,_⟩ <;>
 ·unfold execOp
  simp only [ho,resolve,invoke,builtin,Sem.run_bind,Sem.run_pure,Result.andThen_ok,List.map_toArray,List.map_cons,List.map_nil,hx]
  simp [Builtin.len_,run_underlying ht,goInt,Result.andThen]
theorem appendR (hg : good ops n F o = true) (ts e : TypeId) (inf : TypeInfo) (z : Value) (sz by_ : Nat) (ht : P.underlying ts = some (.slice e)) (hinf : P.info? e = some inf) (hz : inf.zero = some z) (hs1 : inf.size = sz) (hb1 : inf.bytes = by_) (hzs : z.cells.size = sz) (h0 : 0 < sz)
  (s x : Operand) (ho : o.op = .call { callee:=.builtin .append,args:=#[s,x],argTypes:=#[ts,ts] })
  {r : Slc} {xs : List (List Value)} (hr : r.Is e sz xs) (hs : evF F s = r.v) (y : List Value) (hy : y.length = sz) (hy1 : ∀ u ∈ y,u.oneCell' = true)
  (j gx : Nat) (tx : TypeId) (hx : evF F x = .slice (some ⟨gx,0,none⟩) 1 1) (hLx : (pre ++ (r.bl ++ T))[j]? = some (gx,tx,y.toArray)) (hsmall : (xs.length + 1) * by_ ≤ 140737488355328) (h63 : xs.length + 1 ≤ maxLen)
  (h : ∀ r' : Slc,r'.Is e sz (xs ++ [y]) → wpS P w0 n ops Q (putF F o.dst r'.v) (pre ++ (r'.bl ++ T)) l) : wpS P w0 n ops Q F (pre ++ (r.bl ++ T)) (o :: l):=by
 have hfrom : From w0 (pre ++ (r.bl ++ T)) (some ⟨gx,0,none⟩) y:=From.blk hLx (by simp)
 have hlen : ∀ u ∈ xs ++ [y],u.length = sz:=fun u hu => by
  rcases List.mem_append.1 hu with hu | hu
  ·exact hr.len u hu
  ·rw [List.mem_singleton.1 hu]; exact hy
 have hone : ∀ u ∈ xs ++ [y], ∀ v ∈ u,v.oneCell' = true:=fun u hu => by
  rcases List.mem_append.1 hu with hu | hu
  ·exact hr.one u hu
  ·rw [List.mem_singleton.1 hu]; exact hy1
 rcases hr.row with ⟨rfl,rfl⟩ | ⟨g,cap,sp,rfl,q1,q2,q3⟩
 ·refine appendGNil hg ts e inf z sz by_ ht hinf hz hs1 hb1 hzs h0 s x ho hs (some ⟨gx,0,none⟩) 1 1 y hx hfrom (by omega) (by decide) hy1 (by simpa using hsmall) (by simpa using h63) (fun g' cap' sp' h1 h2 h3 => ?_)
  have hq:=h ⟨.slice (some ⟨g',0,none⟩) 1 cap',[(g',e,(y ++ sp').toArray)]⟩ ⟨hlen,hone,.inr ⟨g',cap',sp',by simp,by simpa using h1,by simpa using h2,h3⟩⟩
  exact permS (by
   rw [List.nil_append,List.append_assoc]
   exact (List.perm_append_comm (l₁:=T) (l₂:=[(g',e,(y ++ sp').toArray)])).append_left pre) hq
 ·have hi : (pre ++ ([(g,e,(xs.flatten ++ sp).toArray)] ++ T))[pre.length]? = some (g,e,(xs.flatten ++ sp).toArray):=by
   rw [List.getElem?_append_right (Nat.le_refl _),Nat.sub_self]
   rfl
  refine appendG hg ts e inf z sz by_ ht hinf hz hs1 hb1 hzs h0 s x ho pre.length g xs.length cap xs.flatten sp hs hi (flat_len' hr.len) q1 q3 (some ⟨gx,0,none⟩) 1 1 y hx hfrom (by omega) (Nat.le_refl _) hy1 hsmall h63 (fun g' cap' sp' h1 h2 h3 => ?_)
  have hq:=h ⟨.slice (some ⟨g',0,none⟩) (xs.length + 1) cap',[(g',e,(xs.flatten ++ y ++ sp').toArray)]⟩ ⟨hlen,hone,.inr ⟨g',cap',sp',by simp,by simpa using h1,by simpa using h2,h3⟩⟩
  have he : (pre ++ ([(g,e,(xs.flatten ++ sp).toArray)] ++ T)).set pre.length (g',e,(xs.flatten ++ y ++ sp').toArray) = pre ++ ([(g',e,(xs.flatten ++ y ++ sp').toArray)] ++ T):=by
   rw [List.set_append_right _ _ (Nat.le_refl _),Nat.sub_self]
   rfl
  rw [he]
  exact hq
theorem movT {b : Nat × TypeId × Array Value} (h : wpS P w0 n ops Q F ((pre ++ [b]) ++ T) l) : wpS P w0 n ops Q F ((pre ++ T) ++ [b]) l :=
 permS (by
  rw [List.append_assoc,List.append_assoc]
  exact (List.perm_append_comm (l₁:=T) (l₂:=[b])).append_left pre) h
theorem setT {i : Nat} {b : Nat × TypeId × Array Value} (h : wpS P w0 n ops Q F ((pre.set i b) ++ T) l) (hi : Nat.ble (i + 1) pre.length = true:=by kernel_rfl) : wpS P w0 n ops Q F ((pre ++ T).set i b) l:=by
 rw [List.set_append_left _ _ (Nat.le_of_ble_eq_true hi)]
 exact h
theorem swapT {A B : Blocks} (h : wpS P w0 n ops Q F (pre ++ (B ++ A)) l) : wpS P w0 n ops Q F (pre ++ (A ++ B)) l:=permS (List.perm_append_comm.append_left pre) h
theorem St.pick {w : World} {M : Blocks} (is : List Nat) (hn : is.Nodup) (hm : is.map (fun i => pre[i]?) = M.map some) (hw : St w0 w (pre ++ T)) : St w0 w (M ++ T):=by
 have hsub : ∀ b ∈ M,b ∈ pre:=fun b hb => by
  have : some b ∈ M.map some:=List.mem_map.2 ⟨b,hb,rfl⟩
  rw [← hm] at this
  obtain ⟨i,_,hi⟩:=List.mem_map.1 this
  exact List.mem_of_getElem? hi
 have hap:=hw.apart
 rw [List.map_append,List.nodup_append] at hap
 obtain ⟨hp,hT,hd⟩:=hap
 refine ⟨hw.below,fun g t cs hb => hw.blk g t cs (by
  rcases List.mem_append.1 hb with hb | hb
  ·exact List.mem_append.2 (.inl (hsub _ hb))
  ·exact List.mem_append.2 (.inr hb)),?_,hw.size,hw.non⟩
 rw [List.map_append,List.nodup_append]
 refine ⟨?_,hT,fun a ha b hb => hd a (by
  obtain ⟨x,hx,rfl⟩:=List.mem_map.1 ha
  exact List.mem_map.2 ⟨x,hsub x hx,rfl⟩) b hb⟩
 have hlen : is.length = M.length:=by simpa using congrArg List.length hm
 rw [List.Nodup,List.pairwise_map,List.pairwise_iff_getElem]
 intro a b ha hb hab e
 have q : ∀ (c : Nat) (hc : c < M.length),pre[is[c]'(by omega)]? = some M[c]:=fun c hc => by
  have:=congrArg (fun l => l[c]?) hm
  simp only [List.getElem?_map] at this
  rw [List.getElem?_eq_getElem (by omega),List.getElem?_eq_getElem hc] at this
  simpa using this
 have q1:=List.getElem?_eq_some_iff.1 (q a ha)
 have q2:=List.getElem?_eq_some_iff.1 (q b hb)
 obtain ⟨l1,e1⟩:=q1
 obtain ⟨l2,e2⟩:=q2
 have hne : is[a]'(by omega) ≠ is[b]'(by omega):=fun e3 => by
  have:=List.pairwise_iff_getElem.1 hn a b (by omega) (by omega) hab
  exact this e3
 have hpw:=List.pairwise_iff_getElem.1 hp
 rcases Nat.lt_or_gt_of_ne hne with hlt | hlt
 ·have:=hpw _ _ (by simpa using l1) (by simpa using l2) hlt
  simp only [List.getElem_map,e1,e2] at this
  exact this e
 ·have:=hpw _ _ (by simpa using l2) (by simpa using l1) hlt
  simp only [List.getElem_map,e1,e2] at this
  exact this e.symm
theorem loopT {L : Blocks} {Y : Type} {c : Code} (N : Nat) (FF : Nat → Y → Slots) (LL : Nat → Y → Blocks) (H : Nat → Y → Prop) (x0 : Y) (h0 : H 0 x0) (hF : ∀ p ∈ FF 0 x0,F.lookup p.1 = some p.2) (hL : ∀ w,St w0 w L → St w0 w (LL 0 x0))
  (hr : ∀ k x,k ≤ N → H k x → wpC P w0 n (Exit.then (NextX w0 n N FF LL H k) Q) (FF k x) (LL k x) c) : wpC P w0 n Q F L (.loop c) :=
 loopI N (fun k a w => ∃ x,H k x ∧ Fr w0.ds a n (FF k x) ∧ St w0 w (LL k x)) (fun _ w ha hw => ⟨x0,h0,ha.all hF,hL w hw⟩)
  fun k hk a w ⟨x,hx,ha,hw⟩ => hr k x hk hx a w ha hw
theorem againT {L : Blocks} {Y : Type} {N : Nat} {FF : Nat → Y → Slots} {LL : Nat → Y → Blocks} {H : Nat → Y → Prop} {k : Nat} {R : Exit → Act → World → Prop} (y : Y) (hk : k < N) (hy : H (k + 1) y) (hF : ∀ p ∈ FF (k + 1) y,F.lookup p.1 = some p.2) (hL : ∀ w,St w0 w L → St w0 w (LL (k + 1) y)) :
  X w0 n (Exit.then (NextX w0 n N FF LL H k) R) F L .normal:=fun _ w ha hw => ⟨hk,y,hy,ha.all hF,hL w hw⟩
theorem Slc.Is.cells {r : Slc} {e : TypeId} {sz : Nat} {xs : List (List Value)} (h : r.Is e sz xs) : r.v.cells = #[r.v] ∧ r.v.oneCell' = true:=by
 rcases h.row with ⟨rfl,rfl⟩ | ⟨g,cap,sp,rfl,_⟩ <;> exact ⟨rfl,rfl⟩
end
theorem fold_all : ∀ (c : List Value) (off k : Nat) (cs : Array Value),(c.zipIdx k).foldl (fun cs x => cs.setIfInBounds (off + x.2) x.1) cs = setAll cs (off + k) c
 | [],_,_,_ => rfl
 | v :: c,off,k,cs => by
  rw [List.zipIdx_cons,List.foldl_cons,fold_all c off (k + 1)]
  rfl
theorem fill_one {place : Nat → Option (Nat × Nat)} {cs : Array Value} {c : List Value} {n : Nat} (hp : place 0 = some (0,n)) (hc : c.length = n) (hs : cs.size = n) : Instr.fill place cs [(0,.agg c.toArray)] = some c.toArray:=by
 unfold Instr.fill
 rw [hp]
 simp only [Value.cells,List.size_toArray,hc,hs,Nat.zero_add,ne_eq,not_true_eq_false,decide_false,Bool.false_or]
 rw [if_neg (by simp)]
 unfold Instr.fill
 have h1 : c.toArray.zipIdx.foldl (fun cs (x : Value × Nat) => cs.setIfInBounds (0 + x.2) x.1) cs = setAll cs (0 + 0) c:=by
  rw [← fold_all c 0 0 cs, ← Array.foldl_toList,Array.toList_zipIdx]
 have h2:=Cu.setAll_all c 0 cs (by omega)
 simp only [Nat.zero_add] at h1
 rw [h1,h2]
 simp
theorem fill_two {place : Nat → Option (Nat × Nat)} {cs : Array Value} {z : Int} {c : List Value} {n : Nat} (hp0 : place 0 = some (0,1)) (hp1 : place 1 = some (1,n)) (hc : c.length = n) (hs : cs.size = n + 1) : Instr.fill place cs [(0,.int .i64 z),(1,.agg c.toArray)] = some (.int .i64 z :: c).toArray:=by
 unfold Instr.fill
 rw [hp0]
 simp only [Value.cells,List.size_toArray,List.length_singleton,hs,Nat.zero_add,ne_eq,not_true_eq_false,decide_false,Bool.false_or]
 rw [if_neg (by simp)]
 unfold Instr.fill
 rw [hp1]
 have hz : (#[Value.int .i64 z].zipIdx).foldl (fun cs (x : Value × Nat) => cs.setIfInBounds x.2 x.1) cs = cs.setIfInBounds 0 (.int .i64 z):=rfl
 simp only [Value.cells,List.size_toArray,hc,ne_eq,not_true_eq_false,decide_false,Bool.false_or]
 have hcs : (cs.setIfInBounds 0 (.int .i64 z)).size = n + 1:=by rw [Array.size_setIfInBounds,hs]
 rw [hz,if_neg (by rw [hcs]; simp; omega)]
 unfold Instr.fill
 have h1 : c.toArray.zipIdx.foldl (fun cs (x : Value × Nat) => cs.setIfInBounds (1 + x.2) x.1) (cs.setIfInBounds 0 (.int .i64 z)) = setAll (cs.setIfInBounds 0 (.int .i64 z)) (1 + 0) c:=by
  rw [← fold_all c 1 0, ← Array.foldl_toList,Array.toList_zipIdx]
 have h2:=Cu.setAll_all c 1 (cs.setIfInBounds 0 (.int .i64 z)) (by rw [hcs]; omega)
 rw [h1,Nat.add_zero,h2,Array.toList_setIfInBounds]
 obtain ⟨a,r,e⟩ : ∃ a r,cs.toList = a :: r:=by
  cases h : cs.toList with
  | nil => rw [← Array.length_toList,h] at hs; simp at hs
  | cons a r => exact ⟨a,r,rfl⟩
 rw [e]
 rfl
section
variable {P : Program} {w0 : Base} {F : Slots} {L : Blocks} {o : Oper}
theorem Makes.one (t e : TypeId) (ie : TypeInfo) (z : Value) (s : Nat) (x : Operand) (c : List Value) (ho : o.op = .buildSlice t 1 #[(0,x)]) (hx : evF F x = .agg c.toArray) (ht : P.underlying t = some (.slice e)) (hi : P.info? e = some ie) (hz : ie.zero = some z) (hs : ie.size = s) (hc : c.length = s) (h0 : 0 < s) (hb : s ≤ 16777216) :
  Makes P F o e c.toArray (fun g => .slice (some ⟨g,0,none⟩) 1 1):=fun w => by
 subst hs
 have hr:=run_buildSlice (P:=P) w t e 1 #[(0,.agg c.toArray)] c.toArray ie z ht hi hz (by omega) (by omega) (fill_one (by simp) hc (by simp))
 unfold execOp
 simp only [ho,Sem.run_bind,List.map_toArray,List.map_cons,List.map_nil,hx,hr,Result.andThen_ok,Sem.run_pure]
theorem Quiet.build2 (t : TypeId) (fs : Array Field) (it : TypeInfo) (zv : Value) (x y : Operand) (z : Int) (c : List Value) (n : Nat) (ho : o.op = .build t #[(0,x),(1,y)]) (hx : evF F x = .int .i64 z) (hy : evF F y = .agg c.toArray) (hu : P.underlying t = some (.struct fs)) (hit : P.info? t = some it) (hz : it.zero = some zv) (hzs : zv.cells.size = n + 1)
  (hpl : fs.toList.mapM (fun f => (P.info? f.type).map fun i => (f.offset,i.size)) = some [(0,1),(1,n)]) (hc : c.length = n) : Quiet P w0 F L o (.agg (.int .i64 z :: c).toArray):=Quiet.pure fun w => by
 have hb : P.built t #[(0,Value.int .i64 z),(1,.agg c.toArray)].toList = some (.int .i64 z :: c).toArray:=by
  unfold Program.built
  rw [hit,hu]
  simp only [hz,hpl]
  exact fill_two rfl rfl hc hzs
 have hr:=run_build (P:=P) w t #[(0,Value.int .i64 z),(1,.agg c.toArray)] _ hb
 unfold execOp
 simp only [ho,Sem.run_bind,List.map_toArray,List.map_cons,List.map_nil,hx,hy,hr,Result.andThen_ok,Sem.run_pure]
theorem tidyS {n : Nat} {Q : Exit → Act → World → Prop} {ops : Array Oper} {l : List Oper} {G : Slots} {M : Blocks} (hF : ∀ p ∈ G,F.lookup p.1 = some p.2) (hL : ∀ w,St w0 w L → St w0 w M) (h : wpS P w0 n ops Q G M l) : wpS P w0 n ops Q F L l:=fun a w ha hw => h a w (ha.all hF) (hL w hw)
theorem exec_upto (t : TypeId) (x hx' : Operand) (g f len cap hi s : Nat) (kh : IntKind) (ho : o.op = .slice t x none (some hx') none) (hx : evF F x = .slice (some ⟨g,f,none⟩) len cap) (hh : evF F hx' = .int kh (hi : Int)) (ht : P.underlying t = some (.slice (P.elem t))) (hsz : ∀ w,(sizeOf (P.elem t)).run P w = .ok s w) (h1 : hi ≤ cap) (w : World) :
  (execOp (evF F) o).run P w = .ok (.value (.slice (some ⟨g,f,none⟩) hi cap)) w:=by
 have e : (Instr.sliceAt t (.slice (some ⟨g,f,none⟩) len cap) none (some (.int kh (hi : Int))) none).run P w = .ok (.slice (some ⟨g,f,none⟩) hi cap) w:=by
  rw [run_sliceAt_slice w t _ _ _ _ ht]
  simp [Instr.slice,run_underlying ht,Instr.sliceBounds,Instr.sliceBound,asIntOf,h1,hsz,Result.andThen,Addr.add]
 unfold execOp
 simp only [ho,hx,hh,Option.map_some,Option.map_none,e,Sem.run_bind,Sem.run_pure,Result.andThen_ok]
end
theorem Slc.Is.full {r : Slc} {e : TypeId} {sz nn : Nat} {xs tl : List (List Value)} {hd : List Value} (h : r.Is e sz xs) (hx : xs = hd :: tl) (hn : xs.length = nn) : ∃ g cap R,r = ⟨.slice (some ⟨g,0,none⟩) nn cap,[(g,e,(hd ++ R).toArray)]⟩ ∧ nn ≤ cap ∧ cap ≤ maxLen ∧ hd.length + R.length = cap * sz ∧ (hd ++ R).take (nn * sz) = xs.flatten:=by
 subst hn
 rcases h.row with ⟨rfl,_⟩ | ⟨g,cap,sp,rfl,h1,h2,h3⟩
 ·cases hx
 ·have hf:=flat_len' h.len
  have e1 : xs.flatten ++ sp = hd ++ (tl.flatten ++ sp):=by rw [hx,List.flatten_cons,List.append_assoc]
  refine ⟨g,cap,tl.flatten ++ sp,by rw [e1],h2,h3,?_,?_⟩
  ·rw [← List.length_append, ← e1,List.length_append,hf]
   omega
  ·rw [← e1,List.take_left' hf]
theorem Slc.Is.lst {A : Option Addr} {nn c : Nat} {bl : Blocks} {e : TypeId} {sz : Nat} {xs : List (List Value)} (h : Slc.Is ⟨.slice A nn c,bl⟩ e sz xs) {w0 : Base} {w : World} {L : Blocks} (hw : St w0 w L) (hb : ∀ b ∈ bl,b ∈ L) : xs.length = nn ∧ Lst w sz A nn (fun i => xs.getD i []):=by
 obtain ⟨A',c',hv,_,_,hl⟩:=h.out
 have hv' : Value.slice A nn c = .slice A' xs.length c':=hv
 injection hv' with h1 h2 h3
 subst h1 h2
 exact ⟨rfl,hl hw hb⟩
theorem Slc.Is.mk' {g nn cap : Nat} {e : TypeId} {sz : Nat} {xs : List (List Value)} {cs : List Value} (hl : ∀ x ∈ xs,x.length = sz) (h1 : ∀ x ∈ xs, ∀ u ∈ x,u.oneCell' = true) (hn : xs.length = nn) (hc : cs.take (nn * sz) = xs.flatten) (hs : cs.length = cap * sz) (hle : nn ≤ cap) (hm : cap ≤ maxLen) : Slc.Is ⟨.slice (some ⟨g,0,none⟩) nn cap,[(g,e,cs.toArray)]⟩ e sz xs:=by
 subst hn
 refine ⟨hl,h1,.inr ⟨g,cap,cs.drop (xs.length * sz),?_,?_,hle,hm⟩⟩
 ·rw [← hc,List.take_append_drop]
 ·have:=Nat.mul_le_mul_right sz hle
  rw [List.length_drop]
  omega
end Sy
end
section
namespace Cu
open Go.RowKit Sy
def okI (x : Nat → Nat) (m : List UInt8) (i : Nat) : Bool:=(evP (x i)).isSome && signB (x i) m
def gp (x : Nat → Nat) (m : List UInt8) : Nat → List (List UInt8 × List UInt8)
 | 0 => []
 | k + 1 => if okI x m k then gp x m k ++ [(evX (evP (x k)),signL (x k) m)] else gp x m k
def kr (l : List (List UInt8 × List UInt8)) : List (List Value):=l.map fun p => p.1.map bv
def sr (l : List (List UInt8 × List UInt8)) : List (List Value):=l.mapIdx fun j p => sgc (j : Int) p.2
section
variable {x : Nat → Nat} {m : List UInt8}
theorem gp_no {k : Nat} (h : okI x m k = false) : gp x m (k + 1) = gp x m k:=by
 show (if okI x m k then _ else _) = _
 rw [h]
 rfl
theorem gp_yes {k : Nat} (h : okI x m k = true) : gp x m (k + 1) = gp x m k ++ [(evX (evP (x k)),signL (x k) m)]:=by
 show (if okI x m k then _ else _) = _
 rw [h]
 rfl
theorem gp_len : ∀ k,(gp x m k).length ≤ k
 | 0 => Nat.le_refl _
 | k + 1 => by
  have ih:=gp_len k
  cases h : okI x m k with
  | false => rw [gp_no h]; omega
  | true => rw [gp_yes h,List.length_append,List.length_singleton]; omega
theorem gp_ok : ∀ k, ∀ p ∈ gp x m k,p.1.length = 32 ∧ p.2.length = 64 ∧ verB p.1 m p.2 = true
 | 0,p,hp => by cases hp
 | k + 1,p,hp => by
  cases h : okI x m k with
  | false => rw [gp_no h] at hp; exact gp_ok k p hp
  | true =>
   rw [gp_yes h] at hp
   rcases List.mem_append.1 hp with hp | hp
   ·exact gp_ok k p hp
   ·rw [List.mem_singleton.1 hp]
    unfold okI at h
    exact ⟨evX_length _,signL_length _ _,verB_sig _ m (Bool.and_eq_true_iff.1 h).2⟩
theorem kr_add (l : List (List UInt8 × List UInt8)) (p : List UInt8 × List UInt8) : kr (l ++ [p]) = kr l ++ [p.1.map bv]:=by unfold kr; rw [List.map_append]; rfl
theorem sr_add (l : List (List UInt8 × List UInt8)) (p : List UInt8 × List UInt8) : sr (l ++ [p]) = sr l ++ [sgc (l.length : Int) p.2]:=by 
 unfold sr
 rw [List.mapIdx_append]
 show _ ++ [sgc ((0 + l.length : Nat) : Int) p.2] = _
 rw [Nat.zero_add]
theorem kr_len (l : List (List UInt8 × List UInt8)) : (kr l).length = l.length:=List.length_map ..
theorem sr_len (l : List (List UInt8 × List UInt8)) : (sr l).length = l.length:=List.length_mapIdx
end
def kf (l : List (List UInt8 × List UInt8)) (i : Nat) : List UInt8:=(l.getD i (List.replicate 32 0,List.replicate 64 0)).1
def sf (l : List (List UInt8 × List UInt8)) (i : Nat) : List UInt8:=(l.getD i (List.replicate 32 0,List.replicate 64 0)).2
section
variable {l : List (List UInt8 × List UInt8)} {m : List UInt8}
theorem kf_len (h : ∀ p ∈ l,p.1.length = 32 ∧ p.2.length = 64 ∧ verB p.1 m p.2 = true) (i : Nat) : (kf l i).length = 32:=by
 unfold kf
 rw [List.getD_eq_getElem?_getD]
 cases e : l[i]? with
 | none => rfl
 | some p => exact (h p (List.mem_of_getElem? e)).1
theorem sf_len (h : ∀ p ∈ l,p.1.length = 32 ∧ p.2.length = 64 ∧ verB p.1 m p.2 = true) (i : Nat) : (sf l i).length = 64:=by
 unfold sf
 rw [List.getD_eq_getElem?_getD]
 cases e : l[i]? with
 | none => rfl
 | some p => exact (h p (List.mem_of_getElem? e)).2.1
theorem ver_at (h : ∀ p ∈ l,p.1.length = 32 ∧ p.2.length = 64 ∧ verB p.1 m p.2 = true) {i : Nat} (hi : i < l.length) : verB (kf l i) m (sf l i) = true:=by
 unfold kf sf
 rw [List.getD_eq_getElem?_getD,List.getElem?_eq_getElem hi]
 exact (h _ (List.getElem_mem hi)).2.2
theorem Lst_ext {w : World} {s n : Nat} {A : Option Addr} {e e' : Nat → List Value} (h : Lst w s A n e) (he : ∀ i,i < n → e i = e' i) : Lst w s A n e':=by
 obtain ⟨g,o,h⟩:=h
 refine ⟨g,o,fun hn => ?_⟩
 obtain ⟨h1,h2,h3⟩:=h hn
 exact ⟨h1,h2,fun j hj => by rw [← he j hj]; exact h3 j hj⟩
theorem kr_get {i : Nat} (hi : i < l.length) : (kr l).getD i [] = (kf l i).map bv:=by
 unfold kr kf
 rw [List.getD_eq_getElem?_getD,List.getD_eq_getElem?_getD,List.getElem?_map,List.getElem?_eq_getElem hi]
 rfl
theorem sr_get {i : Nat} (hi : i < l.length) : (sr l).getD i [] = sgc (i : Int) (sf l i):=by
 unfold sr sf
 rw [List.getD_eq_getElem?_getD,List.getD_eq_getElem?_getD,List.getElem?_mapIdx,List.getElem?_eq_getElem hi]
 rfl
def zf (i : Nat) : Int:=if i ≤ 1048576 then (i : Int) else 0
theorem zf_at {i : Nat} (h : i ≤ 1048576) : zf i = (i : Int):=if_pos h
theorem zf_lim (i : Nat) : -9223372036854775808 ≤ zf i ∧ zf i < 9223372036854775808:=by
 unfold zf
 split <;> omega
theorem Lst_less {w : World} {s n k : Nat} {A : Option Addr} {e : Nat → List Value} (h : Lst w s A n e) (hk : k ≤ n) : Lst w s A k e:=by
 obtain ⟨g,o,h⟩:=h
 refine ⟨g,o,fun hn => ?_⟩
 obtain ⟨h1,h2,h3⟩:=h (by omega)
 exact ⟨h1,h2,fun j hj => h3 j (by omega)⟩
theorem ok_at {N : Nat} {K S : Nat → List UInt8} {i : Nat} (hi : i < N) (hN : N ≤ 1048576) : okS m N K zf S i = verB (K i) m (S i):=by
 have h0 : zf i = (i : Int):=zf_at (by omega)
 have h1 : nxt zf i = (i : Int):=by
  cases i with
  | zero => rfl
  | succ i =>
   show zf i + 1 = ((i + 1 : Nat) : Int)
   rw [zf_at (by omega)]
   omega
 unfold okS
 rw [h1,h0,decide_eq_true (Int.le_refl _),decide_eq_true (show (i : Int) < (N : Int) by omega)]
 rfl
theorem sr_get' {l : List (List UInt8 × List UInt8)} {i : Nat} (hi : i < l.length) (hl : l.length ≤ 1048576) : (sr l).getD i [] = sgc (zf i) (sf l i):=by rw [sr_get hi,zf_at (by omega)]
theorem valid_parts {T : Int} {N : Nat} {K : Nat → List UInt8} (h : validB T N K = true) : 1 ≤ T ∧ T ≤ (N : Int) ∧ N ≤ 16:=by
 unfold validB at h
 rw [Bool.and_eq_true,Bool.and_eq_true,Bool.and_eq_true,decide_eq_true_iff,decide_eq_true_iff,decide_eq_true_iff] at h
 exact ⟨h.1.1.1,h.1.1.2,h.1.2⟩
theorem en_all {T : Int} {N M : Nat} {K S : Nat → List UInt8} (hv : validB T N K = true) (hM : M ≤ N) (hT : T ≤ (M : Int)) (h : ∀ i,i < M → verB (K i) m (S i) = true) : enB m T N K M zf S = true :=
 en_yes hv (by omega) fun j hj => (ok_at (by omega) (by have:=valid_parts hv; omega)).trans (h j hj)
theorem en_first {T : Int} {N M : Nat} {K S : Nat → List UInt8} (hv : validB T N K = true) (hM : M ≤ N) (hT : T ≤ (M : Int)) (h0 : 0 < M) (h : ∀ i,0 < i → i < M → verB (K i) m (S i) = true) : enB m T N K M zf S = verB (K 0) m (S 0):=by
 cases e : verB (K 0) m (S 0) with
 | true =>
  refine en_all hv hM hT fun i hi => ?_
  rcases Nat.eq_zero_or_pos i with h0 | hp
  ·rw [h0]; exact e
  ·exact h i hp hi
 | false => exact en_no h0 ((ok_at (by omega) (by have:=valid_parts hv; omega)).trans e)
end
noncomputable def infKey : TypeInfo:=(Tryz.prog.info? 31).getD default
noncomputable def infSgd : TypeInfo:=(Tryz.prog.info? 43).getD default
theorem info_key : Tryz.prog.info? 31 = some infKey:=by kernel_rfl
theorem info_sgd : Tryz.prog.info? 43 = some infSgd:=by kernel_rfl
theorem wg_len (z : Int) {S : List UInt8} (R : List Value) (h : S.length = 64) : (sgc z S ++ R).length = 65 + R.length:=by rw [List.length_append,sgc_len (n:=64) z h]
theorem wg_fit (z : Int) {S : List UInt8} (R : List Value) (h : S.length = 64) {k o : Nat} (hk : k < 64) (ho : o = 1 + k) : o < ((sgc z S ++ R).toArray).size:=by
 rw [List.size_toArray,wg_len z R h]
 omega
theorem wg_set (z : Int) {S : List UInt8} (R : List Value) (h : S.length = 64) {k o : Nat} {v : Value} (u : UInt8) (hk : k < 64) (ho : o = 1 + k) (hv : v = bv u) : ((sgc z S ++ R).toArray).setIfInBounds o v = (sgc z (S.set k u) ++ R).toArray:=by
 subst ho hv
 have e : 1 + k < (sgc z S).length:=by rw [sgc_len (n:=64) z h]; omega
 rw [List.setIfInBounds_toArray,List.set_append_left _ _ e,Nat.add_comm]
 show ((Value.int .i64 z :: (S.map bv).set k (bv u)) ++ R).toArray = _
 rw [← List.map_set]
 rfl
theorem wg_at (z : Int) {S : List UInt8} (R : List Value) (h : S.length = 64) {k o : Nat} (hk : k < 64) (ho : o = 1 + k) : ((sgc z S ++ R).toArray)[o]? = some (bv (S.getD k 0)):=by
 subst ho
 have e : 1 + k < (sgc z S).length:=by rw [sgc_len (n:=64) z h]; omega
 rw [List.getElem?_toArray,List.getElem?_append_left e,Nat.add_comm]
 show (S.map bv)[k]? = _
 rw [List.getElem?_map,List.getD_eq_getElem?_getD,List.getElem?_eq_getElem (by omega)]
 rfl
theorem wg_mid (z : Int) {S : List UInt8} (R : List Value) (h : S.length = 64) : ((sgc z S ++ R).drop 1).take 64 = S.map bv:=by
 show (S.map bv ++ R).take 64 = _
 rw [List.take_left' (by rw [List.length_map]; exact h)]
theorem kw_mid {K : List UInt8} (R : List Value) (h : K.length = 32) : ((K.map bv ++ R).drop 0).take 32 = K.map bv:=by
 rw [List.drop_zero,List.take_left' (by rw [List.length_map]; exact h)]
theorem wrong_row {gl : List (List UInt8 × List UInt8)} {p : List UInt8} {tB : List (List Value)} {S3 : List UInt8} {gW nn cW : Nat} {sW RW : List Value} {e : TypeId} (hsr : sr gl = sgc 0 p :: tB) (hlen : ∀ x ∈ sr gl,x.length = 65) (hone : ∀ x ∈ sr gl, ∀ u ∈ x,u.oneCell' = true) (hnn : gl.length = nn) (hS : S3.length = 64) (hRW : RW = tB.flatten ++ sW) (eW : sW.length + nn * 65 = cW * 65) (fW : nn ≤ cW) (mW : cW ≤ maxLen) (hbig : nn ≤ 1048576) {w0 : Base} {w : World} {L : Blocks} (hw : St w0 w L) (hL : (gW,e,(sgc 0 S3 ++ RW).toArray) ∈ L) : Lst w 65 (some ⟨gW,0,none⟩) nn (fun i => sgc (zf i) (if i = 0 then S3 else sf gl i)):=by
 have hx : ∀ x ∈ tB,x ∈ sr gl:=fun x hx => by rw [hsr]; exact List.mem_cons_of_mem _ hx
 have h1 : ∀ x ∈ sgc 0 S3 :: tB,x.length = 65:=fun x hm => by
  rcases List.mem_cons.1 hm with rfl | hm
  ·exact sgc_len (n:=64) 0 hS
  ·exact hlen x (hx x hm)
 have h2 : ∀ x ∈ sgc 0 S3 :: tB, ∀ u ∈ x,u.oneCell' = true:=fun x hm => by
  rcases List.mem_cons.1 hm with rfl | hm
  ·exact sgc_one 0 S3
  ·exact hone x (hx x hm)
 have hn : (sgc 0 S3 :: tB).length = nn:=by
  have:=sr_len gl
  rw [hsr,hnn] at this
  exact this
 have hf : (sgc 0 S3 :: tB).flatten.length = nn * 65:=by rw [flat_len' h1,hn]
 have e1 : sgc 0 S3 ++ RW = (sgc 0 S3 :: tB).flatten ++ sW:=by rw [hRW,List.flatten_cons,List.append_assoc]
 have hI : Slc.Is ⟨.slice (some ⟨gW,0,none⟩) nn cW,[(gW,e,(sgc 0 S3 ++ RW).toArray)]⟩ e 65 (sgc 0 S3 :: tB):=Slc.Is.mk' h1 h2 hn (by rw [e1,List.take_left' hf]) (by rw [e1,List.length_append,hf]; omega) fW mW
 refine Lst_ext (hI.lst hw (fun b hb => by rw [List.mem_singleton.1 hb]; exact hL)).2 (fun i hi => ?_)
 cases i with
 | zero => rfl
 | succ i =>
  rw [if_neg (Nat.succ_ne_zero i)]
  have q:=sr_get' (l:=gl) (i:=i + 1) (by omega) (by omega)
  rw [hsr] at q
  exact q
theorem bv_one (l : List UInt8) : ∀ u ∈ l.map bv,u.oneCell' = true:=fun u hu => by
 obtain ⟨b,_,rfl⟩:=List.mem_map.1 hu
 rfl
end Cu
end
section
namespace Cu
open Go.RowKit Sy
set_option maxHeartbeats 4000000 in
set_option maxRecDepth 100000 in
theorem law_sigmany (w : World) (D : Option Addr) (J cD : Nat) (x : Nat → Nat) (hx4 : ∀ i,x i < K4) (hJ : J ≤ 1048576) (hls : Lst w 4 D J (fun i => fws (x i))) (X : Option Addr) (m : List UInt8) (n e : Nat) (hn : m.length = n) (hm : n ≤ 999999900) (he : n ≤ e) (he2 : e ≤ 9223372036854775807) (hs : Sh.Src w X m) (T : Int) (ht : Sh.TabAt w 1) (htr : Sh.TabAt w 0) : Calls Tryz.prog 5 #[.slice D J cD,.slice X n e,.int .i64 T] w (Gets w (.bool true)):=by
 obtain ⟨gD,oD,hD⟩:=hls
 refine Sy.enter (args:=[.slice D J cD,.slice X n e,.int .i64 T]) Tryz.func5 rfl kL ?_
 refine sC ?_
 refine sP (.bool false) ?_
 refine sG <| Sy.seq <| sC ?_
 refine sS (.bool true) (qG 15 #[] (fun w hw => alive6 w (ht.below hw.below ht.lt))) <| sP (.bool false) ?_
 refine sG <| sU <| Sy.skip <| sB ?_
 refine sP (.int .i64 T) <| sP (.agg #[.int .i64 T,.slice none 0 0]) ?_
 refine sM 38 #[.int .i64 0,.slice none 0 0] (fun g0 => ?_)
 refine sW 0 g0 38 #[.int .i64 0,.slice none 0 0] #[.int .i64 T,.slice none 0 0] (wS 0 38 #[.int .i64 T,.slice none 0 0] rfl) ?_
 refine sA ?_
 refine sP (.slice none 0 0) ?_
 refine sG <| Sy.seq <| sC ?_
 refine sP (.slice D J cD) <| sP (.int .i64 ((J : Nat) : Int)) <| sP (.int .i64 0) ?_
 refine sG <| Sy.block ?_
 refine Sy.loopT (Y:=Slc × Slc) J (fun k1 y1 => [(0,.slice D J cD),(1,.slice X n e),(2,.int .i64 T),(7,.pointer (some ⟨g0,0,none⟩)),(8,y1.2.v),(21,.slice D J cD),(22,.int .i64 ((J : Nat) : Int)),(23,.int .i64 ((k1 : Nat) : Int))]) (fun k1 y1 => [(g0,38,#[.int .i64 T,y1.1.v])] ++ (y1.1.bl ++ y1.2.bl)) (fun k1 y1 => y1.1.Is 31 32 (kr (gp x m k1)) ∧ y1.2.Is 43 65 (sr (gp x m k1))) (⟨.slice none 0 0,[]⟩,⟨.slice none 0 0,[]⟩) ⟨Slc.Is.nil _ _,Slc.Is.nil _ _⟩ (all_cons kR (all_cons kR (all_cons kR (all_cons kR (all_cons kR (all_cons kR (all_cons kR (all_cons kR all_nil)))))))) (fun w hw => hw) (fun k1 y1 hk1 hh1 => ?_)
 refine sC ?_
 obtain ⟨b1,hb1⟩ : ∃ z : Bool,z = decide (k1 < J):=⟨_,rfl⟩
 refine sS (.bool b1) (Quiet.pure (exec_int .lss _ _ _ .i64 _ _ _ rfl rfl rfl (int_lss _ _ _ _ _ (by rw [hb1]; exact decide_eq_decide.2 (by omega))))) ?_
 refine sG <| Sy.seq ?_
 cases b1
 ·have lb1 : ¬ (k1 < J):=of_decide_eq_false hb1.symm
  refine sU <| Sy.exit <| Sy.then_exit <| Sy.then_exit ?_
  obtain rfl : J = k1:=by omega
  obtain ⟨gl,hgl⟩ : ∃ l,l = gp x m J:=⟨_,rfl⟩
  rw [← hgl] at hh1
  have hok:=gp_ok (x:=x) (m:=m) J
  rw [← hgl] at hok
  have hgn:=gp_len (x:=x) (m:=m) J
  rw [← hgl] at hgn
  refine Sy.in_exit <| sB ?_
  refine sS (.agg #[.int .i64 T,y1.1.v]) (qL 0 g0 0 2 38 38 #[.int .i64 T,y1.1.v] rfl Tryz.underlying38) ?_
  obtain ⟨b2,hb2⟩ : ∃ z : Bool,z = validB T gl.length (kf gl):=⟨_,rfl⟩
  refine sS (.bool b2) (qG 18 #[.agg #[.int .i64 T,y1.1.v]] (fun w hw => by obtain ⟨A,c,hv,_,_,hl⟩:=hh1.1.out; rw [kr_len] at hv hl; rw [hv,hb2]; exact may_any w T A gl.length c (kf gl) (kf_len hok) (by omega) (Lst_ext (hl hw (fun b hb => List.mem_append.2 (.inr (List.mem_append.2 (.inl hb))))) (fun i hi => kr_get hi)))) <| sP (.bool b2) ?_
  refine sG <| Sy.seq <| sC ?_
  refine sP (.bool b2) ?_
  cases b2
  ·refine sP (.bool true) ?_
   refine sG <| sT <| sC ?_
   refine sS (.agg #[.int .i64 T,y1.1.v]) (qL 0 g0 0 2 38 38 #[.int .i64 T,y1.1.v] rfl Tryz.underlying38) <| sP (.slice X n e) <| sP (y1.2.v) <| sS (.bool false) (qG 16 #[.agg #[.int .i64 T,y1.1.v],.slice X n e,y1.2.v] (fun w hw => by obtain ⟨A,c,hv,_,_,hl⟩:=hh1.1.out; rw [kr_len] at hv hl; obtain ⟨B,d,hv2,_,_,hl2⟩:=hh1.2.out; rw [sr_len] at hv2 hl2; rw [hv,hv2]; have q:=enough_any w T A gl.length c (kf gl) (kf_len hok) (by omega) (Lst_ext (hl hw (fun b hb => List.mem_append.2 (.inr (List.mem_append.2 (.inl hb))))) (fun i hi => kr_get hi)) B gl.length d zf (sf gl) (sf_len hok) zf_lim (by omega) (Lst_ext (hl2 hw (fun b hb => List.mem_append.2 (.inr (List.mem_append.2 (.inr hb))))) (fun i hi => sr_get' hi (by omega))) X m n e hn hm he he2 (hs.below hw.below) (ht.below hw.below ht.lt); rw [en_bad hb2.symm] at q; exact q)) <| sP (.bool true) <| sP (.bool true) ?_
   refine sG <| Sy.ret <| Sy.then_ret ?_
   exact rV (.bool true) rfl
  ·obtain ⟨hT1,hT2,hN16⟩:=valid_parts hb2.symm
   obtain ⟨q,hq⟩ : ∃ q : Nat,T = (q : Int) + 1:=⟨(T - 1).toNat,by omega⟩
   subst hq
   obtain ⟨nn,hnn⟩ : ∃ k,k = gl.length:=⟨_,rfl⟩
   rw [← hnn] at hT2 hN16
   have hval : validB ((q : Int) + 1) nn (kf gl) = true:=by rw [hnn]; exact hb2.symm
   replace hnn : gl.length = nn:=hnn.symm
   obtain ⟨p0,lr,eg⟩ : ∃ p l,gl = p :: l:=by
    cases h : gl with
    | nil => rw [h] at hnn; simp at hnn; omega
    | cons p l => exact ⟨p,l,rfl⟩
   have hp:=hok p0 (by rw [eg]; exact List.mem_cons_self ..)
   obtain ⟨hp1,hp2,hp3⟩:=hp
   obtain ⟨ya,yb⟩:=y1
   obtain ⟨hA,hB⟩:=hh1
   obtain ⟨tB,hsr⟩ : ∃ t,sr gl = sgc 0 p0.2 :: t:=⟨_,by rw [eg]; unfold sr; rw [List.mapIdx_cons]; rfl⟩
   obtain ⟨gA,cA,RA,eA,aA1,aA2,aA3,qA⟩:=hA.full (hd:=p0.1.map bv) (tl:=kr lr) (by rw [eg]; rfl) ((kr_len gl).trans hnn)
   obtain ⟨gB,cB,RB,eB,bB1,bB2,bB3,qB⟩:=hB.full (hd:=sgc 0 p0.2) (tl:=tB) hsr ((sr_len gl).trans hnn)
   have hA0 : ya = _:=eA
   have hB0 : yb = _:=eB
   subst hA0 hB0
   have LK : ∀ (L : Blocks) (v : World),St (Base.of w) v L → L[1]? = some (gA,31,(p0.1.map bv ++ RA).toArray) → Lst v 32 (some ⟨gA,0,none⟩) nn (fun i => (kf gl i).map bv):=fun L v hw hi => Lst_ext (Slc.Is.lst hA hw (fun b hb => by rw [List.mem_singleton.1 hb]; exact List.mem_of_getElem? hi)).2 (fun i hi => kr_get (by omega))
   have LS : ∀ (L : Blocks) (v : World),St (Base.of w) v L → L[2]? = some (gB,43,(sgc 0 p0.2 ++ RB).toArray) → Lst v 65 (some ⟨gB,0,none⟩) nn (fun i => sgc (zf i) (sf gl i)):=fun L v hw hi => Lst_ext (Slc.Is.lst hB hw (fun b hb => by rw [List.mem_singleton.1 hb]; exact List.mem_of_getElem? hi)).2 (fun i hi => sr_get' (by omega) (by omega))
   refine Sy.tidyS (G:=[(1,.slice X n e),(2,.int .i64 (((q : Nat) : Int) + 1)),(7,.pointer (some ⟨g0,0,none⟩)),(8,.slice (some ⟨gB,0,none⟩) nn cB),(14,.bool true),(24,.bool false),(66,.bool true),(67,.bool true)]) (M:=[(g0,38,#[.int .i64 (((q : Nat) : Int) + 1),.slice (some ⟨gA,0,none⟩) nn cA]),(gA,31,(p0.1.map bv ++ RA).toArray),(gB,43,(sgc 0 p0.2 ++ RB).toArray)]) (all_cons kR (all_cons kR (all_cons kR (all_cons kR (all_cons kR (all_cons kR (all_cons kR (all_cons kR all_nil)))))))) (fun w hw => hw) ?_
   refine sP (.bool false) ?_
   refine sG <| sU <| Sy.skip ?_
   refine sR (fun j => false) ?_
   refine sD 0 rfl (.agg #[.int .i64 (((q : Nat) : Int) + 1),.slice (some ⟨gA,0,none⟩) nn cA]) (qL 0 g0 0 2 38 38 #[.int .i64 (((q : Nat) : Int) + 1),.slice (some ⟨gA,0,none⟩) nn cA] rfl Tryz.underlying38) <| sZ 1 rfl (.slice X n e) <| sZ 2 rfl (.slice (some ⟨gB,0,none⟩) nn cB) <| sD 3 rfl (.bool true) (qG 16 #[.agg #[.int .i64 (((q : Nat) : Int) + 1),.slice (some ⟨gA,0,none⟩) nn cA],.slice X n e,.slice (some ⟨gB,0,none⟩) nn cB] (fun w hw => by have q:=enough_any w (((q : Nat) : Int) + 1) (some ⟨gA,0,none⟩) nn cA (kf gl) (kf_len hok) (by omega) (LK _ _ hw kR) (some ⟨gB,0,none⟩) nn cB zf (sf gl) (sf_len hok) zf_lim (by omega) (LS _ _ hw kR) X m n e hn hm he he2 (hs.below hw.below) (ht.below hw.below ht.lt); rw [en_all hval (Nat.le_refl _) (by omega) (fun i hi => ver_at hok (by omega))] at q; exact q)) <| sZ 4 rfl (.bool true) <| sD 5 rfl (.agg #[.int .i64 (((q : Nat) : Int) + 1),.slice (some ⟨gA,0,none⟩) nn cA]) (qL 0 g0 0 2 38 38 #[.int .i64 (((q : Nat) : Int) + 1),.slice (some ⟨gA,0,none⟩) nn cA] rfl Tryz.underlying38) <| sZ 6 rfl (.slice X n e) <| sZ 7 rfl (.slice (some ⟨gB,0,none⟩) nn cB) ?_
   refine sZ 8 rfl (.int .i64 (((q : Nat) : Int) + 1)) <| sD 9 rfl (.int .i64 ((q : Nat) : Int)) (Quiet.pure (exec_int .sub _ _ _ .i64 _ _ _ rfl rfl rfl (int_sub _ _ _ _ _ ((wrap_i64 (by omega) (by omega)).trans (by omega))))) <| sD 10 rfl (.slice (some ⟨gB,0,none⟩) q cB) (Quiet.pure (exec_upto 39 _ _ gB 0 nn cB q 65 .i64 rfl kR kR Tryz.underlying39 kF (by omega))) <| sD 11 rfl (.bool false) (qG 16 #[.agg #[.int .i64 (((q : Nat) : Int) + 1),.slice (some ⟨gA,0,none⟩) nn cA],.slice X n e,.slice (some ⟨gB,0,none⟩) q cB] (fun w hw => by have q:=enough_any w (((q : Nat) : Int) + 1) (some ⟨gA,0,none⟩) nn cA (kf gl) (kf_len hok) (by omega) (LK _ _ hw kR) (some ⟨gB,0,none⟩) q cB zf (sf gl) (sf_len hok) zf_lim (by omega) (Lst_less (LS _ _ hw kR) (by omega)) X m n e hn hm he he2 (hs.below hw.below) (ht.below hw.below ht.lt); rw [en_few (by omega)] at q; exact q)) <| sZ 12 rfl (.bool true) <| sZ 13 rfl (.bool true) <| sZ 14 rfl (.bool true) ?_
   refine sE ?_
   refine sB ?_
   refine Sy.make kR 43 #[] (fun g => .slice (some ⟨g,0,none⟩) 0 0) kF (fun g1 => ?_)
   refine sP (.slice (some ⟨gB,0,none⟩) nn cB) ?_
   refine Sy.appendE kR 39 43 _ _ 65 72 Tryz.underlying39 info_sgd rfl rfl rfl rfl (by decide) _ _ rfl 3 g1 kR kR (some ⟨gB,0,none⟩) nn cB (sr gl).flatten kR (From.blk (i:=2) (g:=gB) (f:=0) (t:=43) (cs:=(sgc 0 p0.2 ++ RB).toArray) kR (by rw [flat_len' hB.len,sr_len,hnn]; exact qB)) (by rw [flat_len' hB.len,sr_len,hnn]) bB1 (fun u hu => by obtain ⟨z,hz,hzu⟩:=List.mem_flatten.1 hu; exact hB.one z hz u hzu) (by omega) (by simp only [maxLen]; omega) (fun gW cW zW eW fW mW => ?_)
   obtain ⟨RW,hRW⟩ : ∃ R,R = tB.flatten ++ zW:=⟨_,rfl⟩
   rw [show (sr gl).flatten ++ zW = sgc 0 p0.2 ++ RW by rw [hRW,hsr,List.flatten_cons,List.append_assoc]]
   refine sP (.slice (some ⟨gW,0,none⟩) nn cW) ?_
   refine sA ?_
   refine sP (.slice (some ⟨gW,0,none⟩) nn cW) <| sS (.pointer (some ⟨gW,0,none⟩)) (Quiet.pure (exec_at 39 _ _ _ gW 0 nn cW 0 65 .i64 rfl kR kR Tryz.underlying39 kF (by omega))) <| sP (.pointer (some ⟨gW,1,none⟩)) <| sP (.pointer (some ⟨gW,1,none⟩)) <| sW 3 gW 43 (sgc 0 p0.2 ++ RW).toArray (sgc 0 (p0.2.set 0 0) ++ RW).toArray (Writes.one 1 5 (.int .u8 0) _ _ rfl kR kR kR rfl rfl (wg_fit 0 RW hp2 (k:=0) (by decide) rfl) (wg_set 0 RW hp2 (k:=0) 0 (by decide) rfl kR)) ?_
   refine sA ?_
   refine sP (.slice (some ⟨gW,0,none⟩) nn cW) <| sS (.pointer (some ⟨gW,0,none⟩)) (Quiet.pure (exec_at 39 _ _ _ gW 0 nn cW 0 65 .i64 rfl kR kR Tryz.underlying39 kF (by omega))) <| sP (.pointer (some ⟨gW,1,none⟩)) <| sP (.pointer (some ⟨gW,2,none⟩)) <| sW 3 gW 43 (sgc 0 (p0.2.set 0 0) ++ RW).toArray (sgc 0 ((p0.2.set 0 0).set 1 0) ++ RW).toArray (Writes.one 2 5 (.int .u8 0) _ _ rfl kR kR kR rfl rfl (wg_fit 0 RW ((List.length_set ..).trans hp2) (k:=1) (by decide) rfl) (wg_set 0 RW ((List.length_set ..).trans hp2) (k:=1) 0 (by decide) rfl kR)) ?_
   refine sH (fun j => j == 10) ?_
   refine sZ 0 rfl (.slice (some ⟨gW,0,none⟩) nn cW) <| sZ 1 rfl (.slice (some ⟨gW,0,none⟩) nn cW) <| sD 2 rfl (.pointer (some ⟨gW,0,none⟩)) (Quiet.pure (exec_at 39 _ _ _ gW 0 nn cW 0 65 .i64 rfl kR kR Tryz.underlying39 kF (by omega))) <| sZ 3 rfl (.pointer (some ⟨gW,1,none⟩)) <| sZ 4 rfl (.pointer (some ⟨gW,41,none⟩)) <| sD 5 rfl (bv (((p0.2.set 0 0).set 1 0).getD 40 0)) (Quiet.cell 3 gW 41 43 5 (sgc 0 ((p0.2.set 0 0).set 1 0) ++ RW).toArray _ _ rfl kR kR Tryz.underlying5 rfl _ (wg_at 0 RW ((List.length_set ..).trans ((List.length_set ..).trans hp2)) (k:=40) (by decide) rfl)) <| sD 6 rfl (bv ((((p0.2.set 0 0).set 1 0).getD 40 0) ^^^ 1)) (Quiet.pure (fun w => xor_bv w _ _ _ _ (((p0.2.set 0 0).set 1 0).getD 40 0) 1 rfl kR kR)) ?_
   refine Sy.stepDB 7 [8,9,10] rfl kR (fun _ _ _ _ h => h) kR (.pointer (some ⟨gW,0,none⟩)) (Quiet.pure (exec_at 39 _ _ _ gW 0 nn cW 0 65 .i64 rfl kR kR Tryz.underlying39 kF (by omega))) ?_
   refine Sy.stepDB 8 [9,10] rfl kR (fun _ _ _ _ h => h) kR (.pointer (some ⟨gW,1,none⟩)) qP ?_
   refine sZ 9 rfl (.pointer (some ⟨gW,41,none⟩)) <| sX 10 rfl 3 gW 43 (sgc 0 ((p0.2.set 0 0).set 1 0) ++ RW).toArray (sgc 0 (((p0.2.set 0 0).set 1 0).set 40 ((((p0.2.set 0 0).set 1 0).getD 40 0) ^^^ 1)) ++ RW).toArray (Writes.one 41 5 (bv ((((p0.2.set 0 0).set 1 0).getD 40 0) ^^^ 1)) _ _ rfl kR kR kR rfl rfl (wg_fit 0 RW ((List.length_set ..).trans ((List.length_set ..).trans hp2)) (k:=40) (by decide) rfl) (wg_set 0 RW ((List.length_set ..).trans ((List.length_set ..).trans hp2)) (k:=40) ((((p0.2.set 0 0).set 1 0).getD 40 0) ^^^ 1) (by decide) rfl kR)) ?_
   refine sE ?_
   refine sR (fun j => false) ?_
   refine sZ 0 rfl (.bool true) <| sZ 1 rfl (.bool true) <| sD 2 rfl (.agg #[.int .i64 (((q : Nat) : Int) + 1),.slice (some ⟨gA,0,none⟩) nn cA]) (qL 0 g0 0 2 38 38 #[.int .i64 (((q : Nat) : Int) + 1),.slice (some ⟨gA,0,none⟩) nn cA] rfl Tryz.underlying38) <| sZ 3 rfl (.slice X n e) <| sZ 4 rfl (.slice (some ⟨gW,0,none⟩) nn cW) ?_
   obtain ⟨S3,hS3⟩ : ∃ S,S = (((p0.2.set 0 0).set 1 0).set 40 ((((p0.2.set 0 0).set 1 0).getD 40 0) ^^^ 1)):=⟨_,rfl⟩
   have lS3 : S3.length = 64:=by rw [hS3]; exact ((List.length_set ..).trans ((List.length_set ..).trans ((List.length_set ..).trans hp2)))
   obtain ⟨b9,hb9⟩ : ∃ b,b = verB p0.1 m S3:=⟨_,rfl⟩
   refine sD 5 rfl (.bool b9) (qG 16 #[.agg #[.int .i64 (((q : Nat) : Int) + 1),.slice (some ⟨gA,0,none⟩) nn cA],.slice X n e,.slice (some ⟨gW,0,none⟩) nn cW] (fun w hw => by rw [hb9]; have q:=enough_any w (((q : Nat) : Int) + 1) (some ⟨gA,0,none⟩) nn cA (kf gl) (kf_len hok) (by omega) (LK _ _ hw kR) (some ⟨gW,0,none⟩) nn cW zf (fun i => if i = 0 then S3 else sf gl i) (fun i => by by_cases h : i = 0 <;> simp [h,lS3,sf_len hok]) zf_lim (by omega) (wrong_row (e:=43) hsr hB.len hB.one hnn lS3 hRW eW fW mW (by omega) hw (by rw [hS3]; exact List.mem_of_getElem? (i:=3) kR)) X m n e hn hm he he2 (hs.below hw.below) (ht.below hw.below ht.lt); rw [en_first hval (Nat.le_refl _) (by omega) (by omega) (fun i h0 hi => by rw [if_neg (by omega)]; exact ver_at hok (by omega)),show kf gl 0 = p0.1 by rw [eg]; rfl] at q; exact q)) <| sZ 6 rfl (.pointer (some ⟨g0,1,none⟩)) <| sD 7 rfl (.slice (some ⟨gA,0,none⟩) nn cA) (Quiet.cell 0 g0 1 38 36 #[.int .i64 (((q : Nat) : Int) + 1),.slice (some ⟨gA,0,none⟩) nn cA] _ _ rfl kR kR Tryz.underlying36 rfl _ kR) <| sD 8 rfl (.pointer (some ⟨gA,0,none⟩)) (Quiet.pure (exec_at 36 _ _ _ gA 0 nn cA 0 32 .i64 rfl kR kR Tryz.underlying36 kF (by omega))) <| sD 9 rfl (.agg (p0.1.map bv).toArray) (Quiet.mid 1 gA 0 32 31 31 (p0.1.map bv ++ RA) (p0.1.map bv) _ _ rfl kR kR Tryz.underlying31 rfl kR (kw_mid RA hp1) (by rw [List.length_append,List.length_map,hp1]; omega)) <| sZ 10 rfl (.slice X n e) <| sZ 11 rfl (.slice (some ⟨gW,0,none⟩) nn cW) <| sD 12 rfl (.pointer (some ⟨gW,0,none⟩)) (Quiet.pure (exec_at 39 _ _ _ gW 0 nn cW 0 65 .i64 rfl kR kR Tryz.underlying39 kF (by omega))) ?_
   refine sZ 13 rfl (.pointer (some ⟨gW,1,none⟩)) <| sD 14 rfl (.agg ((((p0.2.set 0 0).set 1 0).set 40 ((((p0.2.set 0 0).set 1 0).getD 40 0) ^^^ 1)).map bv).toArray) (Quiet.mid 3 gW 1 64 43 27 (sgc 0 (((p0.2.set 0 0).set 1 0).set 40 ((((p0.2.set 0 0).set 1 0).getD 40 0) ^^^ 1)) ++ RW) ((((p0.2.set 0 0).set 1 0).set 40 ((((p0.2.set 0 0).set 1 0).getD 40 0) ^^^ 1)).map bv) _ _ rfl kR kR Tryz.underlying27 rfl kR (wg_mid 0 RW ((List.length_set ..).trans ((List.length_set ..).trans ((List.length_set ..).trans hp2)))) (by rw [wg_len 0 RW ((List.length_set ..).trans ((List.length_set ..).trans ((List.length_set ..).trans hp2)))]; omega)) <| sD 15 rfl (.bool b9) (qG 19 #[.agg (p0.1.map bv).toArray,.slice X n e,.agg ((((p0.2.set 0 0).set 1 0).set 40 ((((p0.2.set 0 0).set 1 0).getD 40 0) ^^^ 1)).map bv).toArray] (fun w hw => by rw [hb9,hS3]; exact verR_full w p0.1 (((p0.2.set 0 0).set 1 0).set 40 ((((p0.2.set 0 0).set 1 0).getD 40 0) ^^^ 1)) hp1 ((List.length_set ..).trans ((List.length_set ..).trans ((List.length_set ..).trans hp2))) X m n e hn hm he he2 (hs.below hw.below) (htr.below hw.below htr.lt))) <| sD 16 rfl (.bool true) (Quiet.pure (fun w => eql_bool_same w _ _ _ _ b9 rfl rfl rfl)) <| sZ 17 rfl (.bool true) <| sZ 18 rfl (.bool true) ?_
   refine sI ?_
   refine Sy.ret ?_
   exact rV (.bool true) rfl
 ·have lb1 : k1 < J:=of_decide_eq_true hb1.symm
  refine sT <| Sy.skip <| Sy.then_ <| Sy.seq <| Sy.block <| sC ?_
  refine sP (.int .i64 ((k1 : Nat) : Int)) <| sP (.int .i64 ((k1 : Nat) : Int)) ?_
  refine sA ?_
  refine sP (.slice D J cD) <| sP (.int .i64 ((k1 : Nat) : Int)) <| sS (.pointer (some ⟨gD,oD + k1 * 4,none⟩)) (Quiet.pure (exec_atO 41 _ _ _ D gD oD J cD k1 4 .i64 (hD (by omega)).1 rfl rfl rfl Tryz.underlying41 kF (by omega))) <| sS (fv (x k1)) (Quiet.there gD (oD + k1 * 4) 4 24 (fws (x k1)) _ _ rfl kR (hD (by omega)).2.1 ((hD (by omega)).2.2 k1 (by omega)) Tryz.underlying24 rfl kR rfl _ rfl) ?_
  obtain ⟨Kk,eK⟩ : ∃ K,K = evX (evP (x k1)):=⟨_,rfl⟩
  obtain ⟨Sk,eS⟩ : ∃ S,S = signL (x k1) m:=⟨_,rfl⟩
  obtain ⟨bp,e0⟩ : ∃ b,b = (evP (x k1)).isSome:=⟨_,rfl⟩
  obtain ⟨bs,e1⟩ : ∃ b,b = signB (x k1) m:=⟨_,rfl⟩
  have hKk : Kk.length = 32:=by rw [eK]; exact evX_length _
  have hSk : Sk.length = 64:=by rw [eS]; exact signL_length _ _
  refine sS (.tuple #[.agg (Kk.map bv).toArray,.bool bp]) (qF 13 #[fv (x k1)] (fun w => by have q:=public_any w (x k1) (hx4 _); rw [← eK, ← e0] at q; exact q)) <| sP (.tuple #[.agg (Kk.map bv).toArray,.bool bp]) <| sP (.agg (Kk.map bv).toArray) <| sP (.bool bp) ?_
  refine sM 31 (Zl 32).toArray (fun g2 => ?_)
  refine Sy.movT ?_
  refine sW 1 g2 31 (Zl 32).toArray (Kk.map bv).toArray (Writes.store 0 31 (Kk.map bv).toArray _ _ rfl kR kR (by rw [key_sz Kk hKk]; kernel_rfl) (by rw [key_sz Kk hKk]; exact Nat.le_of_ble_eq_true kR) (key_one _) (key_set _ _ (by rw [hKk]; kernel_rfl))) ?_
  refine Sy.setT ?_
  refine sP (.bool bp) ?_
  refine sA ?_
  refine sP (.slice D J cD) <| sP (.int .i64 ((k1 : Nat) : Int)) <| sS (.pointer (some ⟨gD,oD + k1 * 4,none⟩)) (Quiet.pure (exec_atO 41 _ _ _ D gD oD J cD k1 4 .i64 (hD (by omega)).1 rfl rfl rfl Tryz.underlying41 kF (by omega))) <| sS (fv (x k1)) (Quiet.there gD (oD + k1 * 4) 4 24 (fws (x k1)) _ _ rfl kR (hD (by omega)).2.1 ((hD (by omega)).2.2 k1 (by omega)) Tryz.underlying24 rfl kR rfl _ rfl) <| sP (.slice X n e) <| sS (.tuple #[.agg (Sk.map bv).toArray,.bool bs]) (qG 11 #[fv (x k1),.slice X n e] (fun w hw => by have q:=Sign_any w (x k1) (hx4 _) X m n e hn hm he he2 (hs.below hw.below) (ht.below hw.below ht.lt); rw [← eS, ← e1] at q; exact q)) <| sP (.tuple #[.agg (Sk.map bv).toArray,.bool bs]) <| sP (.agg (Sk.map bv).toArray) ?_
  refine sP (.bool bs) ?_
  refine sM 27 (Zl 64).toArray (fun g3 => ?_)
  refine Sy.movT ?_
  refine sW 2 g3 27 (Zl 64).toArray (Sk.map bv).toArray (Writes.store 0 27 (Sk.map bv).toArray _ _ rfl kR kR (by rw [key_sz Sk hSk]; kernel_rfl) (by rw [key_sz Sk hSk]; exact Nat.le_of_ble_eq_true kR) (key_one _) (key_set _ _ (by rw [hSk]; kernel_rfl))) ?_
  refine Sy.setT ?_
  refine sP (.bool bs) ?_
  refine sG <| Sy.seq <| sC ?_
  refine sP (.bool bp) ?_
  cases bp
  ·refine sP (.bool true) <| sP (.bool true) ?_
   refine sN <| sN ?_
   refine sP (.bool true) ?_
   refine sG <| sT <| Sy.exit <| Sy.then_exit <| Sy.in_exit <| Sy.then_ <| Sy.region ?_
   refine sS (.int .i64 ((k1 + 1 : Nat) : Int)) (Quiet.pure (exec_int .add _ _ _ .i64 _ _ _ rfl rfl rfl (int_add _ _ _ _ _ ((wrap_i64 (by omega) (by omega)).trans (by omega))))) <| sP (.int .i64 ((k1 + 1 : Nat) : Int)) ?_
   refine Sy.nil ?_
   have hok : okI x m k1 = false:=by unfold okI; rw [← e0]; rfl
   exact Sy.againT (y1) (by omega) (⟨by rw [gp_no hok]; exact hh1.1,by rw [gp_no hok]; exact hh1.2⟩) (all_cons kR (all_cons kR (all_cons kR (all_cons kR (all_cons kR (all_cons kR (all_cons kR (all_cons kR all_nil)))))))) (fun w hw => hw.pick [0] (by decide) kR)
  ·refine sP (.bool false) <| sP (.bool false) <| sP (.bool bs) ?_
   cases bs
   ·refine sP (.bool true) <| sP (.bool true) ?_
    refine sG <| sT <| Sy.exit <| Sy.then_exit <| Sy.in_exit <| Sy.then_ <| Sy.region ?_
    refine sS (.int .i64 ((k1 + 1 : Nat) : Int)) (Quiet.pure (exec_int .add _ _ _ .i64 _ _ _ rfl rfl rfl (int_add _ _ _ _ _ ((wrap_i64 (by omega) (by omega)).trans (by omega))))) <| sP (.int .i64 ((k1 + 1 : Nat) : Int)) ?_
    refine Sy.nil ?_
    have hok : okI x m k1 = false:=by unfold okI; rw [← e0, ← e1]; rfl
    exact Sy.againT (y1) (by omega) (⟨by rw [gp_no hok]; exact hh1.1,by rw [gp_no hok]; exact hh1.2⟩) (all_cons kR (all_cons kR (all_cons kR (all_cons kR (all_cons kR (all_cons kR (all_cons kR (all_cons kR all_nil)))))))) (fun w hw => hw.pick [0] (by decide) kR)
   ·refine sP (.bool false) <| sP (.bool false) ?_
    refine sG <| sU <| Sy.skip <| sB ?_
    refine sP (.pointer (some ⟨g0,1,none⟩)) <| sS (y1.1.v) (Quiet.cell 0 g0 1 38 36 #[.int .i64 T,y1.1.v] _ _ rfl kR kR Tryz.underlying36 rfl _ kR) <| sS (.agg (Kk.map bv).toArray) (Quiet.load 1 g2 0 32 31 31 (Kk.map bv).toArray _ _ rfl kR kR Tryz.underlying31 rfl kR _ (key_whole Kk hKk) (key_size Kk hKk)) ?_
    refine Sy.make kR 31 (Kk.map bv).toArray (fun g => .slice (some ⟨g,0,none⟩) 1 1) (Makes.one 36 31 _ _ 32 _ (Kk.map bv) rfl kR Tryz.underlying36 info_key rfl rfl ((List.length_map ..).trans hKk) (by decide) (by decide)) (fun g4 => ?_)
    refine Sy.movT ?_
    refine Sy.appendR kR 36 31 _ _ 32 32 Tryz.underlying36 info_key rfl rfl rfl rfl (by decide) _ _ rfl hh1.1 kR (Kk.map bv) ((List.length_map ..).trans hKk) (bv_one _) 3 g4 31 kR kR (by have:=gp_len (x:=x) (m:=m) k1; simp only [kr_len,sr_len]; omega) (by have:=gp_len (x:=x) (m:=m) k1; simp only [kr_len,sr_len,maxLen]; omega) (fun r1 hr1 => ?_)
    refine sP (.pointer (some ⟨g0,1,none⟩)) <| sW 0 g0 38 #[.int .i64 T,y1.1.v] #[.int .i64 T,r1.v] (Writes.one 1 36 (r1.v) _ _ rfl kR kR kR hr1.cells.1 hr1.cells.2 (Nat.lt_of_lt_of_le (Nat.lt_succ_self _) kL) kR) ?_
    refine Sy.setT ?_
    refine sG <| Sy.region ?_
    refine sP (y1.2.v) <| sP (.pointer (some ⟨g0,1,none⟩)) <| sS (r1.v) (Quiet.cell 0 g0 1 38 36 #[.int .i64 T,r1.v] _ _ rfl kR kR Tryz.underlying36 rfl _ kR) <| sS (.int .i64 (((gp x m k1).length + 1 : Nat) : Int)) (Quiet.lenR hr1 (by simp [kr_len,sr_len]) _ Tryz.underlying36 rfl kR) <| sS (.int .i64 (((gp x m k1).length : Nat) : Int)) (Quiet.pure (exec_int .sub _ _ _ .i64 _ _ _ rfl rfl rfl (int_sub _ _ _ _ _ ((wrap_i64 (by have:=gp_len (x:=x) (m:=m) k1; omega) (by have:=gp_len (x:=x) (m:=m) k1; omega)).trans (by omega))))) <| sS (.agg (Sk.map bv).toArray) (Quiet.load 2 g3 0 64 27 27 (Sk.map bv).toArray _ _ rfl kR kR Tryz.underlying27 rfl kR _ (key_whole Sk hSk) (key_size Sk hSk)) <| sS (.agg (sgc (((gp x m k1).length : Nat) : Int) Sk).toArray) (Quiet.build2 43 _ infSgd _ _ _ (((gp x m k1).length : Nat) : Int) (Sk.map bv) 64 rfl kR kR Tryz.underlying43 info_sgd rfl kR kR ((List.length_map ..).trans hSk)) ?_
    refine Sy.make kR 43 (sgc (((gp x m k1).length : Nat) : Int) Sk).toArray (fun g => .slice (some ⟨g,0,none⟩) 1 1) (Makes.one 39 43 _ _ 65 _ (sgc (((gp x m k1).length : Nat) : Int) Sk) rfl kR Tryz.underlying39 info_sgd rfl rfl (sgc_len (n:=64) _ hSk) (by decide) (by decide)) (fun g5 => ?_)
    refine Sy.movT ?_
    refine Sy.swapT ?_
    refine Sy.appendR kR 39 43 _ _ 65 72 Tryz.underlying39 info_sgd rfl rfl rfl rfl (by decide) _ _ rfl hh1.2 kR (sgc (((gp x m k1).length : Nat) : Int) Sk) (sgc_len (n:=64) _ hSk) (sgc_one _ _) 4 g5 43 kR kR (by have:=gp_len (x:=x) (m:=m) k1; simp only [kr_len,sr_len]; omega) (by have:=gp_len (x:=x) (m:=m) k1; simp only [kr_len,sr_len,maxLen]; omega) (fun r2 hr2 => ?_)
    refine Sy.swapT ?_
    refine sP (r2.v) ?_
    refine Sy.nil <| Sy.in_ <| Sy.then_ <| Sy.region ?_
    refine sS (.int .i64 ((k1 + 1 : Nat) : Int)) (Quiet.pure (exec_int .add _ _ _ .i64 _ _ _ rfl rfl rfl (int_add _ _ _ _ _ ((wrap_i64 (by omega) (by omega)).trans (by omega))))) <| sP (.int .i64 ((k1 + 1 : Nat) : Int)) ?_
    refine Sy.nil ?_
    have hok : okI x m k1 = true:=by unfold okI; rw [← e0, ← e1]; rfl
    exact Sy.againT ((r1,r2)) (by omega) (⟨by rw [gp_yes hok,kr_add, ← eK]; exact hr1,by rw [gp_yes hok,sr_add, ← eS]; exact hr2⟩) (all_cons kR (all_cons kR (all_cons kR (all_cons kR (all_cons kR (all_cons kR (all_cons kR (all_cons kR all_nil)))))))) (fun w hw => hw.pick [0] (by decide) kR)
end Cu
end
end Go.Proofs.YtfhcpdbahbbmaaaGreatDoor
