/-
  climb: the way up, walked.
-/
import Derived.Test.YtimnpakmifjgoaaDoorMPathR
import Derived.Test.YtimnpakmifjgoaaDoorMSpec

/-
  The way up: fromRight, climb, Check.
-/
/-
  The way up from a leaf, in plain functions: which side, what is met; the document's Fold beside the program's climb. No function of the program stands here.
-/
namespace Go.Proofs.YtimnpakmifjgoaaDoor
open Go.RowKit Sp

def zero32 : List UInt8 := List.replicate 32 0
/-- from the right half? the lowest step first; f: as many halvings as are enough -/
def sidesF : Nat → Nat → Nat → List Bool
  | 0, _, _ => []
  | f + 1, i, n => if 2 ≤ n then (if i < cut n then sidesF f i (cut n) ++ [false] else sidesF f (i - cut n) (n - cut n) ++ [true]) else []
def sidesS (i n : Nat) : List Bool := sidesF n i n
theorem sidesF_more : ∀ (f g i n : Nat), n ≤ f → n ≤ g → n ≤ 2 ^ 62 → sidesF f i n = sidesF g i n
  | 0, 0, _, _, _, _, _ => rfl
  | 0, g + 1, i, n, h, _, _ => by rw [sidesF, sidesF, if_neg (by omega)]
  | f + 1, 0, i, n, _, h, _ => by rw [sidesF, sidesF, if_neg (by omega)]
  | f + 1, g + 1, i, n, hf, hg, hm => by
    rw [sidesF, sidesF]
    by_cases h2 : 2 ≤ n
    · obtain ⟨c0, c1, _⟩ := cut_spec n h2 hm
      rw [if_pos h2, if_pos h2]
      by_cases hi : i < cut n
      · rw [if_pos hi, if_pos hi, sidesF_more f g i (cut n) (by omega) (by omega) (by omega)]
      · rw [if_neg hi, if_neg hi, sidesF_more f g _ (n - cut n) (by omega) (by omega) (by omega)]
    · rw [if_neg h2, if_neg h2]
theorem sidesS_one (i n : Nat) (h : n ≤ 1) : sidesS i n = [] := by
  unfold sidesS
  cases n with
  | zero => rfl
  | succ k => rw [sidesF, if_neg (by omega)]
theorem sidesS_left (i n : Nat) (h : 2 ≤ n) (hm : n ≤ 2 ^ 62) (hi : i < cut n) : sidesS i n = sidesS i (cut n) ++ [false] := by
  obtain ⟨c0, c1, _⟩ := cut_spec n h hm
  obtain ⟨f, rfl⟩ : ∃ f, n = f + 1 := ⟨n - 1, by omega⟩
  unfold sidesS
  conv => lhs; rw [sidesF, if_pos h, if_pos hi]
  rw [sidesF_more f (cut (f + 1)) i _ (by omega) (Nat.le_refl _) (by omega)]
theorem sidesS_right (i n : Nat) (h : 2 ≤ n) (hm : n ≤ 2 ^ 62) (hi : ¬ i < cut n) : sidesS i n = sidesS (i - cut n) (n - cut n) ++ [true] := by
  obtain ⟨c0, c1, _⟩ := cut_spec n h hm
  obtain ⟨f, rfl⟩ : ∃ f, n = f + 1 := ⟨n - 1, by omega⟩
  unfold sidesS
  conv => lhs; rw [sidesF, if_pos h, if_neg hi]
  rw [sidesF_more f (f + 1 - cut (f + 1)) _ _ (by omega) (Nat.le_refl _) (by omega)]
theorem sidesF_log : ∀ (f i n k : Nat), n ≤ 2 ^ k → k ≤ 62 → (sidesF f i n).length ≤ k
  | 0, _, _, _, _, _ => Nat.zero_le _
  | f + 1, i, n, k, hn, hk => by
    rw [sidesF]
    by_cases h2 : 2 ≤ n
    · have hm : n ≤ 2 ^ 62 := Nat.le_trans hn (Nat.pow_le_pow_right (by omega) hk)
      obtain ⟨c0, c1, c2, j, hj, _⟩ := cut_spec n h2 hm
      have hjk : j < k := by
        rcases Nat.lt_or_ge j k with h | h
        · exact h
        · have : 2 ^ k ≤ 2 ^ j := Nat.pow_le_pow_right (by omega) h
          omega
      obtain ⟨q, rfl⟩ : ∃ q, k = q + 1 := ⟨k - 1, by omega⟩
      have hc : cut n ≤ 2 ^ q := by rw [hj]; exact Nat.pow_le_pow_right (by omega) (by omega)
      rw [if_pos h2]
      by_cases hi : i < cut n
      · rw [if_pos hi, List.length_append]; exact Nat.succ_le_succ (sidesF_log f i _ q hc (by omega))
      · rw [if_neg hi, List.length_append]; exact Nat.succ_le_succ (sidesF_log f _ _ q (by omega) (by omega))
    · rw [if_neg h2]; exact Nat.zero_le _
theorem sidesS_32 (i n : Nat) (hn : n ≤ 4294967296) : (sidesS i n).length ≤ 32 := sidesF_log n i n 32 (by omega) (by omega)

/-- the children of the Node of one step -/
def kidsS (x : List UInt8) (side : Bool) (sib : List UInt8) : List UInt8 × List UInt8 := if side then (sib, x) else (x, sib)
def stepS (x : List UInt8) (side : Bool) (sib : List UInt8) : List UInt8 := nodeS (kidsS x side sib).1 (kidsS x side sib).2
/-- where k steps lead -/
def climbS (leaf : List UInt8) (ss : List Bool) (ps : List (List UInt8)) : Nat → List UInt8
  | 0 => leaf
  | k + 1 => stepS (climbS leaf ss ps k) (ss.getD k false) (ps.getD k [])
/-- the children that are met on the first k steps -/
def pastS (leaf : List UInt8) (ss : List Bool) (ps : List (List UInt8)) (k : Nat) : List (List UInt8 × List UInt8) := (List.range k).map fun j => kidsS (climbS leaf ss ps j) (ss.getD j false) (ps.getD j [])
theorem stepS_length (x : List UInt8) (b : Bool) (s : List UInt8) : (stepS x b s).length = 32 := nodeS_length _ _
theorem climbS_length (leaf : List UInt8) (h : leaf.length = 32) (ss : List Bool) (ps : List (List UInt8)) : ∀ k, (climbS leaf ss ps k).length = 32
  | 0 => h
  | _ + 1 => stepS_length _ _ _
theorem climbS_front (leaf : List UInt8) (ss s' : List Bool) (ps p' : List (List UInt8)) : ∀ k, k ≤ ss.length → k ≤ ps.length → climbS leaf (ss ++ s') (ps ++ p') k = climbS leaf ss ps k
  | 0, _, _ => rfl
  | k + 1, h1, h2 => by
    rw [climbS, climbS, climbS_front leaf ss s' ps p' k (by omega) (by omega)]
    congr 1
    · simp only [List.getD_eq_getElem?_getD]; rw [List.getElem?_append_left (by omega)]
    · simp only [List.getD_eq_getElem?_getD]; rw [List.getElem?_append_left (by omega)]

/-- the document's Fold, the path turned round -/
def foldR (leaf : List UInt8) : List (List UInt8) → Nat → Nat → List UInt8 × Bool
  | [], i, n => if n ≤ i then (zero32, false) else if n = 1 then (leaf, true) else (zero32, false)
  | last :: r, i, n => if n ≤ i then (zero32, false) else if n = 1 then (leaf, false) else
      if i < cut n then (nodeS (foldR leaf r i (cut n)).1 last, (foldR leaf r i (cut n)).2) else (nodeS last (foldR leaf r (i - cut n) (n - cut n)).1, (foldR leaf r (i - cut n) (n - cut n)).2)
def foldS (leaf : List UInt8) (i n : Nat) (ps : List (List UInt8)) : List UInt8 × Bool := foldR leaf ps.reverse i n
theorem foldR_length (leaf : List UInt8) (h : leaf.length = 32) : ∀ (r : List (List UInt8)) (i n : Nat), (foldR leaf r i n).1.length = 32
  | [], i, n => by
    rw [foldR]
    split
    · rfl
    · split
      · exact h
      · rfl
  | last :: r, i, n => by
    rw [foldR]
    split
    · rfl
    · split
      · exact h
      · split <;> exact nodeS_length _ _
theorem foldS_length (leaf : List UInt8) (h : leaf.length = 32) (i n : Nat) (ps : List (List UInt8)) : (foldS leaf i n ps).1.length = 32 := foldR_length leaf h _ i n
theorem foldS_no (leaf : List UInt8) (i n : Nat) (ps : List (List UInt8)) (h : n ≤ i) : foldS leaf i n ps = (zero32, false) := by
  unfold foldS
  cases ps.reverse with
  | nil => rw [foldR, if_pos h]
  | cons x r => rw [foldR, if_pos h]
theorem foldS_one (leaf : List UInt8) (i : Nat) (ps : List (List UInt8)) (h : i < 1) : foldS leaf i 1 ps = (leaf, decide (ps.length = 0)) := by
  unfold foldS
  cases hr : ps.reverse with
  | nil =>
    have : ps = [] := by simpa using hr
    subst this
    rw [foldR, if_neg (by omega), if_pos rfl]; rfl
  | cons x r =>
    have hl : ps.length = r.length + 1 := by rw [← List.length_reverse, hr]; rfl
    rw [foldR, if_neg (by omega), if_pos rfl, hl]; simp
theorem foldS_nil (leaf : List UInt8) (i n : Nat) (h : 2 ≤ n) (hi : i < n) : foldS leaf i n [] = (zero32, false) := by
  show foldR leaf [] i n = _
  rw [foldR, if_neg (by omega), if_neg (by omega)]
theorem foldS_left (leaf : List UInt8) (i n : Nat) (ps : List (List UInt8)) (last : List UInt8) (h : 2 ≤ n) (hn : i < n) (hi : i < cut n) : foldS leaf i n (ps ++ [last]) = (nodeS (foldS leaf i (cut n) ps).1 last, (foldS leaf i (cut n) ps).2) := by
  unfold foldS
  rw [List.reverse_append, List.reverse_singleton, List.singleton_append, foldR, if_neg (by omega), if_neg (by omega), if_pos hi]
theorem foldS_right (leaf : List UInt8) (i n : Nat) (ps : List (List UInt8)) (last : List UInt8) (h : 2 ≤ n) (hn : i < n) (hi : ¬ i < cut n) : foldS leaf i n (ps ++ [last]) = (nodeS last (foldS leaf (i - cut n) (n - cut n) ps).1, (foldS leaf (i - cut n) (n - cut n) ps).2) := by
  unfold foldS
  rw [List.reverse_append, List.reverse_singleton, List.singleton_append, foldR, if_neg (by omega), if_neg (by omega), if_neg hi]

/-- both are one -/
theorem fold_climb (leaf : List UInt8) : ∀ (f : Nat) (ps : List (List UInt8)) (i n : Nat), n ≤ f → 1 ≤ n → i < n → n ≤ 2 ^ 62 →
    (foldS leaf i n ps).2 = decide (ps.length = (sidesS i n).length) ∧ (ps.length = (sidesS i n).length → (foldS leaf i n ps).1 = climbS leaf (sidesS i n) ps ps.length)
  | 0, _, _, _, h, h1, _, _ => by omega
  | f + 1, ps, i, n, hf, h1, hi, hm => by
    rcases Nat.lt_or_ge n 2 with h2 | h2
    · obtain rfl : n = 1 := by omega
      rw [foldS_one leaf i ps hi, sidesS_one i 1 (Nat.le_refl _)]
      refine ⟨rfl, fun h => ?_⟩
      have : ps = [] := List.eq_nil_of_length_eq_zero h
      subst this
      rfl
    · obtain ⟨c0, c1, _⟩ := cut_spec n h2 hm
      rcases List.eq_nil_or_concat ps with rfl | ⟨qs, last, rfl⟩
      · rw [foldS_nil leaf i n h2 hi]
        have hl : 0 < (sidesS i n).length := by
          by_cases hc : i < cut n
          · rw [sidesS_left i n h2 hm hc, List.length_append]; simp
          · rw [sidesS_right i n h2 hm hc, List.length_append]; simp
        refine ⟨by rw [eq_comm, decide_eq_false_iff_not, List.length_nil]; omega, fun h => ?_⟩
        rw [List.length_nil] at h
        omega
      · rw [List.concat_eq_append]
        have key : ∀ (s : List Bool) (b : Bool) (F : List UInt8 × Bool) (N : List UInt8), (F.2 = decide (qs.length = s.length) ∧ (qs.length = s.length → F.1 = climbS leaf s qs qs.length)) →
            (qs.length = s.length → N = stepS F.1 b last) → ((N, F.2) : List UInt8 × Bool).2 = decide ((qs ++ [last]).length = (s ++ [b]).length) ∧ ((qs ++ [last]).length = (s ++ [b]).length → ((N, F.2) : List UInt8 × Bool).1 = climbS leaf (s ++ [b]) (qs ++ [last]) (qs ++ [last]).length) := by
          intro s b F N hF hN
          have hlen : ((qs ++ [last]).length = (s ++ [b]).length) ↔ qs.length = s.length := by simp
          refine ⟨by rw [hF.1]; exact (decide_eq_decide.2 hlen).symm, fun h => ?_⟩
          have h' := hlen.1 h
          show N = _
          rw [hN h', hF.2 h', List.length_append, List.length_singleton, climbS, climbS_front leaf s [b] qs [last] qs.length (by omega) (Nat.le_refl _)]
          congr 1
          · rw [List.getD_eq_getElem?_getD, List.getElem?_append_right (by omega), h', Nat.sub_self]; rfl
          · rw [List.getD_eq_getElem?_getD, List.getElem?_append_right (by omega), Nat.sub_self]; rfl
        by_cases hc : i < cut n
        · rw [foldS_left leaf i n qs last h2 hi hc, sidesS_left i n h2 hm hc]
          exact key _ false _ _ (fold_climb leaf f qs i (cut n) (by omega) (by omega) hc (by omega)) (fun _ => rfl)
        · rw [foldS_right leaf i n qs last h2 hi hc, sidesS_right i n h2 hm hc]
          exact key _ true _ _ (fold_climb leaf f qs (i - cut n) (n - cut n) (by omega) (by omega) (by omega) (by omega)) (fun _ => rfl)
/-- what Check tells -/
def checkS (root leaf : List UInt8) (i n : Nat) (ps : List (List UInt8)) : Bool := decide (i < n) && (decide (ps.length = (sidesS i n).length) && decide (climbS leaf (sidesS i n) ps ps.length = root))
end Go.Proofs.YtimnpakmifjgoaaDoor

namespace Go.Proofs.YtimnpakmifjgoaaDoor
open Go.RowKit Sp

def bvals (bs : List Bool) : List (List Value) := bs.map (fun b => [Value.bool b])
theorem bvals_length (bs : List Bool) : (bvals bs).length = bs.length := by simp [bvals]
theorem bvals_append (a b : List Bool) : bvals (a ++ b) = bvals a ++ bvals b := by simp [bvals]
theorem elems_bool (b : Bool) : Elems 1 [[Value.bool b]] := fun x hx => by
  simp at hx
  subst hx
  exact ⟨rfl, fun u hu => by simp at hu; subst hu; rfl⟩
def OwnBl (w : World) (base : Nat) (v : Value) (bs : List Bool) : Prop := OwnE 4 1 w base v (bvals bs)
theorem infoBool : (Tryd.prog.info? 4).map (fun i => (i.zero, i.size, i.bytes)) = some (some (.bool false), 1, 1) := by kernel_rfl
def FrPost (w : World) (bs : List Bool) (e : Ending) (w' : World) : Prop := ∃ v, e = .returned v ∧ OwnBl w' w.heap.size v bs ∧ Below w.heap.size w w'

set_option maxHeartbeats 1000000 in
set_option maxRecDepth 100000 in
theorem fromRight_any (f : Nat) : ∀ (w : World) (i n : Nat), n ≤ f → i < n → n ≤ 4294967296 → Calls Tryd.prog 60 #[.int .i64 i, .int .i64 n] w (FrPost w (sidesS i n)) := by
  induction f with
  | zero =>
    intro w i n hf hi
    omega
  | succ f ih =>
    intro w i n hf hi hm
    have q0 : (0 : Int) ≤ (i : Int) := by omega
    have q1 : (i : Int) < (n : Int) := by omega
    have q2 : (n : Int) ≤ 4294967296 := by omega
    rcases Nat.lt_or_ge n 2 with h2 | h2
    · obtain rfl : n = 1 := by omega
      rw [sidesS_one i 1 (Nat.le_refl _)]
      go_enter Tryd.func60, Tryd.ntmps60
      go_wp2
      go_ret
      exact ⟨_, rfl, OwnE.nil _ _ _ _, Below.refl _ _⟩
    · obtain ⟨c0, c1, c2, _⟩ := cut_spec n h2 (by omega)
      have hpl := sidesS_left i n h2 (by omega)
      have hpr := sidesS_right i n h2 (by omega)
      obtain ⟨k, hk⟩ : ∃ k, k = cut n := ⟨_, rfl⟩
      rw [← hk] at c0 c1 c2 hpl hpr
      have HK := Lib.hid hk
      have HP := Lib.hid (And.intro hpl hpr)
      have q3 : (k : Int) ≤ (n : Int) := by omega
      clear hk hpl hpr
      by_cases hik : i < k
      · rw [HP.out.1 hik]
        go_enter Tryd.func60, Tryd.ntmps60
        go_wp2_with fail
        refine (split_any n _ h2 hm).mono ?_
        rintro e w1 ⟨rfl, rfl⟩
        rw [← HK.out]
        go_wp2_with fail
        refine (ih w i k (by omega) hik (by omega)).mono ?_
        rintro e w2 ⟨v, rfl, hown, hb2⟩
        have h32 := sidesS_32 i k (by omega)
        obtain ⟨bs, hbs⟩ : ∃ bs, bs = sidesS i k := ⟨_, rfl⟩
        rw [← hbs] at hown h32
        have HBS := Lib.hid hbs
        have hz := hb2.size
        clear hbs
        go_wp2_with (at_builtin
                     refine wpList_append_elems Tryd.underlying90 infoBool rfl (by omega) rfl (.tmp 15) (.tmp 16) rfl w.heap.size v (bvals bs) rfl (OwnE.alloc hown _) (some ⟨w2.heap.size, 0, none⟩) [[Value.bool false]] 1 1 rfl rfl (ESrc.made w2.heap.size rfl 1 _ [Value.bool false] _ rfl (elems_bool _)) (by rw [bvals_length]; simp only [List.length_singleton]; omega) (by rw [bvals_length]; simp only [List.length_singleton]; omega) (by simp; omega) ?_
                     intro v3 w3 hv3 hg3 _
                     have hb3 := below_ownE (hb2.alloc hz (.cells #[Value.bool false] 4)) (OwnE.alloc hown _) hg3 (Nat.le_refl _) (by simp; omega))
        go_ret
        exact ⟨_, rfl, by rw [← HBS.out]; unfold OwnBl; rw [bvals_append]; exact hv3, hb3⟩
      · rw [HP.out.2 hik]
        have hki : (k : Int) ≤ (i : Int) := by omega
        have e1 : (i : Int) - (k : Int) = ((i - k : Nat) : Int) := by omega
        have e2 : (n : Int) - (k : Int) = ((n - k : Nat) : Int) := by omega
        have HB := Lib.hid (And.intro e1 e2)
        clear e1 e2
        go_enter Tryd.func60, Tryd.ntmps60
        go_wp2_with fail
        refine (split_any n _ h2 hm).mono ?_
        rintro e w1 ⟨rfl, rfl⟩
        rw [← HK.out]
        go_wp2_with fail
        rw [HB.out.1, HB.out.2]
        refine (ih w (i - k) (n - k) (by omega) (by omega) (by omega)).mono ?_
        rintro e w2 ⟨v, rfl, hown, hb2⟩
        have h32 := sidesS_32 (i - k) (n - k) (by omega)
        obtain ⟨bs, hbs⟩ : ∃ bs, bs = sidesS (i - k) (n - k) := ⟨_, rfl⟩
        rw [← hbs] at hown h32
        have HBS := Lib.hid hbs
        have hz := hb2.size
        clear hbs
        go_wp2_with (at_builtin
                     refine wpList_append_elems Tryd.underlying90 infoBool rfl (by omega) rfl (.tmp 24) (.tmp 25) rfl w.heap.size v (bvals bs) rfl (OwnE.alloc hown _) (some ⟨w2.heap.size, 0, none⟩) [[Value.bool true]] 1 1 rfl rfl (ESrc.made w2.heap.size rfl 1 _ [Value.bool true] _ rfl (elems_bool _)) (by rw [bvals_length]; simp only [List.length_singleton]; omega) (by rw [bvals_length]; simp only [List.length_singleton]; omega) (by simp; omega) ?_
                     intro v3 w3 hv3 hg3 _
                     have hb3 := below_ownE (hb2.alloc hz (.cells #[Value.bool true] 4)) (OwnE.alloc hown _) hg3 (Nat.le_refl _) (by simp; omega))
        go_ret
        exact ⟨_, rfl, by rw [← HBS.out]; unfold OwnBl; rw [bvals_append]; exact hv3, hb3⟩
end Go.Proofs.YtimnpakmifjgoaaDoor

namespace Go.Proofs.YtimnpakmifjgoaaDoor
open Go.RowKit Sp

theorem results_row_tmp {P : Program} {fn : Func} {p q : Tmp} {ty : TypeId} (h : fn.results = #[.cell p ty, .tmp q]) (tmps : Array Value) (w : World) (g : Nat) (t : TypeId) (cs : Array Value) (fr : Nat × Nat) (d : TypeDesc)
    (hp : tmps.getD p undef = .pointer (some ⟨g, 0, none⟩)) (hg : w.heap[g]? = some (.cells cs t fr))
    (hu : P.underlying ty = some d) (hd : (match d with | .struct _ | .array _ _ => true | _ => false) = true) (hi : (P.info? ty).map (·.size) = some cs.size) :
    (results fn tmps).run P w = .ok (.tuple #[.agg cs, tmps.getD q undef]) w := by
  have hp' : tmps[p]?.getD undef = .pointer (some ⟨g, 0, none⟩) := by simpa using hp
  simp [results, h, hp', asAddr, run_loadVar_row w g t ty cs fr d hg hu hd hi]
theorem results_row_tmp2 {P : Program} {fn : Func} {p q r : Tmp} {ty : TypeId} (h : fn.results = #[.cell p ty, .tmp q, .tmp r]) (tmps : Array Value) (w : World) (g : Nat) (t : TypeId) (cs : Array Value) (fr : Nat × Nat) (d : TypeDesc)
    (hp : tmps.getD p undef = .pointer (some ⟨g, 0, none⟩)) (hg : w.heap[g]? = some (.cells cs t fr))
    (hu : P.underlying ty = some d) (hd : (match d with | .struct _ | .array _ _ => true | _ => false) = true) (hi : (P.info? ty).map (·.size) = some cs.size) :
    (results fn tmps).run P w = .ok (.tuple #[.agg cs, tmps.getD q undef, tmps.getD r undef]) w := by
  have hp' : tmps[p]?.getD undef = .pointer (some ⟨g, 0, none⟩) := by simpa using hp
  simp [results, h, hp', asAddr, run_loadVar_row w g t ty cs fr d hg hu hd hi]

/-- a whole array into a block of the call's own: of the world behind it two facts -/
theorem wpList_store_own {P : Program} {ops : Array Oper} {rest : List Oper} {o : Oper} {a : Act} {w : World} {Q : Exit → Act → World → Prop} (hgd : o.guard = none) (ty : TypeId) (x y : Operand) (ho : o.op = .store ty x y)
    (g : Nat) (cells : Array Value) (hx : a.eval x = .pointer (some ⟨g, 0, none⟩)) (hy : a.eval y = .agg cells)
    (t : TypeId) (old : Array Value) (hg : Blk w g t old) (hi : (P.info? ty).map (·.size) = some cells.size) (hold : old.size = cells.size) (h1 : cells.all (·.oneCell') = true)
    (h : ∀ w2, Blk w2 g t cells → (∀ B, B ≤ g → Below B w w2) → w.grownBy w2 (some g) → wpList P ops Q rest (a.put o.dst undef) w2) : wpList P ops Q (o :: rest) a w :=
  wpList_store_row hgd ty x y ho g cells hx hy t old hg hi hold h1 (h _ (hg.setRow cells) (fun _ hB => below_setRow (Below.refl _ _) hB _) (only_setRow (World.grownBy.refl w _) _))

/-- a pair's cells -/
def pcells (p : List UInt8 × List UInt8) : List Value := p.1.map bv ++ p.2.map bv
def pvals (ps : List (List UInt8 × List UInt8)) : List (List Value) := ps.map pcells
theorem pvals_length (ps : List (List UInt8 × List UInt8)) : (pvals ps).length = ps.length := by simp [pvals]
theorem pcells_length {p : List UInt8 × List UInt8} (h : p.1.length = 32 ∧ p.2.length = 32) : (pcells p).length = 64 := by simp [pcells, h.1, h.2]
theorem pcells_one (p : List UInt8 × List UInt8) : ∀ u ∈ pcells p, u.oneCell' = true := fun u hu => by
  rcases List.mem_append.1 hu with h | h
  · exact oneCell_bv _ u h
  · exact oneCell_bv _ u h
theorem pcells_all (p : List UInt8 × List UInt8) : (pcells p).toArray.all (·.oneCell') = true := all_oneCell_toArray (pcells_one p)
theorem pcells_size {p : List UInt8 × List UInt8} (h : p.1.length = 32 ∧ p.2.length = 32) : (pcells p).toArray.size = 64 := by rw [List.size_toArray, pcells_length h]
theorem elems_pair {p : List UInt8 × List UInt8} (h : p.1.length = 32 ∧ p.2.length = 32) : Elems 64 [pcells p] := fun x hx => by
  simp at hx
  subst hx
  exact ⟨pcells_length h, pcells_one p⟩
theorem infoPair : (Tryd.prog.info? 86).map (fun i => (i.zero, i.size, i.bytes)) = some (some (.agg (List.replicate 64 (.int .u8 0)).toArray), 64, 64) := by kernel_rfl
theorem pair_info {p : List UInt8 × List UInt8} (h : p.1.length = 32 ∧ p.2.length = 32) : (Tryd.prog.info? 86).map (·.size) = some (pcells p).toArray.size := by rw [pcells_size h]; kernel_rfl
theorem pair_under : ∃ d, Tryd.prog.underlying 86 = some d ∧ (match d with | .struct _ | .array _ _ => true | _ => false) = true := ⟨_, Tryd.underlying86, rfl⟩
theorem built_pair (l r : List UInt8) (hl : l.length = 32) (hr : r.length = 32) : Tryd.prog.built 86 [(0, .agg (l.map bv).toArray), (1, .agg (r.map bv).toArray)] = some (pcells (l, r)).toArray := by
  have h : ∀ parts, Tryd.prog.built 86 parts = Instr.fill (#[(0, 32), (32, 32)][·]?) (List.replicate 64 (Value.int .u8 0)).toArray parts := fun parts => by kernel_rfl
  rw [h]
  have he : Elems 32 [l.map bv, r.map bv] := elems_dvals (ds := [l, r]) (fun d hd => by simp at hd; rcases hd with rfl | rfl <;> assumption)
  have h2 := fill_elems (by omega) [l.map bv, r.map bv] he (List.replicate 64 (Value.int .u8 0)).toArray (by simp)
  have e : [l.map bv, r.map bv].flatten = pcells (l, r) := by simp [pcells]
  rw [e] at h2
  exact h2
theorem wpList_build_pair {w : World} {ops : Array Oper} {rest : List Oper} {o : Oper} {a : Act} {Q : Exit → Act → World → Prop} (hgd : o.guard = none) (x y : Operand) (ho : o.op = .build 86 #[(0, x), (1, y)])
    (l r : List UInt8) (hl : l.length = 32) (hr : r.length = 32) (hx : a.eval x = .agg (l.map bv).toArray) (hy : a.eval y = .agg (r.map bv).toArray)
    (h : wpList Tryd.prog ops Q rest (a.put o.dst (.agg (pcells (l, r)).toArray)) w) : wpList Tryd.prog ops Q (o :: rest) a w :=
  wpList_buildTo hgd _ _ ho o.dst rfl _ (by simpa [hx, hy] using built_pair l r hl hr) h
/-- []pair{p} -/
theorem wpList_one_pair {w : World} {ops : Array Oper} {rest : List Oper} {o : Oper} {a : Act} {Q : Exit → Act → World → Prop} (hgd : o.guard = none) (x : Operand) (ho : o.op = .buildSlice 79 1 #[(0, x)])
    (p : List UInt8 × List UInt8) (hp : p.1.length = 32 ∧ p.2.length = 32) (hx : a.eval x = .agg (pcells p).toArray) (N : Nat) (hN : w.heap.size = N)
    (h : ∀ w', ESrc 64 w' (some ⟨N, 0, none⟩) [pcells p] → Below N w w' → N < w'.heap.size → wpList Tryd.prog ops Q rest (a.put o.dst (.slice (some ⟨N, 0, none⟩) 1 1)) w') : wpList Tryd.prog ops Q (o :: rest) a w :=
  wpList_build_elems Tryd.underlying79 infoPair (by omega) hgd 1 _ ho [pcells p] (elems_pair hp) rfl (by omega) (by decide) (by simp [hx]) N hN
    (h _ (ESrc.lit N hN _ (elems_pair hp)) (by subst hN; exact (Below.refl _ _).alloc (Nat.le_refl _) _) (by subst hN; simp))
theorem pair_ranges {w : World} {g : Nat} {t : TypeId} {l r : List UInt8} (h : Blk w g t (pcells (l, r)).toArray) (hl : l.length = 32) : w.rangeAt g 0 (l.map bv) ∧ w.rangeAt g 32 (r.map bv) := by
  have hl' : (l.map bv).length = 32 := by rw [List.length_map]; exact hl
  constructor
  · intro j v hj
    have hlt := (List.getElem?_eq_some_iff.1 hj).1
    rw [Nat.zero_add]
    refine (h.cell j).trans ?_
    rw [List.getElem?_toArray]
    show (l.map bv ++ r.map bv)[j]? = some v
    rw [List.getElem?_append_left hlt]
    exact hj
  · intro j v hj
    refine (h.cell (32 + j)).trans ?_
    rw [List.getElem?_toArray]
    show (l.map bv ++ r.map bv)[32 + j]? = some v
    rw [List.getElem?_append_right (by omega), hl', Nat.add_sub_cancel_left]
    exact hj
theorem OwnE.not {e : TypeId} {size : Nat} {w : World} {base : Nat} {v : Value} {xs : List (List Value)} (h : OwnE e size w base v xs) {g : Nat} (hg : g < base ∨ w.heap.size ≤ g) : some g ≠ v.ownBlock := fun e => by
  have := World.ownsRow.lt h.2 g e.symm
  omega
theorem OwnE.not' {e : TypeId} {size : Nat} {w : World} {base : Nat} {v : Value} {xs : List (List Value)} (h : OwnE e size w base v xs) {g : Nat} (hg : g < base ∨ w.heap.size ≤ g) : v.ownBlock = none ∨ v.ownBlock ≠ some g := .inr (fun e => h.not hg e.symm)

def ClimbPost (w : World) (x : List UInt8) (ps : List (List UInt8 × List UInt8)) (ok : Bool) (e : Ending) (w' : World) : Prop := ∃ v, e = .returned (.tuple #[dv x, v, .bool ok]) ∧ OwnE 86 64 w' w.heap.size v (pvals ps) ∧ Below w.heap.size w w'
theorem zero_dig : zeroDigest = (zero32.map bv).toArray := rfl
theorem zero_info : (Tryd.prog.info? 24).map (·.size) = some zeroDigest.size := by kernel_rfl
theorem zero_one : zeroDigest.all (·.oneCell') = true := by rw [zero_dig]; exact dig_one _

set_option maxHeartbeats 1000000 in
set_option maxRecDepth 100000 in
theorem climb_no (w : World) (leaf : List UInt8) (A : Option Addr) (i n m c : Nat) (hi : n ≤ i) (hi2 : i ≤ 4294967295) :
    Calls Tryd.prog 53 #[.agg (leaf.map bv).toArray, .int .u32 i, .int .u32 n, .slice A m c] w (ClimbPost w zero32 [] false) := by
  have q0 : (0 : Int) ≤ (i : Int) := by omega
  have q1 : (n : Int) ≤ (i : Int) := by omega
  have q2 : (i : Int) ≤ 4294967295 := by omega
  go_enter Tryd.func53, Tryd.ntmps53
  go_wp2_with (refine wpList_store_own rfl 24 (.tmp 8) (.tmp 19) rfl (w.heap.size + 1) zeroDigest rfl rfl 24 _ (heap_alloc2_new w _ _) zero_info rfl zero_one ?_
               intro w2 hd2 hB2 _)
  exact bodyPost_ret (results_row_tmp2 rfl _ _ (w.heap.size + 1) 24 _ (0, 0) _ rfl hd2 Tryd.underlying24 rfl zero_info) rfl ⟨_, rfl, OwnE.nil _ _ _ _, (below_alloc2 w _ _).trans (hB2 _ (by omega))⟩

set_option maxHeartbeats 1000000 in
set_option maxRecDepth 100000 in
theorem climb_off (w : World) (leaf : List UInt8) (A : Option Addr) (i n m c : Nat) (hi : i < n) (hn : n ≤ 4294967295) (hm : m ≠ (sidesS i n).length) :
    Calls Tryd.prog 53 #[.agg (leaf.map bv).toArray, .int .u32 i, .int .u32 n, .slice A m c] w (ClimbPost w zero32 [] false) := by
  have q0 : (0 : Int) ≤ (i : Int) := by omega
  have q1 : (i : Int) < (n : Int) := by omega
  have q2 : (n : Int) ≤ 4294967295 := by omega
  go_enter Tryd.func53, Tryd.ntmps53
  go_wp2_with fail
  refine (fromRight_any n _ i n (Nat.le_refl _) hi (by omega)).mono ?_
  rintro e w1 ⟨v, rfl, hown, hb1⟩
  obtain ⟨As, cs, rfl, hs, _, _⟩ := OwnE.any hown
  have hr := Blk.below (heap_alloc2_new w (.cells (leaf.map bv).toArray 24) (.cells zeroDigest 24)) hb1 (by simp)
  have hb := (below_alloc2 w (.cells (leaf.map bv).toArray 24) (.cells zeroDigest 24)).trans (hb1.mono (by simp; omega))
  obtain ⟨q, hq⟩ : ∃ q, q = (bvals (sidesS i n)).length := ⟨_, rfl⟩
  have hqm : ¬ m = q := by rw [hq, bvals_length]; exact hm
  rw [← hq]
  clear hown hs hq hm hb1
  go_wp2_with (refine wpList_store_own rfl 24 (.tmp 8) (.tmp 30) rfl (w.heap.size + 1) zeroDigest rfl rfl 24 _ hr zero_info rfl zero_one ?_
               intro w2 hd2 hB2 _)
  exact bodyPost_ret (results_row_tmp2 rfl _ _ (w.heap.size + 1) 24 _ (0, 0) _ rfl hd2 Tryd.underlying24 rfl zero_info) rfl ⟨_, rfl, OwnE.nil _ _ _ _, hb.trans (hB2 _ (by omega))⟩

end Go.Proofs.YtimnpakmifjgoaaDoor
