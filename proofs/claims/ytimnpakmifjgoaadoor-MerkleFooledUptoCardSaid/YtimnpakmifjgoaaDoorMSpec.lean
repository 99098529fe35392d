/-
  Merkle trees over lists of digests, in plain functions: no function of the program stands here.
-/
import Derived.Test.YtimnpakmifjgoaaDoorTag
import Derived.Lib.BitFns
namespace Go.Proofs.YtimnpakmifjgoaaDoor
open Go.RowKit Sp

def leafNm : ByteArray := ⟨#[116, 111, 108, 108, 104, 111, 117, 115, 101, 47, 108, 101, 97, 102]⟩
def nodeNm : ByteArray := ⟨#[116, 111, 108, 108, 104, 111, 117, 115, 101, 47, 110, 111, 100, 101]⟩
def noneNm : ByteArray := ⟨#[116, 111, 108, 108, 104, 111, 117, 115, 101, 47, 110, 111, 110, 101]⟩
def leafS (b : List UInt8) : List UInt8 := taggedS leafNm.data.toList b
def nodeS (l r : List UInt8) : List UInt8 := taggedS nodeNm.data.toList (l ++ r)
def noneS : List UInt8 := taggedS noneNm.data.toList []
theorem nodeS_length (l r : List UInt8) : (nodeS l r).length = 32 := sum_length _
theorem leafS_length (b : List UInt8) : (leafS b).length = 32 := sum_length _
theorem noneS_length : noneS.length = 32 := sum_length _

/-- the greatest power of two below n, n being 2 or more -/
def cut (n : Nat) : Nat := 2 ^ (Lib.bitLen (n - 1) - 1)

theorem bitLen_pow (k : Nat) : ∀ (x : Nat), 2 ^ k ≤ x → x < 2 ^ (k + 1) → k + 1 ≤ 64 → Lib.bitLen x = k + 1 := by
  induction k with
  | zero =>
    intro x h1 h2 _
    have : x = 1 := by simp at h1 h2; omega
    subst this
    decide
  | succ k ih =>
    intro x h1 h2 h3
    have h0 : 0 < 2 ^ k := Nat.two_pow_pos k
    have p1 : 2 ^ (k + 1) = 2 * 2 ^ k := by rw [Nat.pow_succ]; omega
    have p2 : 2 ^ (k + 1 + 1) = 2 * (2 * 2 ^ k) := by rw [Nat.pow_succ, p1]; omega
    have h64 : x < 2 ^ 64 := Nat.lt_of_lt_of_le h2 (Nat.pow_le_pow_right (by omega) h3)
    rw [Lib.bitLen_half x (by omega) h64, ih (x / 2) (by omega) (by omega) (by omega)]
    omega
theorem pow_at (x : Nat) (hx : 0 < x) : ∃ k, 2 ^ k ≤ x ∧ x < 2 ^ (k + 1) := ⟨Nat.log2 x, Nat.log2_self_le (by omega), Nat.lt_log2_self⟩
/-- .. and it is one -/
theorem cut_is (n k : Nat) (h1 : 2 ^ k < n) (h2 : n ≤ 2 ^ (k + 1)) (h3 : k + 1 ≤ 64) : cut n = 2 ^ k := by
  have h0 : 0 < 2 ^ k := Nat.two_pow_pos k
  unfold cut
  rw [bitLen_pow k (n - 1) (by omega) (by omega) h3, Nat.add_sub_cancel]
theorem cut_spec (n : Nat) (hn : 2 ≤ n) (hm : n ≤ 2 ^ 62) : 0 < cut n ∧ cut n < n ∧ n ≤ 2 * cut n ∧ ∃ k, cut n = 2 ^ k ∧ k ≤ 61 := by
  obtain ⟨k, hk1, hk2⟩ := pow_at (n - 1) (by omega)
  have h0 : 0 < 2 ^ k := Nat.two_pow_pos k
  have p1 : 2 ^ (k + 1) = 2 * 2 ^ k := by rw [Nat.pow_succ]; omega
  have hk : k ≤ 61 := by
    rcases Nat.lt_or_ge 61 k with h | h
    · have : 2 ^ 62 ≤ 2 ^ k := Nat.pow_le_pow_right (by omega) h
      omega
    · exact h
  rw [cut_is n k (by omega) (by omega) (by omega)]
  exact ⟨h0, by omega, by omega, k, rfl, hk⟩

/-- the digests' own lengths -/
def All32 (ds : List (List UInt8)) : Prop := ∀ d ∈ ds, d.length = 32
theorem All32.take {ds : List (List UInt8)} (h : All32 ds) (k : Nat) : All32 (ds.take k) := fun d hd => h d (List.mem_of_mem_take hd)
theorem All32.drop {ds : List (List UInt8)} (h : All32 ds) (k : Nat) : All32 (ds.drop k) := fun d hd => h d (List.mem_of_mem_drop hd)

/-- the root: f: as many halvings as are enough -/
def rootF : Nat → List (List UInt8) → List UInt8
  | 0, ds => ds.headD noneS
  | f + 1, ds => if 2 ≤ ds.length then nodeS (rootF f (ds.take (cut ds.length))) (rootF f (ds.drop (cut ds.length))) else ds.headD noneS
def rootS (ds : List (List UInt8)) : List UInt8 := rootF ds.length ds
theorem rootF_more : ∀ (f g : Nat) (ds : List (List UInt8)), ds.length ≤ f → ds.length ≤ g → ds.length ≤ 2 ^ 62 → rootF f ds = rootF g ds
  | 0, 0, _, _, _, _ => rfl
  | 0, g + 1, ds, h, _, _ => by rw [rootF, rootF, if_neg (by omega)]
  | f + 1, 0, ds, _, h, _ => by rw [rootF, rootF, if_neg (by omega)]
  | f + 1, g + 1, ds, hf, hg, hm => by
    rw [rootF, rootF]
    by_cases h2 : 2 ≤ ds.length
    · obtain ⟨c0, c1, _⟩ := cut_spec ds.length h2 hm
      rw [if_pos h2, if_pos h2, rootF_more f g (ds.take _) (by rw [List.length_take]; omega) (by rw [List.length_take]; omega) (by rw [List.length_take]; omega),
        rootF_more f g (ds.drop _) (by rw [List.length_drop]; omega) (by rw [List.length_drop]; omega) (by rw [List.length_drop]; omega)]
    · rw [if_neg h2, if_neg h2]
theorem rootS_two (ds : List (List UInt8)) (h : 2 ≤ ds.length) (hm : ds.length ≤ 2 ^ 62) : rootS ds = nodeS (rootS (ds.take (cut ds.length))) (rootS (ds.drop (cut ds.length))) := by
  obtain ⟨c0, c1, _⟩ := cut_spec ds.length h hm
  obtain ⟨f, hf⟩ : ∃ f, ds.length = f + 1 := ⟨ds.length - 1, by omega⟩
  unfold rootS
  conv => lhs; rw [hf, rootF, if_pos h]
  rw [rootF_more f _ (ds.take _) (by rw [List.length_take]; omega) (Nat.le_refl _) (by rw [List.length_take]; omega), rootF_more f _ (ds.drop _) (by rw [List.length_drop]; omega) (Nat.le_refl _) (by rw [List.length_drop]; omega)]
theorem rootS_one (d : List UInt8) : rootS [d] = d := by simp [rootS, rootF]
theorem rootS_none : rootS [] = noneS := rfl
theorem rootF_length : ∀ (f : Nat) (ds : List (List UInt8)), All32 ds → (rootF f ds).length = 32
  | 0, ds, h => by
    cases ds with
    | nil => exact noneS_length
    | cons d r => exact h d (by simp)
  | f + 1, ds, h => by
    rw [rootF]
    by_cases h2 : 2 ≤ ds.length
    · rw [if_pos h2]; exact nodeS_length _ _
    · rw [if_neg h2]
      cases ds with
      | nil => exact noneS_length
      | cons d r => exact h d (by simp)
theorem rootS_length (ds : List (List UInt8)) (h : All32 ds) : (rootS ds).length = 32 := rootF_length _ ds h

/-- the path of place i, f as above -/
def pathF : Nat → List (List UInt8) → Nat → List (List UInt8)
  | 0, _, _ => []
  | f + 1, ds, i => if 2 ≤ ds.length then (if i < cut ds.length then pathF f (ds.take (cut ds.length)) i ++ [rootS (ds.drop (cut ds.length))] else pathF f (ds.drop (cut ds.length)) (i - cut ds.length) ++ [rootS (ds.take (cut ds.length))]) else []
def pathS (ds : List (List UInt8)) (i : Nat) : List (List UInt8) := pathF ds.length ds i
theorem pathF_more : ∀ (f g : Nat) (ds : List (List UInt8)) (i : Nat), ds.length ≤ f → ds.length ≤ g → ds.length ≤ 2 ^ 62 → pathF f ds i = pathF g ds i
  | 0, 0, _, _, _, _, _ => rfl
  | 0, g + 1, ds, i, h, _, _ => by rw [pathF, pathF, if_neg (by omega)]
  | f + 1, 0, ds, i, _, h, _ => by rw [pathF, pathF, if_neg (by omega)]
  | f + 1, g + 1, ds, i, hf, hg, hm => by
    rw [pathF, pathF]
    by_cases h2 : 2 ≤ ds.length
    · obtain ⟨c0, c1, _⟩ := cut_spec ds.length h2 hm
      rw [if_pos h2, if_pos h2]
      by_cases hi : i < cut ds.length
      · rw [if_pos hi, if_pos hi, pathF_more f g (ds.take _) i (by rw [List.length_take]; omega) (by rw [List.length_take]; omega) (by rw [List.length_take]; omega)]
      · rw [if_neg hi, if_neg hi, pathF_more f g (ds.drop _) _ (by rw [List.length_drop]; omega) (by rw [List.length_drop]; omega) (by rw [List.length_drop]; omega)]
    · rw [if_neg h2, if_neg h2]
theorem pathS_left (ds : List (List UInt8)) (i : Nat) (h : 2 ≤ ds.length) (hm : ds.length ≤ 2 ^ 62) (hi : i < cut ds.length) : pathS ds i = pathS (ds.take (cut ds.length)) i ++ [rootS (ds.drop (cut ds.length))] := by
  obtain ⟨c0, c1, _⟩ := cut_spec ds.length h hm
  obtain ⟨f, hf⟩ : ∃ f, ds.length = f + 1 := ⟨ds.length - 1, by omega⟩
  unfold pathS
  conv => lhs; rw [hf, pathF, if_pos h, if_pos hi]
  rw [pathF_more f _ (ds.take _) i (by rw [List.length_take]; omega) (Nat.le_refl _) (by rw [List.length_take]; omega)]
theorem pathS_right (ds : List (List UInt8)) (i : Nat) (h : 2 ≤ ds.length) (hm : ds.length ≤ 2 ^ 62) (hi : ¬ i < cut ds.length) : pathS ds i = pathS (ds.drop (cut ds.length)) (i - cut ds.length) ++ [rootS (ds.take (cut ds.length))] := by
  obtain ⟨c0, c1, _⟩ := cut_spec ds.length h hm
  obtain ⟨f, hf⟩ : ∃ f, ds.length = f + 1 := ⟨ds.length - 1, by omega⟩
  unfold pathS
  conv => lhs; rw [hf, pathF, if_pos h, if_neg hi]
  rw [pathF_more f _ (ds.drop _) _ (by rw [List.length_drop]; omega) (Nat.le_refl _) (by rw [List.length_drop]; omega)]
theorem pathS_one (ds : List (List UInt8)) (i : Nat) (h : ds.length ≤ 1) : pathS ds i = [] := by
  unfold pathS
  cases hl : ds.length with
  | zero => rfl
  | succ n => rw [pathF, if_neg (by omega)]
theorem pathF_all : ∀ (f : Nat) (ds : List (List UInt8)) (i : Nat), All32 ds → All32 (pathF f ds i)
  | 0, _, _, _ => fun d hd => by cases hd
  | f + 1, ds, i, h => by
    rw [pathF]
    by_cases h2 : 2 ≤ ds.length
    · rw [if_pos h2]
      by_cases hi : i < cut ds.length
      · rw [if_pos hi]
        intro d hd
        rcases List.mem_append.1 hd with hd | hd
        · exact pathF_all f _ i (h.take _) d hd
        · obtain rfl := List.mem_singleton.1 hd; exact rootS_length _ (h.drop _)
      · rw [if_neg hi]
        intro d hd
        rcases List.mem_append.1 hd with hd | hd
        · exact pathF_all f _ _ (h.drop _) d hd
        · obtain rfl := List.mem_singleton.1 hd; exact rootS_length _ (h.take _)
    · rw [if_neg h2]; exact fun d hd => by cases hd
theorem pathS_all (ds : List (List UInt8)) (i : Nat) (h : All32 ds) : All32 (pathS ds i) := pathF_all _ ds i h
theorem pathF_length : ∀ (f : Nat) (ds : List (List UInt8)) (i : Nat), (pathF f ds i).length ≤ f
  | 0, _, _ => Nat.zero_le _
  | f + 1, ds, i => by
    rw [pathF]
    by_cases h2 : 2 ≤ ds.length
    · rw [if_pos h2]
      by_cases hi : i < cut ds.length
      · rw [if_pos hi, List.length_append]; exact Nat.succ_le_succ (pathF_length f _ i)
      · rw [if_neg hi, List.length_append]; exact Nat.succ_le_succ (pathF_length f _ _)
    · rw [if_neg h2]; exact Nat.zero_le _
theorem pathS_length (ds : List (List UInt8)) (i : Nat) : (pathS ds i).length ≤ ds.length := pathF_length _ ds i
end Go.Proofs.YtimnpakmifjgoaaDoor
