/-
  Texts of ours, put together: FeSpec, ShaSpec, ShaWd, Mem, FeLift, FeBase, FeAdd, Ord, FeOrd, OrdV, Ord4, Rnd, Sym, Ec, EcM, FeMul, FeRow, FeProd, FeOps, FeMul2, FeNum, FePow.
-/
import Derived.WalkKit
import Derived.KernelRfl
import Derived.WalkSpells
import Derived.WalkLawsBesides
import Derived.Below
import Derived.Laws.OwnMore
import Derived.Deep.Draws
import Derived.Deep.QuietTactic
import Derived.Deep.WholeRow
import Derived.Deep.OwnRows
import Derived.Laws.CopyOwn
import Derived.OwnWalk
import Derived.Deep.MidRow
import Derived.Lib.Hide
import Derived.Laws.Rows
import Derived.Test.YtneeefinaejgcaaRows
import Derived.Laws.IdiomArrays
import Derived.ProofKit
import Derived.OpenShut
import Derived.Deep.DeepHandedRow
import Derived.Lib.LaidTab
import Derived.Test.YtneeefinaejgcaaChecked
import Derived.Shelf.Spec.BitsCarry
import Derived.Lib.Mul64
import Derived.Laws.Bits64b
import Derived.Laws.ResultCell
import Derived.OrdersHeld
import Derived.Deep.RegionHeld3
import Derived.OrdersIn
import Derived.TacticsIn
import Derived.RangeFuncCalls
import Derived.ControlIn
import Derived.RangeFuncNested
import Derived.RangeFuncLeaves
import Derived.LoopNIn
import Derived.RegionTactic
import Derived.ChangeAlike
import Derived.BigRegion
import Derived.Stop.BytesEq
import Derived.Deep.Strs
import Derived.Deep.AppendLies
import Derived.Laws.AppendOwn
import Derived.Deep.DeepAppendRoom
import Derived.ArgAppend
import Derived.Laws.IdiomCopy
import Derived.Laws.MakeOwn
import Derived.Laws.IdiomStrings
set_option linter.unusedVariables false
set_option linter.unusedSimpArgs false
section
namespace Go.Proofs.Ytneeefinaejgcaa
open Go.RowKit

/-- a word -/
def qv (n : Nat) : Value := .int .u64 (n : Int)
/-- four words of a number -/
def fv (n : Nat) : Value := .agg #[qv (n % 18446744073709551616), qv (n / 18446744073709551616 % 18446744073709551616), qv (n / 340282366920938463463374607431768211456 % 18446744073709551616), qv (n / 6277101735386680763835789423207666416102355444464034512896 % 18446744073709551616)]
theorem fv_mk (a b c d : Nat) (ha : a < 18446744073709551616) (hb : b < 18446744073709551616) (hc : c < 18446744073709551616) (hd : d < 18446744073709551616) : Value.agg #[.int .u64 (a : Int), .int .u64 (b : Int), .int .u64 (c : Int), .int .u64 (d : Int)] = fv (a + 18446744073709551616 * b + 340282366920938463463374607431768211456 * c + 6277101735386680763835789423207666416102355444464034512896 * d) := by
  unfold fv qv
  have e0 : (a + 18446744073709551616 * b + 340282366920938463463374607431768211456 * c + 6277101735386680763835789423207666416102355444464034512896 * d) % 18446744073709551616 = a := by omega
  have e1 : (a + 18446744073709551616 * b + 340282366920938463463374607431768211456 * c + 6277101735386680763835789423207666416102355444464034512896 * d) / 18446744073709551616 % 18446744073709551616 = b := by omega
  have e2 : (a + 18446744073709551616 * b + 340282366920938463463374607431768211456 * c + 6277101735386680763835789423207666416102355444464034512896 * d) / 340282366920938463463374607431768211456 % 18446744073709551616 = c := by omega
  have e3 : (a + 18446744073709551616 * b + 340282366920938463463374607431768211456 * c + 6277101735386680763835789423207666416102355444464034512896 * d) / 6277101735386680763835789423207666416102355444464034512896 % 18446744073709551616 = d := by omega
  rw [e0, e1, e2, e3]
/-- .. and the words of a number, under names -/
theorem words_of (n : Nat) (hn : n < 115792089237316195423570985008687907853269984665640564039457584007913129639936) : ∃ a b c d : Nat, a < 18446744073709551616 ∧ b < 18446744073709551616 ∧ c < 18446744073709551616 ∧ d < 18446744073709551616 ∧ n = a + 18446744073709551616 * b + 340282366920938463463374607431768211456 * c + 6277101735386680763835789423207666416102355444464034512896 * d ∧ fv n = .agg #[.int .u64 (a : Int), .int .u64 (b : Int), .int .u64 (c : Int), .int .u64 (d : Int)] :=
  ⟨n % 18446744073709551616, n / 18446744073709551616 % 18446744073709551616, n / 340282366920938463463374607431768211456 % 18446744073709551616, n / 6277101735386680763835789423207666416102355444464034512896 % 18446744073709551616, by omega, by omega, by omega, by omega, by omega, rfl⟩
theorem fv_lt (a b c d : Nat) (ha : a < 18446744073709551616) (hb : b < 18446744073709551616) (hc : c < 18446744073709551616) (hd : d < 18446744073709551616) : a + 18446744073709551616 * b + 340282366920938463463374607431768211456 * c + 6277101735386680763835789423207666416102355444464034512896 * d < 115792089237316195423570985008687907853269984665640564039457584007913129639936 := by omega
/-- the modulus -/
def pM : Nat := 115792089237316195423570985008687907853269984665640564039457584007908834671663
theorem pM_eq : pM = 115792089237316195423570985008687907853269984665640564039457584007908834671663 := rfl
theorem mod_lt (n : Nat) : n % pM < 115792089237316195423570985008687907853269984665640564039457584007913129639936 := by have := Nat.mod_lt n (show 0 < pM by decide); rw [pM_eq] at this ⊢; omega
theorem mod_lt_p (n : Nat) : n % pM < pM := Nat.mod_lt n (by decide)
def addP (x y : Nat) : Nat := (x + y) % pM
def negP (x : Nat) : Nat := (pM - x % pM) % pM
def subP (x y : Nat) : Nat := (x + (pM - y % pM)) % pM
def mulP (x y : Nat) : Nat := x * y % pM
theorem negP_lt (x : Nat) : negP x < 115792089237316195423570985008687907853269984665640564039457584007913129639936 := mod_lt _
theorem mulP_lt (x y : Nat) : mulP x y < 115792089237316195423570985008687907853269984665640564039457584007913129639936 := mod_lt _

/-- what is p or more, and below 2^256, loses p once -/
theorem red_once (x : Nat) (hx : x < 115792089237316195423570985008687907853269984665640564039457584007913129639936) : x % pM = if x + 4294968273 < 115792089237316195423570985008687907853269984665640564039457584007913129639936 then x else x + 4294968273 - 115792089237316195423570985008687907853269984665640564039457584007913129639936 := by
  rw [pM_eq]
  by_cases h : x + 4294968273 < 115792089237316195423570985008687907853269984665640564039457584007913129639936
  · rw [if_pos h]; exact Nat.mod_eq_of_lt (by omega)
  · rw [if_neg h, Nat.mod_eq_sub_mod (by omega), Nat.mod_eq_of_lt (by omega)]
    omega
/-- a difference by a multiple of p does not count -/
theorem mod_of_mult {x z k : Nat} (h : z + 115792089237316195423570985008687907853269984665640564039457584007908834671663 * k = x) : z % pM = x % pM := by
  rw [← h, pM_eq, Nat.add_mul_mod_self_left]
theorem sub_words (x y : Nat) : subP x y = if y % pM ≤ x % pM then x % pM - y % pM else x % pM + 115792089237316195423570985008687907853269984665640564039457584007908834671663 - y % pM := by
  unfold subP
  have hx := mod_lt_p x
  have hy := mod_lt_p y
  rw [← Nat.mod_add_mod]
  generalize x % pM = a at *
  generalize y % pM = b at *
  rw [pM_eq] at *
  by_cases h : b ≤ a
  · rw [if_pos h, Nat.mod_eq_sub_mod (by omega), Nat.mod_eq_of_lt (by omega)]; omega
  · rw [if_neg h, Nat.mod_eq_of_lt (by omega)]; omega
theorem neg_sub (x : Nat) : negP x = subP 0 x := by unfold negP subP; rw [Nat.zero_add]

/-- a row of a product: four words by one -/
theorem row_mul (a b c d w : Nat) : (a + 18446744073709551616 * b + 340282366920938463463374607431768211456 * c + 6277101735386680763835789423207666416102355444464034512896 * d) * w = a * w + 18446744073709551616 * (b * w) + 340282366920938463463374607431768211456 * (c * w) + 6277101735386680763835789423207666416102355444464034512896 * (d * w) := by
  simp only [Nat.add_mul, Nat.mul_assoc]
theorem col_mul (x a b c d : Nat) : x * (a + 18446744073709551616 * b + 340282366920938463463374607431768211456 * c + 6277101735386680763835789423207666416102355444464034512896 * d) = x * a + 18446744073709551616 * (x * b) + 340282366920938463463374607431768211456 * (x * c) + 6277101735386680763835789423207666416102355444464034512896 * (x * d) := by
  rw [Nat.mul_comm, row_mul, Nat.mul_comm a, Nat.mul_comm b, Nat.mul_comm c, Nat.mul_comm d]
end Go.Proofs.Ytneeefinaejgcaa

end
section
namespace Go.Proofs.Ytneeefinaejgcaa.Sp

end Go.Proofs.Ytneeefinaejgcaa.Sp

end
section
namespace Go.Proofs.Ytneeefinaejgcaa
open Go.RowKit Sp

end Go.Proofs.Ytneeefinaejgcaa

end
section
namespace Go.Proofs.Ytneeefinaejgcaa
open Go.RowKit Sp

/-- block g is just the cells cs of element type t, none frozen -/
def Blk (w : World) (g : Nat) (t : TypeId) (cs : Array Value) : Prop := w.heap[g]? = some (.cells cs t (0, 0))

section
variable {w w' : World} {g : Nat} {t : TypeId} {cs : Array Value}
theorem Blk.lt (h : Blk w g t cs) : g < w.heap.size := by
  rcases Nat.lt_or_ge g w.heap.size with hlt | hge
  · exact hlt
  · unfold Blk at h; rw [Array.getElem?_eq_none hge] at h; cases h
theorem Blk.cell (h : Blk w g t cs) (i : Nat) : w.cell? ⟨g, i, none⟩ = cs[i]? := cell_of_row w g i cs t (0, 0) h
theorem Blk.frozen (h : Blk w g t cs) (i : Nat) : w.frozen? ⟨g, i, none⟩ = false := by
  unfold Blk at h
  simp [World.frozen?, h]
theorem Blk.new (w : World) (t : TypeId) (cs : Array Value) : Blk (w.alloc (.cells cs t)) w.heap.size t cs := heap_alloc_new w _
theorem Blk.drew (h : Blk w g t cs) : Blk w.drew g t cs := h
theorem Blk.alloc (h : Blk w g t cs) (o : Obj) : Blk (w.alloc o) g t cs := (Below.heap_alloc w o g h.lt).trans h
theorem Blk.set_ (h : Blk w g t cs) (i : Nat) (u : Value) : Blk (w.setCell ⟨g, i, none⟩ u) g t (cs.setIfInBounds i u) := by
  unfold Blk at h ⊢
  simp [World.setCell, Array.getElem?_modify, h]
theorem Blk.far (h : Blk w g t cs) {p : Addr} (hp : g ≠ p.block) (u : Value) : Blk (w.setCell p u) g t cs := (Below.heap_setCell w p u g hp).trans h
theorem Blk.below {B : Nat} (h : Blk w g t cs) (hb : Below B w w') (hg : g < B) : Blk w' g t cs := (hb.block g hg).trans h
theorem Blk.grown {row : Option Nat} (h : Blk w g t cs) (hb : w.grownBy w' row) (hg : some g ≠ row) : Blk w' g t cs := (hb.block g h.lt hg).trans h
theorem Blk.setRow (h : Blk w g t cs) (cs' : Array Value) : Blk (w.setRow g cs') g t cs' := by
  unfold Blk at h ⊢
  simp [World.setRow, Array.getElem?_modify, h]
theorem heap_setRow_far (w : World) (g k : Nat) (cs : Array Value) (h : k ≠ g) : (w.setRow g cs).heap[k]? = w.heap[k]? := by
  simp only [World.setRow, Array.getElem?_modify]
  rw [if_neg (by omega)]
theorem Blk.setRow_far (h : Blk w g t cs) {k : Nat} (hk : g ≠ k) (cs' : Array Value) : Blk (w.setRow k cs') g t cs := (heap_setRow_far w k g cs' hk).trans h
theorem below_setRow {B : Nat} {a w : World} (h : Below B a w) {g : Nat} (hg : B ≤ g) (cs : Array Value) : Below B a (w.setRow g cs) :=
  h.trans ⟨rfl, rfl, rfl, by simp, fun k hk => heap_setRow_far w g k cs (by omega)⟩
theorem only_setCell {a w : World} {g : Nat} (h : a.grownBy w (some g)) {p : Addr} (hp : p.block = g ∨ a.heap.size ≤ p.block) (u : Value) : a.grownBy (w.setCell p u) (some g) :=
  ⟨h.os, h.tape, h.output, by simpa [World.setCell] using h.size, fun i hi hne => (Below.heap_setCell w p u i (by
    rintro rfl
    rcases hp with hp | hp
    · exact hne (by rw [hp])
    · omega)).trans (h.block i hi hne)⟩
theorem only_setCells {a : World} {g : Nat} : ∀ (vs : List Value) (o : Nat) (w : World), a.grownBy w (some g) → a.grownBy (w.setCells g o vs) (some g)
  | [], _, _, h => h
  | v :: r, o, w, h => by
    rw [World.setCells]
    exact only_setCells r (o + 1) _ (only_setCell h (.inl rfl) v)
/-- below a number under which the block does not lie, nothing has turned -/
theorem below_of_only {B g : Nat} {a w : World} (h : a.grownBy w (some g)) (hB : B ≤ a.heap.size) (hg : B ≤ g) : Below B a w :=
  ⟨h.os, h.tape, h.output, h.size, fun k hk => h.block k (by omega) (fun e => by injection e; omega)⟩
def setAll (cs : Array Value) (o : Nat) : List Value → Array Value
  | [] => cs
  | v :: r => setAll (cs.setIfInBounds o v) (o + 1) r
theorem Blk.setCells {g : Nat} {t : TypeId} : ∀ (vs : List Value) (o : Nat) (w : World) (cs : Array Value), Blk w g t cs → Blk (w.setCells g o vs) g t (setAll cs o vs)
  | [], _, _, _, h => h
  | v :: r, o, w, cs, h => by
    rw [World.setCells]
    exact Blk.setCells r (o + 1) _ _ (h.set_ o v)
theorem Blk.there {w : World} {g : Nat} {t : TypeId} {cs : Array Value} (h : Blk w g t cs) (o n : Nat) (hn : o + n ≤ cs.size) : w.there g o n := fun j hj =>
  ⟨by rw [h.cell]; simp; omega, h.frozen _⟩
theorem Blk.eq_ {cs' : Array Value} (h : Blk w g t cs) (e : cs = cs') : Blk w g t cs' := e ▸ h
end

/-- a byte as the program's number -/
def bv (x : UInt8) : Value := .int .u8 (x.toNat : Int)

end Go.Proofs.Ytneeefinaejgcaa

end
section
namespace Go.Proofs.Ytneeefinaejgcaa
open Go.ChangeShapes Go.WideShapes Go.ChangeAt Go.RowKit

section
variable {H : Type} {enc : TypeId × Value → H} {P : Program}

theorem trodAll_stays (hl : laidOutB P = true) {W W' : World} (hb : Below W.heap.size W W') : ∀ (ts : List TypeId) (vs : List Value) (ds : List (DataW H)) (ps : List MemPlace),
    (∀ t ∈ ts, P.readableRec t = true ∧ t < P.types.size) → DataW.TrodAll enc P W 0 (fun _ => true) true ts vs ds ps → (∀ p ∈ ps, p.block < W.heap.size) →
    ∀ sp : Nat → Bool, (∀ p ∈ ps, sp p.block = true) → DataW.TrodAll enc P W' 0 sp true ts vs ds ps
  | [], vs, ds, ps, _, h, _, _, _ => by
    obtain ⟨rfl, rfl, rfl⟩ := trodAll_nil h
    exact trodAll_mk0
  | t :: ts, vs, ds, ps, hr, h, hlt, sp, hs => by
    obtain ⟨v, vs', d, ds', p, q, rfl, rfl, rfl, h0, h1⟩ := trodAll_cons h
    have hr0 := hr t (by simp)
    exact trodAll_cons_mk (WideElems.Trod_stays hl hr0.1 hr0.2 h0 (fun x hx => hb.same (hlt x (by simp [hx]))) (fun x hx => hs x (by simp [hx])))
      (trodAll_stays hl hb ts vs' ds' q (fun t ht => hr t (by simp [ht])) h1 (fun x hx => hlt x (by simp [hx])) sp (fun x hx => hs x (by simp [hx])))

theorem law_post {f : Func} {s : ChangeSpec} {apart fresh handsOn again : Bool} {W W' : World} {args : Array Value} {ds gs : List (DataW H)} {before : List MemPlace} {tb : TypeId}
    (hl : laidOutB P = true) (hr : ∀ t ∈ f.params.toList, P.readableRec t = true ∧ t < P.types.size)
    (hW : DataW.Whole enc P f.params.toList s.vars apart W args.toList ds gs before) (hv : s.vars = []) (hrt : f.resultTypes = #[tb]) (htb : P.underlying tb = some .bool)
    (hres : (s.fn H (ds ++ gs)).results = [.lit (.bool true)]) (hargs : (s.fn H (ds ++ gs)).args = ds) (hvars : (s.fn H (ds ++ gs)).vars = [])
    (hb : Below W.heap.size W W') : s.post enc P f apart fresh handsOn again W args (.bool true) W' := by
  have hlt : ∀ p ∈ before, p.block < W.heap.size := fun p hp => hW.lt p hp
  have hW' := hW
  obtain ⟨p, q, hA, hV, rfl, hz, hn⟩ := hW
  rw [hv] at hV
  obtain ⟨rfl, rfl⟩ := trodVars_none hV
  have hltp : ∀ x ∈ p, x.block < W.heap.size := fun x hx => hlt x (by simp [hx])
  have ha := trodAll_stays hl hb f.params.toList args.toList ds p hr hA hltp
  have hrs : ∀ (b : Nat) (sp : Nat → Bool) (hd : Bool), DataW.TrodAll enc P W' b sp hd f.resultTypes.toList ((Value.bool true).resultList f.resultTypes.size) (s.fn H (ds ++ [])).results [] := by
    intro b sp hd
    rw [hres, hrt]
    exact trodAll_mk1 (shut_bool htb true)
  have hvs : ∀ sp : Nat → Bool, DataW.TrodVars enc P W' sp s.vars (s.fn H (ds ++ [])).vars [] := by
    intro sp
    rw [hvars, hv]
    rfl
  have hold : ∀ x ∈ p, (fun b => decide (b < W.heap.size)) x.block = true := fun x hx => by simpa using hltp x hx
  refine ⟨ds, [], p ++ [], [], p, [], hW', hrs _ _ _, by rw [hargs]; exact ha _ hold, hvs _, World.keptBut_mono (fun x hx => ⟨hx, ?_⟩) (hb.frame (· ∈ p ++ [])), fun _ => ?_⟩
  · exact Or.inr (Or.inl (by simpa using hx))
  · refine ⟨?_, (s.fn H (ds ++ [])).results ++ ds, [], ([] ++ p) ++ [], ⟨[] ++ p, [], trodAll_append (ha _ (fun _ _ => rfl)) (hrs _ _ _), by rw [hv]; rfl, rfl, ?_, ?_⟩, ?_⟩
    · rw [hrt]
      intro j t r hj hv'
      match j, hj, hv' with
      | 0, hj, hv' =>
        simp [Value.resultList] at hj hv'
        subst hj; subst hv'
        exact okWide_bool_mk htb true
    · intro b off hp
      have hin : MemPlace.cell b off ∈ p ++ [] := by simpa using hp
      rw [hb.frozen (hlt _ hin)]
      exact hz b off hin
    · intro ha'
      have := hn ha'
      simpa using this
    · intro x hx _
      simpa using hx

end

theorem u64_wf {n : Int} (h : (Lit.int .u64 n).wf = true) : ∃ m : Nat, n = (m : Int) ∧ m < 18446744073709551616 := by
  have hz : 0 ≤ n ∧ n < 18446744073709551616 := by
    simp [Lit.wf, IntKind.bits, IntKind.signed, IntKind.min, IntKind.max] at h
    omega
  exact ⟨n.toNat, by omega, by omega⟩
end Go.Proofs.Ytneeefinaejgcaa

end
section
namespace Go.Proofs.Ytneeefinaejgcaa
open Go.RowKit Go.Lib

theorem run_addc (x y c : Nat) (hc : c ≤ 1) (w : World) :
    (callFunc 92 #[.int .u64 x, .int .u64 y, .int .u64 c]).run Try.prog w =
      .ok (.value (.tuple #[.int .u64 (((x + y + c) % 18446744073709551616 : Nat) : Int), .int .u64 (((x + y + c) / 18446744073709551616 : Nat) : Int)])) w := by
  rw [run_callFunc_extern Try.func92 (by kernel_rfl) (by kernel_rfl) (by kernel_rfl) (e := add64Entry) (by kernel_rfl), run_add64 x y c (by omega) (by omega) (by omega) (by omega)]
  simp only [Result.andThen]
  congr 5 <;> omega
theorem run_subc (x y b : Nat) (hb : b ≤ 1) (w : World) :
    (callFunc 95 #[.int .u64 x, .int .u64 y, .int .u64 b]).run Try.prog w =
      .ok (.value (.tuple #[.int .u64 (((x + 18446744073709551616 - y - b) % 18446744073709551616 : Nat) : Int), .int .u64 ((if x < y + b then 1 else 0 : Nat) : Int)])) w := by
  rw [run_callFunc_extern Try.func95 (by kernel_rfl) (by kernel_rfl) (by kernel_rfl) (e := sub64Entry) (by kernel_rfl), run_sub64 x y b hb]
  rfl

/-- the same, the carry under a name -/
theorem run_add0 (x y : Nat) (w : World) :
    (callFunc 92 #[.int .u64 x, .int .u64 y, .int .u64 0]).run Try.prog w =
      .ok (.value (.tuple #[.int .u64 (((x + y) % 18446744073709551616 : Nat) : Int), .int .u64 (((x + y) / 18446744073709551616 : Nat) : Int)])) w := run_addc x y 0 (by omega) w
theorem run_sub0 (x y : Nat) (w : World) :
    (callFunc 95 #[.int .u64 x, .int .u64 y, .int .u64 0]).run Try.prog w =
      .ok (.value (.tuple #[.int .u64 (((x + 18446744073709551616 - y) % 18446744073709551616 : Nat) : Int), .int .u64 ((if x < y then 1 else 0 : Nat) : Int)])) w := run_subc x y 0 (by omega) w

theorem addc_ex (x y c : Nat) (hx : x < 18446744073709551616) (hy : y < 18446744073709551616) (hc : c ≤ 1) : ∃ s k : Nat, s < 18446744073709551616 ∧ k ≤ 1 ∧ s + 18446744073709551616 * k = x + y + c ∧ ∀ w, (callFunc 92 #[.int .u64 x, .int .u64 y, .int .u64 c]).run Try.prog w = .ok (.value (.tuple #[.int .u64 (s : Int), .int .u64 (k : Int)])) w :=
  ⟨_, _, by omega, by omega, by omega, run_addc x y c hc⟩
theorem subc_ex (x y c : Nat) (hx : x < 18446744073709551616) (hy : y < 18446744073709551616) (hc : c ≤ 1) : ∃ s k : Nat, s < 18446744073709551616 ∧ k ≤ 1 ∧ s + y + c = x + 18446744073709551616 * k ∧ ∀ w, (callFunc 95 #[.int .u64 x, .int .u64 y, .int .u64 c]).run Try.prog w = .ok (.value (.tuple #[.int .u64 (s : Int), .int .u64 (k : Int)])) w :=
  ⟨_, _, by omega, by split <;> omega, by split <;> omega, run_subc x y c hc⟩

theorem add0_ex (x y : Nat) (hx : x < 18446744073709551616) (hy : y < 18446744073709551616) : ∃ s k : Nat, s < 18446744073709551616 ∧ k ≤ 1 ∧ s + 18446744073709551616 * k = x + y ∧ ∀ w, (callFunc 92 #[.int .u64 x, .int .u64 y, .int .u64 0]).run Try.prog w = .ok (.value (.tuple #[.int .u64 (s : Int), .int .u64 (k : Int)])) w :=
  ⟨_, _, by omega, by omega, by omega, run_add0 x y⟩
theorem sub0_ex (x y : Nat) (hx : x < 18446744073709551616) (hy : y < 18446744073709551616) : ∃ s k : Nat, s < 18446744073709551616 ∧ k ≤ 1 ∧ s + y = x + 18446744073709551616 * k ∧ ∀ w, (callFunc 95 #[.int .u64 x, .int .u64 y, .int .u64 0]).run Try.prog w = .ok (.value (.tuple #[.int .u64 (s : Int), .int .u64 (k : Int)])) w :=
  ⟨_, _, by omega, by split <;> omega, by split <;> omega, run_sub0 x y⟩

theorem below_alloc2 (w : World) (o o' : Obj) : Below w.heap.size w ((w.alloc o).alloc o') := ((Below.refl _ _).alloc (Nat.le_refl _) _).alloc (by simp) _
theorem below_alloc3 (w : World) (o o' o'' : Obj) : Below w.heap.size w (((w.alloc o).alloc o').alloc o'') := (below_alloc2 w o o').alloc (by simp; omega) _
theorem blk_new2 (w : World) (o : Obj) (t : TypeId) (cs : Array Value) : Blk ((w.alloc o).alloc (.cells cs t)) (w.heap.size + 1) t cs := heap_alloc2_new w _ _
theorem blk_new3 (w : World) (o o' : Obj) (t : TypeId) (cs : Array Value) : Blk (((w.alloc o).alloc o').alloc (.cells cs t)) (w.heap.size + 2) t cs := by
  have h := Blk.new ((w.alloc o).alloc o') t cs
  have e : ((w.alloc o).alloc o').heap.size = w.heap.size + 2 := by simp
  rwa [e] at h
theorem heap_new3 (w : World) (o o' o'' : Obj) : (((w.alloc o).alloc o').alloc o'').heap[w.heap.size + 1 + 1]? = some o'' := by
  have h := heap_alloc_new ((w.alloc o).alloc o') o''
  have e : ((w.alloc o).alloc o').heap.size = w.heap.size + 1 + 1 := by simp
  rwa [e] at h
theorem blk_new4 (w : World) (o o' o'' : Obj) (t : TypeId) (cs : Array Value) : Blk ((((w.alloc o).alloc o').alloc o'').alloc (.cells cs t)) (w.heap.size + 3) t cs := by
  have h := Blk.new (((w.alloc o).alloc o').alloc o'') t cs
  have e : (((w.alloc o).alloc o').alloc o'').heap.size = w.heap.size + 3 := by simp
  rwa [e] at h

section
variable {P : Program} {ops : Array Oper} {Q : Exit → Act → World → Prop} {rest : List Oper} {a : Act} {w : World} {d : Option Tmp} {t : TypeId} {p : String} {af : Array Edge} {g : Option (Nat × Bool)}
theorem here_load {ty : TypeId} {x : Operand} (h : wpList P ops Q (⟨d, .load ty x, t, p, af, g⟩ :: rest) a w) : wpList P ops Q (⟨d, .load ty x, t, p, af, g⟩ :: rest) a w := h
theorem here_store {ty : TypeId} {x y : Operand} (h : wpList P ops Q (⟨d, .store ty x y, t, p, af, g⟩ :: rest) a w) : wpList P ops Q (⟨d, .store ty x y, t, p, af, g⟩ :: rest) a w := h
end

/-- results: an array or struct in a variable, and a word; two of the first kind -/
theorem res_cell_tmp {P : Program} {fn : Func} {p u : Tmp} {ty : TypeId} (h : fn.results = #[.cell p ty, .tmp u]) (tmps : Array Value) (w : World) (g : Nat) (t : TypeId) (cs : Array Value) (v : Value) (d : TypeDesc)
    (hp : tmps.getD p undef = .pointer (some ⟨g, 0, none⟩)) (hg : Blk w g t cs) (hv : tmps.getD u undef = v)
    (hu : P.underlying ty = some d) (hd : (match d with | .struct _ | .array _ _ => true | _ => false) = true) (hi : (P.info? ty).map (·.size) = some cs.size) :
    (results fn tmps).run P w = .ok (.tuple #[.agg cs, v]) w := by
  rw [results_cell_tmp h, hp, hv]
  simp [asAddr, run_loadVar_row w g t ty cs (0, 0) d hg hu hd hi]
theorem res_tmp_cell {P : Program} {fn : Func} {p u : Tmp} {ty : TypeId} (h : fn.results = #[.tmp u, .cell p ty]) (tmps : Array Value) (w : World) (g : Nat) (t : TypeId) (cs : Array Value) (v : Value) (d : TypeDesc)
    (hp : tmps.getD p undef = .pointer (some ⟨g, 0, none⟩)) (hg : Blk w g t cs) (hv : tmps.getD u undef = v)
    (hu : P.underlying ty = some d) (hd : (match d with | .struct _ | .array _ _ => true | _ => false) = true) (hi : (P.info? ty).map (·.size) = some cs.size) :
    (results fn tmps).run P w = .ok (.tuple #[v, .agg cs]) w := by
  have hp' : tmps[p]?.getD undef = .pointer (some ⟨g, 0, none⟩) := by simpa using hp
  have hv' : tmps[u]?.getD undef = v := by simpa using hv
  simp [results, h, hp', hv', asAddr, run_loadVar_row w g t ty cs (0, 0) d hg hu hd hi, Result.andThen]
theorem res_two_cells {P : Program} {fn : Func} {p q : Tmp} {ty ty2 : TypeId} (h : fn.results = #[.cell p ty, .cell q ty2]) (tmps : Array Value) (w : World) (g g2 : Nat) (t t2 : TypeId) (cs cs2 : Array Value) (d d2 : TypeDesc)
    (hp : tmps.getD p undef = .pointer (some ⟨g, 0, none⟩)) (hg : Blk w g t cs) (hq : tmps.getD q undef = .pointer (some ⟨g2, 0, none⟩)) (hg2 : Blk w g2 t2 cs2)
    (hu : P.underlying ty = some d) (hd : (match d with | .struct _ | .array _ _ => true | _ => false) = true) (hi : (P.info? ty).map (·.size) = some cs.size)
    (hu2 : P.underlying ty2 = some d2) (hd2 : (match d2 with | .struct _ | .array _ _ => true | _ => false) = true) (hi2 : (P.info? ty2).map (·.size) = some cs2.size) :
    (results fn tmps).run P w = .ok (.tuple #[.agg cs, .agg cs2]) w := by
  have hp' : tmps[p]?.getD undef = .pointer (some ⟨g, 0, none⟩) := by simpa using hp
  have hq' : tmps[q]?.getD undef = .pointer (some ⟨g2, 0, none⟩) := by simpa using hq
  simp [results, h, hp', hq', asAddr, run_loadVar_row w g t ty cs (0, 0) d hg hu hd hi, run_loadVar_row w g2 t2 ty2 cs2 (0, 0) d2 hg2 hu2 hd2 hi2, Result.andThen]

theorem split_any (w : World) (n : Nat) : Calls Try.prog 71 #[fv n] w fun e w' => e = .returned (fv n) ∧ Below w.heap.size w w' := by
  unfold fv qv
  go_enter Try.func71, Try.ntmps71
  go_wp2
  exact bodyPost_ret (results_cell_row rfl _ _ (w.heap.size + 1) _ _ (0, 0) _ rfl (heap_alloc2_new w _ _) Try.underlying94 rfl (by kernel_rfl)) rfl ⟨rfl, below_alloc2 w _ _⟩
theorem number_any (w : World) (n : Nat) : Calls Try.prog 69 #[fv n] w fun e w' => e = .returned (fv n) ∧ Below w.heap.size w w' := by
  unfold fv qv
  go_enter Try.func69, Try.ntmps69
  go_wp2
  exact bodyPost_ret (results_cell_row rfl _ _ (w.heap.size + 1) _ _ (0, 0) _ rfl (heap_alloc2_new w _ _) Try.underlying25 rfl (by kernel_rfl)) rfl ⟨rfl, below_alloc2 w _ _⟩

set_option maxHeartbeats 1000000 in
theorem plus_any (w : World) (x y : Nat) (hx : x < 115792089237316195423570985008687907853269984665640564039457584007913129639936) (hy : y < 115792089237316195423570985008687907853269984665640564039457584007913129639936) : Calls Try.prog 97 #[fv x, fv y] w fun e w' => (∃ s k : Nat, s < 115792089237316195423570985008687907853269984665640564039457584007913129639936 ∧ k ≤ 1 ∧ s + 115792089237316195423570985008687907853269984665640564039457584007913129639936 * k = x + y ∧ e = .returned (.tuple #[fv s, .int .u64 (k : Int)])) ∧ Below w.heap.size w w' := by
  obtain ⟨x0, x1, x2, x3, a0, a1, a2, a3, ex, fx⟩ := words_of x hx
  obtain ⟨y0, y1, y2, y3, b0, b1, b2, b3, ey, fy⟩ := words_of y hy
  rw [fx, fy]
  obtain ⟨s0, c0, d0, k0, e0, r0⟩ := add0_ex x0 y0 a0 b0
  obtain ⟨s1, c1, d1, k1, e1, r1⟩ := addc_ex x1 y1 c0 a1 b1 k0
  obtain ⟨s2, c2, d2, k2, e2, r2⟩ := addc_ex x2 y2 c1 a2 b2 k1
  obtain ⟨s3, c3, d3, k3, e3, r3⟩ := addc_ex x3 y3 c2 a3 b3 k2
  have fin : s0 + 18446744073709551616 * s1 + 340282366920938463463374607431768211456 * s2 + 6277101735386680763835789423207666416102355444464034512896 * s3 + 115792089237316195423570985008687907853269984665640564039457584007913129639936 * c3 = x + y := by omega
  have hs := Lib.hid (fv_mk s0 s1 s2 s3 d0 d1 d2 d3)
  have hlt := fv_lt s0 s1 s2 s3 d0 d1 d2 d3
  clear ex ey fx fy e0 e1 e2 e3 a0 a1 a2 a3 b0 b1 b2 b3
  go_enter Try.func97, Try.ntmps97
  go_wp2_with (first | (simp only [r0, r1, r2, r3]) | (with_reducible refine here_load (d := some 45) ?_; refine wpList_load_row rfl _ _ rfl (w.heap.size + 1 + 1) rfl _ _ (0, 0) _ (heap_new3 w _ _ _) Try.underlying94 rfl (by kernel_rfl) ?_))
  exact bodyPost_ret (res_cell_tmp rfl _ _ (w.heap.size + 2) _ _ _ _ rfl (blk_new3 w _ _ _ _) rfl Try.underlying94 rfl (by kernel_rfl)) rfl ⟨⟨_, c3, hlt, k3, fin, by rw [← hs.out]; rfl⟩, below_alloc3 w _ _ _⟩

set_option maxHeartbeats 1000000 in
theorem minus_any (w : World) (x y : Nat) (hx : x < 115792089237316195423570985008687907853269984665640564039457584007913129639936) (hy : y < 115792089237316195423570985008687907853269984665640564039457584007913129639936) : Calls Try.prog 94 #[fv x, fv y] w fun e w' => (∃ s k : Nat, s < 115792089237316195423570985008687907853269984665640564039457584007913129639936 ∧ k ≤ 1 ∧ s + y = x + 115792089237316195423570985008687907853269984665640564039457584007913129639936 * k ∧ e = .returned (.tuple #[fv s, .int .u64 (k : Int)])) ∧ Below w.heap.size w w' := by
  obtain ⟨x0, x1, x2, x3, a0, a1, a2, a3, ex, fx⟩ := words_of x hx
  obtain ⟨y0, y1, y2, y3, b0, b1, b2, b3, ey, fy⟩ := words_of y hy
  rw [fx, fy]
  obtain ⟨s0, c0, d0, k0, e0, r0⟩ := sub0_ex x0 y0 a0 b0
  obtain ⟨s1, c1, d1, k1, e1, r1⟩ := subc_ex x1 y1 c0 a1 b1 k0
  obtain ⟨s2, c2, d2, k2, e2, r2⟩ := subc_ex x2 y2 c1 a2 b2 k1
  obtain ⟨s3, c3, d3, k3, e3, r3⟩ := subc_ex x3 y3 c2 a3 b3 k2
  have fin : s0 + 18446744073709551616 * s1 + 340282366920938463463374607431768211456 * s2 + 6277101735386680763835789423207666416102355444464034512896 * s3 + y = x + 115792089237316195423570985008687907853269984665640564039457584007913129639936 * c3 := by omega
  have hs := Lib.hid (fv_mk s0 s1 s2 s3 d0 d1 d2 d3)
  have hlt := fv_lt s0 s1 s2 s3 d0 d1 d2 d3
  clear ex ey fx fy e0 e1 e2 e3 a0 a1 a2 a3 b0 b1 b2 b3
  go_enter Try.func94, Try.ntmps94
  go_wp2_with (first | (simp only [r0, r1, r2, r3]) | (with_reducible refine here_load (d := some 45) ?_; refine wpList_load_row rfl _ _ rfl (w.heap.size + 1 + 1) rfl _ _ (0, 0) _ (heap_new3 w _ _ _) Try.underlying94 rfl (by kernel_rfl) ?_))
  exact bodyPost_ret (res_cell_tmp rfl _ _ (w.heap.size + 2) _ _ _ _ rfl (blk_new3 w _ _ _ _) rfl Try.underlying94 rfl (by kernel_rfl)) rfl ⟨⟨_, c3, hlt, k3, fin, by rw [← hs.out]; rfl⟩, below_alloc3 w _ _ _⟩
end Go.Proofs.Ytneeefinaejgcaa

end
section
namespace Go.Proofs.Ytneeefinaejgcaa
open Go.RowKit Go.Lib

/-- a whole array or struct into a block of the call's own: of the world behind it these facts -/
theorem wpList_store_blk {P : Program} {ops : Array Oper} {rest : List Oper} {o : Oper} {a : Act} {w1 : World} {Q : Exit → Act → World → Prop} (hgd : o.guard = none) (ty : TypeId) (x y : Operand) (ho : o.op = .store ty x y)
    (g : Nat) (cells : Array Value) (hx : a.eval x = .pointer (some ⟨g, 0, none⟩)) (hy : a.eval y = .agg cells) (t : TypeId) (c : Array Value) (hg : Blk w1 g t c)
    (hi : (P.info? ty).map (·.size) = some cells.size) (hold : c.size = cells.size) (h1 : cells.all (·.oneCell') = true)
    (h : ∀ w2, Blk w2 g t cells → (∀ B, B ≤ g → Below B w1 w2) → (∀ k, k ≠ g → ∀ t' cs', Blk w1 k t' cs' → Blk w2 k t' cs') → wpList P ops Q rest (a.put o.dst undef) w2) : wpList P ops Q (o :: rest) a w1 :=
  wpList_store_row hgd ty x y ho g cells hx hy t c hg hi hold h1
    (h _ (hg.setRow cells) (fun _ hB => below_setRow (Below.refl _ _) hB _) (fun _ hk _ _ hb => hb.setRow_far hk _))

theorem wpList_load_blk {P : Program} {ops : Array Oper} {rest : List Oper} {o : Oper} {a : Act} {w : World} {Q : Exit → Act → World → Prop} (hgd : o.guard = none) (ty : TypeId) (x : Operand) (ho : o.op = .load ty x)
    (g : Nat) (hx : a.eval x = .pointer (some ⟨g, 0, none⟩)) (t : TypeId) (cs : Array Value) (d : TypeDesc) (hg : Blk w g t cs)
    (hu : P.underlying ty = some d) (hd : (match d with | .struct _ | .array _ _ => true | _ => false) = true) (hi : (P.info? ty).map (·.size) = some cs.size)
    (h : wpList P ops Q rest (a.put o.dst (.agg cs)) w) : wpList P ops Q (o :: rest) a w :=
  wpList_load_row hgd ty x ho g hx t cs (0, 0) d hg hu hd hi h

theorem Blk.set0 {w : World} {g : Nat} {t : TypeId} {a b c d : Value} (h : Blk w g t #[a, b, c, d]) (u : Value) : Blk (w.setCell ⟨g, 0, none⟩ u) g t #[u, b, c, d] := h.set_ 0 u
theorem fv_G : fv 4294968273 = .agg #[.int .u64 4294968273, .int .u64 0, .int .u64 0, .int .u64 0] := rfl
theorem fv_0 : fv 0 = .agg #[.int .u64 0, .int .u64 0, .int .u64 0, .int .u64 0] := rfl

set_option maxHeartbeats 1000000 in
theorem reduce_any (w : World) (x : Nat) (hx : x < 115792089237316195423570985008687907853269984665640564039457584007913129639936) : Calls Try.prog 70 #[fv x] w fun e w' => e = .returned (fv (x % pM)) ∧ Below w.heap.size w w' := by
  obtain ⟨x0, x1, x2, x3, a0, a1, a2, a3, ex, fx⟩ := words_of x hx
  have hp := fun w => plus_any w x 4294968273 hx (by decide)
  simp only [fx, fv_G] at hp
  have FX := Lib.hid fx
  have hred := Lib.hid (red_once x hx)
  rw [fx]
  clear ex fx a0 a1 a2 a3
  go_enter Try.func70, Try.ntmps70
  go_wp2_with fail
  refine (hp _).mono ?_
  rintro e w1 ⟨⟨s, k, hs, hk, he, rfl⟩, hb⟩
  have hX : Blk w1 w.heap.size 94 _ := (Blk.alloc (Blk.new w _ _) _).below hb (by simp <;> omega)
  have hR : Blk w1 (w.heap.size + 1) 94 _ := (blk_new2 w _ _ _).below hb (by simp <;> omega)
  have hB : Below w.heap.size w w1 := (below_alloc2 w _ _).trans (hb.mono (by simp <;> omega))
  have hsz : w.heap.size + 2 ≤ w1.heap.size := by have := hb.size; simp at this; omega
  obtain ⟨s0, s1, s2, s3, b0, b1, b2, b3, es, fs⟩ := words_of s hs
  have Fd := Lib.hid fs
  have HE := Lib.hid he
  rw [fs]
  clear es fs he hb hp
  rcases (show k = 0 ∨ k = 1 by omega) with rfl | rfl
  · go_wp2_with (first | ((with_reducible refine here_load (d := some 13) ?_); refine wpList_load_blk rfl _ _ rfl (w.heap.size) rfl _ _ _ (hX.alloc _) Try.underlying94 rfl (by kernel_rfl) ?_) | ((with_reducible refine here_store ?_); refine wpList_store_blk rfl _ _ _ rfl (w.heap.size + 1) _ rfl rfl _ _ (hR.alloc _) (by kernel_rfl) (by rfl) (by simp [Value.oneCell']) ?_; intro w2 hL hB2 hK2))
    exact bodyPost_ret (results_cell_row rfl _ _ (w.heap.size + 1) _ _ (0, 0) _ rfl hL Try.underlying94 rfl (by kernel_rfl)) rfl ⟨by rw [hred.out, if_pos (by have := HE.out; omega), FX.out], (hB.alloc (by omega) _).trans (hB2 _ (by omega))⟩
  · go_wp2_with (first | ((with_reducible refine here_load (d := some 14) ?_); refine wpList_load_blk rfl _ _ rfl (w1.heap.size) rfl _ _ _ (Blk.new w1 _ _) Try.underlying94 rfl (by kernel_rfl) ?_) | ((with_reducible refine here_store ?_); refine wpList_store_blk rfl _ _ _ rfl (w.heap.size + 1) _ rfl rfl _ _ (hR.alloc _) (by kernel_rfl) (by rfl) (by simp [Value.oneCell']) ?_; intro w2 hL hB2 hK2))
    exact bodyPost_ret (results_cell_row rfl _ _ (w.heap.size + 1) _ _ (0, 0) _ rfl hL Try.underlying94 rfl (by kernel_rfl)) rfl ⟨by rw [hred.out, if_neg (by have := HE.out; omega), show x + 4294968273 - 115792089237316195423570985008687907853269984665640564039457584007913129639936 = s by have := HE.out; omega, Fd.out], (hB.alloc (by omega) _).trans (hB2 _ (by omega))⟩

/-- 0 or 1 times what p lacks -/
theorem fv_kG (k : Nat) (hk : k ≤ 1) : Value.agg #[.int .u64 ((k : Int) * 4294968273), .int .u64 0, .int .u64 0, .int .u64 0] = fv (k * 4294968273) := by
  rcases (show k = 0 ∨ k = 1 by omega) with rfl | rfl <;> rfl

set_option maxHeartbeats 1000000 in
theorem add_any (w : World) (x y : Nat) (hx : x < 115792089237316195423570985008687907853269984665640564039457584007913129639936) (hy : y < 115792089237316195423570985008687907853269984665640564039457584007913129639936) : Calls Try.prog 75 #[fv x, fv y] w fun e w' => (∃ z s k u j : Nat, s < 115792089237316195423570985008687907853269984665640564039457584007913129639936 ∧ s + 115792089237316195423570985008687907853269984665640564039457584007913129639936 * k = x + y ∧ u < 115792089237316195423570985008687907853269984665640564039457584007913129639936 ∧ u + 115792089237316195423570985008687907853269984665640564039457584007913129639936 * j = s + k * 4294968273 ∧ z = u + j * 4294968273 ∧ e = .returned (fv z)) ∧ Below w.heap.size w w' := by
  obtain ⟨x0, x1, x2, x3, a0, a1, a2, a3, ex, fx⟩ := words_of x hx
  obtain ⟨y0, y1, y2, y3, b0, b1, b2, b3, ey, fy⟩ := words_of y hy
  have hp := fun w => plus_any w x y hx hy
  simp only [fx, fy] at hp
  rw [fx, fy]
  clear ex fx a0 a1 a2 a3 ey fy b0 b1 b2 b3 hx hy
  go_enter Try.func75, Try.ntmps75
  go_wp2_with fail
  refine (hp _).mono ?_
  rintro e w1 ⟨⟨s, k, hs, hk, he, rfl⟩, hb⟩
  have hR : Blk w1 (w.heap.size + 2) 94 _ := (blk_new3 w _ _ _ _).below hb (by simp <;> omega)
  have hB : Below w.heap.size w w1 := (below_alloc3 w _ _ _).trans (hb.mono (by simp <;> omega))
  have hsz : w.heap.size + 3 ≤ w1.heap.size := by have := hb.size; simp at this; omega
  obtain ⟨s0, s1, s2, s3, c0, c1, c2, c3, es, fs⟩ := words_of s hs
  have HE := Lib.hid he
  have HS := Lib.hid hs
  have hq := fun w => plus_any w s (k * 4294968273) hs (by omega)
  simp only [fs, ← fv_kG k hk] at hq
  rw [fs]
  clear es fs he hb hp c0 c1 c2 c3 hs
  go_wp2_with fail
  refine (hq _).mono ?_
  rintro e w2 ⟨⟨u, j, hu, hj, hf, rfl⟩, hb⟩
  have hR2 : Blk w2 (w.heap.size + 2) 94 _ := (hR.alloc _).below hb (by simp <;> omega)
  have hT2 : Blk w2 w1.heap.size 94 _ := (Blk.new w1 _ _).below hb (by simp)
  have hB2 : Below w.heap.size w w2 := (hB.alloc (by omega) _).trans (hb.mono (by simp <;> omega))
  have hsz2 : w1.heap.size + 1 ≤ w2.heap.size := by have := hb.size; simp at this; omega
  obtain ⟨u0, u1, u2, u3, d0, d1, d2, d3, eu, fu⟩ := words_of u hu
  have hu0 : u0 + j * 4294968273 < 18446744073709551616 := by
    have := HS.out
    rcases (show j = 0 ∨ j = 1 by omega) with rfl | rfl <;> omega
  obtain ⟨jg, ejg⟩ : ∃ jg, jg = j * 4294968273 := ⟨_, rfl⟩
  obtain ⟨v0, ev0⟩ : ∃ v0, v0 = u0 + jg := ⟨_, rfl⟩
  have hJ : (j : Int) * 4294968273 = (jg : Int) := by omega
  have hV : (u0 : Int) + (jg : Int) = (v0 : Int) := by omega
  have hv0 : v0 < 18446744073709551616 := by omega
  have HV := Lib.hid (And.intro ev0 ejg)
  have HF := Lib.hid hf
  have HU := Lib.hid (And.intro eu (And.intro hu (And.intro d0 (And.intro d1 (And.intro d2 d3)))))
  rw [fu]
  clear eu fu hf hb hq hu d0 d1 d2 d3 hu0 ev0 ejg
  go_wp2_with (first | ((with_reducible refine here_store ?_); refine wpList_store_blk rfl _ _ _ rfl (w1.heap.size) _ rfl rfl _ _ (hT2) (by kernel_rfl) (by rfl) (by simp [Value.oneCell']) ?_; intro w3 hL3 hB3 hK3; have hR3 := hK3 _ (by omega) _ _ hR2; have hc3 := hL3.cell 0; have hf3 := hL3.frozen 0; simp only [List.getElem?_toArray, List.getElem?_cons_zero] at hc3) | ((with_reducible refine here_load (d := some 27) ?_); refine wpList_load_blk rfl _ _ rfl (w1.heap.size) rfl _ _ _ (hL3.set0 _) Try.underlying94 rfl (by kernel_rfl) ?_) | ((with_reducible refine here_store ?_); refine wpList_store_blk rfl _ _ _ rfl (w.heap.size + 2) _ rfl rfl _ _ (hR3.far (by simp <;> omega) _) (by kernel_rfl) (by rfl) (by simp [Value.oneCell']) ?_; intro w4 hL4 hB4 hK4))
  obtain ⟨eu, hu, d0, d1, d2, d3⟩ := HU.out
  obtain ⟨ev0, ejg⟩ := HV.out
  have hz := fv_mk v0 u1 u2 u3 hv0 d1 d2 d3
  exact bodyPost_ret (results_cell_row rfl _ _ (w.heap.size + 2) _ _ (0, 0) _ rfl hL4 Try.underlying94 rfl (by kernel_rfl)) rfl ⟨⟨v0 + 18446744073709551616 * u1 + 340282366920938463463374607431768211456 * u2 + 6277101735386680763835789423207666416102355444464034512896 * u3, s, k, u, j, HS.out, HE.out, hu, HF.out, by omega, by rw [← hz]⟩, hB2.trans ((hB3 _ (by omega)).trans ((Below.refl _ _).setCell (by simp <;> omega) _ |>.trans (hB4 _ (by omega))))⟩
end Go.Proofs.Ytneeefinaejgcaa

end
section
namespace Go.Proofs.Ytneeefinaejgcaa
open Go.RowKit

section
variable {P : Program} {ops : Array Oper} {Q : Exit → Act → World → Prop} {md : Region.Mode} {ex : Nat → Bool}

/-- what grew: whatever was there is as it was -/
def Gr (w w' : World) : Prop := Below w.heap.size w w'
theorem Gr.refl (w : World) : Gr w w := Below.refl _ _
theorem Gr.trans {a b c : World} (h : Gr a b) (k : Gr b c) : Gr a c := Below.trans h (Below.mono k (Below.size h))

theorem gr_alloc (w : World) (o : Obj) : Gr w (w.alloc o) := (Below.refl _ _).alloc (Nat.le_refl _) _
/-- what an operation gives: the value v, in a world that grew -/
def Gives (P : Program) (s : Sem Next) (v : Value) (w : World) : Prop :=
  match s.run P w with
  | .ok (.value u) w' => u = v ∧ Gr w w'
  | .ok .skip w' => v = undef ∧ Gr w w'
  | .ok (.enter f args) w' => Calls P f args w' fun e w'' => e = .returned v ∧ Gr w w''
  | _ => False
def YieldsG (P : Program) (ops : Array Oper) (o : Oper) (v : Value) (a : Act) (w : World) : Prop :=
  (Region.wanted o (yielded ops a.tmps) = true ∧ ∀ w1, Gr w w1 → Gives P (execOp a.eval o) v w1) ∨ (Region.wanted o (yielded ops a.tmps) = false ∧ v = undef)
theorem YieldsG.of_same {o : Oper} {v : Value} {a a' : Act} {w : World} (hy : YieldsG P ops o v a w) (he : execOp a'.eval o = execOp a.eval o)
    (hw : Region.wanted o (yielded ops a'.tmps) = Region.wanted o (yielded ops a.tmps)) : YieldsG P ops o v a' w := by
  unfold YieldsG at *
  rw [he, hw]
  exact hy
theorem YieldsG.grow {o : Oper} {v : Value} {a : Act} {w w1 : World} (hy : YieldsG P ops o v a w) (hg : Gr w w1) : YieldsG P ops o v a w1 :=
  hy.imp (fun ⟨h, k⟩ => ⟨h, fun w2 h2 => k w2 (hg.trans h2)⟩) id
theorem YieldsG.wpOp {i : Nat} {o : Oper} {v : Value} {a : Act} (hi : ops[i]? = some o) {K : Act → World → Prop} {w : World} (hy : YieldsG P ops o v a w)
    (h : ∀ w', Gr w w' → K (a.put o.dst v) w') : wpOp P ops Q i K a w := by
  unfold Go.wpOp
  simp only [hi]
  rcases hy with ⟨hw, hv⟩ | ⟨hw, rfl⟩
  · simp only [hw, if_true]
    refine .inl ?_
    have h0 := hv w (Gr.refl w)
    unfold Gives at h0
    unfold Oper.wp
    generalize (execOp a.eval o).run P w = r at *
    cases r with
    | ok n w' =>
      cases n <;> simp only [Oper.upon] at h0 ⊢
      case value u => rw [h0.1]; exact h _ h0.2
      case skip => rw [← h0.1]; exact h _ h0.2
      case enter f args =>
        refine Calls.mono h0 fun e w'' he => ?_
        rw [he.1]
        exact h _ he.2
    | halt x w' => cases x <;> exact h0.elim
  · simp only [hw, Bool.false_eq_true, if_false]
    exact h _ (Gr.refl w)

theorem wpOp_putG {j : Nat} {oi oj : Oper} {v : Value} {w0 : World} (hj : ops[j]? = some oj) (hap : oi.apart ops oj = true)
    (hsi : ∀ cs b, oi.op ≠ .select cs b) (hsj : ∀ cs b, oj.op ≠ .select cs b)
    (hQ : ∀ c a w, Q (.panic c) (a.put oi.dst v) w → Q (.panic c) a w) {K : Act → World → Prop} {a : Act} {w : World}
    (hy : YieldsG P ops oi v a w0) (h : wpOp P ops Q j K (a.put oi.dst v) w) :
    wpOp P ops Q j (fun a' w' => YieldsG P ops oi v a' w0 ∧ K (a'.put oi.dst v) w') a w := by
  obtain ⟨h1, h2, h3⟩ := Oper.apart_spec hap
  have keep : ∀ (a : Act), YieldsG P ops oi v a w0 → ∀ u, YieldsG P ops oi v (a.put oj.dst u) w0 := fun a hy u =>
    hy.of_same (execOp_put oi hsi a oj.dst u h3) (wanted_put oi a oj.dst u h3)
  have keepD : ∀ d, YieldsG P ops oi v { a with defers := d :: a.defers } w0 := fun d => hy.of_same rfl rfl
  unfold wpOp at *
  simp only [hj] at *
  rw [wanted_put oj a oi.dst v h1] at h
  split
  · rename_i hw
    simp only [hw, if_true] at h
    rcases h with h | ⟨hasks, hlets⟩
    case inr => exact .inr ⟨by unfold Oper.asks at *; rw [execOp_put oj hsj a oi.dst v h1] at hasks; exact hasks, hlets⟩
    refine .inl ?_
    unfold Oper.wp at *
    rw [execOp_put oj hsj a oi.dst v h1] at h
    generalize (execOp a.eval oj).run P w = r at *
    cases r with
    | ok n w' =>
      cases n <;> simp only [Oper.upon] at h ⊢
      case value u => exact ⟨keep a hy u, by rw [← Act.put_comm a v u h2]; exact h⟩
      case skip => exact ⟨keep a hy _, by rw [← Act.put_comm a v undef h2]; exact h⟩
      case defer d =>
        refine ⟨keep _ (keepD d) _, ?_⟩
        rw [← Act.put_comm _ v undef h2, ← Act.put_defers]
        exact h
      case enter f args =>
        refine Calls.mono h fun e w'' he => ?_
        cases e with
        | returned u => exact ⟨keep a hy u, by rw [← Act.put_comm a v u h2]; exact he⟩
        | panicked c => exact hQ _ _ _ he
        | outgrown => exact he
      case row row args => exact Rows.mono h fun u w'' he => ⟨keep a hy u, by rw [← Act.put_comm a v u h2]; exact he⟩
    | halt x w' =>
      cases x <;> simp only [Oper.upon] at h ⊢
      case panic u => exact hQ _ _ _ h
  · rename_i hw
    simp only [hw] at h
    exact ⟨keep a hy _, by rw [← Act.put_comm a v undef h2]; exact h⟩

/-- whatever order is picked, and however the world grows between -/
def wpAnyG (P : Program) (md : Region.Mode) (ops : Array Oper) (Q : Exit → Act → World → Prop) (ex : Nat → Bool) : Nat → Array Bool → Act → World → Prop
  | 0, listed, a, w => Region.ready md ops listed = [] ∧ ∀ w1, Gr w w1 → Q .normal a w1
  | fuel + 1, listed, a, w => ∀ w1, Gr w w1 →
    (Region.ready md ops listed = [] → Q .normal a w1) ∧
    ∀ i ∈ Region.ready md ops listed, wpOp P ops Q i (fun a' w' => (ex i = false → Gr w1 w') ∧ wpAnyG P md ops Q ex fuel (listed.setIfInBounds i true) a' w') a w1

theorem wpAny_of_G : ∀ (fuel : Nat) (listed : Array Bool) (a : Act) (w : World), wpAnyG P md ops Q ex fuel listed a w → wpAny P md ops Q fuel listed a w
  | 0, _, _, w, h => ⟨h.1, h.2 w (Gr.refl w)⟩
  | fuel + 1, _, _, w, h => ⟨(h w (Gr.refl w)).1, fun i hi => wpOp_mono (fun a' w' h' => wpAny_of_G fuel _ a' w' h'.2) ((h w (Gr.refl w)).2 i hi)⟩
theorem wpAnyG_grow : ∀ (fuel : Nat) (listed : Array Bool) (a : Act) (w w1 : World), Gr w w1 → wpAnyG P md ops Q ex fuel listed a w → wpAnyG P md ops Q ex fuel listed a w1
  | 0, _, _, _, _, hg, h => ⟨h.1, fun w2 h2 => h.2 w2 (hg.trans h2)⟩
  | _ + 1, _, _, _, _, hg, h => fun w2 h2 => h w2 (hg.trans h2)

/-- those whose world need not grow wait for number i -/
def waitsB (md : Region.Mode) (ops : Array Oper) (ex : Nat → Bool) (i : Nat) : Bool :=
  (List.range ops.size).all fun j => !ex j || (match ops[j]? with
    | some oj => oj.after.any fun e => Region.binds md e && e.on == i
    | none => true)
theorem waits_spec {i j : Nat} {oj : Oper} (h : waitsB md ops ex i = true) (hj : ops[j]? = some oj) (he : ex j = true) : ∃ e ∈ oj.after, Region.binds md e = true ∧ e.on = i := by
  unfold waitsB at h
  rw [List.all_eq_true] at h
  have h1 := h j (List.mem_range.2 (Array.getElem?_eq_some_iff.1 hj).1)
  simp only [hj, he, Bool.not_true, Bool.false_or] at h1
  rw [Array.any_eq_true'] at h1
  obtain ⟨e, hm, hb⟩ := h1
  simp only [Bool.and_eq_true, beq_iff_eq] at hb
  exact ⟨e, hm, hb.1, hb.2⟩

theorem wpAnyG_first {i : Nat} {oi : Oper} {v : Value} (hi : ops[i]? = some oi) (hsel : ∀ (j : Nat) (o : Oper) cs b, ops[j]? = some o → o.op ≠ .select cs b)
    (hQ : ∀ c a w, Q (.panic c) (a.put oi.dst v) w → Q (.panic c) a w) (hex : waitsB md ops ex i = true) :
    ∀ (fuel : Nat) (listed : Array Bool) (a : Act) (w : World),
      (∀ j oj, ops[j]? = some oj → j ≠ i → listed.getD j true = false → (∀ e ∈ oj.after, Region.binds md e = true → e.on ≠ i) → oi.apart ops oj = true) →
      i ∈ Region.ready md ops listed → YieldsG P ops oi v a w →
      wpAnyG P md ops Q ex fuel (listed.setIfInBounds i true) (a.put oi.dst v) w → wpAnyG P md ops Q ex (fuel + 1) listed a w := by
  intro fuel
  induction fuel with
  | zero =>
    intro listed a w _ hr hy H w1 hw1
    refine ⟨fun h => (by rw [h] at hr; cases hr), fun j hj => ?_⟩
    by_cases hji : j = i
    · subst hji; exact (hy.grow hw1).wpOp hi (fun w' h' => ⟨fun _ => h', wpAnyG_grow _ _ _ _ _ (hw1.trans h') H⟩)
    · have := ready_mono hj hji
      rw [H.1] at this
      cases this
  | succ fuel ih =>
    intro listed a w hfree hr hy H w1 hw1
    refine ⟨fun h => (by rw [h] at hr; cases hr), fun j hj => ?_⟩
    by_cases hji : j = i
    · subst hji; exact (hy.grow hw1).wpOp hi (fun w' h' => ⟨fun _ => h', wpAnyG_grow _ _ _ _ _ (hw1.trans h') H⟩)
    · have h1 := (H w1 hw1).2 j (ready_mono hj hji)
      obtain ⟨hjun, oj, hoj, hall⟩ := mem_ready.1 hj
      have hnot : ∀ e ∈ oj.after, Region.binds md e = true → e.on ≠ i := fun e he hb heq => by
        have h1 := hall e he hb
        have h0 := (mem_ready.1 hr).1
        rw [heq] at h1
        rcases Nat.lt_or_ge i listed.size with h' | h'
        · simp [h'] at h0 h1; rw [h0] at h1; cases h1
        · simp [Array.getElem?_eq_none h'] at h1
      have hexj : ex j = false := by
        cases hxj : ex j with
        | false => rfl
        | true =>
          obtain ⟨e, he, hb, heq⟩ := waits_spec hex hoj hxj
          exact absurd heq (hnot e he hb)
      have h2 := wpOp_putG hoj (hfree j oj hoj hji hjun hnot) (fun cs b => hsel i oi cs b hi) (fun cs b => hsel j oj cs b hoj) hQ hy h1
      have hfree' : ∀ k ok, ops[k]? = some ok → k ≠ i → (listed.setIfInBounds j true).getD k true = false →
          (∀ e ∈ ok.after, Region.binds md e = true → e.on ≠ i) → oi.apart ops ok = true := fun k ok hk hki hun hno => by
        refine hfree k ok hk hki ?_ hno
        by_cases hjk : j = k
        · subst hjk; exact hjun
        · rw [getD_set_ne true hjk] at hun; exact hun
      refine wpOp_mono (fun a' w' h3 => ⟨h3.2.1, ih (listed.setIfInBounds j true) a' w' hfree' (ready_mono hr (Ne.symm hji)) (h3.1.grow (hw1.trans (h3.2.1 hexj))) ?_⟩) h2
      rw [Array.setIfInBounds_comm _ _ hji]
      exact h3.2.2

/-- all that is asked of number i, as one Bool -/
def canTake (md : Region.Mode) (ops : Array Oper) (listed : Array Bool) (ex : Nat → Bool) (i : Nat) : Bool :=
  Region.noSelect ops && Region.free md ops listed i && (Region.ready md ops listed).contains i && waitsB md ops ex i
theorem wpAnyG_take (i : Nat) {oi : Oper} {v : Value} {fuel : Nat} {listed : Array Bool} {a : Act} {w : World} (hi0 : ops.toList[i]? = some oi) (hc : canTake md ops listed ex i = true)
    (hQ : ∀ c a w, Q (.panic c) (a.put oi.dst v) w → Q (.panic c) a w) (hy : YieldsG P ops oi v a w)
    (h : wpAnyG P md ops Q ex fuel (listed.setIfInBounds i true) (a.put oi.dst v) w) : wpAnyG P md ops Q ex (fuel + 1) listed a w := by
  have hi : ops[i]? = some oi := by simpa using hi0
  unfold canTake at hc
  simp only [Bool.and_eq_true] at hc
  exact wpAnyG_first hi (Region.noSelect_spec hc.1.1.1) hQ hc.2 fuel listed a w (Region.free_spec hi hc.1.1.2) (by simpa using hc.1.2) hy h

/-- only number i may come up: it is carried out, in a world that grew -/
theorem wpAnyG_sole (i : Nat) {oi : Oper} {fuel : Nat} {listed : Array Bool} {a : Act} {w : World} (hi0 : ops.toList[i]? = some oi) (hr : Region.ready md ops listed = [i])
    (hw : Region.wanted oi (yielded ops a.tmps) = true)
    (h : ∀ w1, Gr w w1 → ∀ K : Act → World → Prop, (∀ a' w', (ex i = false → Gr w1 w') → wpAnyG P md ops Q ex fuel (listed.setIfInBounds i true) a' w' → K a' w') → Oper.wp P oi a w1 K Q) :
    wpAnyG P md ops Q ex (fuel + 1) listed a w := fun w1 hw1 =>
  ⟨fun h0 => (by rw [hr] at h0; cases h0), fun j hj => by
    rw [hr] at hj
    obtain rfl : j = i := by simpa using hj
    have hi : ops[j]? = some oi := by simpa using hi0
    refine wpOp_step hi (fun K' hK => ?_)
    rw [if_pos hw]
    exact h w1 hw1 K' (fun a' w' h1 h2 => hK a' w' ⟨h1, h2⟩)⟩
theorem wpAnyG_done {fuel : Nat} {listed : Array Bool} {a : Act} {w : World} (hr : Region.ready md ops listed = []) (h : ∀ w1, Gr w w1 → Q .normal a w1) : wpAnyG P md ops Q ex fuel listed a w := by
  cases fuel with
  | zero => exact ⟨hr, h⟩
  | succ n => exact fun w1 hw1 => ⟨fun _ => h w1 hw1, fun i hi => by rw [hr] at hi; cases hi⟩
/-- THE BEGINNING -/
theorem wp_region_G (ex : Nat → Bool) {id : Nat} {a : Act} {w : World} (hm : P.follows .mixedOrders = true) (h : wpAnyG P .any ops Q ex ops.size (Array.replicate ops.size false) a w) : (Code.region id ops true).wp P Q a w :=
  wp_region_any hm (wpAny_of_G _ _ _ _ (wpAnyG_grow _ _ _ w _ ((Below.refl _ _).drew) h))

theorem YieldsG.pure {o : Oper} {v : Value} {a : Act} {w : World} (hw : Region.wanted o (yielded ops a.tmps) = true) (h : ∀ w1, Gr w w1 → (execOp a.eval o).run P w1 = .ok (.value v) w1) : YieldsG P ops o v a w :=
  .inl ⟨hw, fun w1 h1 => by unfold Gives; rw [h w1 h1]; exact ⟨rfl, Gr.refl _⟩⟩
theorem YieldsG.skip {o : Oper} {a : Act} {w : World} (hw : Region.wanted o (yielded ops a.tmps) = false) : YieldsG P ops o undef a w := .inr ⟨hw, rfl⟩
theorem YieldsG.load {o : Oper} {a : Act} {w : World} (hw : Region.wanted o (yielded ops a.tmps) = true) (ty : TypeId) (x : Operand) (ho : o.op = .load ty x)
    (b f : Nat) (hx : a.eval x = .pointer (some ⟨b, f, none⟩)) (cs : List Value) (d : TypeDesc) (hb : b < w.heap.size) (hr : w.rangeAt b f cs)
    (hu : P.underlying ty = some d) (hd : d.isRow = true) (hi : (P.info? ty).map (·.size) = some cs.length) : YieldsG P ops o (.agg cs.toArray) a w :=
  YieldsG.pure hw fun w1 h1 => by
    unfold execOp
    have hl := run_loadVar_mid w1 b f ty cs d (fun j v hj => (Below.cell (p := ⟨b, f + j, none⟩) h1 hb).trans (hr j v hj)) hu hd hi
    simp only [ho, hx, Instr.loadAt, Instr.sureAddr, Sem.run_bind, Sem.run_pure, Result.andThen_ok, hl]
theorem YieldsG.call {o : Oper} {v : Value} {a : Act} {w : World} (hw : Region.wanted o (yielded ops a.tmps) = true) (f : FuncId) (args : Array Value)
    (he : ∀ w1, (execOp a.eval o).run P w1 = .ok (.enter f args) w1) (h : ∀ w1, Gr w w1 → Calls P f args w1 fun e w2 => e = .returned v ∧ Gr w1 w2) : YieldsG P ops o v a w :=
  .inl ⟨hw, fun w1 h1 => by unfold Gives; rw [he w1]; exact h w1 h1⟩
end
end Go.Proofs.Ytneeefinaejgcaa

end
section
namespace Go.Proofs.Ytneeefinaejgcaa
open Go.RowKit Go.Lib

/-- a number's cells -/
def fcs (n : Nat) : Array Value := #[qv (n % 18446744073709551616), qv (n / 18446744073709551616 % 18446744073709551616), qv (n / 340282366920938463463374607431768211456 % 18446744073709551616), qv (n / 6277101735386680763835789423207666416102355444464034512896 % 18446744073709551616)]
theorem fv_fcs (n : Nat) : fv n = .agg (fcs n) := rfl
theorem fcs_one (n : Nat) : (fcs n).all (·.oneCell') = true := by simp [fcs, qv, Value.oneCell']
theorem words_fv (n : Nat) (hn : n < 115792089237316195423570985008687907853269984665640564039457584007913129639936) : ∃ a b c d : Nat, fv n = .agg #[.int .u64 (a : Int), .int .u64 (b : Int), .int .u64 (c : Int), .int .u64 (d : Int)] :=
  (words_of n hn).imp fun _ h => h.imp fun _ h => h.imp fun _ h => h.imp fun _ h => h.2.2.2.2.2
theorem split_at {v : Value} (n : Nat) (h : fv n = v) (w : World) : Calls Try.prog 71 #[v] w fun e w' => e = .returned (fv n) ∧ Below w.heap.size w w' := by
  subst h; exact split_any w n

theorem Gr.blk {w w' : World} (h : Gr w w') {g : Nat} {t : TypeId} {cs : Array Value} (hg : Blk w g t cs) : Blk w' g t cs := Blk.below hg h hg.lt
theorem Below.gr {w a b : World} (h : Below w.heap.size w a) (g : Gr a b) : Below w.heap.size w b := Below.trans h (Below.mono g (Below.size h))

theorem Blk.range {w : World} {g : Nat} {t : TypeId} {cs : List Value} (h : Blk w g t cs.toArray) : w.rangeAt g 0 cs := fun j v hj => by
  rw [Nat.zero_add, h.cell]
  simpa using hj
theorem fv_small (n : Nat) (hn : n < 18446744073709551616) : fv n = .agg #[.int .u64 (n : Int), .int .u64 0, .int .u64 0, .int .u64 0] := (fv_mk n 0 0 0 hn (by omega) (by omega) (by omega)).symm
theorem plus_at {v1 v2 : Value} (w : World) (x y s k : Nat) (h1 : fv x = v1) (h2 : fv y = v2) (hx : x < 115792089237316195423570985008687907853269984665640564039457584007913129639936) (hy : y < 115792089237316195423570985008687907853269984665640564039457584007913129639936) (hs : s < 115792089237316195423570985008687907853269984665640564039457584007913129639936) (he : s + 115792089237316195423570985008687907853269984665640564039457584007913129639936 * k = x + y) :
    Calls Try.prog 97 #[v1, v2] w fun e w' => e = .returned (.tuple #[fv s, .int .u64 (k : Int)]) ∧ Below w.heap.size w w' := by
  subst h1 h2
  refine (plus_any w x y hx hy).mono ?_
  rintro e w' ⟨⟨s', k', hs', hk', he', rfl⟩, hb⟩
  obtain rfl : k' = k := by omega
  obtain rfl : s' = s := by omega
  exact ⟨rfl, hb⟩
theorem minus_at {v1 v2 : Value} (w : World) (x y s k : Nat) (h1 : fv x = v1) (h2 : fv y = v2) (hx : x < 115792089237316195423570985008687907853269984665640564039457584007913129639936) (hy : y < 115792089237316195423570985008687907853269984665640564039457584007913129639936) (hs : s < 115792089237316195423570985008687907853269984665640564039457584007913129639936) (he : s + y = x + 115792089237316195423570985008687907853269984665640564039457584007913129639936 * k) :
    Calls Try.prog 94 #[v1, v2] w fun e w' => e = .returned (.tuple #[fv s, .int .u64 (k : Int)]) ∧ Below w.heap.size w w' := by
  subst h1 h2
  refine (minus_any w x y hx hy).mono ?_
  rintro e w' ⟨⟨s', k', hs', hk', he', rfl⟩, hb⟩
  obtain rfl : k' = k := by omega
  obtain rfl : s' = s := by omega
  exact ⟨rfl, hb⟩
theorem wpList_load_fv {P : Program} {ops : Array Oper} {rest : List Oper} {o : Oper} {a : Act} {w : World} {Q : Exit → Act → World → Prop} (hgd : o.guard = none) (ty : TypeId) (x : Operand) (ho : o.op = .load ty x)
    (g : Nat) (hx : a.eval x = .pointer (some ⟨g, 0, none⟩)) (n : Nat) (t : TypeId) (cs : Array Value) (d : TypeDesc) (hg : Blk w g t cs) (hf : fv n = .agg cs)
    (hu : P.underlying ty = some d) (hd : (match d with | .struct _ | .array _ _ => true | _ => false) = true) (hi : (P.info? ty).map (·.size) = some cs.size)
    (h : wpList P ops Q rest (a.put o.dst (fv n)) w) : wpList P ops Q (o :: rest) a w :=
  wpList_load_row hgd ty x ho g hx t cs (0, 0) d hg hu hd hi (hf ▸ h)

section
variable {P : Program} {ops : Array Oper} {Q : Exit → Act → World → Prop} {md : Region.Mode} {ex : Nat → Bool}
/-- a load of a number -/
theorem YieldsG.loadF {o : Oper} {a : Act} {w : World} {d : TypeDesc} (hw : Region.wanted o (yielded ops a.tmps) = true) (ty : TypeId) (x : Operand) (ho : o.op = .load ty x)
    (g : Nat) (hx : a.eval x = .pointer (some ⟨g, 0, none⟩)) (n : Nat) (t : TypeId) (c : Array Value) (hg : Blk w g t c) (hf : fv n = .agg c)
    (hu : P.underlying ty = some d) (hd : d.isRow = true) (hi : (P.info? ty).map (·.size) = some c.size) : YieldsG P ops o (fv n) a w := by
  have h := YieldsG.load (P := P) (ops := ops) (o := o) (a := a) (w := w) hw ty x ho g 0 hx c.toList d hg.lt (fun j v hj => by
    rw [Nat.zero_add, hg.cell]
    simpa using hj) hu hd (by simpa using hi)
  rw [hf]
  simpa using h
/-- only number i may come up, and it stores a whole array into a block of the call's own -/
theorem wpAnyG_store (i : Nat) {oi : Oper} {fuel : Nat} {listed : Array Bool} {a : Act} {w : World} (hi0 : ops.toList[i]? = some oi) (hr : Region.ready md ops listed = [i])
    (hw : Region.wanted oi (yielded ops a.tmps) = true) (ty : TypeId) (x y : Operand) (ho : oi.op = .store ty x y) (g : Nat) (cells : Array Value) (hx : a.eval x = .pointer (some ⟨g, 0, none⟩)) (hy : a.eval y = .agg cells)
    (t : TypeId) (c : Array Value) (hg : Blk w g t c) (hi : (P.info? ty).map (·.size) = some cells.size) (hold : c.size = cells.size) (h1 : cells.all (·.oneCell') = true) (hex : ex i = true)
    (h : ∀ w1, Gr w w1 → ∀ w2, (∀ B, B ≤ g → Below B w1 w2) → Blk w2 g t cells → wpAnyG P md ops Q ex fuel (listed.setIfInBounds i true) (a.put oi.dst undef) w2) :
    wpAnyG P md ops Q ex (fuel + 1) listed a w :=
  wpAnyG_sole i hi0 hr hw (fun w1 hw1 K hK => wp_store_row ty x y ho g cells hx hy t c (hw1.blk hg) hi hold h1
    (hK _ _ (fun e => by rw [hex] at e; cases e) (h w1 hw1 _ (fun _ hB => below_setRow (Below.refl _ _) hB _) ((hw1.blk hg).setRow cells))))
end
open Go.RowKit

section
variable {P : Program} {ops : Array Oper} {Q : Exit → Act → World → Prop} {md : Region.Mode} {ex : Nat → Bool}
theorem wpOp_putA {j : Nat} {oi oj : Oper} {v : Value} (hj : ops[j]? = some oj) (hap : oi.apart ops oj = true)
    (hsi : ∀ cs b, oi.op ≠ .select cs b) (hsj : ∀ cs b, oj.op ≠ .select cs b)
    (hQ : ∀ c a w, Q (.panic c) (a.put oi.dst v) w → Q (.panic c) a w) {K : Act → World → Prop} {a : Act} {w : World}
    (hy : ∀ w0, YieldsG P ops oi v a w0) (h : wpOp P ops Q j K (a.put oi.dst v) w) :
    wpOp P ops Q j (fun a' w' => (∀ w0, YieldsG P ops oi v a' w0) ∧ K (a'.put oi.dst v) w') a w := by
  obtain ⟨h1, h2, h3⟩ := Oper.apart_spec hap
  have keep : ∀ (a : Act), (∀ w0, YieldsG P ops oi v a w0) → ∀ u w0, YieldsG P ops oi v (a.put oj.dst u) w0 := fun a hy u w0 =>
    (hy w0).of_same (execOp_put oi hsi a oj.dst u h3) (wanted_put oi a oj.dst u h3)
  have keepD : ∀ d w0, YieldsG P ops oi v { a with defers := d :: a.defers } w0 := fun d w0 => (hy w0).of_same rfl rfl
  unfold wpOp at *
  simp only [hj] at *
  rw [wanted_put oj a oi.dst v h1] at h
  split
  · rename_i hw
    simp only [hw, if_true] at h
    rcases h with h | ⟨hasks, hlets⟩
    case inr => exact .inr ⟨by unfold Oper.asks at *; rw [execOp_put oj hsj a oi.dst v h1] at hasks; exact hasks, hlets⟩
    refine .inl ?_
    unfold Oper.wp at *
    rw [execOp_put oj hsj a oi.dst v h1] at h
    generalize (execOp a.eval oj).run P w = r at *
    cases r with
    | ok n w' =>
      cases n <;> simp only [Oper.upon] at h ⊢
      case value u => exact ⟨keep a hy u, by rw [← Act.put_comm a v u h2]; exact h⟩
      case skip => exact ⟨keep a hy _, by rw [← Act.put_comm a v undef h2]; exact h⟩
      case defer d =>
        refine ⟨keep _ (keepD d) _, ?_⟩
        rw [← Act.put_comm _ v undef h2, ← Act.put_defers]
        exact h
      case enter f args =>
        refine Calls.mono h fun e w'' he => ?_
        cases e with
        | returned u => exact ⟨keep a hy u, by rw [← Act.put_comm a v u h2]; exact he⟩
        | panicked c => exact hQ _ _ _ he
        | outgrown => exact he
      case row row args => exact Rows.mono h fun u w'' he => ⟨keep a hy u, by rw [← Act.put_comm a v u h2]; exact he⟩
    | halt x w' =>
      cases x <;> simp only [Oper.upon] at h ⊢
      case panic u => exact hQ _ _ _ h
  · rename_i hw
    simp only [hw] at h
    exact ⟨keep a hy _, by rw [← Act.put_comm a v undef h2]; exact h⟩
theorem wpAnyG_firstA {i : Nat} {oi : Oper} {v : Value} (hi : ops[i]? = some oi) (hsel : ∀ (j : Nat) (o : Oper) cs b, ops[j]? = some o → o.op ≠ .select cs b)
    (hQ : ∀ c a w, Q (.panic c) (a.put oi.dst v) w → Q (.panic c) a w) :
    ∀ (fuel : Nat) (listed : Array Bool) (a : Act) (w : World),
      (∀ j oj, ops[j]? = some oj → j ≠ i → listed.getD j true = false → (∀ e ∈ oj.after, Region.binds md e = true → e.on ≠ i) → oi.apart ops oj = true) →
      i ∈ Region.ready md ops listed → (∀ w0, YieldsG P ops oi v a w0) →
      wpAnyG P md ops Q ex fuel (listed.setIfInBounds i true) (a.put oi.dst v) w → wpAnyG P md ops Q ex (fuel + 1) listed a w := by
  intro fuel
  induction fuel with
  | zero =>
    intro listed a w _ hr hy H w1 hw1
    refine ⟨fun h => (by rw [h] at hr; cases hr), fun j hj => ?_⟩
    by_cases hji : j = i
    · subst hji; exact (hy w1).wpOp hi (fun w' h' => ⟨fun _ => h', wpAnyG_grow _ _ _ _ _ (hw1.trans h') H⟩)
    · have := ready_mono hj hji
      rw [H.1] at this
      cases this
  | succ fuel ih =>
    intro listed a w hfree hr hy H w1 hw1
    refine ⟨fun h => (by rw [h] at hr; cases hr), fun j hj => ?_⟩
    by_cases hji : j = i
    · subst hji; exact (hy w1).wpOp hi (fun w' h' => ⟨fun _ => h', wpAnyG_grow _ _ _ _ _ (hw1.trans h') H⟩)
    · have h1 := (H w1 hw1).2 j (ready_mono hj hji)
      obtain ⟨hjun, oj, hoj, hall⟩ := mem_ready.1 hj
      have hnot : ∀ e ∈ oj.after, Region.binds md e = true → e.on ≠ i := fun e he hb heq => by
        have h1 := hall e he hb
        have h0 := (mem_ready.1 hr).1
        rw [heq] at h1
        rcases Nat.lt_or_ge i listed.size with h' | h'
        · simp [h'] at h0 h1; rw [h0] at h1; cases h1
        · simp [Array.getElem?_eq_none h'] at h1
      have h2 := wpOp_putA hoj (hfree j oj hoj hji hjun hnot) (fun cs b => hsel i oi cs b hi) (fun cs b => hsel j oj cs b hoj) hQ hy h1
      have hfree' : ∀ k ok, ops[k]? = some ok → k ≠ i → (listed.setIfInBounds j true).getD k true = false →
          (∀ e ∈ ok.after, Region.binds md e = true → e.on ≠ i) → oi.apart ops ok = true := fun k ok hk hki hun hno => by
        refine hfree k ok hk hki ?_ hno
        by_cases hjk : j = k
        · subst hjk; exact hjun
        · rw [getD_set_ne true hjk] at hun; exact hun
      refine wpOp_mono (fun a' w' h3 => ⟨h3.2.1, ih (listed.setIfInBounds j true) a' w' hfree' (ready_mono hr (Ne.symm hji)) h3.1 ?_⟩) h2
      rw [Array.setIfInBounds_comm _ _ hji]
      exact h3.2.2
def canTakeA (md : Region.Mode) (ops : Array Oper) (listed : Array Bool) (i : Nat) : Bool :=
  Region.noSelect ops && Region.free md ops listed i && (Region.ready md ops listed).contains i
theorem wpAnyG_takeA (i : Nat) {oi : Oper} {v : Value} {fuel : Nat} {listed : Array Bool} {a : Act} {w : World} (hi0 : ops.toList[i]? = some oi) (hc : canTakeA md ops listed i = true)
    (hQ : ∀ c a w, Q (.panic c) (a.put oi.dst v) w → Q (.panic c) a w) (hy : ∀ w0, YieldsG P ops oi v a w0)
    (h : wpAnyG P md ops Q ex fuel (listed.setIfInBounds i true) (a.put oi.dst v) w) : wpAnyG P md ops Q ex (fuel + 1) listed a w := by
  have hi : ops[i]? = some oi := by simpa using hi0
  unfold canTakeA at hc
  simp only [Bool.and_eq_true] at hc
  exact wpAnyG_firstA hi (Region.noSelect_spec hc.1.1) hQ fuel listed a w (Region.free_spec hi hc.1.2) (by simpa using hc.2) hy h
end

section
variable {P : Program} {ops : Array Oper} {Q : Exit → Act → World → Prop} {md : Region.Mode} {ex : Nat → Bool}
theorem wpAnyG_storeK (i : Nat) {oi : Oper} {fuel : Nat} {listed : Array Bool} {a : Act} {w : World} (hi0 : ops.toList[i]? = some oi) (hr : Region.ready md ops listed = [i])
    (hw : Region.wanted oi (yielded ops a.tmps) = true) (ty : TypeId) (x y : Operand) (ho : oi.op = .store ty x y) (g : Nat) (cells : Array Value) (hx : a.eval x = .pointer (some ⟨g, 0, none⟩)) (hy : a.eval y = .agg cells)
    (t : TypeId) (c : Array Value) (hg : Blk w g t c) (hi : (P.info? ty).map (·.size) = some cells.size) (hold : c.size = cells.size) (h1 : cells.all (·.oneCell') = true) (hex : ex i = true)
    (h : ∀ w1, Gr w w1 → ∀ w2, (∀ B, B ≤ g → Below B w1 w2) → (∀ k, k ≠ g → ∀ t' cs', Blk w1 k t' cs' → Blk w2 k t' cs') → Blk w2 g t cells → wpAnyG P md ops Q ex fuel (listed.setIfInBounds i true) (a.put oi.dst undef) w2) :
    wpAnyG P md ops Q ex (fuel + 1) listed a w :=
  wpAnyG_sole i hi0 hr hw (fun w1 hw1 K hK => wp_store_row ty x y ho g cells hx hy t c (hw1.blk hg) hi hold h1
    (hK _ _ (fun e => by rw [hex] at e; cases e) (h w1 hw1 _ (fun _ hB => below_setRow (Below.refl _ _) hB _) (fun _ hk _ _ hb => hb.setRow_far hk _) ((hw1.blk hg).setRow cells))))
/-- a store that lays anew what is there -/
theorem YieldsG.again {o : Oper} {a : Act} {w : World} (hw : Region.wanted o (yielded ops a.tmps) = true) (ty : TypeId) (x y : Operand) (ho : o.op = .store ty x y)
    (g : Nat) (cells : Array Value) (hx : a.eval x = .pointer (some ⟨g, 0, none⟩)) (hy : a.eval y = .agg cells) (t : TypeId) (hg : Blk w g t cells)
    (hi : (P.info? ty).map (·.size) = some cells.size) (h1 : cells.all (·.oneCell') = true) : YieldsG P ops o undef a w :=
  .inl ⟨hw, fun w1 hw1 => by
    have hg1 := hw1.blk hg
    unfold Gives execOp
    simp only [ho, hx, hy, Instr.storeAt, Instr.sureAddr, Sem.run_bind, Sem.run_pure, Result.andThen_ok, run_storeVar_row w1 g t ty cells cells hg1 hi rfl h1]
    refine ⟨trivial, rfl, rfl, rfl, by simp, fun k _ => ?_⟩
    by_cases hk : k = g
    · subst hk; exact (hg1.setRow cells).trans hg1.symm
    · exact heap_setRow_far w1 g k cells hk⟩
/-- just two may come up -/
theorem wpAnyG_duo (i j : Nat) {oi oj : Oper} {fuel : Nat} {listed : Array Bool} {a : Act} {w : World} (hi0 : ops.toList[i]? = some oi) (hj0 : ops.toList[j]? = some oj) (hr : Region.ready md ops listed = [i, j])
    (hwi : Region.wanted oi (yielded ops a.tmps) = true) (hwj : Region.wanted oj (yielded ops a.tmps) = true)
    (h1 : ∀ w1, Gr w w1 → ∀ K : Act → World → Prop, (∀ a' w', (ex i = false → Gr w1 w') → wpAnyG P md ops Q ex fuel (listed.setIfInBounds i true) a' w' → K a' w') → Oper.wp P oi a w1 K Q)
    (h2 : ∀ w1, Gr w w1 → ∀ K : Act → World → Prop, (∀ a' w', (ex j = false → Gr w1 w') → wpAnyG P md ops Q ex fuel (listed.setIfInBounds j true) a' w' → K a' w') → Oper.wp P oj a w1 K Q) :
    wpAnyG P md ops Q ex (fuel + 1) listed a w := fun w1 hw1 =>
  ⟨fun h0 => (by rw [hr] at h0; cases h0), fun m hm => by
    rw [hr] at hm
    have hi : ops[i]? = some oi := by simpa using hi0
    have hj : ops[j]? = some oj := by simpa using hj0
    rcases (show m = i ∨ m = j by simpa using hm) with rfl | rfl
    · refine wpOp_step hi (fun K' hK => ?_)
      rw [if_pos hwi]
      exact h1 w1 hw1 K' (fun a' w' h1 h2 => hK a' w' ⟨h1, h2⟩)
    · refine wpOp_step hj (fun K' hK => ?_)
      rw [if_pos hwj]
      exact h2 w1 hw1 K' (fun a' w' h1 h2 => hK a' w' ⟨h1, h2⟩)⟩
end
end Go.Proofs.Ytneeefinaejgcaa

end
section
namespace Go.Proofs.Ytneeefinaejgcaa
open Go.RowKit

section
variable {P : Program} {ops : Array Oper} {Q : Exit → Act → World → Prop} {md : Region.Mode} {V : List (Nat × Obj)}

end
end Go.Proofs.Ytneeefinaejgcaa

end
section
namespace Go.Proofs.Ytneeefinaejgcaa
open Go.RowKit

section
variable {P : Program} {ops : Array Oper} {Q : Exit → Act → World → Prop} {md : Region.Mode} {ex : Nat → Bool}
theorem wpAnyG_firstB {i : Nat} {oi : Oper} {v : Value} (bs : Nat → Bool) (hi : ops[i]? = some oi) (hsel : ∀ (j : Nat) (o : Oper) cs b, ops[j]? = some o → o.op ≠ .select cs b)
    (hQ : ∀ c a w, Q (.panic c) (a.put oi.dst v) w → Q (.panic c) a w) (hex : ∀ k ok, ops[k]? = some ok → ex k = true → bs k = true)
    (hbs : ∀ k ok, ops[k]? = some ok → bs k = true → ∃ e ∈ ok.after, Region.binds md e = true ∧ (e.on = i ∨ bs e.on = true)) :
    ∀ (fuel : Nat) (listed : Array Bool) (a : Act) (w : World), (∀ k, bs k = true → listed.getD k true = false) →
      (∀ j oj, ops[j]? = some oj → j ≠ i → listed.getD j true = false → bs j = false → oi.apart ops oj = true) →
      i ∈ Region.ready md ops listed → YieldsG P ops oi v a w →
      wpAnyG P md ops Q ex fuel (listed.setIfInBounds i true) (a.put oi.dst v) w → wpAnyG P md ops Q ex (fuel + 1) listed a w := by
  intro fuel
  induction fuel with
  | zero =>
    intro listed a w _ _ hr hy H w1 hw1
    refine ⟨fun h => (by rw [h] at hr; cases hr), fun j hj => ?_⟩
    by_cases hji : j = i
    · subst hji; exact (hy.grow hw1).wpOp hi (fun w' h' => ⟨fun _ => h', wpAnyG_grow _ _ _ _ _ (hw1.trans h') H⟩)
    · have := ready_mono hj hji
      rw [H.1] at this
      cases this
  | succ fuel ih =>
    intro listed a w hl hfree hr hy H w1 hw1
    refine ⟨fun h => (by rw [h] at hr; cases hr), fun j hj => ?_⟩
    by_cases hji : j = i
    · subst hji; exact (hy.grow hw1).wpOp hi (fun w' h' => ⟨fun _ => h', wpAnyG_grow _ _ _ _ _ (hw1.trans h') H⟩)
    · have h1 := (H w1 hw1).2 j (ready_mono hj hji)
      obtain ⟨hjun, oj, hoj, hall⟩ := mem_ready.1 hj
      have hun : ∀ k, listed.getD k true = false → listed.getD k false = true → False := fun k h0 h1 => by
        rcases Nat.lt_or_ge k listed.size with h' | h'
        · simp [h'] at h0 h1; rw [h0] at h1; cases h1
        · simp [Array.getElem?_eq_none h'] at h1
      have hbj : bs j = false := by
        cases hb : bs j with
        | false => rfl
        | true =>
          obtain ⟨e, he, hbd, ho⟩ := hbs j oj hoj hb
          have h2 := hall e he hbd
          rcases ho with ho | ho
          · rw [ho] at h2; exact (hun i (mem_ready.1 hr).1 h2).elim
          · exact (hun e.on (hl e.on ho) h2).elim
      have hexj : ex j = false := by
        cases hxj : ex j with
        | false => rfl
        | true => rw [hex j oj hoj hxj] at hbj; cases hbj
      have h2 := wpOp_putG hoj (hfree j oj hoj hji hjun hbj) (fun cs b => hsel i oi cs b hi) (fun cs b => hsel j oj cs b hoj) hQ hy h1
      have hl' : ∀ k, bs k = true → (listed.setIfInBounds j true).getD k true = false := fun k hk => by
        have hjk : j ≠ k := fun e => by rw [← e, hbj] at hk; cases hk
        rw [getD_set_ne true hjk]; exact hl k hk
      have hfree' : ∀ k ok, ops[k]? = some ok → k ≠ i → (listed.setIfInBounds j true).getD k true = false → bs k = false → oi.apart ops ok = true := fun k ok hk hki hun hno => by
        refine hfree k ok hk hki ?_ hno
        by_cases hjk : j = k
        · subst hjk; exact hjun
        · rw [getD_set_ne true hjk] at hun; exact hun
      refine wpOp_mono (fun a' w' h3 => ⟨h3.2.1, ih (listed.setIfInBounds j true) a' w' hl' hfree' (ready_mono hr (Ne.symm hji)) (h3.1.grow (hw1.trans (h3.2.1 hexj))) ?_⟩) h2
      rw [Array.setIfInBounds_comm _ _ hji]
      exact h3.2.2
/-- all that is asked, as one Bool: bs: those that wait, if only through others -/
def canTakeB (md : Region.Mode) (ops : Array Oper) (listed : Array Bool) (ex : Nat → Bool) (i : Nat) (bs : List Nat) : Bool :=
  Region.noSelect ops && (Region.ready md ops listed).contains i && (bs.all fun k => !(listed.getD k true)) &&
  (match ops[i]? with
   | none => false
   | some oi => (List.range ops.size).all fun k => match ops[k]? with
     | none => true
     | some ok => (!(bs.contains k) || ok.after.any fun e => Region.binds md e && (e.on == i || bs.contains e.on)) && (!(ex k) || bs.contains k) && (k == i || listed.getD k true || bs.contains k || oi.apart ops ok))
theorem wpAnyG_takeB (i : Nat) (bs : List Nat) {oi : Oper} {v : Value} {fuel : Nat} {listed : Array Bool} {a : Act} {w : World} (hi0 : ops.toList[i]? = some oi) (hc : canTakeB md ops listed ex i bs = true)
    (hQ : ∀ c a w, Q (.panic c) (a.put oi.dst v) w → Q (.panic c) a w) (hy : YieldsG P ops oi v a w)
    (h : wpAnyG P md ops Q ex fuel (listed.setIfInBounds i true) (a.put oi.dst v) w) : wpAnyG P md ops Q ex (fuel + 1) listed a w := by
  have hi : ops[i]? = some oi := by simpa using hi0
  unfold canTakeB at hc
  simp only [hi, Bool.and_eq_true] at hc
  obtain ⟨⟨⟨h1, h2⟩, h3⟩, h4⟩ := hc
  rw [List.all_eq_true] at h3 h4
  have h5 : ∀ k ok, ops[k]? = some ok → _ := fun k ok hk => by
    have h := h4 k (List.mem_range.2 (Array.getElem?_eq_some_iff.1 hk).1)
    simp only [hk, Bool.and_eq_true] at h
    exact h
  refine wpAnyG_firstB (fun k => bs.contains k) hi (Region.noSelect_spec h1) hQ (fun k ok hk he => ?_) (fun k ok hk hb => ?_) fuel listed a w (fun k hk => ?_) (fun j oj hj hji hun hb => ?_) (by simpa using h2) hy h
  · have h := (h5 k ok hk).1.2
    simpa [he] using h
  · have h := (h5 k ok hk).1.1
    simp only [hb, Bool.not_true, Bool.false_or] at h
    rw [Array.any_eq_true'] at h
    obtain ⟨e, hm, hx⟩ := h
    simp only [Bool.and_eq_true, Bool.or_eq_true, beq_iff_eq] at hx
    exact ⟨e, hm, hx.1, hx.2⟩
  · have h := h3 k (by simpa using hk)
    simpa using h
  · have h := (h5 j oj hj).2
    simp only [hun, hb, Bool.or_false, Bool.or_eq_true, beq_iff_eq] at h
    exact h.resolve_left hji
end
end Go.Proofs.Ytneeefinaejgcaa

end
section
namespace Go.Proofs.Ytneeefinaejgcaa.Sy
open Go.RowKit Go.Proofs.Ytneeefinaejgcaa

section
variable {P : Program} {ops : Array Oper} {Q : Exit → Act → World → Prop} {md : Region.Mode} {l n : Nat}
end
end Go.Proofs.Ytneeefinaejgcaa.Sy

end
section
namespace Go.Proofs.Ytneeefinaejgcaa.Sy
open Go.RowKit Go.Proofs.Ytneeefinaejgcaa

/-- slots that are known, the newest first -/
abbrev Slots := List (Nat × Value)
/-- blocks of the call's own -/
abbrev Blocks := List (Nat × TypeId × Array Value)

/-- where a walk stands: the world at the call; a world since which no object but cells has turned; the marks for deferred calls; the fence, and its room -/
structure Base where
  world : World
  fz : World
  ds : List Deferred
  fence : Fence
  room : Nat
/-- .. at a function's head -/
abbrev Base.of (w : World) : Base := ⟨w, w, [], Fence.wide, 9⟩
def Fr (ds : List Deferred) (a : Act) (n : Nat) (F : Slots) : Prop := a.defers = ds ∧ a.tmps.size = n ∧ ∀ i v, F.lookup i = some v → a.tmps[i]? = some v
def evF (F : Slots) : Operand → Value
  | .tmp t => (F.lookup t).getD undef
  | .const v => v
  | .global g => .pointer (some ⟨g, 0, none⟩)
  | .func f => .func (.func f) #[] #[]
def inF (F : Slots) : Operand → Bool
  | .tmp t => (F.lookup t).isSome
  | _ => true
def putF (F : Slots) : Option Tmp → Value → Slots
  | none, _ => F
  | some d, v => (d, v) :: F
def fits (n : Nat) : Option Tmp → Bool
  | none => true
  | some d => decide (d < n)
theorem Fr.eval {ds : List Deferred} {a : Act} {n : Nat} {F : Slots} (h : Fr ds a n F) {x : Operand} (hx : inF F x = true) : a.eval x = evF F x := by
  cases x with
  | tmp t =>
    obtain ⟨v, hv⟩ := Option.isSome_iff_exists.1 hx
    have := h.2.2 t v hv
    show a.tmps.getD t undef = (F.lookup t).getD undef
    rw [hv]
    simp [Array.getD_eq_getD_getElem?, this]
  | const v => rfl
  | global g => rfl
  | func f => rfl
theorem Fr.put {ds : List Deferred} {a : Act} {n : Nat} {F : Slots} (h : Fr ds a n F) {d : Option Tmp} (hd : fits n d = true) (v : Value) : Fr ds (a.put d v) n (putF F d v) := by
  cases d with
  | none => exact h
  | some d =>
    have hd' : d < n := of_decide_eq_true hd
    refine ⟨h.1, by simp [Act.put, h.2.1], fun i u hi => ?_⟩
    simp only [putF, List.lookup_cons] at hi
    simp only [Act.put]
    by_cases e : i = d
    · subst e
      simp at hi
      subst hi
      rw [Array.getElem?_setIfInBounds_self_of_lt (by rw [h.2.1]; exact hd')]
    · have e' : (i == d) = false := by simpa using e
      rw [e'] at hi
      rw [Array.getElem?_setIfInBounds_ne (Ne.symm e)]
      exact h.2.2 i u hi
theorem Fr.less {ds : List Deferred} {a : Act} {n : Nat} {F G : Slots} (h : Fr ds a n F) (hG : ∀ i v, G.lookup i = some v → F.lookup i = some v) : Fr ds a n G := ⟨h.1, h.2.1, fun i v hi => h.2.2 i v (hG i v hi)⟩

/-- what is known of the world: it grew, these blocks of the call's own are whole, and what is no cells stands as it stood -/
structure St (w0 : Base) (w : World) (L : Blocks) : Prop where
  below : Below w0.world.heap.size w0.world w
  blk : ∀ g t cs, (g, t, cs) ∈ L → w0.world.heap.size ≤ g ∧ Blk w g t cs
  apart : (L.map (·.1)).Nodup
  size : w0.fz.heap.size ≤ w.heap.size
  non : ∀ (k : Nat) (o : Obj), w0.world.heap.size ≤ k → w0.fz.heap[k]? = some o → o.isCells = false → w.heap[k]? = some o
theorem St.start (w : World) : St (Base.of w) w [] := ⟨Below.refl _ _, (fun _ _ _ h => by cases h), List.Pairwise.nil, Nat.le_refl _, fun _ _ _ h _ => h⟩
theorem St.gr {w0 : Base} {w w' : World} {L : Blocks} (h : St w0 w L) (hg : Gr w w') : St w0 w' L :=
  ⟨Below.gr h.below hg, fun g t cs hm => ⟨(h.blk g t cs hm).1, hg.blk (h.blk g t cs hm).2⟩, h.apart, Nat.le_trans h.size hg.size, fun k o hk ho hc => by
    have h1 := h.non k o hk ho hc
    exact (hg.block k (Array.getElem?_eq_some_iff.1 h1).1).trans h1⟩
theorem St.get {w0 : Base} {w : World} {L : Blocks} (h : St w0 w L) {i g : Nat} {t : TypeId} {cs : Array Value} (hi : L[i]? = some (g, t, cs)) : Blk w g t cs := (h.blk g t cs (List.mem_of_getElem? hi)).2
theorem St.add {w0 : Base} {w w' : World} {L : Blocks} (h : St w0 w L) (hg : Gr w w') {g : Nat} {t : TypeId} {cs : Array Value} (hn : w.heap.size ≤ g) (hb : Blk w' g t cs) : St w0 w' (L ++ [(g, t, cs)]) := by
  have h' := h.gr hg
  refine ⟨h'.below, fun g' t' cs' hm => ?_, ?_, h'.size, h'.non⟩
  · rcases List.mem_append.1 hm with hm | hm
    · exact h'.blk g' t' cs' hm
    · obtain ⟨rfl, rfl, rfl⟩ : g' = g ∧ t' = t ∧ cs' = cs := by simpa using hm
      exact ⟨Nat.le_trans h.below.size hn, hb⟩
  · rw [List.map_append, List.nodup_append]
    refine ⟨h.apart, by simp, fun x hx y hy e => ?_⟩
    obtain ⟨⟨g', t', cs'⟩, hm, rfl⟩ := List.mem_map.1 hx
    have hlt := (h.blk g' t' cs' hm).2.lt
    have : y = g := by simpa using hy
    omega
theorem St.set {w0 : Base} {w w' : World} {L : Blocks} (h : St w0 w L) {i g : Nat} {t : TypeId} {cs cs' : Array Value} (hi : L[i]? = some (g, t, cs)) (hg : w.grownBy w' (some g)) (hn : Blk w' g t cs') : St w0 w' (L.set i (g, t, cs')) := by
  have hil := (List.getElem?_eq_some_iff.1 hi).1
  have hie := (List.getElem?_eq_some_iff.1 hi).2
  have hbk := h.blk g t cs (List.mem_of_getElem? hi)
  refine ⟨h.below.trans (below_of_only hg h.below.size hbk.1), fun g1 t1 c1 hm => ?_, ?_, Nat.le_trans h.size hg.size, fun k o hk ho hc => ?_⟩
  · obtain ⟨j, hj⟩ := List.getElem?_of_mem hm
    rw [List.getElem?_set] at hj
    by_cases e : i = j
    · subst e
      rw [if_pos rfl, if_pos hil] at hj
      obtain ⟨rfl, rfl, rfl⟩ : g = g1 ∧ t = t1 ∧ cs' = c1 := by simpa using hj
      exact ⟨hbk.1, hn⟩
    · rw [if_neg e] at hj
      have hm1 := h.blk g1 t1 c1 (List.mem_of_getElem? hj)
      refine ⟨hm1.1, hm1.2.grown hg (fun eg => e ?_)⟩
      obtain rfl : g1 = g := by injection eg
      have hjl := (List.getElem?_eq_some_iff.1 hj).1
      have hje := (List.getElem?_eq_some_iff.1 hj).2
      have hp := List.pairwise_iff_getElem.1 h.apart
      rcases Nat.lt_trichotomy i j with hlt | he | hlt
      · exact (hp i j (by simpa using hil) (by simpa using hjl) hlt (by simp [hie, hje])).elim
      · exact he
      · exact (hp j i (by simpa using hjl) (by simpa using hil) hlt (by simp [hie, hje])).elim
  · rw [List.map_set]
    have : (L.map (·.1)).set i g = L.map (·.1) := by
      apply List.ext_getElem?
      intro j
      rw [List.getElem?_set]
      by_cases e : i = j
      · subst e
        rw [if_pos rfl, if_pos (by simpa using hil)]
        simp [hi]
      · rw [if_neg e]
    show ((L.map (·.1)).set i g).Nodup
    rw [this]
    exact h.apart
  · have h1 := h.non k o hk ho hc
    refine (hg.block k (Array.getElem?_eq_some_iff.1 h1).1 (fun e => ?_)).trans h1
    obtain rfl : k = g := by injection e
    have h2 := hbk.2
    unfold Blk at h2
    rw [h2] at h1
    cases h1
    cases hc
theorem St.less {w0 : Base} {w : World} {L M : Blocks} (h : St w0 w L) (hs : M.Sublist L) : St w0 w M :=
  ⟨h.below, fun g t cs hm => h.blk g t cs (hs.subset hm), h.apart.sublist (hs.map _), h.size, h.non⟩

/-! ## What an operation does -/
/-- it is wanted (b), or passed over -/
def wantedF (ops : Array Oper) (F : Slots) (o : Oper) : Option Bool :=
  match o.guard with
  | none => some true
  | some (j, want) => match (ops[j]?).bind (·.dst) with
    | none => some false
    | some t => match F.lookup t with
      | some (.bool b) => some (b == want)
      | some _ => some false
      | none => none
theorem Fr.wanted {ds : List Deferred} {a : Act} {n : Nat} {F : Slots} (h : Fr ds a n F) {ops : Array Oper} {o : Oper} {b : Bool} (hw : wantedF ops F o = some b) : Region.wanted o (yielded ops a.tmps) = b := by
  unfold wantedF at hw
  unfold Region.wanted
  cases hg : o.guard with
  | none => rw [hg] at hw; simpa using hw
  | some jw =>
    obtain ⟨j, want⟩ := jw
    rw [hg] at hw
    simp only at hw ⊢
    cases hd : (ops[j]?).bind (·.dst) with
    | none =>
      rw [hd] at hw
      simp only [yielded, hd, Option.bind_none] at hw ⊢
      simpa using hw
    | some t =>
      rw [hd] at hw
      simp only at hw
      cases hl : F.lookup t with
      | none => rw [hl] at hw; cases hw
      | some v =>
        have hv := h.2.2 t v hl
        rw [hl] at hw
        simp only [yielded, hd, Option.bind_some, hv]
        cases v <;> simp at hw ⊢ <;> exact hw
/-- all that is asked of an operation that is carried out, as one Bool: its operands are known, its slot is one of the frame's -/
def good (ops : Array Oper) (n : Nat) (F : Slots) (o : Oper) : Bool :=
  (wantedF ops F o == some true) && o.op.operands.all (inF F) && fits n o.dst && (match o.op with | .select .. => false | _ => true)
theorem good_spec {ops : Array Oper} {n : Nat} {F : Slots} {o : Oper} (h : good ops n F o = true) : wantedF ops F o = some true ∧ (∀ x ∈ o.op.operands, inF F x = true) ∧ fits n o.dst = true ∧ ∀ cs b, o.op ≠ .select cs b := by
  unfold good at h
  simp only [Bool.and_eq_true, beq_iff_eq] at h
  obtain ⟨⟨⟨h1, h2⟩, h3⟩, h4⟩ := h
  refine ⟨h1, Array.all_eq_true_iff_forall_mem.1 h2, h3, fun cs b e => ?_⟩
  rw [e] at h4
  cases h4
theorem good_exec {ops : Array Oper} {n : Nat} {F : Slots} {o : Oper} (h : good ops n F o = true) {ds : List Deferred} {a : Act} (ha : Fr ds a n F) : execOp a.eval o = execOp (evF F) o :=
  execOp_congr o (good_spec h).2.2.2 fun x hx => ha.eval ((good_spec h).2.1 x (by simpa using hx))

/-- an operation that gives v, whatever the world, and lets it only grow -/
def Quiet (P : Program) (w0 : Base) (F : Slots) (L : Blocks) (o : Oper) (v : Value) : Prop := ∀ w, St w0 w L → Gives P (execOp (evF F) o) v w
theorem Quiet.pure {P : Program} {w0 : Base} {F : Slots} {L : Blocks} {o : Oper} {v : Value} (h : ∀ w, (execOp (evF F) o).run P w = .ok (.value v) w) : Quiet P w0 F L o v := fun w _ => by
  unfold Gives; rw [h w]; exact ⟨rfl, Gr.refl _⟩
theorem Quiet.call {P : Program} {w0 : Base} {F : Slots} {L : Blocks} {o : Oper} {v : Value} (f : FuncId) (args : Array Value) (he : ∀ w, (execOp (evF F) o).run P w = .ok (.enter f args) w)
    (h : ∀ w, Calls P f args w fun e w' => e = .returned v ∧ Below w.heap.size w w') : Quiet P w0 F L o v := fun w _ => by
  unfold Gives; rw [he w]; exact h w
/-- a load of an array or a struct -/
theorem Quiet.load {P : Program} {w0 : Base} {F : Slots} {L : Blocks} {o : Oper} (i g f k : Nat) (t ty : TypeId) (cs : Array Value) (d : TypeDesc) (x : Operand) (ho : o.op = .load ty x) (hx : evF F x = .pointer (some ⟨g, f, none⟩))
    (hL : L[i]? = some (g, t, cs)) (hu : P.underlying ty = some d) (hd : d.isRow = true) (hi : (P.info? ty).map (·.size) = some k) (v : Value) (hv : Value.agg ((cs.toList.drop f).take k).toArray = v) (hk : f + k ≤ cs.size) : Quiet P w0 F L o v := fun w hw => by
  have hb := hw.get hL
  have hl := run_loadVar_mid (P := P) w g f ty ((cs.toList.drop f).take k) d (fun j u hj => by
    rw [hb.cell]
    have hlt : j < k := by
      have := (List.getElem?_eq_some_iff.1 hj).1
      simp at this; omega
    rw [List.getElem?_take_of_lt hlt, List.getElem?_drop] at hj
    simpa using hj) hu hd (by rw [hi]; simp; omega)
  unfold Gives execOp
  simp only [ho, hx, Instr.loadAt, Instr.sureAddr, Sem.run_bind, Sem.run_pure, Result.andThen_ok, hl]
  exact ⟨hv, Gr.refl _⟩
/-- a load of one cell -/
theorem Quiet.cell {P : Program} {w0 : Base} {F : Slots} {L : Blocks} {o : Oper} (i g f : Nat) (t ty : TypeId) (cs : Array Value) (d : TypeDesc) (x : Operand) (ho : o.op = .load ty x) (hx : evF F x = .pointer (some ⟨g, f, none⟩))
    (hL : L[i]? = some (g, t, cs)) (hu : P.underlying ty = some d) (hd : d.isRow = false) (v : Value) (hv : cs[f]? = some v) : Quiet P w0 F L o v := fun w hw => by
  have hb := hw.get hL
  have hc : w.cell? ⟨g, f, none⟩ = some v := (hb.cell f).trans hv
  have ha : (isAgg ty).run P w = .ok false w := by
    cases d <;> first | (cases hd; done) | simp [isAgg, underlying, hu]
  unfold Gives execOp
  simp only [ho, hx, Instr.loadAt, Instr.sureAddr, Sem.run_bind, Sem.run_pure, Result.andThen_ok, loadVar, ha, Bool.false_eq_true, if_false, run_load, hc]
  exact ⟨trivial, Gr.refl _⟩

/-! ## The judgements -/
section
variable {P : Program} {w0 : Base} {n : Nat}
/-- from any frame and world of which F and L are known, the code leads to Q -/
def wpC (P : Program) (w0 : Base) (n : Nat) (Q : Exit → Act → World → Prop) (F : Slots) (L : Blocks) (c : Code) : Prop := ∀ a w, Fr w0.ds a n F → St w0 w L → c.wpIn w0.fence w0.room P Q a w
/-- .. the rest of a region's list .. -/
def wpS (P : Program) (w0 : Base) (n : Nat) (ops : Array Oper) (Q : Exit → Act → World → Prop) (F : Slots) (L : Blocks) (l : List Oper) : Prop := ∀ a w, Fr w0.ds a n F → St w0 w L → wpList P ops Q l a w
/-- .. a region that draws its order, of which some are carried out .. -/
def wpD (P : Program) (w0 : Base) (n : Nat) (ops : Array Oper) (Q : Exit → Act → World → Prop) (ex : Nat → Bool) (F : Slots) (L : Blocks) (fuel : Nat) (listed : Array Bool) : Prop := ∀ a w, Fr w0.ds a n F → St w0 w L → wpAnyG P .any ops Q ex fuel listed a w
/-- .. an exit -/
def X (w0 : Base) (n : Nat) (Q : Exit → Act → World → Prop) (F : Slots) (L : Blocks) (e : Exit) : Prop := ∀ a w, Fr w0.ds a n F → St w0 w L → Q e a w

variable {Q : Exit → Act → World → Prop} {F : Slots} {L : Blocks}
theorem seq {x y : Code} (h : wpC P w0 n (Exit.then (y.wpIn w0.fence w0.room P Q) Q) F L x) : wpC P w0 n Q F L (.seq x y) := fun a w ha hw => wpIn_seq (h a w ha hw)
theorem then_ {y : Code} (h : wpC P w0 n Q F L y) : X w0 n (Exit.then (y.wpIn w0.fence w0.room P Q) Q) F L .normal := h
theorem then_ret {K : Act → World → Prop} (h : X w0 n Q F L .ret) : X w0 n (Exit.then K Q) F L .ret := h
theorem then_exit {K : Act → World → Prop} {i : Nat} (h : X w0 n Q F L (.exit i)) : X w0 n (Exit.then K Q) F L (.exit i) := h
theorem block {i : Nat} {c : Code} (h : wpC P w0 n (Exit.inBlock i Q) F L c) : wpC P w0 n Q F L (.block i c) := fun a w ha hw => wpIn_block (h a w ha hw)
theorem in_ {i : Nat} (h : X w0 n Q F L .normal) : X w0 n (Exit.inBlock i Q) F L .normal := h
theorem in_ret {i : Nat} (h : X w0 n Q F L .ret) : X w0 n (Exit.inBlock i Q) F L .ret := h
theorem in_exit {i : Nat} (h : X w0 n Q F L .normal) : X w0 n (Exit.inBlock i Q) F L (.exit i) := fun a w ha hw => by
  show if i = i then Q .normal a w else Q (.exit i) a w
  rw [if_pos rfl]; exact h a w ha hw
theorem skip (h : X w0 n Q F L .normal) : wpC P w0 n Q F L .skip := fun a w ha hw => wpIn_skip (h a w ha hw)
theorem ret (h : X w0 n Q F L .ret) : wpC P w0 n Q F L .ret := fun a w ha hw => wpIn_ret (h a w ha hw)
theorem exit {i : Nat} (h : X w0 n Q F L (.exit i)) : wpC P w0 n Q F L (.exit i) := fun a w ha hw => wpIn_exit (h a w ha hw)
theorem cond_t {c : Operand} {x y : Code} (hi : inF F c = true) (hc : evF F c = .bool true) (h : wpC P w0 n Q F L x) : wpC P w0 n Q F L (.cond c x y) := fun a w ha hw => wpIn_cond_true ((ha.eval hi).trans hc) (h a w ha hw)
theorem cond_f {c : Operand} {x y : Code} (hi : inF F c = true) (hc : evF F c = .bool false) (h : wpC P w0 n Q F L y) : wpC P w0 n Q F L (.cond c x y) := fun a w ha hw => wpIn_cond_false ((ha.eval hi).trans hc) (h a w ha hw)
/-! a region carried out in the order of its list -/
variable {ops : Array Oper} {o : Oper} {l : List Oper}
theorem region {i : Nat} (h : wpS P w0 n ops Q F L ops.toList) (hf : w0.fence = Fence.wide := by rfl) : wpC P w0 n Q F L (.region i ops false) := fun a w ha hw => by
  rw [hf]
  exact wpIn_wide.2 (wp_region_list (h a w ha hw))
theorem nil (h : X w0 n Q F L .normal) : wpS P w0 n ops Q F L [] := fun a w ha hw => wpList_nil (h a w ha hw)
theorem step (hg : good ops n F o = true) (v : Value) (hq : Quiet P w0 F L o v) (h : wpS P w0 n ops Q (putF F o.dst v) L l) : wpS P w0 n ops Q F L (o :: l) := fun a w ha hw => by
  obtain ⟨g1, _, g3, _⟩ := good_spec hg
  refine wpList_step fun K hK => ?_
  rw [if_pos (ha.wanted g1)]
  have h0 := hq w hw
  have he := good_exec hg ha
  unfold Gives at h0
  unfold Oper.wp
  rw [he]
  generalize (execOp (evF F) o).run P w = r at *
  cases r with
  | ok x w' =>
    cases x <;> simp only [Oper.upon] at h0 ⊢
    case value u => rw [h0.1]; exact hK _ _ (h _ _ (ha.put g3 v) (hw.gr h0.2))
    case skip => rw [← h0.1]; exact hK _ _ (h _ _ (ha.put g3 v) (hw.gr h0.2))
    case enter f args =>
      refine Calls.mono h0 fun e w'' he => ?_
      rw [he.1]
      exact hK _ _ (h _ _ (ha.put g3 v) (hw.gr he.2))
  | halt x w' => cases x <;> exact h0.elim
theorem pass (hg : wantedF ops F o = some false) (hd : fits n o.dst = true) (h : wpS P w0 n ops Q (putF F o.dst undef) L l) : wpS P w0 n ops Q F L (o :: l) := fun a w ha hw => by
  refine wpList_step fun K hK => ?_
  rw [if_neg (by rw [ha.wanted hg]; exact Bool.false_ne_true)]
  exact hK _ _ (h _ _ (ha.put hd undef) hw)
/-- an operation that makes a block of the call's own -/
def Makes (P : Program) (F : Slots) (o : Oper) (t : TypeId) (cs : Array Value) (val : Nat → Value) : Prop := ∀ w, (execOp (evF F) o).run P w = .ok (.value (val w.heap.size)) (w.alloc (.cells cs t))
/-- the address of a block -/
def ptr (g : Nat) : Value := .pointer (some ⟨g, 0, none⟩)
theorem make (hg : good ops n F o = true) (t : TypeId) (cs : Array Value) (val : Nat → Value) (hm : Makes P F o t cs val) (h : ∀ g, wpS P w0 n ops Q (putF F o.dst (val g)) (L ++ [(g, t, cs)]) l) : wpS P w0 n ops Q F L (o :: l) := fun a w ha hw => by
  obtain ⟨g1, _, g3, _⟩ := good_spec hg
  refine wpList_step fun K hK => ?_
  rw [if_pos (ha.wanted g1)]
  unfold Oper.wp
  rw [good_exec hg ha, hm w]
  exact hK _ _ (h w.heap.size _ _ (ha.put g3 _) (hw.add (gr_alloc w _) (Nat.le_refl _) (Blk.new w t cs)))
/-- an operation that writes into a block of the call's own -/
def Writes (P : Program) (F : Slots) (o : Oper) (g : Nat) (t : TypeId) (cs cs' : Array Value) : Prop :=
  ∀ w, Blk w g t cs → ∃ w', (execOp (evF F) o).run P w = .ok .skip w' ∧ w.grownBy w' (some g) ∧ Blk w' g t cs'
theorem Writes.store {F : Slots} {o : Oper} (f : Nat) {g : Nat} {t : TypeId} {cs cs' : Array Value} (ty : TypeId) (cells : Array Value) (x y : Operand) (ho : o.op = .store ty x y) (hx : evF F x = .pointer (some ⟨g, f, none⟩)) (hy : evF F y = .agg cells)
    (hi : (P.info? ty).map (·.size) = some cells.size) (hk : f + cells.size ≤ cs.size) (h1 : cells.all (·.oneCell') = true) (hcs : setAll cs f cells.toList = cs') : Writes P F o g t cs cs' :=
  fun w hb => ⟨w.setCells g f cells.toList, by
    unfold execOp
    simp only [ho, hx, hy, run_storeAt_mid w g f ty cells (hb.there f cells.size hk) hi h1, Sem.run_bind, Sem.run_pure, Result.andThen_ok],
    only_setCells cells.toList f w (World.grownBy.refl w (some g)),
    hcs ▸ Blk.setCells cells.toList f w cs hb⟩
theorem write (hg : good ops n F o = true) (i g : Nat) (t : TypeId) (cs cs' : Array Value) (hL : L[i]? = some (g, t, cs)) (hm : Writes P F o g t cs cs') (h : wpS P w0 n ops Q (putF F o.dst undef) (L.set i (g, t, cs')) l) : wpS P w0 n ops Q F L (o :: l) := fun a w ha hw => by
  obtain ⟨g1, _, g3, _⟩ := good_spec hg
  obtain ⟨w', h1, h2, h3⟩ := hm w (hw.get hL)
  refine wpList_step fun K hK => ?_
  rw [if_pos (ha.wanted g1)]
  unfold Oper.wp
  rw [good_exec hg ha, h1]
  exact hK _ _ (h _ _ (ha.put g3 _) (hw.set hL h2 h3))

/-! a region that draws its order -/
variable {ex : Nat → Bool} {fuel : Nat} {listed : Array Bool}
theorem regionD {i : Nat} (ex : Nat → Bool) (hm : P.follows .mixedOrders = true) (h : wpD P w0 n ops Q ex F L ops.size (Array.replicate ops.size false)) (hf : w0.fence = Fence.wide := by rfl) : wpC P w0 n Q F L (.region i ops true) := fun a w ha hw => by
  rw [hf]
  exact wpIn_wide.2 (wp_region_G ex hm (h a w ha hw))
theorem doneD (hr : Region.ready .any ops listed = []) (h : X w0 n Q F L .normal) : wpD P w0 n ops Q ex F L fuel listed := fun a _ ha hw => wpAnyG_done hr fun w1 h1 => h a w1 ha (hw.gr h1)
theorem quiet_yields {o : Oper} {v : Value} {a : Act} {w : World} (hg : good ops n F o = true) (hq : Quiet P w0 F L o v) (ha : Fr w0.ds a n F) (hw : St w0 w L) : YieldsG P ops o v a w :=
  .inl ⟨ha.wanted (good_spec hg).1, fun w1 h1 => by rw [good_exec hg ha]; exact hq w1 (hw.gr h1)⟩
theorem stepD (i : Nat) {oi : Oper} (hi0 : ops.toList[i]? = some oi) (hc : canTake .any ops listed ex i = true) (hQ : ∀ c v a w, Q (.panic c) (a.put oi.dst v) w → Q (.panic c) a w)
    (hg : good ops n F oi = true) (v : Value) (hq : Quiet P w0 F L oi v) (h : wpD P w0 n ops Q ex (putF F oi.dst v) L fuel (listed.setIfInBounds i true)) : wpD P w0 n ops Q ex F L (fuel + 1) listed := fun _ _ ha hw =>
  wpAnyG_take i hi0 hc (fun c => hQ c v) (quiet_yields hg hq ha hw) (h _ _ (ha.put (good_spec hg).2.2.1 v) hw)
theorem stepDB (i : Nat) (bs : List Nat) {oi : Oper} (hi0 : ops.toList[i]? = some oi) (hc : canTakeB .any ops listed ex i bs = true) (hQ : ∀ c v a w, Q (.panic c) (a.put oi.dst v) w → Q (.panic c) a w)
    (hg : good ops n F oi = true) (v : Value) (hq : Quiet P w0 F L oi v) (h : wpD P w0 n ops Q ex (putF F oi.dst v) L fuel (listed.setIfInBounds i true)) : wpD P w0 n ops Q ex F L (fuel + 1) listed := fun _ _ ha hw =>
  wpAnyG_takeB i bs hi0 hc (fun c => hQ c v) (quiet_yields hg hq ha hw) (h _ _ (ha.put (good_spec hg).2.2.1 v) hw)
theorem passD (i : Nat) {oi : Oper} (hi0 : ops.toList[i]? = some oi) (hc : canTake .any ops listed ex i = true) (hQ : ∀ c v a w, Q (.panic c) (a.put oi.dst v) w → Q (.panic c) a w)
    (hg : wantedF ops F oi = some false) (hd : fits n oi.dst = true) (h : wpD P w0 n ops Q ex (putF F oi.dst undef) L fuel (listed.setIfInBounds i true)) : wpD P w0 n ops Q ex F L (fuel + 1) listed := fun _ _ ha hw =>
  wpAnyG_take i hi0 hc (fun c => hQ c undef) (YieldsG.skip (ha.wanted hg)) (h _ _ (ha.put hd undef) hw)
theorem makeD (i : Nat) {oi : Oper} (hi0 : ops.toList[i]? = some oi) (hr : Region.ready .any ops listed = [i]) (hg : good ops n F oi = true) (t : TypeId) (cs : Array Value) (val : Nat → Value) (hm : Makes P F oi t cs val)
    (h : ∀ g, wpD P w0 n ops Q ex (putF F oi.dst (val g)) (L ++ [(g, t, cs)]) fuel (listed.setIfInBounds i true)) : wpD P w0 n ops Q ex F L (fuel + 1) listed := fun a w ha hw =>
  wpAnyG_sole i hi0 hr (ha.wanted (good_spec hg).1) fun w1 h1 K hK => by
    unfold Oper.wp
    rw [good_exec hg ha, hm w1]
    exact hK _ _ (fun _ => gr_alloc w1 _) (h w1.heap.size _ _ (ha.put (good_spec hg).2.2.1 _) ((hw.gr h1).add (gr_alloc w1 _) (Nat.le_refl _) (Blk.new w1 t cs)))
theorem writeD (k : Nat) {oi : Oper} (hi0 : ops.toList[k]? = some oi) (hr : Region.ready .any ops listed = [k]) (hex : ex k = true) (hg : good ops n F oi = true) (i g : Nat) (t : TypeId) (cs cs' : Array Value) (hL : L[i]? = some (g, t, cs)) (hm : Writes P F oi g t cs cs')
    (h : wpD P w0 n ops Q ex (putF F oi.dst undef) (L.set i (g, t, cs')) fuel (listed.setIfInBounds k true)) : wpD P w0 n ops Q ex F L (fuel + 1) listed := fun a w ha hw =>
  wpAnyG_sole k hi0 hr (ha.wanted (good_spec hg).1) fun w1 h1 K hK => by
    obtain ⟨w', e1, e2, e3⟩ := hm w1 ((hw.gr h1).get hL)
    unfold Oper.wp
    rw [good_exec hg ha, e1]
    exact hK _ _ (fun e => by rw [hex] at e; cases e) (h _ _ (ha.put (good_spec hg).2.2.1 _) ((hw.gr h1).set hL e2 e3))

/-! entering, leaving -/
/-- what a contract says that only grows the world -/
def Gets (w0 : World) (v : Value) (e : Ending) (w' : World) : Prop := e = .returned v ∧ Below w0.heap.size w0 w'
def slotsOf : Nat → List Value → Slots
  | _, [] => []
  | i, v :: r => (i, v) :: slotsOf (i + 1) r
theorem lookup_slotsOf : ∀ (l : List Value) (i j : Nat) (v : Value), (slotsOf i l).lookup j = some v → i ≤ j ∧ l[j - i]? = some v
  | [], _, _, _, h => by cases h
  | u :: r, i, j, v, h => by
    simp only [slotsOf, List.lookup_cons] at h
    by_cases e : j = i
    · subst e
      simp at h
      subst h
      exact ⟨Nat.le_refl _, by simp⟩
    · have e' : (j == i) = false := by simpa using e
      rw [e'] at h
      obtain ⟨h1, h2⟩ := lookup_slotsOf r (i + 1) j v h
      refine ⟨by omega, ?_⟩
      rw [show j - i = (j - (i + 1)) + 1 by omega]
      simpa using h2
theorem enter {f : FuncId} {fn : Func} {c : Code} {args : List Value} {w : World} {R : Ending → World → Prop} (hf : P.funcs[f]? = some fn) (hb : fn.body = some c) (hn : args.length ≤ fn.ntmps)
    (h : wpC P (Base.of w) fn.ntmps (bodyPost P fn R) (slotsOf 0 args) [] c) : Calls P f args.toArray w R :=
  calls_of_wp hf hb (wpIn_wide.1 (h _ _ ⟨rfl, by simp; omega, fun i v hi => by
    have := (lookup_slotsOf args 0 i v hi).2
    rw [Nat.sub_zero] at this
    have hl := (List.getElem?_eq_some_iff.1 this).1
    rw [Array.getElem?_append_left (by simpa using hl)]
    simpa using this⟩ (St.start w)))
/-- a result lies in a slot, or in a block -/
def Res (P : Program) (F : Slots) (L : Blocks) (r : ResultVar) (v : Value) : Prop :=
  match r with
  | .tmp t => F.lookup t = some v
  | .cell t ty => ∃ (g i : Nat) (ty' : TypeId) (cs : Array Value) (d : TypeDesc), F.lookup t = some (.pointer (some ⟨g, 0, none⟩)) ∧ L[i]? = some (g, ty', cs) ∧ P.underlying ty = some d ∧ d.isRow = true ∧ (P.info? ty).map (·.size) = some cs.size ∧ v = .agg cs
theorem Res.cell {t : Tmp} {ty ty' : TypeId} {v : Value} (g i : Nat) (cs : Array Value) (d : TypeDesc) (h1 : F.lookup t = some (.pointer (some ⟨g, 0, none⟩))) (h2 : L[i]? = some (g, ty', cs)) (h3 : P.underlying ty = some d) (h4 : d.isRow = true) (h5 : (P.info? ty).map (·.size) = some cs.size) (h6 : v = .agg cs) : Res P F L (.cell t ty) v :=
  ⟨g, i, ty', cs, d, h1, h2, h3, h4, h5, h6⟩
/-- .. a scalar in a block -/
def ResC (P : Program) (F : Slots) (L : Blocks) (t : Tmp) (ty : TypeId) (v : Value) : Prop :=
  ∃ (g i : Nat) (ty' : TypeId) (cs : Array Value) (d : TypeDesc), F.lookup t = some (.pointer (some ⟨g, 0, none⟩)) ∧ L[i]? = some (g, ty', cs) ∧ P.underlying ty = some d ∧ d.isRow = false ∧ cs[0]? = some v
/-- a result that is there -/
abbrev Has (P : Program) (F : Slots) (L : Blocks) (r : ResultVar) (v : Value) : Prop := Res P F L r v ∨ ∃ t ty, r = .cell t ty ∧ ResC P F L t ty v
theorem Res.run {ds : List Deferred} {a : Act} {w : World} {r : ResultVar} {v : Value} (h : Has P F L r v) (ha : Fr ds a n F) (hw : St w0 w L) :
    (∃ t, r = .tmp t ∧ a.tmps[t]?.getD undef = v) ∨ ∃ t ty ad, r = .cell t ty ∧ (asAddr (a.tmps[t]?.getD undef)).run P w = .ok ad w ∧ (loadVar ty ad).run P w = .ok v w := by
  rcases h with h | ⟨t, ty, rfl, g, i, ty', cs, d, h1, h2, h3, h4, h5⟩
  · cases r with
    | tmp t => exact .inl ⟨t, rfl, by simp [ha.2.2 t v h]⟩
    | cell t ty =>
      obtain ⟨g, i, ty', cs, d, h1, h2, h3, h4, h5, rfl⟩ := h
      have e2 := run_loadVar_row (P := P) w g ty' ty cs (0, 0) d (hw.get h2) h3 (by cases d <;> first | rfl | cases h4) h5
      exact .inr ⟨t, ty, ⟨g, 0, none⟩, rfl, by simp [ha.2.2 t _ h1, asAddr], e2⟩
  · have hb := hw.get h2
    have hc : w.cell? ⟨g, 0, none⟩ = some v := (hb.cell 0).trans h5
    have hag : (isAgg ty).run P w = .ok false w := by
      cases d <;> first | (cases h4; done) | simp [isAgg, underlying, h3]
    exact .inr ⟨t, ty, ⟨g, 0, none⟩, rfl, by simp [ha.2.2 t _ h1, asAddr], by simp [loadVar, hag, hc, Result.andThen]⟩
theorem ret1 {w1 : World} {fn : Func} {r : ResultVar} {v : Value} (hr : fn.results = #[r]) (h : Has P F L r v) : X (Base.of w1) n (bodyPost P fn (Gets w1 v)) F L .ret := fun a w ha hw => by
  refine bodyPost_ret (v := v) ?_ ha.1 ⟨rfl, hw.below⟩
  rcases Res.run h ha hw with ⟨t, rfl, e1⟩ | ⟨t, ty, ad, rfl, e1, e2⟩ <;> simp [results, Result.andThen, *]
theorem ret2 {w1 : World} {fn : Func} {r s : ResultVar} {v u : Value} (hr : fn.results = #[r, s]) (h : Has P F L r v) (k : Has P F L s u) : X (Base.of w1) n (bodyPost P fn (Gets w1 (.tuple #[v, u]))) F L .ret := fun a w ha hw => by
  refine bodyPost_ret (v := .tuple #[v, u]) ?_ ha.1 ⟨rfl, hw.below⟩
  rcases Res.run h ha hw with ⟨t, rfl, e1⟩ | ⟨t, ty, ad, rfl, e1, e2⟩ <;> rcases Res.run k ha hw with ⟨t', rfl, f1⟩ | ⟨t', ty', ad', rfl, f1, f2⟩ <;> simp [results, Result.andThen, *]
end
end Go.Proofs.Ytneeefinaejgcaa.Sy

end
section
namespace Go.Proofs.Ytneeefinaejgcaa.Ec
variable {n : Nat} [NeZero n]

/-- the modulus is a prime other than 2, inv is the inverse, and no point of the curve has a Y that is 0 -/
structure Fld (n : Nat) [NeZero n] (inv : Fin n → Fin n) : Prop where
  one : ∀ x : Fin n, x ≠ 0 → x * inv x = 1
  two : ∀ x : Fin n, x + x = 0 → x = 0
  noTwo : ∀ x y : Fin n, y * y = x * x * x + 7 → y ≠ 0

variable {inv : Fin n → Fin n}

theorem Fld.zero (H : Fld n inv) {a b : Fin n} (h : a * b = 0) : a = 0 ∨ b = 0 := by
  by_cases ha : a = 0
  · exact .inl ha
  · have := H.one a ha
    right; grobner
/-- a point: none at infinity -/
abbrev Pt (n : Nat) := Option (Fin n × Fin n)
def On : Pt n → Prop
  | none => True
  | some (x, y) => y * y = x * x * x + 7
def neg : Pt n → Pt n
  | none => none
  | some (x, y) => some (x, -y)
def slp (inv : Fin n → Fin n) (x1 y1 x2 y2 : Fin n) : Fin n := if x1 = x2 then x1 * x1 * 3 * inv (y1 + y1) else (y2 - y1) * inv (x2 - x1)
def x3 (l x1 x2 : Fin n) : Fin n := l * l - x1 - x2
def y3 (l x1 y1 x2 : Fin n) : Fin n := l * (x1 - x3 l x1 x2) - y1
def add (inv : Fin n → Fin n) : Pt n → Pt n → Pt n
  | none, q => q
  | some p, none => some p
  | some (x1, y1), some (x2, y2) => if x1 = x2 ∧ y1 + y2 = 0 then none else some (x3 (slp inv x1 y1 x2 y2) x1 x2, y3 (slp inv x1 y1 x2 y2) x1 y1 x2)

/-- three points on a line, which meets the curve in just these -/
def Col (x1 y1 x2 y2 x3 y3 l v : Fin n) : Prop :=
  y1 = l * x1 + v ∧ y2 = l * x2 + v ∧ y3 = l * x3 + v ∧ l * l = x1 + x2 + x3 ∧ -(2 * l * v) = x1 * x2 + x1 * x3 + x2 * x3 ∧ x1 * x2 * x3 = v * v - 7

theorem neg_neg' (y : Fin n) : - -y = y := by grobner

theorem add_zero (P : Pt n) : add inv P none = P := by cases P <;> rfl
theorem On.neg {P : Pt n} (h : On P) : On (neg P) := by
  rcases P with _ | ⟨x, y⟩
  · trivial
  · show -y * -y = _
    have : y * y = x * x * x + 7 := h
    grobner
theorem add_neg (P : Pt n) : add inv P (neg P) = none := by
  rcases P with _ | ⟨x, y⟩
  · rfl
  · simp only [neg, add]
    rw [if_pos ⟨trivial, by grobner⟩]
/-- who stands on a line between two others, and is neither, is the third one -/
theorem third_on (H : Fld n inv) {x1 y1 x2 y2 x3 y3 u v l c : Fin n} (h : Col x1 y1 x2 y2 u (-v) l c) (h3 : y3 * y3 = x3 * x3 * x3 + 7) (hl : y3 = l * x3 + c) (n1 : x3 ≠ x1) (n2 : x3 ≠ x2) : x3 = u ∧ y3 = -v := by
  obtain ⟨a1, a2, a3, e1, e2, e3⟩ := h
  have hz : (x3 - x1) * ((x3 - x2) * (x3 - u)) = 0 := by
    subst hl
    clear a1 a2 a3 n1 n2
    grobner
  have g : x3 = u := by
    rcases H.zero hz with k | k
    · exact absurd (by clear a1 a2 a3 e1 e2 e3 h3 hl hz; grobner) n1
    rcases H.zero k with k | k
    · exact absurd (by clear a1 a2 a3 e1 e2 e3 h3 hl hz; grobner) n2
    · clear a1 a2 a3 e1 e2 e3 h3 hl hz; grobner
  refine ⟨g, ?_⟩
  rw [a3, hl, g]

theorem off {x1 y1 x2 y2 : Fin n} (H : Fld n inv) (h1 : y1 * y1 = x1 * x1 * x1 + 7) (h2 : y2 * y2 = x2 * x2 * x2 + 7) (hn : ¬ (x1 = x2 ∧ y1 = y2)) (hm : ¬ (x1 = x2 ∧ y1 + y2 = 0)) : x1 ≠ x2 := by
  rintro rfl
  have hz : (y1 - y2) * (y1 + y2) = 0 := by clear hn hm; grobner
  rcases H.zero hz with g | g
  · exact hn ⟨rfl, by clear h1 h2 hz hn hm; grobner⟩
  · exact hm ⟨rfl, g⟩

end Go.Proofs.Ytneeefinaejgcaa.Ec

end
section
namespace Go.Proofs.Ytneeefinaejgcaa.Ec
variable {n : Nat} [NeZero n] {inv : Fin n → Fin n}

theorem val_of_sum {x y : Fin n} (h : x + y = 0) (hx : x ≠ 0) : x.val + y.val = n := by
  have h1 : (x.val + y.val) % n = 0 := by
    have := congrArg Fin.val h
    rw [Fin.val_add] at this
    exact this
  have h2 := x.isLt
  have h3 := y.isLt
  have h4 : x.val ≠ 0 := fun e => hx (Fin.ext e)
  have h5 := Nat.div_add_mod (x.val + y.val) n
  rw [h1] at h5
  have h6 : (x.val + y.val) / n < 2 := Nat.div_lt_of_lt_mul (by omega)
  have h7 : (x.val + y.val) / n ≠ 0 := fun e => by rw [e] at h5; omega
  have h8 : (x.val + y.val) / n = 1 := by
    clear h5 h1
    generalize (x.val + y.val) / n = q at *
    omega
  rw [h8] at h5
  omega
end Go.Proofs.Ytneeefinaejgcaa.Ec

end
section
namespace Go.Proofs.Ytneeefinaejgcaa
open Go.RowKit Go.Lib

namespace M64
theorem maskN (a : Nat) (ha : a < 18446744073709551616) : bits .and .u64 (a : Int) 4294967295 = ((a % 4294967296 : Nat) : Int) := by
  have h := bits_and_u64_nat a 4294967295 ha (by omega)
  have e : a &&& 4294967295 = a % 4294967296 := Nat.and_two_pow_sub_one_eq_mod a 32
  rw [e] at h
  exact h
theorem divN (a : Nat) : (a : Int) / 4294967296 = ((a / 4294967296 : Nat) : Int) := by omega
theorem mulN (a b : Nat) : (a : Int) * (b : Int) = ((a * b : Nat) : Int) := (Int.natCast_mul a b).symm
theorem addN (a b : Nat) : (a : Int) + (b : Int) = ((a + b : Nat) : Int) := (Int.natCast_add a b).symm
theorem wrapN (a : Nat) (ha : a < 18446744073709551616) : IntKind.u64.wrap (a : Int) = (a : Int) := by rw [IntKind.wrap_u64]; omega
theorem wrapM (a : Nat) : IntKind.u64.wrap (a : Int) = ((a % 18446744073709551616 : Nat) : Int) := by rw [IntKind.wrap_u64]; omega
end M64

set_option maxHeartbeats 1000000 in
theorem mul64_any (w : World) (x y : Nat) (hx : x < 18446744073709551616) (hy : y < 18446744073709551616) :
    Calls Try.prog 74 #[.int .u64 x, .int .u64 y] w fun e w' => e = .returned (.tuple #[.int .u64 ((x * y / 18446744073709551616 : Nat) : Int), .int .u64 ((x * y % 18446744073709551616 : Nat) : Int)]) ∧ w' = w := by
  obtain ⟨bd, bt, bw, hhi⟩ := Lib.mul64_hi x y hx hy
  have ba := Lib.half_mul_le (a := x / 4294967296) (b := y / 4294967296) (by omega) (by omega)
  have bb := Lib.half_mul_le (a := x / 4294967296) (b := y % 4294967296) (by omega) (by omega)
  have bc := Lib.half_mul_le (a := x % 4294967296) (b := y / 4294967296) (by omega) (by omega)
  have ba' : x / 4294967296 * (y / 4294967296) < 18446744073709551616 := by omega
  have bb' : x / 4294967296 * (y % 4294967296) < 18446744073709551616 := by omega
  have bc' : x % 4294967296 * (y / 4294967296) < 18446744073709551616 := by omega
  have bh1 : x / 4294967296 * (y / 4294967296) + (x / 4294967296 * (y % 4294967296) + x % 4294967296 * (y % 4294967296) / 4294967296) / 4294967296 < 18446744073709551616 := by omega
  have bh : x / 4294967296 * (y / 4294967296) + (x / 4294967296 * (y % 4294967296) + x % 4294967296 * (y % 4294967296) / 4294967296) / 4294967296 + ((x / 4294967296 * (y % 4294967296) + x % 4294967296 * (y % 4294967296) / 4294967296) % 4294967296 + x % 4294967296 * (y / 4294967296)) / 4294967296 < 18446744073709551616 := by omega
  go_enter Try.func74, Try.ntmps74
  go_wp2
  simp only [M64.maskN x hx, M64.maskN y hy, M64.divN, M64.mulN, M64.addN, M64.wrapN _ bd, M64.wrapN _ bb', M64.wrapN _ bt, M64.maskN _ bt, M64.wrapN _ bc', M64.wrapN _ bw, M64.wrapN _ ba', M64.wrapN _ bh1, M64.wrapN _ bh, M64.wrapM (x * y)]
  rw [hhi]
  exact bodyPost_ret (v := .tuple #[_, _]) (by simp [results, Try.results74, go_sem]) rfl ⟨rfl, rfl⟩
theorem mul64_at (w : World) (x y hi lo : Nat) (hx : x < 18446744073709551616) (hy : y < 18446744073709551616) (hlo : lo < 18446744073709551616) (he : lo + 18446744073709551616 * hi = x * y) :
    Calls Try.prog 74 #[.int .u64 x, .int .u64 y] w fun e w' => e = .returned (.tuple #[.int .u64 (hi : Int), .int .u64 (lo : Int)]) ∧ w' = w := by
  have e1 : x * y / 18446744073709551616 = hi := by omega
  have e2 : x * y % 18446744073709551616 = lo := by omega
  have h := mul64_any w x y hx hy
  rw [e1, e2] at h
  exact h
theorem mul_ex (x y : Nat) (hx : x < 18446744073709551616) (hy : y < 18446744073709551616) : ∃ hi lo : Nat, lo < 18446744073709551616 ∧ hi + 2 ≤ 18446744073709551616 ∧ lo + 18446744073709551616 * hi = x * y := by
  have h : x * y ≤ 18446744073709551615 * 18446744073709551615 := Nat.mul_le_mul (by omega) (by omega)
  exact ⟨x * y / 18446744073709551616, x * y % 18446744073709551616, by omega, by omega, by omega⟩

set_option maxHeartbeats 1000000 in
theorem times_at {v : Value} (w : World) (x m s t : Nat) (h1 : fv x = v) (hx : x < 115792089237316195423570985008687907853269984665640564039457584007913129639936) (hm : m < 18446744073709551616) (hs : s < 115792089237316195423570985008687907853269984665640564039457584007913129639936) (he : s + 115792089237316195423570985008687907853269984665640564039457584007913129639936 * t = x * m) :
    Calls Try.prog 73 #[v, .int .u64 (m : Int)] w fun e w' => e = .returned (.tuple #[fv s, .int .u64 (t : Int)]) ∧ Below w.heap.size w w' := by
  subst h1
  obtain ⟨x0, x1, x2, x3, a0, a1, a2, a3, ex, fx⟩ := words_of x hx
  obtain ⟨p0, q0, b0, c0, e0⟩ := mul_ex x0 m a0 hm
  obtain ⟨p1, q1, b1, c1, e1⟩ := mul_ex x1 m a1 hm
  obtain ⟨p2, q2, b2, c2, e2⟩ := mul_ex x2 m a2 hm
  obtain ⟨p3, q3, b3, c3, e3⟩ := mul_ex x3 m a3 hm
  have em : x * m = x0 * m + 18446744073709551616 * (x1 * m) + 340282366920938463463374607431768211456 * (x2 * m) + 6277101735386680763835789423207666416102355444464034512896 * (x3 * m) := by rw [ex, row_mul]
  have fl := fv_mk q0 q1 q2 q3 b0 b1 b2 b3
  have fh := fv_mk 0 p0 p1 p2 (by omega) (by omega) (by omega) (by omega)
  obtain ⟨L, hL⟩ : ∃ L, L = q0 + 18446744073709551616 * q1 + 340282366920938463463374607431768211456 * q2 + 6277101735386680763835789423207666416102355444464034512896 * q3 := ⟨_, rfl⟩
  obtain ⟨H, hH⟩ : ∃ H, H = 0 + 18446744073709551616 * p0 + 340282366920938463463374607431768211456 * p1 + 6277101735386680763835789423207666416102355444464034512896 * p2 := ⟨_, rfl⟩
  obtain ⟨k, hk⟩ : ∃ k, L + H = s + 115792089237316195423570985008687907853269984665640564039457584007913129639936 * k ∧ t = p3 + k := by
    refine ⟨t - p3, ?_, ?_⟩ <;> omega
  have hLt : L < 115792089237316195423570985008687907853269984665640564039457584007913129639936 := by omega
  have hHt : H < 115792089237316195423570985008687907853269984665640564039457584007913129639936 := by omega
  have hp := fun w => plus_at w L H s k rfl rfl hLt hHt hs hk.1.symm
  rw [← hL] at fl
  rw [← hH] at fh
  have m0 := fun w => mul64_at w x0 m p0 q0 a0 hm b0 e0
  have m1 := fun w => mul64_at w x1 m p1 q1 a1 hm b1 e1
  have m2 := fun w => mul64_at w x2 m p2 q2 a2 hm b2 e2
  have m3 := fun w => mul64_at w x3 m p3 q3 a3 hm b3 e3
  have hadd : (p3 : Int) + (k : Int) = (t : Int) := by omega
  have ht : t < 18446744073709551616 := by omega
  have hp := fun w => plus_at w L H s k fl.symm fh.symm hLt hHt hs hk.1.symm
  rw [fx]
  clear ex fx a0 a1 a2 a3 b0 b1 b2 b3 c0 c1 c2 c3 e0 e1 e2 e3 em fl fh hL hH hk hLt hHt he hs hx hm
  go_enter Try.func73, Try.ntmps73
  go_wp2_with fail
  refine (m0 _).mono ?_
  rintro e w1 ⟨rfl, rfl⟩
  go_wp2_with fail
  refine (m1 _).mono ?_
  rintro e w1 ⟨rfl, rfl⟩
  go_wp2_with fail
  refine (m2 _).mono ?_
  rintro e w1 ⟨rfl, rfl⟩
  go_wp2_with fail
  refine (m3 _).mono ?_
  rintro e w1 ⟨rfl, rfl⟩
  go_wp2_with fail
  refine (hp _).mono ?_
  rintro e w1 ⟨rfl, hb⟩
  have hR : Blk w1 (w.heap.size + 1) 94 _ := Gr.blk hb (blk_new2 w _ _ _)
  have hB : Below w.heap.size w w1 := Below.gr (below_alloc2 w _ _) hb
  go_wp2_with (first | ((with_reducible refine here_store ?_); refine wpList_store_blk rfl _ _ _ rfl (w.heap.size + 1) (fcs (s)) rfl rfl _ _ (hR) (by kernel_rfl) (by rfl) (fcs_one _) ?_; intro w2 hL2 hB2 hK2) | ((with_reducible refine here_load (d := some 56) ?_); refine wpList_load_fv rfl _ _ rfl (w.heap.size + 1) rfl (s) _ _ _ (hL2) (fv_fcs s) Try.underlying94 rfl (by kernel_rfl) ?_) | ((with_reducible refine here_store ?_); refine wpList_store_blk rfl _ _ _ rfl (w.heap.size + 1) (fcs (s)) rfl rfl _ _ (hL2) (by kernel_rfl) (by rfl) (fcs_one _) ?_; intro w3 hL3 hB3 hK3))
  exact bodyPost_ret (res_cell_tmp rfl _ _ (w.heap.size + 1) _ _ _ _ rfl hL3 rfl Try.underlying94 rfl (by kernel_rfl)) rfl ⟨rfl, hB.trans ((hB2 _ (by omega)).trans (hB3 _ (by omega)))⟩
end Go.Proofs.Ytneeefinaejgcaa

end
section
namespace Go.Proofs.Ytneeefinaejgcaa
open Go.RowKit Go.Lib

theorem fcs_words {n : Nat} {a b c d : Int} (h : fv n = .agg #[.int .u64 a, .int .u64 b, .int .u64 c, .int .u64 d]) : fcs n = #[.int .u64 a, .int .u64 b, .int .u64 c, .int .u64 d] := by
  rw [fv_fcs] at h
  injection h

set_option maxHeartbeats 1000000 in
set_option maxRecDepth 100000 in
theorem row_at {v1 v3 : Value} (w : World) (x m c lo hi : Nat) (h1 : fv x = v1) (h3 : fv c = v3) (hx : x < 115792089237316195423570985008687907853269984665640564039457584007913129639936) (hm : m < 18446744073709551616) (hc : c < 115792089237316195423570985008687907853269984665640564039457584007913129639936) (hlo : lo < 18446744073709551616) (he : lo + 18446744073709551616 * hi = x * m + c) :
    Calls Try.prog 98 #[v1, .int .u64 (m : Int), v3] w fun e w' => e = .returned (.tuple #[.int .u64 (lo : Int), fv hi]) ∧ Below w.heap.size w w' := by
  subst h1 h3
  obtain ⟨x0, x1, x2, x3, fx⟩ := words_fv x hx
  obtain ⟨c0, c1, c2, c3, fc⟩ := words_fv c hc
  obtain ⟨s, t, hs, hst, ht⟩ : ∃ s t : Nat, s < 115792089237316195423570985008687907853269984665640564039457584007913129639936 ∧ s + 115792089237316195423570985008687907853269984665640564039457584007913129639936 * t = x * m ∧ t + 1 < 18446744073709551616 := by
    have h : x * m ≤ 115792089237316195423570985008687907853269984665640564039457584007913129639935 * 18446744073709551615 := Nat.mul_le_mul (by omega) (by omega)
    exact ⟨x * m % 115792089237316195423570985008687907853269984665640564039457584007913129639936, x * m / 115792089237316195423570985008687907853269984665640564039457584007913129639936, by omega, by omega, by omega⟩
  obtain ⟨u, k, hu, hk, huk⟩ : ∃ u k : Nat, u < 115792089237316195423570985008687907853269984665640564039457584007913129639936 ∧ k ≤ 1 ∧ u + 115792089237316195423570985008687907853269984665640564039457584007913129639936 * k = s + c := ⟨(s + c) % 115792089237316195423570985008687907853269984665640564039457584007913129639936, (s + c) / 115792089237316195423570985008687907853269984665640564039457584007913129639936, by omega, by omega, by omega⟩
  obtain ⟨u0, u1, u2, u3, d0, d1, d2, d3, eu, fu⟩ := words_of u hu
  obtain ⟨t1, ht1⟩ : ∃ t1, t1 = t + k := ⟨_, rfl⟩
  obtain rfl : u0 = lo := by omega
  have hhi : u1 + 18446744073709551616 * u2 + 340282366920938463463374607431768211456 * u3 + 6277101735386680763835789423207666416102355444464034512896 * t1 = hi := by omega
  have fh := fv_mk u1 u2 u3 t1 d1 d2 d3 (by omega)
  rw [hhi] at fh
  have ct := fun w => times_at (v := fv x) w x m s t rfl hx hm hs hst
  have cp := fun w => plus_at (v1 := fv s) (v2 := fv c) w s c u k rfl rfl hs hc hu huk
  have hadd : (t : Int) + (k : Int) = (t1 : Int) := by omega
  have ht1' : t1 < 18446744073709551616 := by omega
  have FX := Lib.hid fx
  have FC := Lib.hid fc
  have FU := Lib.hid fu
  have FH := Lib.hid fh
  have ct' : ∀ w, Calls Try.prog 73 #[.agg #[.int .u64 x0, .int .u64 x1, .int .u64 x2, .int .u64 x3], .int .u64 (m : Int)] w fun e w' => e = .returned (.tuple #[fv s, .int .u64 (t : Int)]) ∧ Below w.heap.size w w' := by
    intro w; rw [← fx]; exact ct w
  rw [fx, fc]
  clear fx fc fu fh hx hc hm hs hst ht hu hk huk d0 d1 d2 d3 eu ht1 hhi he ct hlo
  go_enter Try.func98, Try.ntmps98
  go_wp2_with fail
  refine (ct' _).mono ?_
  rintro e w1 ⟨rfl, hb⟩
  have BC : Blk w1 (w.heap.size + 1) 94 _ := Gr.blk hb (Blk.alloc (blk_new2 w _ _ _) _)
  have BR : Blk w1 (w.heap.size + 2) 94 _ := Gr.blk hb (blk_new3 w _ _ _ _)
  have hB : Below w.heap.size w w1 := Below.gr (below_alloc3 w _ _ _) hb
  have hsz : w.heap.size + 3 ≤ w1.heap.size := by have := hb.size; simp at this; omega
  clear hb ct'
  go_wp2_with (first | ((with_reducible refine here_store ?_); refine wpList_store_blk rfl _ _ _ rfl (w1.heap.size) (fcs (s)) rfl rfl _ _ (Blk.new w1 _ _) (by kernel_rfl) (by rfl) (fcs_one _) ?_; intro w2 hL2 hB2 hK2; have BR' := hK2 _ (by omega) _ _ (BR.alloc _); have BC' := hK2 _ (by omega) _ _ (BC.alloc _)) | ((with_reducible refine here_load (d := some 18) ?_); refine wpList_load_fv rfl _ _ rfl (w1.heap.size) rfl (s) _ _ _ (hL2) (fv_fcs s) Try.underlying94 rfl (by kernel_rfl) ?_) | ((with_reducible refine here_load (d := some 19) ?_); refine wpList_load_fv rfl _ _ rfl (w.heap.size + 1) rfl (c) _ _ _ (BC') (FC.out) Try.underlying94 rfl (by kernel_rfl) ?_))
  have BR2 := BR'
  have BC2 := BC'
  refine (cp _).mono ?_
  rintro e w3 ⟨rfl, hb⟩
  have BR3 : Blk w3 (w.heap.size + 2) 94 _ := Gr.blk hb BR2
  have BT3 : Blk w3 w1.heap.size 94 _ := Gr.blk hb hL2
  have hB3 : Below w.heap.size w w3 := Below.gr ((hB.alloc (by omega) _).trans (hB2 _ (by omega))) hb
  clear hb cp
  go_wp2_with (first | ((with_reducible refine here_store ?_); refine wpList_store_blk rfl _ _ _ rfl (w1.heap.size) (fcs (u)) rfl rfl _ _ (BT3) (by kernel_rfl) (by rfl) (fcs_one _) ?_; intro w5 hL5 hB5 hK5; have BR5 := hK5 _ (by omega) _ _ BR3))
  have BT5 : Blk w5 w1.heap.size 94 _ := hL5.eq_ (fcs_words FU.out)
  have lT := BT5.lt
  have q0 : w5.cell? ⟨w1.heap.size, 0, none⟩ = some (.int .u64 (u0 : Int)) := BT5.cell 0
  have q1 : w5.cell? ⟨w1.heap.size, 1, none⟩ = some (.int .u64 (u1 : Int)) := BT5.cell 1
  have q2 : w5.cell? ⟨w1.heap.size, 2, none⟩ = some (.int .u64 (u2 : Int)) := BT5.cell 2
  have q3 : w5.cell? ⟨w1.heap.size, 3, none⟩ = some (.int .u64 (u3 : Int)) := BT5.cell 3
  have hw1 := M64.wrapN t1 ht1'
  refine wp_region_G (fun j => j == 13) (by kernel_rfl) ?_
  try simp only [Act.put]
  refine wpAnyG_take 0 rfl (by kernel_rfl) (fun _ _ _ h => h) (YieldsG.pure (by rfl) (fun w9 _ => by go_simp; try with_reducible rfl)) ?_
  try simp only [Act.put, List.setIfInBounds_toArray, List.set_cons_zero, List.set_cons_succ]
  refine wpAnyG_take 1 rfl (by kernel_rfl) (fun _ _ _ h => h) (YieldsG.pure (v := .int .u64 (u0 : Int)) (by rfl) (fun w9 h9 => by have hz := (Below.cell (p := ⟨w1.heap.size, 0, none⟩) h9 lT).trans q0; go_simp; first | done | simp [hz])) ?_
  try simp only [Act.put, List.setIfInBounds_toArray, List.set_cons_zero, List.set_cons_succ]
  refine wpAnyG_take 2 rfl (by kernel_rfl) (fun _ _ _ h => h) (YieldsG.pure (by rfl) (fun w9 _ => by go_simp; try with_reducible rfl)) ?_
  try simp only [Act.put, List.setIfInBounds_toArray, List.set_cons_zero, List.set_cons_succ]
  refine wpAnyG_take 3 rfl (by kernel_rfl) (fun _ _ _ h => h) (YieldsG.pure (v := .int .u64 (u1 : Int)) (by rfl) (fun w9 h9 => by have hz := (Below.cell (p := ⟨w1.heap.size, 1, none⟩) h9 lT).trans q1; go_simp; first | done | simp [hz])) ?_
  try simp only [Act.put, List.setIfInBounds_toArray, List.set_cons_zero, List.set_cons_succ]
  refine wpAnyG_take 4 rfl (by kernel_rfl) (fun _ _ _ h => h) (YieldsG.pure (by rfl) (fun w9 _ => by go_simp; try with_reducible rfl)) ?_
  try simp only [Act.put, List.setIfInBounds_toArray, List.set_cons_zero, List.set_cons_succ]
  refine wpAnyG_take 5 rfl (by kernel_rfl) (fun _ _ _ h => h) (YieldsG.pure (v := .int .u64 (u2 : Int)) (by rfl) (fun w9 h9 => by have hz := (Below.cell (p := ⟨w1.heap.size, 2, none⟩) h9 lT).trans q2; go_simp; first | done | simp [hz])) ?_
  try simp only [Act.put, List.setIfInBounds_toArray, List.set_cons_zero, List.set_cons_succ]
  refine wpAnyG_take 6 rfl (by kernel_rfl) (fun _ _ _ h => h) (YieldsG.pure (by rfl) (fun w9 _ => by go_simp; try with_reducible rfl)) ?_
  try simp only [Act.put, List.setIfInBounds_toArray, List.set_cons_zero, List.set_cons_succ]
  refine wpAnyG_take 7 rfl (by kernel_rfl) (fun _ _ _ h => h) (YieldsG.pure (v := .int .u64 (u3 : Int)) (by rfl) (fun w9 h9 => by have hz := (Below.cell (p := ⟨w1.heap.size, 3, none⟩) h9 lT).trans q3; go_simp; first | done | simp [hz])) ?_
  try simp only [Act.put, List.setIfInBounds_toArray, List.set_cons_zero, List.set_cons_succ]
  refine wpAnyG_take 8 rfl (by kernel_rfl) (fun _ _ _ h => h) (YieldsG.pure (by rfl) (fun w9 _ => by go_simp; try with_reducible rfl)) ?_
  try simp only [Act.put, List.setIfInBounds_toArray, List.set_cons_zero, List.set_cons_succ]
  refine wpAnyG_take 9 rfl (by kernel_rfl) (fun _ _ _ h => h) (YieldsG.pure (by rfl) (fun w9 _ => by go_simp; try with_reducible rfl)) ?_
  try simp only [Act.put, List.setIfInBounds_toArray, List.set_cons_zero, List.set_cons_succ]
  refine wpAnyG_take 10 rfl (by kernel_rfl) (fun _ _ _ h => h) (YieldsG.pure (v := .int .u64 (t1 : Int)) (by rfl) (fun w9 h9 => by go_simp; first | done | simp [hw1])) ?_
  try simp only [Act.put, List.setIfInBounds_toArray, List.set_cons_zero, List.set_cons_succ]
  refine wpAnyG_take 11 rfl (by kernel_rfl) (fun _ _ _ h => h) (YieldsG.pure (by rfl) (fun w9 _ => by go_simp; try with_reducible rfl)) ?_
  try simp only [Act.put, List.setIfInBounds_toArray, List.set_cons_zero, List.set_cons_succ]
  refine wpAnyG_take 12 rfl (by kernel_rfl) (fun _ _ _ h => h) (YieldsG.pure (by rfl) (fun w9 _ => by go_simp; try with_reducible rfl)) ?_
  try simp only [Act.put, List.setIfInBounds_toArray, List.set_cons_zero, List.set_cons_succ]
  refine wpAnyG_store 13 rfl (by kernel_rfl) (by rfl) _ _ _ rfl (w.heap.size + 2) (#[.int .u64 u1, .int .u64 u2, .int .u64 u3, .int .u64 t1]) rfl rfl _ _ (BR5) (by kernel_rfl) (by rfl) (by simp [Value.oneCell']) rfl (fun w6 h6 w7 hB7 hL7 => ?_)
  try simp only [Act.put]
  refine wpAnyG_done (by kernel_rfl) (fun w8 h8 => ?_)
  have hfin := Gr.blk h8 hL7
  have hb9 := (hB3.trans (hB5 _ (by omega))).trans ((Below.mono h6 (by have := hB3.size; have := (hB5 0 (by omega)).size; omega)).trans ((hB7 _ (by omega)).trans (Below.mono h8 (by have := hL7.lt; omega))))
  go_wp2
  exact bodyPost_ret (res_tmp_cell rfl _ _ (w.heap.size + 2) _ _ _ _ rfl hfin rfl Try.underlying94 rfl (by kernel_rfl)) rfl ⟨by rw [FH.out]; rfl, hb9⟩
end Go.Proofs.Ytneeefinaejgcaa

end
section
namespace Go.Proofs.Ytneeefinaejgcaa
open Go.RowKit Go.Lib

/-- two structs laid anew, each over itself -/
def twice (w : World) (g h : Nat) (a b c d p q r s : Value) : World := ((((((((w.setCell ⟨g, 0, none⟩ a).setCell ⟨g, 1, none⟩ b).setCell ⟨g, 2, none⟩ c).setCell ⟨g, 3, none⟩ d).setCell ⟨h, 0, none⟩ p).setCell ⟨h, 1, none⟩ q).setCell ⟨h, 2, none⟩ r).setCell ⟨h, 3, none⟩ s).drew
theorem two_far {w : World} {g h : Nat} {t t' : TypeId} {a b c d p q r s : Value} (k : Blk w g t #[a, b, c, d]) (_ : Blk w h t' #[p, q, r, s]) (n : g ≠ h) : Blk (twice w g h a b c d p q r s) g t #[a, b, c, d] :=
  ((((((((k.set_ 0 a).set_ 1 b).set_ 2 c).set_ 3 d).far n p).far n q).far n r).far n s).drew
theorem two_near {w : World} {g h : Nat} {t t' : TypeId} {a b c d p q r s : Value} (_ : Blk w g t #[a, b, c, d]) (k : Blk w h t' #[p, q, r, s]) (n : g ≠ h) : Blk (twice w g h a b c d p q r s) h t' #[p, q, r, s] :=
  ((((((((k.far (Ne.symm n) a).far (Ne.symm n) b).far (Ne.symm n) c).far (Ne.symm n) d).set_ 0 p).set_ 1 q).set_ 2 r).set_ 3 s).drew
theorem two_below {B : Nat} {v w : World} {g h : Nat} {a b c d p q r s : Value} (k : Below B v w) (hg : B ≤ g) (hh : B ≤ h) : Below B v (twice w g h a b c d p q r s) :=
  ((((((((k.setCell hg a).setCell hg b).setCell hg c).setCell hg d).setCell hh p).setCell hh q).setCell hh r).setCell hh s).drew

theorem row_ex (x m c : Nat) (hx : x < 115792089237316195423570985008687907853269984665640564039457584007913129639936) (hm : m < 18446744073709551616) (hc : c < 115792089237316195423570985008687907853269984665640564039457584007913129639936) : ∃ lo hi : Nat, lo < 18446744073709551616 ∧ hi < 115792089237316195423570985008687907853269984665640564039457584007913129639936 ∧ lo + 18446744073709551616 * hi = x * m + c := by
  have h : x * m ≤ 115792089237316195423570985008687907853269984665640564039457584007913129639935 * 18446744073709551615 := Nat.mul_le_mul (by omega) (by omega)
  exact ⟨(x * m + c) % 18446744073709551616, (x * m + c) / 18446744073709551616, by omega, by omega, by omega⟩

set_option maxHeartbeats 2000000 in
set_option maxRecDepth 100000 in
theorem product_at {v1 v2 : Value} (w : World) (x y lo hi : Nat) (h1 : fv x = v1) (h2 : fv y = v2) (hx : x < 115792089237316195423570985008687907853269984665640564039457584007913129639936) (hy : y < 115792089237316195423570985008687907853269984665640564039457584007913129639936) (hlo : lo < 115792089237316195423570985008687907853269984665640564039457584007913129639936) (he : lo + 115792089237316195423570985008687907853269984665640564039457584007913129639936 * hi = x * y) :
    Calls Try.prog 72 #[v1, v2] w fun e w' => e = .returned (.tuple #[fv lo, fv hi]) ∧ Below w.heap.size w w' := by
  subst h1 h2
  obtain ⟨x0, x1, x2, x3, fx⟩ := words_fv x hx
  obtain ⟨y0, y1, y2, y3, b0, b1, b2, b3, ey, fy⟩ := words_of y hy
  obtain ⟨l0, g1, m0, n1, e0⟩ := row_ex x y0 0 hx b0 (by omega)
  obtain ⟨l1, g2, m1, n2, e1⟩ := row_ex x y1 g1 hx b1 n1
  obtain ⟨l2, g3, m2, n3, e2⟩ := row_ex x y2 g2 hx b2 n2
  obtain ⟨l3, g4, m3, n4, e3⟩ := row_ex x y3 g3 hx b3 n3
  have em : x * y = x * y0 + 18446744073709551616 * (x * y1) + 340282366920938463463374607431768211456 * (x * y2) + 6277101735386680763835789423207666416102355444464034512896 * (x * y3) := by rw [ey, col_mul]
  have hL : l0 + 18446744073709551616 * l1 + 340282366920938463463374607431768211456 * l2 + 6277101735386680763835789423207666416102355444464034512896 * l3 = lo := by omega
  obtain rfl : g4 = hi := by omega
  have fl := fv_mk l0 l1 l2 l3 m0 m1 m2 m3
  rw [hL] at fl
  obtain ⟨z0, z1, z2, z3, fg⟩ := words_fv g4 n4
  have FG := Lib.hid fg
  clear fg
  have FX := Lib.hid fx
  have FL := Lib.hid fl
  have r0 := fun w => row_at w x y0 0 l0 g1 fx rfl hx b0 (by omega) m0 e0
  have r1 := fun w => row_at (v1 := fv x) (v3 := fv g1) w x y1 g1 l1 g2 rfl rfl hx b1 n1 m1 e1
  have r2 := fun w => row_at (v1 := fv x) (v3 := fv g2) w x y2 g2 l2 g3 rfl rfl hx b2 n2 m2 e2
  have r3 := fun w => row_at (v1 := fv x) (v3 := fv g3) w x y3 g3 l3 g4 rfl rfl hx b3 n3 m3 e3
  rw [fv_0] at r0
  rw [fx, fy]
  clear fx fy fl hx hy hlo he b0 b1 b2 b3 ey m0 m1 m2 m3 n1 n2 n3 n4 e0 e1 e2 e3 em hL
  go_enter Try.func72, Try.ntmps72
  go_wp2_with fail
  refine (r0 _).mono ?_
  rintro e w1 ⟨rfl, hb⟩
  have BX : Blk w1 w.heap.size 94 _ := Gr.blk hb (Blk.alloc (Blk.alloc (Blk.alloc (Blk.new w _ _) _) _) _)
  have BY : Blk w1 (w.heap.size + 1) 94 _ := Gr.blk hb (Blk.alloc (Blk.alloc (blk_new2 w _ _ _) _) _)
  have BL : Blk w1 (w.heap.size + 2) 94 #[.int .u64 0, .int .u64 0, .int .u64 0, .int .u64 0] := Gr.blk hb (Blk.alloc (blk_new3 w _ _ _ _) _)
  have BG : Blk w1 (w.heap.size + 3) 94 _ := Gr.blk hb (blk_new4 w _ _ _ _ _)
  have hB : Below w.heap.size w w1 := Below.gr ((below_alloc3 w _ _ _).alloc (by simp <;> omega) _) hb
  clear hb r0
  have hlc := BL.cell 0
  have hlf := BL.frozen 0
  simp only [List.getElem?_toArray, List.getElem?_cons_zero] at hlc
  go_wp2_with (first | ((with_reducible refine here_store ?_); refine wpList_store_blk rfl _ _ _ rfl (w.heap.size + 3) (fcs (g1)) rfl rfl _ _ (BG.far (by simp <;> omega) _) (by kernel_rfl) (by rfl) (fcs_one _) ?_; intro w2 hG0 hB0 hK0; have BX' := hK0 _ (by omega) _ _ (BX.far (by simp <;> omega) _); have BY' := hK0 _ (by omega) _ _ (BY.far (by simp <;> omega) _); have BL' : Blk w2 (w.heap.size + 2) 94 #[.int .u64 (l0 : Int), .int .u64 0, .int .u64 0, .int .u64 0] := hK0 _ (by omega) _ _ (BL.set_ 0 _); have hyc : w2.cell? ⟨w.heap.size + 1, 1, none⟩ = some (.int .u64 (y1 : Int)) := BY'.cell 1) | ((with_reducible refine here_load (d := some 16) ?_); refine wpList_load_fv rfl _ _ rfl (w.heap.size) rfl (x) _ _ _ (BX') (FX.out) Try.underlying94 rfl (by kernel_rfl) ?_) | ((with_reducible refine here_load (d := some 19) ?_); refine wpList_load_fv rfl _ _ rfl (w.heap.size + 3) rfl (g1) _ _ _ (hG0) (fv_fcs g1) Try.underlying94 rfl (by kernel_rfl) ?_))
  refine (r1 _).mono ?_
  rintro e w3 ⟨rfl, hb⟩
  have hBn : Below w.heap.size w w3 := Below.gr ((hB.setCell (by show w.heap.size ≤ w.heap.size + 1 + 1; omega) _).trans (hB0 _ (by omega))) hb
  have BXn := Gr.blk hb BX'
  have BYn := Gr.blk hb BY'
  have BLn := Gr.blk hb BL'
  have BGn := Gr.blk hb hG0
  clear hb r1 hlc hlf hyc BX BY BL BG hB BX' BY' BL' hG0 hB0 hK0
  have BX := BXn
  have BY := BYn
  have BL := BLn
  have BG := BGn
  have hB := hBn
  clear BXn BYn BLn BGn hBn
  have hlc := BL.cell 1
  have hlf := BL.frozen 1
  simp only [List.getElem?_toArray, List.getElem?_cons_zero, List.getElem?_cons_succ] at hlc
  go_wp2_with (first | ((with_reducible refine here_store ?_); refine wpList_store_blk rfl _ _ _ rfl (w.heap.size + 3) (fcs (g2)) rfl rfl _ _ (BG.far (by simp <;> omega) _) (by kernel_rfl) (by rfl) (fcs_one _) ?_; intro w4 hG1 hB1 hK1; have BX' := hK1 _ (by omega) _ _ (BX.far (by simp <;> omega) _); have BY' := hK1 _ (by omega) _ _ (BY.far (by simp <;> omega) _); have BL' : Blk w4 (w.heap.size + 2) 94 #[.int .u64 (l0 : Int), .int .u64 (l1 : Int), .int .u64 0, .int .u64 0] := hK1 _ (by omega) _ _ (BL.set_ 1 _); have hyc : w4.cell? ⟨w.heap.size + 1, 2, none⟩ = some (.int .u64 (y2 : Int)) := BY'.cell 2) | ((with_reducible refine here_load (d := some 25) ?_); refine wpList_load_fv rfl _ _ rfl (w.heap.size) rfl (x) _ _ _ (BX') (FX.out) Try.underlying94 rfl (by kernel_rfl) ?_) | ((with_reducible refine here_load (d := some 28) ?_); refine wpList_load_fv rfl _ _ rfl (w.heap.size + 3) rfl (g2) _ _ _ (hG1) (fv_fcs g2) Try.underlying94 rfl (by kernel_rfl) ?_))
  refine (r2 _).mono ?_
  rintro e w5 ⟨rfl, hb⟩
  have hBn : Below w.heap.size w w5 := Below.gr ((hB.setCell (by show w.heap.size ≤ w.heap.size + 1 + 1; omega) _).trans (hB1 _ (by omega))) hb
  have BXn := Gr.blk hb BX'
  have BYn := Gr.blk hb BY'
  have BLn := Gr.blk hb BL'
  have BGn := Gr.blk hb hG1
  clear hb r2 hlc hlf hyc BX BY BL BG hB BX' BY' BL' hG1 hB1 hK1
  have BX := BXn
  have BY := BYn
  have BL := BLn
  have BG := BGn
  have hB := hBn
  clear BXn BYn BLn BGn hBn
  have hlc := BL.cell 2
  have hlf := BL.frozen 2
  simp only [List.getElem?_toArray, List.getElem?_cons_zero, List.getElem?_cons_succ] at hlc
  go_wp2_with (first | ((with_reducible refine here_store ?_); refine wpList_store_blk rfl _ _ _ rfl (w.heap.size + 3) (fcs (g3)) rfl rfl _ _ (BG.far (by simp <;> omega) _) (by kernel_rfl) (by rfl) (fcs_one _) ?_; intro w6 hG2 hB2 hK2; have BX' := hK2 _ (by omega) _ _ (BX.far (by simp <;> omega) _); have BY' := hK2 _ (by omega) _ _ (BY.far (by simp <;> omega) _); have BL' : Blk w6 (w.heap.size + 2) 94 #[.int .u64 (l0 : Int), .int .u64 (l1 : Int), .int .u64 (l2 : Int), .int .u64 0] := hK2 _ (by omega) _ _ (BL.set_ 2 _); have hyc : w6.cell? ⟨w.heap.size + 1, 3, none⟩ = some (.int .u64 (y3 : Int)) := BY'.cell 3) | ((with_reducible refine here_load (d := some 34) ?_); refine wpList_load_fv rfl _ _ rfl (w.heap.size) rfl (x) _ _ _ (BX') (FX.out) Try.underlying94 rfl (by kernel_rfl) ?_) | ((with_reducible refine here_load (d := some 37) ?_); refine wpList_load_fv rfl _ _ rfl (w.heap.size + 3) rfl (g3) _ _ _ (hG2) (fv_fcs g3) Try.underlying94 rfl (by kernel_rfl) ?_))
  refine (r3 _).mono ?_
  rintro e w7 ⟨rfl, hb⟩
  have hBn : Below w.heap.size w w7 := Below.gr ((hB.setCell (by show w.heap.size ≤ w.heap.size + 1 + 1; omega) _).trans (hB2 _ (by omega))) hb
  have BXn := Gr.blk hb BX'
  have BYn := Gr.blk hb BY'
  have BLn := Gr.blk hb BL'
  have BGn := Gr.blk hb hG2
  clear hb r3 hlc hlf hyc BX BY BL BG hB BX' BY' BL' hG2 hB2 hK2
  have BX := BXn
  have BY := BYn
  have BL := BLn
  have BG := BGn
  have hB := hBn
  clear BXn BYn BLn BGn hBn
  have hlc := BL.cell 3
  have hlf := BL.frozen 3
  simp only [List.getElem?_toArray, List.getElem?_cons_zero, List.getElem?_cons_succ] at hlc
  go_wp2_with (first | ((with_reducible refine here_store ?_); refine wpList_store_blk rfl _ _ _ rfl (w.heap.size + 3) (fcs (g4)) rfl rfl _ _ (BG.far (by simp <;> omega) _) (by kernel_rfl) (by rfl) (fcs_one _) ?_; intro w8 hG3 hB3 hK3; have BX' := hK3 _ (by omega) _ _ (BX.far (by simp <;> omega) _); have BY' := hK3 _ (by omega) _ _ (BY.far (by simp <;> omega) _); have BL' : Blk w8 (w.heap.size + 2) 94 #[.int .u64 (l0 : Int), .int .u64 (l1 : Int), .int .u64 (l2 : Int), .int .u64 (l3 : Int)] := hK3 _ (by omega) _ _ (BL.set_ 3 _)))
  have hB8 : Below w.heap.size w w8 := (hB.setCell (by show w.heap.size ≤ w.heap.size + 1 + 1; omega) _).trans (hB3 _ (by omega))
  have BG8 : Blk w8 (w.heap.size + 3) 94 _ := hG3.eq_ (fcs_words FG.out)
  have q0 : w8.cell? ⟨w.heap.size + 1 + 1, 0, none⟩ = some (.int .u64 (l0 : Int)) := BL'.cell 0
  have q1 : w8.cell? ⟨w.heap.size + 1 + 1, 1, none⟩ = some (.int .u64 (l1 : Int)) := BL'.cell 1
  have q2 : w8.cell? ⟨w.heap.size + 1 + 1, 2, none⟩ = some (.int .u64 (l2 : Int)) := BL'.cell 2
  have q3 : w8.cell? ⟨w.heap.size + 1 + 1, 3, none⟩ = some (.int .u64 (l3 : Int)) := BL'.cell 3
  have p0 : w8.cell? ⟨w.heap.size + 1 + 1 + 1, 0, none⟩ = some (.int .u64 (z0 : Int)) := BG8.cell 0
  have p1 : w8.cell? ⟨w.heap.size + 1 + 1 + 1, 1, none⟩ = some (.int .u64 (z1 : Int)) := BG8.cell 1
  have p2 : w8.cell? ⟨w.heap.size + 1 + 1 + 1, 2, none⟩ = some (.int .u64 (z2 : Int)) := BG8.cell 2
  have p3 : w8.cell? ⟨w.heap.size + 1 + 1 + 1, 3, none⟩ = some (.int .u64 (z3 : Int)) := BG8.cell 3
  have fq : ∀ i, w8.frozen? ⟨w.heap.size + 1 + 1, i, none⟩ = false := fun i => BL'.frozen i
  have fp : ∀ i, w8.frozen? ⟨w.heap.size + 1 + 1 + 1, i, none⟩ = false := fun i => BG8.frozen i
  clear hlc hlf hK3 BX' BY' BX BY
  go_region
  all_goals
    go_wp2
    have f1 : Blk _ (w.heap.size + 2) 94 #[.int .u64 (l0 : Int), .int .u64 (l1 : Int), .int .u64 (l2 : Int), .int .u64 (l3 : Int)] := two_far BL' BG8 (by omega)
    have f2 : Blk _ (w.heap.size + 3) 94 #[.int .u64 (z0 : Int), .int .u64 (z1 : Int), .int .u64 (z2 : Int), .int .u64 (z3 : Int)] := two_near BL' BG8 (by omega)
    exact bodyPost_ret (res_two_cells rfl _ _ (w.heap.size + 2) (w.heap.size + 3) _ _ _ _ _ _ rfl f1 rfl f2 Try.underlying94 rfl (by kernel_rfl) Try.underlying94 rfl (by kernel_rfl)) rfl ⟨by rw [FL.out, FG.out], two_below hB8 (by omega) (by omega)⟩
end Go.Proofs.Ytneeefinaejgcaa

end
section
namespace Go.Proofs.Ytneeefinaejgcaa
open Go.RowKit Go.Lib

/-- the sum of words modulo p, not the least one -/
def addW (x y : Nat) : Nat := ((x + y) % 115792089237316195423570985008687907853269984665640564039457584007913129639936 + (x + y) / 115792089237316195423570985008687907853269984665640564039457584007913129639936 * 4294968273) % 115792089237316195423570985008687907853269984665640564039457584007913129639936 + ((x + y) % 115792089237316195423570985008687907853269984665640564039457584007913129639936 + (x + y) / 115792089237316195423570985008687907853269984665640564039457584007913129639936 * 4294968273) / 115792089237316195423570985008687907853269984665640564039457584007913129639936 * 4294968273
theorem addW_lt (x y : Nat) (hx : x < 115792089237316195423570985008687907853269984665640564039457584007913129639936) (hy : y < 115792089237316195423570985008687907853269984665640564039457584007913129639936) : addW x y < 115792089237316195423570985008687907853269984665640564039457584007913129639936 := by unfold addW; omega
theorem addW_is (x y s k u j : Nat) (hs : s < 115792089237316195423570985008687907853269984665640564039457584007913129639936) (he : s + 115792089237316195423570985008687907853269984665640564039457584007913129639936 * k = x + y) (hu : u < 115792089237316195423570985008687907853269984665640564039457584007913129639936) (hf : u + 115792089237316195423570985008687907853269984665640564039457584007913129639936 * j = s + k * 4294968273) : addW x y = u + j * 4294968273 := by
  have e1 : (x + y) % 115792089237316195423570985008687907853269984665640564039457584007913129639936 = s := by omega
  have e2 : (x + y) / 115792089237316195423570985008687907853269984665640564039457584007913129639936 = k := by omega
  unfold addW
  rw [e1, e2]
  have e3 : (s + k * 4294968273) % 115792089237316195423570985008687907853269984665640564039457584007913129639936 = u := by omega
  have e4 : (s + k * 4294968273) / 115792089237316195423570985008687907853269984665640564039457584007913129639936 = j := by omega
  rw [e3, e4]
theorem addW_mod (x y : Nat) : addW x y % pM = (x + y) % pM := by
  refine mod_of_mult (k := (x + y) / 115792089237316195423570985008687907853269984665640564039457584007913129639936 + ((x + y) % 115792089237316195423570985008687907853269984665640564039457584007913129639936 + (x + y) / 115792089237316195423570985008687907853269984665640564039457584007913129639936 * 4294968273) / 115792089237316195423570985008687907853269984665640564039457584007913129639936) ?_
  unfold addW
  omega

theorem add_def (w : World) (x y : Nat) (hx : x < 115792089237316195423570985008687907853269984665640564039457584007913129639936) (hy : y < 115792089237316195423570985008687907853269984665640564039457584007913129639936) : Calls Try.prog 75 #[fv x, fv y] w fun e w' => e = .returned (fv (addW x y)) ∧ Below w.heap.size w w' :=
  (add_any w x y hx hy).mono fun _ _ ⟨⟨_, s, k, u, j, hs, he, hu, hf, hz, e⟩, hb⟩ => ⟨by rw [e, hz, addW_is x y s k u j hs he hu hf], hb⟩

theorem norm_any (w : World) (x : Nat) (hx : x < 115792089237316195423570985008687907853269984665640564039457584007913129639936) : Calls Try.prog 39 #[fv x] w fun e w' => e = .returned (fv (x % pM)) ∧ Below w.heap.size w w' := by
  obtain ⟨x0, x1, x2, x3, fx⟩ := words_fv x hx
  have FX := Lib.hid fx
  have HX := Lib.hid hx
  rw [fx]
  clear fx hx
  go_enter Try.func39, Try.ntmps39
  go_wp2_with fail
  refine (split_at x FX.out _).mono ?_
  rintro e w1 ⟨rfl, hb1⟩
  go_wp2_with fail
  refine (reduce_any _ x HX.out).mono ?_
  rintro e w2 ⟨rfl, hb2⟩
  go_wp2_with fail
  refine (number_any _ _).mono ?_
  rintro e w3 ⟨rfl, hb3⟩
  have hg := Below.gr (Below.gr (Below.gr (w := w) (below_alloc2 w _ _) hb1) hb2) hb3
  have hR : Blk w3 (w.heap.size + 1) 25 _ := Gr.blk hb3 (Gr.blk hb2 (Gr.blk hb1 (blk_new2 w _ _ _)))
  go_wp2_with (first | ((with_reducible refine here_store ?_); refine wpList_store_blk rfl _ _ _ rfl (w.heap.size + 1) (fcs (x % pM)) rfl rfl _ _ (hR) (by kernel_rfl) (by rfl) (fcs_one _) ?_; intro w4 hL hB4 hK4))
  exact bodyPost_ret (results_cell_row rfl _ _ (w.heap.size + 1) _ _ (0, 0) _ rfl hL Try.underlying25 rfl (by kernel_rfl)) rfl ⟨rfl, hg.trans (hB4 _ (by omega))⟩

theorem of_any (w : World) (n : Nat) (hn : n < 18446744073709551616) : Calls Try.prog 77 #[.int .u64 (n : Int)] w fun e w' => e = .returned (fv n) ∧ Below w.heap.size w w' := by
  have e : fv n = .agg #[.int .u64 (n : Int), .int .u64 0, .int .u64 0, .int .u64 0] := by
    have h := fv_mk n 0 0 0 hn (by omega) (by omega) (by omega)
    exact h.symm
  rw [e]
  go_enter Try.func77, Try.ntmps77
  go_wp2
  exact bodyPost_ret (results_cell_row rfl _ _ w.heap.size _ _ (0, 0) _ rfl (heap_alloc_new w _) Try.underlying25 rfl (by kernel_rfl)) rfl ⟨rfl, (Below.refl _ _).alloc (Nat.le_refl _) _⟩

set_option maxHeartbeats 1000000 in
set_option maxRecDepth 100000 in
theorem addF_any (w : World) (x y : Nat) (hx : x < 115792089237316195423570985008687907853269984665640564039457584007913129639936) (hy : y < 115792089237316195423570985008687907853269984665640564039457584007913129639936) : Calls Try.prog 76 #[fv x, fv y] w fun e w' => e = .returned (fv (addP x y)) ∧ Below w.heap.size w w' := by
  obtain ⟨v, hv⟩ : ∃ v, v = addW x y := ⟨_, rfl⟩
  obtain ⟨z, hz⟩ : ∃ z, z = v % pM := ⟨_, rfl⟩
  have HZ := Lib.hid (And.intro hv hz)
  have hlt := Lib.hid (hv ▸ addW_lt x y hx hy : v < 115792089237316195423570985008687907853269984665640564039457584007913129639936)
  rw [show addP x y = z by rw [hz, hv, addW_mod]; rfl]
  clear hz hv
  have HX := Lib.hid hx
  have HY := Lib.hid hy
  obtain ⟨x0, x1, x2, x3, fx⟩ := words_fv x hx
  obtain ⟨y0, y1, y2, y3, fy⟩ := words_fv y hy
  have FX := Lib.hid fx
  have FY := Lib.hid fy
  rw [fx, fy]
  clear fx fy hx hy
  go_enter Try.func76, Try.ntmps76
  go_wp2
  refine wp_region_G (fun j => j == 7) (by kernel_rfl) ?_
  try simp only [Act.put]
  refine wpAnyG_take 0 rfl (by kernel_rfl) (fun _ _ _ h => h) (YieldsG.loadF (by rfl) _ _ rfl (w.heap.size) rfl (x) _ _ (((Blk.new w _ _).alloc _).alloc _) (FX.out) Try.underlying25 rfl (by kernel_rfl)) ?_
  try simp only [Act.put, List.setIfInBounds_toArray, List.set_cons_zero, List.set_cons_succ]
  refine wpAnyG_take 1 rfl (by kernel_rfl) (fun _ _ _ h => h) (YieldsG.call (v := fv x) (by rfl) 71 _ (fun w9 => by go_simp; try (first | with_reducible rfl | rfl)) (fun w9 h9 => split_any w9 x)) ?_
  try simp only [Act.put, List.setIfInBounds_toArray, List.set_cons_zero, List.set_cons_succ]
  refine wpAnyG_take 2 rfl (by kernel_rfl) (fun _ _ _ h => h) (YieldsG.loadF (by rfl) _ _ rfl (w.heap.size + 1) rfl (y) _ _ ((blk_new2 w _ _ _).alloc _) (FY.out) Try.underlying25 rfl (by kernel_rfl)) ?_
  try simp only [Act.put, List.setIfInBounds_toArray, List.set_cons_zero, List.set_cons_succ]
  refine wpAnyG_take 3 rfl (by kernel_rfl) (fun _ _ _ h => h) (YieldsG.call (v := fv y) (by rfl) 71 _ (fun w9 => by go_simp; try (first | with_reducible rfl | rfl)) (fun w9 h9 => split_any w9 y)) ?_
  try simp only [Act.put, List.setIfInBounds_toArray, List.set_cons_zero, List.set_cons_succ]
  refine wpAnyG_take 4 rfl (by kernel_rfl) (fun _ _ _ h => h) (YieldsG.call (v := fv v) (by rfl) 75 _ (fun w9 => by go_simp; try (first | with_reducible rfl | rfl)) (fun w9 h9 => HZ.out.1 ▸ add_def w9 x y HX.out HY.out)) ?_
  try simp only [Act.put, List.setIfInBounds_toArray, List.set_cons_zero, List.set_cons_succ]
  refine wpAnyG_take 5 rfl (by kernel_rfl) (fun _ _ _ h => h) (YieldsG.call (v := fv z) (by rfl) 70 _ (fun w9 => by go_simp; try (first | with_reducible rfl | rfl)) (fun w9 h9 => HZ.out.2 ▸ reduce_any w9 _ hlt.out)) ?_
  try simp only [Act.put, List.setIfInBounds_toArray, List.set_cons_zero, List.set_cons_succ]
  refine wpAnyG_take 6 rfl (by kernel_rfl) (fun _ _ _ h => h) (YieldsG.call (v := fv z) (by rfl) 69 _ (fun w9 => by go_simp; try (first | with_reducible rfl | rfl)) (fun w9 h9 => number_any w9 _)) ?_
  try simp only [Act.put, List.setIfInBounds_toArray, List.set_cons_zero, List.set_cons_succ]
  refine wpAnyG_store 7 rfl (by kernel_rfl) (by rfl) _ _ _ rfl (w.heap.size + 2) (fcs (z)) rfl rfl _ _ (blk_new3 w _ _ _ _) (by kernel_rfl) (by rfl) (fcs_one _) rfl (fun w6 h6 w7 hB7 hL7 => ?_)
  try simp only [Act.put]
  refine wpAnyG_done (by kernel_rfl) (fun w8 h8 => ?_)
  have hfin := Gr.blk h8 hL7
  have hb9 := (Below.gr (below_alloc3 w _ _ _) h6).trans ((hB7 _ (by omega)).trans (Below.mono h8 (by have := hL7.lt; omega)))
  go_wp2
  exact bodyPost_ret (results_cell_row rfl _ _ (w.heap.size + 2) _ _ (0, 0) _ rfl hfin Try.underlying25 rfl (by kernel_rfl)) rfl ⟨rfl, hb9⟩
end Go.Proofs.Ytneeefinaejgcaa

end
section
namespace Go.Proofs.Ytneeefinaejgcaa
open Go.RowKit Go.Lib

theorem minus_fv (w : World) (x y s k : Nat) (hx : x < 115792089237316195423570985008687907853269984665640564039457584007913129639936) (hy : y < 115792089237316195423570985008687907853269984665640564039457584007913129639936) (hs : s < 115792089237316195423570985008687907853269984665640564039457584007913129639936) (he : s + y = x + 115792089237316195423570985008687907853269984665640564039457584007913129639936 * k) :
    Calls Try.prog 94 #[fv x, fv y] w fun e w' => e = .returned (.tuple #[fv s, .int .u64 (k : Int)]) ∧ Below w.heap.size w w' := minus_at w x y s k rfl rfl hx hy hs he
theorem product_fv (w : World) (x y lo hi : Nat) (hx : x < 115792089237316195423570985008687907853269984665640564039457584007913129639936) (hy : y < 115792089237316195423570985008687907853269984665640564039457584007913129639936) (hlo : lo < 115792089237316195423570985008687907853269984665640564039457584007913129639936) (he : lo + 115792089237316195423570985008687907853269984665640564039457584007913129639936 * hi = x * y) :
    Calls Try.prog 72 #[fv x, fv y] w fun e w' => e = .returned (.tuple #[fv lo, fv hi]) ∧ Below w.heap.size w w' := product_at w x y lo hi rfl rfl hx hy hlo he

set_option maxHeartbeats 1000000 in
set_option maxRecDepth 100000 in
theorem subF_any (w : World) (x y : Nat) (hx : x < 115792089237316195423570985008687907853269984665640564039457584007913129639936) (hy : y < 115792089237316195423570985008687907853269984665640564039457584007913129639936) : Calls Try.prog 59 #[fv x, fv y] w fun e w' => e = .returned (fv (subP x y)) ∧ Below w.heap.size w w' := by
  obtain ⟨p, hp⟩ : ∃ p, p = x % pM := ⟨_, rfl⟩
  obtain ⟨q, hq⟩ : ∃ q, q = y % pM := ⟨_, rfl⟩
  have hpl : p < 115792089237316195423570985008687907853269984665640564039457584007913129639936 := by rw [hp]; exact mod_lt x
  have hql : q < 115792089237316195423570985008687907853269984665640564039457584007913129639936 := by rw [hq]; exact mod_lt y
  have hpp : p < 115792089237316195423570985008687907853269984665640564039457584007908834671663 := by rw [hp]; exact mod_lt_p x
  have hqp : q < 115792089237316195423570985008687907853269984665640564039457584007908834671663 := by rw [hq]; exact mod_lt_p y
  obtain ⟨z, hz⟩ : ∃ z, z = subP x y := ⟨_, rfl⟩
  have hzs : z = if q ≤ p then p - q else p + 115792089237316195423570985008687907853269984665640564039457584007908834671663 - q := by rw [hz, sub_words, ← hp, ← hq]
  obtain ⟨s, k, hk, hs, he, hzk⟩ : ∃ s k : Nat, k ≤ 1 ∧ s < 115792089237316195423570985008687907853269984665640564039457584007913129639936 ∧ s + q = p + 115792089237316195423570985008687907853269984665640564039457584007913129639936 * k ∧ z + k * 4294968273 = s + 115792089237316195423570985008687907853269984665640564039457584007913129639936 * 0 := by
    by_cases h : q ≤ p
    · rw [if_pos h] at hzs; exact ⟨p - q, 0, by omega, by omega, by omega, by omega⟩
    · rw [if_neg h] at hzs; exact ⟨p + 115792089237316195423570985008687907853269984665640564039457584007913129639936 - q, 1, by omega, by omega, by omega, by omega⟩
  obtain ⟨j, hj⟩ : ∃ j, j = k * 4294968273 := ⟨_, rfl⟩
  have hJ : (k : Int) * 4294968273 = (j : Int) := by omega
  have hjl : j < 18446744073709551616 := by omega
  have hzl : z < 115792089237316195423570985008687907853269984665640564039457584007913129639936 := by omega
  have cm := fun w => minus_at w s j z 0 (v1 := fv s) rfl (fv_small j hjl) hs (by omega) hzl (by rw [hj]; exact hzk)
  have HP := Lib.hid (And.intro hp hq)
  have HS := Lib.hid (And.intro hpl (And.intro hql (And.intro hs he)))
  obtain ⟨x0, x1, x2, x3, fx⟩ := words_fv x hx
  obtain ⟨y0, y1, y2, y3, fy⟩ := words_fv y hy
  have FX := Lib.hid fx
  have FY := Lib.hid fy
  have HX := Lib.hid hx
  have HY := Lib.hid hy
  rw [fx, fy, ← hz]
  clear fx fy hx hy hp hq hpl hql hpp hqp hz hzs hk hs he hzk hj hzl
  go_enter Try.func59, Try.ntmps59
  go_wp2
  refine wp_region_G (fun j => j == 11) (by kernel_rfl) ?_
  try simp only [Act.put]
  refine wpAnyG_take 0 rfl (by kernel_rfl) (fun _ _ _ h => h) (YieldsG.loadF (by rfl) _ _ rfl (w.heap.size) rfl (x) _ _ (((Blk.new w _ _).alloc _).alloc _) (FX.out) Try.underlying25 rfl (by kernel_rfl)) ?_
  try simp only [Act.put, List.setIfInBounds_toArray, List.set_cons_zero, List.set_cons_succ]
  refine wpAnyG_take 1 rfl (by kernel_rfl) (fun _ _ _ h => h) (YieldsG.call (v := fv x) (by rfl) 71 _ (fun w9 => by go_simp; try (first | with_reducible rfl | rfl)) (fun w9 h9 => split_any w9 x)) ?_
  try simp only [Act.put, List.setIfInBounds_toArray, List.set_cons_zero, List.set_cons_succ]
  refine wpAnyG_take 2 rfl (by kernel_rfl) (fun _ _ _ h => h) (YieldsG.call (v := fv p) (by rfl) 70 _ (fun w9 => by go_simp; try (first | with_reducible rfl | rfl)) (fun w9 h9 => HP.out.1 ▸ reduce_any w9 _ HX.out)) ?_
  try simp only [Act.put, List.setIfInBounds_toArray, List.set_cons_zero, List.set_cons_succ]
  refine wpAnyG_take 3 rfl (by kernel_rfl) (fun _ _ _ h => h) (YieldsG.loadF (by rfl) _ _ rfl (w.heap.size + 1) rfl (y) _ _ ((blk_new2 w _ _ _).alloc _) (FY.out) Try.underlying25 rfl (by kernel_rfl)) ?_
  try simp only [Act.put, List.setIfInBounds_toArray, List.set_cons_zero, List.set_cons_succ]
  refine wpAnyG_take 4 rfl (by kernel_rfl) (fun _ _ _ h => h) (YieldsG.call (v := fv y) (by rfl) 71 _ (fun w9 => by go_simp; try (first | with_reducible rfl | rfl)) (fun w9 h9 => split_any w9 y)) ?_
  try simp only [Act.put, List.setIfInBounds_toArray, List.set_cons_zero, List.set_cons_succ]
  refine wpAnyG_take 5 rfl (by kernel_rfl) (fun _ _ _ h => h) (YieldsG.call (v := fv q) (by rfl) 70 _ (fun w9 => by go_simp; try (first | with_reducible rfl | rfl)) (fun w9 h9 => HP.out.2 ▸ reduce_any w9 _ HY.out)) ?_
  try simp only [Act.put, List.setIfInBounds_toArray, List.set_cons_zero, List.set_cons_succ]
  refine wpAnyG_take 6 rfl (by kernel_rfl) (fun _ _ _ h => h) (YieldsG.call (v := .tuple #[fv s, .int .u64 (k : Int)]) (by rfl) 94 _ (fun w9 => by go_simp; try (first | with_reducible rfl | rfl)) (fun w9 h9 => minus_fv w9 p q s k HS.out.1 HS.out.2.1 HS.out.2.2.1 HS.out.2.2.2)) ?_
  try simp only [Act.put, List.setIfInBounds_toArray, List.set_cons_zero, List.set_cons_succ]
  refine wpAnyG_take 7 rfl (by kernel_rfl) (fun _ _ _ h => h) (YieldsG.pure (by rfl) (fun w9 _ => by go_simp; try with_reducible rfl)) ?_
  try simp only [Act.put, List.setIfInBounds_toArray, List.set_cons_zero, List.set_cons_succ]
  refine wpAnyG_take 8 rfl (by kernel_rfl) (fun _ _ _ h => h) (YieldsG.pure (by rfl) (fun w9 _ => by go_simp; try with_reducible rfl)) ?_
  try simp only [Act.put, List.setIfInBounds_toArray, List.set_cons_zero, List.set_cons_succ]
  refine wpAnyG_takeA 9 rfl (by kernel_rfl) (fun _ _ _ h => h) (fun _ => YieldsG.pure (by rfl) (fun w9 _ => by go_simp; try with_reducible rfl)) ?_
  try simp only [Act.put, List.setIfInBounds_toArray, List.set_cons_zero, List.set_cons_succ]
  refine wpAnyG_sole 10 rfl (by kernel_rfl) (by rfl) (fun w3 h3 K hK => ?_)
  go_simp
  refine hK _ _ (fun _ => gr_alloc _ _) ?_
  clear hK K
  try simp only [Act.put, List.setIfInBounds_toArray, List.set_cons_zero, List.set_cons_succ]
  refine wpAnyG_store 11 rfl (by kernel_rfl) (by rfl) _ _ _ rfl (w3.heap.size) (fcs (s)) rfl rfl _ _ (Blk.new w3 _ _) (by kernel_rfl) (by rfl) (fcs_one _) rfl (fun w6 h6 w7 hB7 hL7 => ?_)
  try simp only [Act.put]
  refine wpAnyG_takeA 12 rfl (by kernel_rfl) (fun _ _ _ h => h) (fun _ => YieldsG.pure (by rfl) (fun w9 _ => by go_simp; try with_reducible rfl)) ?_
  try simp only [Act.put, List.setIfInBounds_toArray, List.set_cons_zero, List.set_cons_succ]
  refine wpAnyG_done (by kernel_rfl) (fun w8 h8 => ?_)
  have hL8 := Gr.blk h8 hL7
  have BR8 : Blk w8 (w.heap.size + 2) 25 _ := Gr.blk h8 (Blk.below (B := w3.heap.size) (Gr.blk h6 (Blk.alloc (Gr.blk h3 (blk_new3 w _ _ _ _)) _)) (hB7 _ (Nat.le_refl _)) (by have := h3.size; simp at this; omega))
  have hsz : w.heap.size + 3 ≤ w3.heap.size := by have := h3.size; simp at this; omega
  have hb9 : Below w.heap.size w w8 := Below.gr ((Below.gr ((Below.gr (below_alloc3 w _ _ _) h3).alloc (by omega) _) h6).trans (hB7 _ (by omega))) h8
  clear h3 h6 hB7 hL7 h8
  go_wp2_with (first | ((with_reducible refine here_load (d := some 18) ?_); refine wpList_load_fv rfl _ _ rfl (w3.heap.size) rfl (s) _ _ _ (hL8) (fv_fcs s) Try.underlying94 rfl (by kernel_rfl) ?_))
  refine (cm _).mono ?_
  rintro e w9 ⟨rfl, hb⟩
  have BR9 := Gr.blk hb BR8
  have BT9 := Gr.blk hb hL8
  have hBn := Below.gr hb9 hb
  clear hb hb9 BR8 hL8 cm
  go_wp2_with (first | ((with_reducible refine here_store ?_); refine wpList_store_blk rfl _ _ _ rfl (w3.heap.size) (fcs (z)) rfl rfl _ _ (BT9) (by kernel_rfl) (by rfl) (fcs_one _) ?_; intro w10 hL10 hB10 hK10; have BR10 := hK10 _ (by omega) _ _ BR9) | ((with_reducible refine here_load (d := some 25) ?_); refine wpList_load_fv rfl _ _ rfl (w3.heap.size) rfl (z) _ _ _ (hL10) (fv_fcs z) Try.underlying94 rfl (by kernel_rfl) ?_))
  refine (number_any _ _).mono ?_
  rintro e w11 ⟨rfl, hb⟩
  have BR11 := Gr.blk hb BR10
  have hBm := Below.gr (hBn.trans (hB10 _ (by omega))) hb
  go_wp2_with (first | ((with_reducible refine here_store ?_); refine wpList_store_blk rfl _ _ _ rfl (w.heap.size + 2) (fcs (z)) rfl rfl _ _ (BR11) (by kernel_rfl) (by rfl) (fcs_one _) ?_; intro w12 hL12 hB12 hK12))
  exact bodyPost_ret (results_cell_row rfl _ _ (w.heap.size + 2) _ _ (0, 0) _ rfl hL12 Try.underlying25 rfl (by kernel_rfl)) rfl ⟨rfl, hBm.trans (hB12 _ (by omega))⟩

theorem negF_any (w : World) (x : Nat) (hx : x < 115792089237316195423570985008687907853269984665640564039457584007913129639936) : Calls Try.prog 60 #[fv x] w fun e w' => e = .returned (fv (negP x)) ∧ Below w.heap.size w w' := by
  obtain ⟨z, hz⟩ : ∃ z, z = negP x := ⟨_, rfl⟩
  have cs : ∀ w, Calls Try.prog 59 #[.agg #[.int .u64 0, .int .u64 0, .int .u64 0, .int .u64 0], fv x] w fun e w' => e = .returned (fv z) ∧ Below w.heap.size w w' := by
    intro w; rw [hz, neg_sub, ← fv_0]; exact subF_any w 0 x (by omega) hx
  obtain ⟨x0, x1, x2, x3, fx⟩ := words_fv x hx
  rw [fx] at cs
  rw [fx, ← hz]
  clear fx hx hz
  go_enter Try.func60, Try.ntmps60
  go_wp2_with fail
  refine (cs _).mono ?_
  rintro e w1 ⟨rfl, hb⟩
  have BR : Blk w1 (w.heap.size + 1) 25 _ := Gr.blk hb (blk_new2 w _ _ _)
  have hB := Below.gr (below_alloc2 w _ _) hb
  go_wp2_with (first | ((with_reducible refine here_store ?_); refine wpList_store_blk rfl _ _ _ rfl (w.heap.size + 1) (fcs (z)) rfl rfl _ _ (BR) (by kernel_rfl) (by rfl) (fcs_one _) ?_; intro w2 hL2 hB2 hK2))
  exact bodyPost_ret (results_cell_row rfl _ _ (w.heap.size + 1) _ _ (0, 0) _ rfl hL2 Try.underlying25 rfl (by kernel_rfl)) rfl ⟨rfl, hB.trans (hB2 _ (by omega))⟩

theorem mul_split (x y : Nat) (hx : x < 115792089237316195423570985008687907853269984665640564039457584007913129639936) (hy : y < 115792089237316195423570985008687907853269984665640564039457584007913129639936) : ∃ lo hi f t b c g : Nat, lo < 115792089237316195423570985008687907853269984665640564039457584007913129639936 ∧ hi < 115792089237316195423570985008687907853269984665640564039457584007913129639936 ∧ lo + 115792089237316195423570985008687907853269984665640564039457584007913129639936 * hi = x * y ∧ f < 115792089237316195423570985008687907853269984665640564039457584007913129639936 ∧ f + 115792089237316195423570985008687907853269984665640564039457584007913129639936 * t = hi * 4294968273 ∧ t < 18446744073709551616 ∧ b < 18446744073709551616 ∧ c < 18446744073709551616 ∧ b + 18446744073709551616 * c = t * 4294968273 ∧ g = b + 18446744073709551616 * c ∧ g < 115792089237316195423570985008687907853269984665640564039457584007913129639936 ∧ (lo + f + g) % pM = mulP x y := by
  have h : x * y ≤ 115792089237316195423570985008687907853269984665640564039457584007913129639935 * 115792089237316195423570985008687907853269984665640564039457584007913129639935 := Nat.mul_le_mul (by omega) (by omega)
  refine ⟨x * y % 115792089237316195423570985008687907853269984665640564039457584007913129639936, x * y / 115792089237316195423570985008687907853269984665640564039457584007913129639936, x * y / 115792089237316195423570985008687907853269984665640564039457584007913129639936 * 4294968273 % 115792089237316195423570985008687907853269984665640564039457584007913129639936, x * y / 115792089237316195423570985008687907853269984665640564039457584007913129639936 * 4294968273 / 115792089237316195423570985008687907853269984665640564039457584007913129639936, x * y / 115792089237316195423570985008687907853269984665640564039457584007913129639936 * 4294968273 / 115792089237316195423570985008687907853269984665640564039457584007913129639936 * 4294968273 % 18446744073709551616, x * y / 115792089237316195423570985008687907853269984665640564039457584007913129639936 * 4294968273 / 115792089237316195423570985008687907853269984665640564039457584007913129639936 * 4294968273 / 18446744073709551616, x * y / 115792089237316195423570985008687907853269984665640564039457584007913129639936 * 4294968273 / 115792089237316195423570985008687907853269984665640564039457584007913129639936 * 4294968273, by omega, by omega, by omega, by omega, by omega, by omega, by omega, by omega, by omega, by omega, by omega, ?_⟩
  unfold mulP
  refine mod_of_mult (k := x * y / 115792089237316195423570985008687907853269984665640564039457584007913129639936 + x * y / 115792089237316195423570985008687907853269984665640564039457584007913129639936 * 4294968273 / 115792089237316195423570985008687907853269984665640564039457584007913129639936) ?_
  generalize x * y = m at *
  omega

set_option maxHeartbeats 1000000 in
set_option maxRecDepth 100000 in
theorem mulF_any (w : World) (x y : Nat) (hx : x < 115792089237316195423570985008687907853269984665640564039457584007913129639936) (hy : y < 115792089237316195423570985008687907853269984665640564039457584007913129639936) : Calls Try.prog 40 #[fv x, fv y] w fun e w' => e = .returned (fv (mulP x y)) ∧ Below w.heap.size w w' := by
  obtain ⟨lo, hi, f, t, b, c, g, hlo, hhi, he, hf, hft, ht, hb, hc, hbc, hg, hgl, hfin⟩ := mul_split x y hx hy
  obtain ⟨a, ha⟩ : ∃ a, a = addW lo f := ⟨_, rfl⟩
  obtain ⟨v, hv⟩ : ∃ v, v = addW a g := ⟨_, rfl⟩
  obtain ⟨z, hz⟩ : ∃ z, z = mulP x y := ⟨_, rfl⟩
  have hal : a < 115792089237316195423570985008687907853269984665640564039457584007913129639936 := by rw [ha]; exact addW_lt _ _ hlo hf
  have hvl : v < 115792089237316195423570985008687907853269984665640564039457584007913129639936 := by rw [hv]; exact addW_lt _ _ hal hgl
  have hvz : v % pM = z := by
    rw [hz, ← hfin, hv, addW_mod, ← Nat.mod_add_mod, ha, addW_mod, Nat.mod_add_mod]
  have ct : ∀ w, Calls Try.prog 73 #[fv hi, .int .u64 4294968273] w fun e w' => e = .returned (.tuple #[fv f, .int .u64 (t : Int)]) ∧ Below w.heap.size w w' := fun w => times_at (v := fv hi) w hi 4294968273 f t rfl hhi (by omega) hf hft
  have cm : ∀ w, Calls Try.prog 74 #[.int .u64 (t : Int), .int .u64 4294968273] w fun e w' => e = .returned (.tuple #[.int .u64 (c : Int), .int .u64 (b : Int)]) ∧ w' = w := fun w => mul64_at w t 4294968273 c b ht (by omega) hb hbc
  have ca := fun w => ha ▸ add_def w lo f hlo hf
  have hgf : fv g = .agg #[.int .u64 (b : Int), .int .u64 (c : Int), .int .u64 0, .int .u64 0] := by
    have h : Value.agg #[.int .u64 (b : Int), .int .u64 (c : Int), .int .u64 0, .int .u64 0] = fv (b + 18446744073709551616 * c + 340282366920938463463374607431768211456 * 0 + 6277101735386680763835789423207666416102355444464034512896 * 0) := fv_mk b c 0 0 hb hc (by omega) (by omega)
    exact (h.trans (congrArg fv (by omega))).symm
  have cb : ∀ w, Calls Try.prog 75 #[fv a, .agg #[.int .u64 (b : Int), .int .u64 (c : Int), .int .u64 0, .int .u64 0]] w fun e w' => e = .returned (fv v) ∧ Below w.heap.size w w' := by
    intro w; rw [← hgf, hv]; exact add_def w a g hal hgl
  have cr : ∀ w, Calls Try.prog 70 #[fv v] w fun e w' => e = .returned (fv z) ∧ Below w.heap.size w w' := by
    intro w; rw [← hvz]; exact reduce_any w v hvl
  have HP := Lib.hid (And.intro hlo he)
  obtain ⟨x0, x1, x2, x3, fx⟩ := words_fv x hx
  obtain ⟨y0, y1, y2, y3, fy⟩ := words_fv y hy
  have FX := Lib.hid fx
  have FY := Lib.hid fy
  have HX := Lib.hid (And.intro hx hy)
  rw [fx, fy, ← hz]
  clear fx fy hx hy hlo hhi he hf hft ht hb hc hbc hg hgl hfin ha hv hz hal hvl hvz hgf
  go_enter Try.func40, Try.ntmps40
  go_wp2
  refine wp_region_G (fun j => j == 10 || j == 11) (by kernel_rfl) ?_
  try simp only [Act.put]
  refine wpAnyG_take 0 rfl (by kernel_rfl) (fun _ _ _ h => h) (YieldsG.loadF (by rfl) _ _ rfl (w.heap.size) rfl (x) _ _ (((Blk.new w _ _).alloc _).alloc _) (FX.out) Try.underlying25 rfl (by kernel_rfl)) ?_
  try simp only [Act.put, List.setIfInBounds_toArray, List.set_cons_zero, List.set_cons_succ]
  refine wpAnyG_take 1 rfl (by kernel_rfl) (fun _ _ _ h => h) (YieldsG.call (v := fv x) (by rfl) 71 _ (fun w9 => by go_simp; try (first | with_reducible rfl | rfl)) (fun w9 h9 => split_any w9 x)) ?_
  try simp only [Act.put, List.setIfInBounds_toArray, List.set_cons_zero, List.set_cons_succ]
  refine wpAnyG_take 2 rfl (by kernel_rfl) (fun _ _ _ h => h) (YieldsG.loadF (by rfl) _ _ rfl (w.heap.size + 1) rfl (y) _ _ ((blk_new2 w _ _ _).alloc _) (FY.out) Try.underlying25 rfl (by kernel_rfl)) ?_
  try simp only [Act.put, List.setIfInBounds_toArray, List.set_cons_zero, List.set_cons_succ]
  refine wpAnyG_take 3 rfl (by kernel_rfl) (fun _ _ _ h => h) (YieldsG.call (v := fv y) (by rfl) 71 _ (fun w9 => by go_simp; try (first | with_reducible rfl | rfl)) (fun w9 h9 => split_any w9 y)) ?_
  try simp only [Act.put, List.setIfInBounds_toArray, List.set_cons_zero, List.set_cons_succ]
  refine wpAnyG_take 4 rfl (by kernel_rfl) (fun _ _ _ h => h) (YieldsG.call (v := .tuple #[fv lo, fv hi]) (by rfl) 72 _ (fun w9 => by go_simp; try (first | with_reducible rfl | rfl)) (fun w9 h9 => product_fv w9 x y lo hi HX.out.1 HX.out.2 HP.out.1 HP.out.2)) ?_
  try simp only [Act.put, List.setIfInBounds_toArray, List.set_cons_zero, List.set_cons_succ]
  refine wpAnyG_take 5 rfl (by kernel_rfl) (fun _ _ _ h => h) (YieldsG.pure (by rfl) (fun w9 _ => by go_simp; try with_reducible rfl)) ?_
  try simp only [Act.put, List.setIfInBounds_toArray, List.set_cons_zero, List.set_cons_succ]
  refine wpAnyG_take 6 rfl (by kernel_rfl) (fun _ _ _ h => h) (YieldsG.pure (by rfl) (fun w9 _ => by go_simp; try with_reducible rfl)) ?_
  try simp only [Act.put, List.setIfInBounds_toArray, List.set_cons_zero, List.set_cons_succ]
  refine wpAnyG_takeA 7 rfl (by kernel_rfl) (fun _ _ _ h => h) (fun _ => YieldsG.pure (by rfl) (fun w9 _ => by go_simp; try with_reducible rfl)) ?_
  try simp only [Act.put, List.setIfInBounds_toArray, List.set_cons_zero, List.set_cons_succ]
  refine wpAnyG_duo 8 9 rfl rfl (by kernel_rfl) (by rfl) (by rfl) (fun w3 h3 K hK => ?_) (fun w3 h3 K hK => ?_)
  · go_simp
    refine hK _ _ (fun _ => gr_alloc _ _) ?_
    clear hK K
    try simp only [Act.put, List.setIfInBounds_toArray, List.set_cons_zero, List.set_cons_succ]
    refine wpAnyG_sole 9 rfl (by kernel_rfl) (by rfl) (fun w4 h4 K hK => ?_)
    go_simp
    refine hK _ _ (fun _ => gr_alloc _ _) ?_
    clear hK K
    try simp only [Act.put, List.setIfInBounds_toArray, List.set_cons_zero, List.set_cons_succ]
    refine wpAnyG_storeK 10 rfl (by kernel_rfl) (by rfl) _ _ _ rfl (w3.heap.size) (fcs (lo)) rfl rfl _ _ (Gr.blk h4 (Blk.new w3 _ _) |>.alloc _) (by kernel_rfl) (by rfl) (fcs_one _) rfl (fun w6 h6 w7 hB7 hK7 hL7 => ?_)
    try simp only [Act.put]
    have hs4 : w3.heap.size + 1 ≤ w4.heap.size := by have := h4.size; simp at this; omega
    have hs3 : w.heap.size + 3 ≤ w3.heap.size := by have := h3.size; simp at this; omega
    have B6 : Blk w7 w4.heap.size 94 _ := hK7 _ (by omega) _ _ (Gr.blk h6 (Blk.new w4 _ _))
    have BR7 : Blk w7 (w.heap.size + 2) 25 _ := hK7 _ (by omega) _ _ (Gr.blk h6 (Blk.alloc (Gr.blk h4 (Blk.alloc (Gr.blk h3 (blk_new3 w _ _ _ _)) _)) _))
    have hb7 : Below w.heap.size w w7 := (Below.gr ((Below.gr ((Below.gr (below_alloc3 w _ _ _) h3).alloc (by omega) _) h4).alloc (by omega) _) h6).trans (hB7 _ (by omega))
    refine wpAnyG_storeK 11 rfl (by kernel_rfl) (by rfl) _ _ _ rfl (w4.heap.size) (fcs (hi)) rfl rfl _ _ (B6) (by kernel_rfl) (by rfl) (fcs_one _) rfl (fun w6 h7 w8 hB8 hK8 hL8 => ?_)
    try simp only [Act.put]
    refine wpAnyG_done (by kernel_rfl) (fun w9 h9 => ?_)
    have B5 : Blk w9 w3.heap.size 94 _ := Gr.blk h9 (hK8 _ (by omega) _ _ (Gr.blk h7 hL7))
    have B6 := Gr.blk h9 hL8
    have BR9 : Blk w9 (w.heap.size + 2) 25 _ := Gr.blk h9 (hK8 _ (by omega) _ _ (Gr.blk h7 BR7))
    have hb9 : Below w.heap.size w w9 := Below.gr ((Below.gr hb7 h7).trans (hB8 _ (by omega))) h9
    have hsz9 : w4.heap.size + 1 ≤ w9.heap.size := by have h1 := B5.lt; have h2 := B6.lt; omega
    clear h3 h4 h6 h7 h9 hB7 hB8 hK7 hK8 hL7 hL8 BR7 hb7
    go_wp2_with (first | ((with_reducible refine here_load (d := some 20) ?_); refine wpList_load_fv rfl _ _ rfl (w4.heap.size) rfl (hi) _ _ _ (B6) (fv_fcs hi) Try.underlying94 rfl (by kernel_rfl) ?_))
    refine (ct _).mono ?_
    rintro e w10 ⟨rfl, hb⟩
    have B5 := Gr.blk hb B5
    have BR := Gr.blk hb BR9
    have hBn := Below.gr hb9 hb
    have hsz10 : w4.heap.size + 1 ≤ w10.heap.size := by have := hb.size; omega
    clear hb hb9 BR9 B6 ct
    go_wp2_with (first | ((with_reducible refine here_store ?_); refine wpList_store_blk rfl _ _ _ rfl (w10.heap.size) (fcs (f)) rfl rfl _ _ (Blk.new w10 _ _) (by kernel_rfl) (by rfl) (fcs_one _) ?_; intro w11 hL11 hB11 hK11; have B5' := hK11 _ (by omega) _ _ (B5.alloc _); have BR' := hK11 _ (by omega) _ _ (BR.alloc _)))
    refine (cm _).mono ?_
    rintro e w12 ⟨rfl, rfl⟩
    go_wp2_with (first | ((with_reducible refine here_load (d := some 29) ?_); refine wpList_load_fv rfl _ _ rfl (w3.heap.size) rfl (lo) _ _ _ (B5') (fv_fcs lo) Try.underlying94 rfl (by kernel_rfl) ?_) | ((with_reducible refine here_load (d := some 30) ?_); refine wpList_load_fv rfl _ _ rfl (w10.heap.size) rfl (f) _ _ _ (hL11) (fv_fcs f) Try.underlying94 rfl (by kernel_rfl) ?_))
    refine (ca _).mono ?_
    rintro e w13 ⟨rfl, hb13⟩
    go_wp2_with fail
    refine (cb _).mono ?_
    rintro e w14 ⟨rfl, hb14⟩
    go_wp2_with fail
    refine (cr _).mono ?_
    rintro e w15 ⟨rfl, hb15⟩
    go_wp2_with fail
    refine (number_any _ _).mono ?_
    rintro e w16 ⟨rfl, hb16⟩
    have BR16 := Gr.blk hb16 (Gr.blk hb15 (Gr.blk hb14 (Gr.blk hb13 BR')))
    have hB16 := Below.gr (Below.gr (Below.gr (Below.gr ((hBn.alloc (by omega) _).trans (hB11 _ (by omega))) hb13) hb14) hb15) hb16
    clear hb13 hb14 hb15 hb16
    go_wp2_with (first | ((with_reducible refine here_store ?_); refine wpList_store_blk rfl _ _ _ rfl (w.heap.size + 2) (fcs (z)) rfl rfl _ _ (BR16) (by kernel_rfl) (by rfl) (fcs_one _) ?_; intro w17 hL17 hB17 hK17))
    exact bodyPost_ret (results_cell_row rfl _ _ (w.heap.size + 2) _ _ (0, 0) _ rfl hL17 Try.underlying25 rfl (by kernel_rfl)) rfl ⟨rfl, hB16.trans (hB17 _ (by omega))⟩
  · go_simp
    refine hK _ _ (fun _ => gr_alloc _ _) ?_
    clear hK K
    try simp only [Act.put, List.setIfInBounds_toArray, List.set_cons_zero, List.set_cons_succ]
    refine wpAnyG_sole 8 rfl (by kernel_rfl) (by rfl) (fun w4 h4 K hK => ?_)
    go_simp
    refine hK _ _ (fun _ => gr_alloc _ _) ?_
    clear hK K
    try simp only [Act.put, List.setIfInBounds_toArray, List.set_cons_zero, List.set_cons_succ]
    refine wpAnyG_storeK 10 rfl (by kernel_rfl) (by rfl) _ _ _ rfl (w4.heap.size) (fcs (lo)) rfl rfl _ _ (Blk.new w4 _ _) (by kernel_rfl) (by rfl) (fcs_one _) rfl (fun w6 h6 w7 hB7 hK7 hL7 => ?_)
    try simp only [Act.put]
    have hs4 : w3.heap.size + 1 ≤ w4.heap.size := by have := h4.size; simp at this; omega
    have hs3 : w.heap.size + 3 ≤ w3.heap.size := by have := h3.size; simp at this; omega
    have B6 : Blk w7 w3.heap.size 94 _ := hK7 _ (by omega) _ _ (Gr.blk h6 (Gr.blk h4 (Blk.new w3 _ _) |>.alloc _))
    have BR7 : Blk w7 (w.heap.size + 2) 25 _ := hK7 _ (by omega) _ _ (Gr.blk h6 (Blk.alloc (Gr.blk h4 (Blk.alloc (Gr.blk h3 (blk_new3 w _ _ _ _)) _)) _))
    have hb7 : Below w.heap.size w w7 := (Below.gr ((Below.gr ((Below.gr (below_alloc3 w _ _ _) h3).alloc (by omega) _) h4).alloc (by omega) _) h6).trans (hB7 _ (by omega))
    refine wpAnyG_storeK 11 rfl (by kernel_rfl) (by rfl) _ _ _ rfl (w3.heap.size) (fcs (hi)) rfl rfl _ _ (B6) (by kernel_rfl) (by rfl) (fcs_one _) rfl (fun w6 h7 w8 hB8 hK8 hL8 => ?_)
    try simp only [Act.put]
    refine wpAnyG_done (by kernel_rfl) (fun w9 h9 => ?_)
    have B5 : Blk w9 w4.heap.size 94 _ := Gr.blk h9 (hK8 _ (by omega) _ _ (Gr.blk h7 hL7))
    have B6 := Gr.blk h9 hL8
    have BR9 : Blk w9 (w.heap.size + 2) 25 _ := Gr.blk h9 (hK8 _ (by omega) _ _ (Gr.blk h7 BR7))
    have hb9 : Below w.heap.size w w9 := Below.gr ((Below.gr hb7 h7).trans (hB8 _ (by omega))) h9
    have hsz9 : w4.heap.size + 1 ≤ w9.heap.size := by have h1 := B5.lt; have h2 := B6.lt; omega
    clear h3 h4 h6 h7 h9 hB7 hB8 hK7 hK8 hL7 hL8 BR7 hb7
    go_wp2_with (first | ((with_reducible refine here_load (d := some 20) ?_); refine wpList_load_fv rfl _ _ rfl (w3.heap.size) rfl (hi) _ _ _ (B6) (fv_fcs hi) Try.underlying94 rfl (by kernel_rfl) ?_))
    refine (ct _).mono ?_
    rintro e w10 ⟨rfl, hb⟩
    have B5 := Gr.blk hb B5
    have BR := Gr.blk hb BR9
    have hBn := Below.gr hb9 hb
    have hsz10 : w4.heap.size + 1 ≤ w10.heap.size := by have := hb.size; omega
    clear hb hb9 BR9 B6 ct
    go_wp2_with (first | ((with_reducible refine here_store ?_); refine wpList_store_blk rfl _ _ _ rfl (w10.heap.size) (fcs (f)) rfl rfl _ _ (Blk.new w10 _ _) (by kernel_rfl) (by rfl) (fcs_one _) ?_; intro w11 hL11 hB11 hK11; have B5' := hK11 _ (by omega) _ _ (B5.alloc _); have BR' := hK11 _ (by omega) _ _ (BR.alloc _)))
    refine (cm _).mono ?_
    rintro e w12 ⟨rfl, rfl⟩
    go_wp2_with (first | ((with_reducible refine here_load (d := some 29) ?_); refine wpList_load_fv rfl _ _ rfl (w4.heap.size) rfl (lo) _ _ _ (B5') (fv_fcs lo) Try.underlying94 rfl (by kernel_rfl) ?_) | ((with_reducible refine here_load (d := some 30) ?_); refine wpList_load_fv rfl _ _ rfl (w10.heap.size) rfl (f) _ _ _ (hL11) (fv_fcs f) Try.underlying94 rfl (by kernel_rfl) ?_))
    refine (ca _).mono ?_
    rintro e w13 ⟨rfl, hb13⟩
    go_wp2_with fail
    refine (cb _).mono ?_
    rintro e w14 ⟨rfl, hb14⟩
    go_wp2_with fail
    refine (cr _).mono ?_
    rintro e w15 ⟨rfl, hb15⟩
    go_wp2_with fail
    refine (number_any _ _).mono ?_
    rintro e w16 ⟨rfl, hb16⟩
    have BR16 := Gr.blk hb16 (Gr.blk hb15 (Gr.blk hb14 (Gr.blk hb13 BR')))
    have hB16 := Below.gr (Below.gr (Below.gr (Below.gr ((hBn.alloc (by omega) _).trans (hB11 _ (by omega))) hb13) hb14) hb15) hb16
    clear hb13 hb14 hb15 hb16
    go_wp2_with (first | ((with_reducible refine here_store ?_); refine wpList_store_blk rfl _ _ _ rfl (w.heap.size + 2) (fcs (z)) rfl rfl _ _ (BR16) (by kernel_rfl) (by rfl) (fcs_one _) ?_; intro w17 hL17 hB17 hK17))
    exact bodyPost_ret (results_cell_row rfl _ _ (w.heap.size + 2) _ _ (0, 0) _ rfl hL17 Try.underlying25 rfl (by kernel_rfl)) rfl ⟨rfl, hB16.trans (hB17 _ (by omega))⟩
end Go.Proofs.Ytneeefinaejgcaa

end
section
namespace Go.Proofs.Ytneeefinaejgcaa.Nt

/-- a prime -/
def Pr (p : Nat) : Prop := 2 ≤ p ∧ ∀ k, 0 < k → k < p → Nat.gcd k p = 1

def bin : Nat → Nat → Nat
  | _, 0 => 1
  | 0, _ + 1 => 0
  | n + 1, k + 1 => bin n k + bin n (k + 1)
theorem bin_zero (n : Nat) : bin n 0 = 1 := by cases n <;> rfl
theorem bin_over : ∀ (n k : Nat), n < k → bin n k = 0
  | 0, k + 1, _ => rfl
  | n + 1, k + 1, h => by rw [bin, bin_over n k (by omega), bin_over n (k + 1) (by omega)]
theorem bin_self : ∀ n, bin n n = 1
  | 0 => rfl
  | n + 1 => by rw [bin, bin_self n, bin_over n (n + 1) (by omega)]
theorem bin_mul : ∀ (n k : Nat), (k + 1) * bin (n + 1) (k + 1) = (n + 1) * bin n k
  | 0, 0 => rfl
  | 0, k + 1 => by
    show (k + 2) * (bin 0 (k + 1) + bin 0 (k + 2)) = _
    rfl
  | n + 1, 0 => by
    have h := bin_mul n 0
    have e : bin (n + 1 + 1) (0 + 1) = bin (n + 1) 0 + bin (n + 1) (0 + 1) := rfl
    rw [e, bin_zero]
    rw [bin_zero] at h
    omega
  | n + 1, k + 1 => by
    have h1 := bin_mul n k
    have h2 := bin_mul n (k + 1)
    rw [bin, Nat.mul_add, h2]
    have e1 : (k + 1 + 1) * bin (n + 1) (k + 1) = (n + 1) * bin n k + bin (n + 1) (k + 1) := by rw [Nat.add_mul (k + 1) 1, h1, Nat.one_mul]
    rw [e1]
    have e2 : bin (n + 1) (k + 1) = bin n k + bin n (k + 1) := rfl
    rw [e2]
    simp only [Nat.add_mul, Nat.mul_add, Nat.one_mul]
    omega
def bsum (n a : Nat) : Nat → Nat
  | 0 => 0
  | k + 1 => bsum n a k + bin n k * a ^ k
theorem bsum_step (n a : Nat) : ∀ k, bsum (n + 1) a (k + 1) = bsum n a (k + 1) + a * bsum n a k
  | 0 => by simp [bsum, bin_zero]
  | k + 1 => by
    rw [bsum, bsum_step n a k]
    have e1 : bsum n a (k + 1 + 1) = bsum n a (k + 1) + bin n (k + 1) * a ^ (k + 1) := rfl
    have e2 : bsum n a (k + 1) = bsum n a k + bin n k * a ^ k := rfl
    have e3 : bin (n + 1) (k + 1) = bin n k + bin n (k + 1) := rfl
    have e4 : a * (bin n k * a ^ k) = bin n k * a ^ (k + 1) := by rw [Nat.pow_succ, Nat.mul_left_comm, Nat.mul_comm a]
    rw [e1, e2, e3, Nat.add_mul, Nat.mul_add, e4]
    omega
theorem pow_bin (a : Nat) : ∀ n, (a + 1) ^ n = bsum n a (n + 1)
  | 0 => by simp [bsum, bin]
  | n + 1 => by
    rw [bsum_step, Nat.pow_succ, pow_bin a n]
    have e : bsum n a (n + 1 + 1) = bsum n a (n + 1) + bin n (n + 1) * a ^ (n + 1) := rfl
    rw [e, bin_over n (n + 1) (by omega), Nat.zero_mul, Nat.mul_add, Nat.mul_one, Nat.add_zero, Nat.mul_comm]
    omega
theorem bin_dvd {p : Nat} (hp : Pr p) (k : Nat) (h0 : 0 < k) (h1 : k < p) : p ∣ bin p k := by
  obtain ⟨n, rfl⟩ : ∃ n, p = n + 1 := ⟨p - 1, by omega⟩
  obtain ⟨j, rfl⟩ : ∃ j, k = j + 1 := ⟨k - 1, by omega⟩
  have hm := bin_mul n j
  have hd : n + 1 ∣ (j + 1) * bin (n + 1) (j + 1) := ⟨_, hm⟩
  have hc : Nat.Coprime (n + 1) (j + 1) := by
    have := hp.2 (j + 1) h0 h1
    unfold Nat.Coprime
    rw [Nat.gcd_comm]
    exact this
  exact hc.dvd_of_dvd_mul_left hd
theorem bsum_mod {p : Nat} (hp : Pr p) (a : Nat) : ∀ k, 0 < k → k ≤ p → bsum p a k % p = 1
  | 0, h, _ => by omega
  | 1, _, _ => by
    have : bsum p a 1 = 1 := by simp [bsum, bin_zero]
    rw [this]
    exact Nat.mod_eq_of_lt hp.1
  | k + 2, _, h => by
    have ih := bsum_mod hp a (k + 1) (by omega) (by omega)
    obtain ⟨c, hc⟩ := bin_dvd hp (k + 1) (by omega) (by omega)
    rw [bsum, hc, Nat.mul_assoc, Nat.add_mul_mod_self_left]
    exact ih
theorem flt_all {p : Nat} (hp : Pr p) : ∀ a, a ^ p % p = a % p
  | 0 => by
    obtain ⟨n, hn⟩ : ∃ n, p = n + 1 := ⟨p - 1, by have := hp.1; omega⟩
    rw [hn, Nat.pow_succ, Nat.mul_zero]
  | a + 1 => by
    have h0 := hp.1
    rw [pow_bin, bsum, bin_self, Nat.one_mul, Nat.add_mod, bsum_mod hp a p (by omega) (Nat.le_refl _), flt_all hp a, Nat.add_comm 1, Nat.mod_add_mod]
theorem cop {p : Nat} (hp : Pr p) (a : Nat) (ha : a % p ≠ 0) : Nat.Coprime p a := by
  unfold Nat.Coprime
  rw [Nat.gcd_rec]
  exact hp.2 (a % p) (Nat.pos_of_ne_zero ha) (Nat.mod_lt _ (by have := hp.1; omega))
theorem flt {p : Nat} (hp : Pr p) (a : Nat) (ha : a % p ≠ 0) : a ^ (p - 1) % p = 1 := by
  have h2 := hp.1
  have ha0 : 0 < a := by
    rcases Nat.eq_zero_or_pos a with h | h
    · subst h; simp at ha
    · exact h
  have hpos : 0 < a ^ (p - 1) := Nat.pow_pos ha0
  have e : a ^ p = a * a ^ (p - 1) := by
    conv => lhs; rw [show p = (p - 1) + 1 by omega]
    rw [Nat.pow_succ, Nat.mul_comm]
  have h := flt_all hp a
  have hd : p ∣ a * (a ^ (p - 1) - 1) := by
    rw [Nat.mul_sub, Nat.mul_one, ← e]
    exact Nat.dvd_of_mod_eq_zero (Nat.sub_mod_eq_zero_of_mod_eq h)
  obtain ⟨c, hc⟩ := (cop hp a ha).dvd_of_dvd_mul_left hd
  have h3 : a ^ (p - 1) = 1 + p * c := by omega
  rw [h3, Nat.add_mul_mod_self_left]
  exact Nat.mod_eq_of_lt h2

/-- a prime factor -/
theorem has_prime : ∀ (f g : Nat), g ≤ f → 2 ≤ g → ∃ r, Pr r ∧ r ∣ g
  | 0, g, h, h2 => by omega
  | f + 1, g, h, h2 => by
    by_cases hp : Pr g
    · exact ⟨g, hp, Nat.dvd_refl _⟩
    · have hn : ¬ ∀ k, 0 < k → k < g → Nat.gcd k g = 1 := fun hk => hp ⟨h2, hk⟩
      obtain ⟨k, hk⟩ := Classical.not_forall.1 hn
      obtain ⟨h0, hk⟩ := Classical.not_imp.1 hk
      obtain ⟨h1, hk⟩ := Classical.not_imp.1 hk
      have hle : Nat.gcd k g ≤ k := Nat.gcd_le_left g h0
      have hpos : 0 < Nat.gcd k g := Nat.gcd_pos_of_pos_left g h0
      obtain ⟨r, hr, hd⟩ := has_prime f (Nat.gcd k g) (by omega) (by omega)
      exact ⟨r, hr, Nat.dvd_trans hd (Nat.gcd_dvd_right k g)⟩
theorem pow_one_mod {b m r : Nat} (hr : 2 ≤ r) (h : b ^ m % r = 1) (k : Nat) : b ^ (m * k) % r = 1 := by
  rw [Nat.pow_mul, Nat.pow_mod, h, Nat.one_pow]
  exact Nat.mod_eq_of_lt hr
theorem pow_gcd {b r : Nat} (hr : 2 ≤ r) (m n : Nat) : b ^ m % r = 1 → b ^ n % r = 1 → b ^ (Nat.gcd m n) % r = 1 := by
  induction m, n using Nat.gcd.induction with
  | H0 n => intro _ h; rw [Nat.gcd_zero_left]; exact h
  | H1 m n hm ih =>
    intro h1 h2
    rw [Nat.gcd_rec]
    refine ih ?_ h1
    have e : b ^ n = b ^ (m * (n / m)) * b ^ (n % m) := by rw [← Nat.pow_add, Nat.div_add_mod]
    rw [e, Nat.mul_mod, pow_one_mod hr h1, Nat.one_mul, Nat.mod_mod] at h2
    exact h2
theorem pock_one {N a q : Nat} (hq : Pr q) (hd : q ∣ N - 1) (h1 : a ^ (N - 1) % N = 1) (hg : Nat.gcd (a ^ ((N - 1) / q) % N + (N - 1)) N = 1) (hN : 2 ≤ N) (r : Nat) (hr : Pr r) (hrN : r ∣ N) : q ∣ r - 1 := by
  have hr2 := hr.1
  have hb : (a ^ ((N - 1) / q)) ^ q % r = 1 := by
    rw [← Nat.pow_mul, Nat.div_mul_cancel hd]
    have : a ^ (N - 1) % N % r = 1 % r := by rw [h1]
    rw [Nat.mod_mod_of_dvd _ hrN] at this
    rw [this]
    exact Nat.mod_eq_of_lt hr2
  generalize hbd : a ^ ((N - 1) / q) = b at hb hg
  have hb0 : b % r ≠ 0 := by
    intro h0
    have hq0 : q ≠ 0 := by have := hq.1; omega
    rw [Nat.pow_mod, h0, Nat.zero_pow (by omega)] at hb
    simp at hb
  have hf := flt hr b hb0
  have hgcd := pow_gcd hr2 q (r - 1) hb hf
  by_cases hdv : q ∣ r - 1
  · exact hdv
  · exfalso
    have hne : (r - 1) % q ≠ 0 := fun h => hdv (Nat.dvd_of_mod_eq_zero h)
    have hc : Nat.gcd q (r - 1) = 1 := cop hq (r - 1) hne
    rw [hc, Nat.pow_one] at hgcd
    have hN1 : (N - 1) % r = r - 1 := by
      obtain ⟨c, hc⟩ := hrN
      obtain ⟨d, rfl⟩ : ∃ d, c = d + 1 := ⟨c - 1, by rcases c with _ | c; · simp at hc; omega
                                                     · rfl⟩
      have : N - 1 = r * d + (r - 1) := by rw [hc, Nat.mul_add, Nat.mul_one]; omega
      rw [this, Nat.mul_add_mod, Nat.mod_eq_of_lt (by omega)]
    have hz : (b % N + (N - 1)) % r = 0 := by
      rw [Nat.add_mod, Nat.mod_mod_of_dvd _ hrN, hgcd, hN1]
      have : 1 + (r - 1) = r := by omega
      rw [this, Nat.mod_self]
    have hdd : r ∣ 1 := by
      rw [← hg]
      exact Nat.dvd_gcd (Nat.dvd_of_mod_eq_zero hz) hrN
    have := Nat.le_of_dvd (by omega) hdd
    omega
theorem pock {N F : Nat} (hN : 2 ≤ N) (h : ∀ r, Pr r → r ∣ N → F ∣ r - 1) (hF : N < (F + 1) * (F + 1)) : Pr N := by
  refine ⟨hN, fun k h0 h1 => ?_⟩
  by_cases hg : Nat.gcd k N = 1
  · exact hg
  · exfalso
    have hle : Nat.gcd k N ≤ k := Nat.gcd_le_left N h0
    have hpos : 0 < Nat.gcd k N := Nat.gcd_pos_of_pos_left N h0
    obtain ⟨c, hc⟩ := Nat.gcd_dvd_right k N
    have hc2 : 2 ≤ c := by
      rcases c with _ | _ | c
      · omega
      · omega
      · omega
    obtain ⟨r, hr, hrd⟩ := has_prime _ (Nat.gcd k N) (Nat.le_refl _) (by omega)
    obtain ⟨s, hs, hsd⟩ := has_prime _ c (Nat.le_refl _) hc2
    have hrN : r ∣ N := Nat.dvd_trans hrd (Nat.gcd_dvd_right k N)
    have hsN : s ∣ N := by rw [hc]; exact Nat.dvd_trans hsd (Nat.dvd_mul_left c _)
    have hr2 := hr.1
    have hs2 := hs.1
    have l1 := Nat.le_of_dvd (by omega) (h r hr hrN)
    have l2 := Nat.le_of_dvd (by omega) (h s hs hsN)
    have m1 : r ≤ Nat.gcd k N := Nat.le_of_dvd hpos hrd
    have m2 : s ≤ c := Nat.le_of_dvd (by omega) hsd
    have : (F + 1) * (F + 1) ≤ Nat.gcd k N * c := Nat.mul_le_mul (by omega) (by omega)
    omega

/-- trial -/
theorem small_prime {n b : Nat} (h2 : 2 ≤ n) (hb : n < b * b) (h : (List.range b).all (fun k => k < 2 || n % k != 0) = true) : Pr n := by
  refine ⟨h2, fun k h0 h1 => ?_⟩
  by_cases hg : Nat.gcd k n = 1
  · exact hg
  · exfalso
    have hle : Nat.gcd k n ≤ k := Nat.gcd_le_left n h0
    have hpos : 0 < Nat.gcd k n := Nat.gcd_pos_of_pos_left n h0
    obtain ⟨c, hc⟩ := Nat.gcd_dvd_right k n
    have hc2 : 2 ≤ c := by
      rcases c with _ | _ | c
      · omega
      · omega
      · omega
    have key : ∀ d, 2 ≤ d → d < b → d ∣ n → False := by
      intro d hd hdb hdn
      have := List.all_eq_true.1 h d (List.mem_range.2 hdb)
      have hz := Nat.mod_eq_zero_of_dvd hdn
      simp [hz] at this
      omega
    rcases Nat.lt_or_ge (Nat.gcd k n) b with hl | hl
    · exact key _ (by omega) hl (Nat.gcd_dvd_right k n)
    · rcases Nat.lt_or_ge c b with hm | hm
      · exact key c hc2 hm ⟨Nat.gcd k n, by rw [Nat.mul_comm]; exact hc⟩
      · have := Nat.mul_le_mul hl hm
        omega

/-- powers, reckoned -/
def pm (n a : Nat) : List Bool → Nat → Nat
  | [], r => r
  | b :: bs, r => pm n a bs (if b then r * r % n * a % n else r * r % n)
def ev : List Bool → Nat → Nat
  | [], e => e
  | b :: bs, e => ev bs (if b then 2 * e + 1 else 2 * e)
theorem pm_eq (n a : Nat) : ∀ (bs : List Bool) (r e : Nat), r = a ^ e % n → pm n a bs r = a ^ (ev bs e) % n
  | [], _, _, h => h
  | true :: bs, r, e, h => by
    rw [pm, ev]
    refine pm_eq n a bs _ _ ?_
    simp only [if_true]
    rw [h, Nat.pow_succ, Nat.two_mul, Nat.pow_add, ← Nat.mul_mod, Nat.mod_mul_mod]
  | false :: bs, r, e, h => by
    rw [pm, ev]
    refine pm_eq n a bs _ _ ?_
    simp only [Bool.false_eq_true, if_false]
    rw [h, Nat.two_mul, Nat.pow_add, ← Nat.mul_mod]

def bitsOf : Nat → Nat → List Bool → List Bool
  | 0, _, l => l
  | f + 1, e, l => bitsOf f (e / 2) (decide (e % 2 = 1) :: l)
theorem ev_bitsOf : ∀ (f e : Nat) (l : List Bool), e < 2 ^ f → ev (bitsOf f e l) 0 = ev l e
  | 0, e, l, h => by
    have : e = 0 := by simp at h; exact h
    rw [this]; rfl
  | f + 1, e, l, h => by
    rw [bitsOf, ev_bitsOf f (e / 2) _ (by rw [Nat.pow_succ] at h; omega), ev]
    by_cases h1 : e % 2 = 1
    · rw [decide_eq_true h1, if_pos rfl]; congr 1; omega
    · rw [decide_eq_false h1]; simp only [Bool.false_eq_true, if_false]; congr 1; omega
theorem pow_is (f n a e : Nat) (h : e < 2 ^ f) (hn : 2 ≤ n) : pm n a (bitsOf f e []) 1 = a ^ e % n := by
  rw [pm_eq n a _ 1 0 (by rw [Nat.pow_zero, Nat.mod_eq_of_lt hn]), ev_bitsOf f e [] h]; rfl
theorem pock_pm (f : Nat) {N q : Nat} (a : Nat) (hf : N < 2 ^ f) (hq : Pr q) (hd : q ∣ N - 1) (h1 : pm N a (bitsOf f (N - 1) []) 1 = 1) (hg : Nat.gcd (pm N a (bitsOf f ((N - 1) / q) []) 1 + (N - 1)) N = 1) (hN : 2 ≤ N) (r : Nat) (hr : Pr r) (hrN : r ∣ N) : q ∣ r - 1 := by
  rw [pow_is f N a _ (by omega) hN] at h1
  rw [pow_is f N a _ (Nat.lt_of_le_of_lt (Nat.div_le_self _ _) (by omega)) hN] at hg
  exact pock_one hq hd h1 hg hN r hr hrN
theorem pr_107590001 : Pr 107590001 := small_prime (b := 10374) (by decide) (by decide) (by decide +kernel)
theorem pr_7240687 : Pr 7240687 := small_prime (b := 2692) (by decide) (by decide) (by decide +kernel)
theorem pr_96557 : Pr 96557 := small_prime (b := 312) (by decide) (by decide) (by decide +kernel)
theorem pr_r2 : Pr 255515944373312847190720520512484175977 := by
  refine pock (F := 107590001 * (7240687 * 96557)) (by decide) (fun r hr hrN => ?_) (by decide)
  have h0 := pock_pm 128 2 (by decide) pr_107590001 (by decide) (by decide +kernel) (by decide +kernel) (by decide) r hr hrN
  have h1 := pock_pm 128 2 (by decide) pr_7240687 (by decide) (by decide +kernel) (by decide +kernel) (by decide) r hr hrN
  have h2 := pock_pm 128 2 (by decide) pr_96557 (by decide) (by decide +kernel) (by decide +kernel) (by decide) r hr hrN
  exact Nat.Coprime.mul_dvd_of_dvd_of_dvd (by decide) h0 (Nat.Coprime.mul_dvd_of_dvd_of_dvd (by decide) h1 h2)
theorem pr_q : Pr 205115282021455665897114700593932402728804164701536103180137503955397371 :=
  pock (F := 255515944373312847190720520512484175977) (by decide) (fun r hr hrN => pock_pm 237 2 (by decide) pr_r2 (by decide) (by decide +kernel) (by decide +kernel) (by decide) r hr hrN) (by decide)
theorem pr_p : Pr 115792089237316195423570985008687907853269984665640564039457584007908834671663 :=
  pock (F := 205115282021455665897114700593932402728804164701536103180137503955397371) (by decide) (fun r hr hrN => pock_pm 256 2 (by decide) pr_q (by decide) (by decide +kernel) (by decide +kernel) (by decide) r hr hrN) (by decide)
end Go.Proofs.Ytneeefinaejgcaa.Nt

end
section
namespace Go.Proofs.Ytneeefinaejgcaa
open Go.RowKit Go.Lib

/-- squared so many times -/
def sqI (x : Nat) : Nat → Nat
  | 0 => x
  | n + 1 => mulP (sqI x n) (sqI x n)
theorem sqI_lt (x n : Nat) (hx : x < 115792089237316195423570985008687907853269984665640564039457584007913129639936) : sqI x n < 115792089237316195423570985008687907853269984665640564039457584007913129639936 := by
  cases n with
  | zero => exact hx
  | succ n => exact mulP_lt _ _
theorem mulP_mod (x y : Nat) : mulP x y % pM = x * y % pM := by unfold mulP; rw [Nat.mod_mod]
theorem mul_pow {a x y i j : Nat} (hx : x % pM = a ^ i % pM) (hy : y % pM = a ^ j % pM) : mulP x y % pM = a ^ (i + j) % pM := by
  rw [mulP_mod, Nat.mul_mod, hx, hy, ← Nat.mul_mod, ← Nat.pow_add]
theorem sqI_pow {a x i : Nat} (hx : x % pM = a ^ i % pM) : ∀ n, sqI x n % pM = a ^ (i * 2 ^ n) % pM
  | 0 => by rw [Nat.pow_zero, Nat.mul_one]; exact hx
  | n + 1 => by
    rw [sqI, mul_pow (sqI_pow hx n) (sqI_pow hx n), Nat.pow_succ]
    congr 2
    rw [← Nat.mul_assoc, Nat.mul_two]
def jn (x d y : Nat) : Nat := mulP (sqI x d) y
theorem jn_lt (x d y : Nat) : jn x d y < 115792089237316195423570985008687907853269984665640564039457584007913129639936 := mulP_lt _ _
theorem jn_pow {a x y i j d : Nat} (hx : x % pM = a ^ i % pM) (hy : y % pM = a ^ j % pM) : jn x d y % pM = a ^ (i * 2 ^ d + j) % pM := mul_pow (sqI_pow hx d) hy

set_option maxHeartbeats 1000000 in
set_option maxRecDepth 100000 in
theorem square_any (w : World) (x d : Nat) (hx : x < 115792089237316195423570985008687907853269984665640564039457584007913129639936) (hd : d ≤ 1000) : Calls Try.prog 104 #[fv x, .int .i64 (d : Int)] w fun e w' => e = .returned (fv (sqI x d)) ∧ Below w.heap.size w w' := by
  obtain ⟨x0, x1, x2, x3, fx⟩ := words_fv x hx
  have FX := Lib.hid fx
  have HX := Lib.hid hx
  have HD := Lib.hid hd
  have hd' : (d : Int) ≤ 1000 := by omega
  rw [fx]
  clear fx hx hd
  go_enter Try.func104, Try.ntmps104
  go_wp2_with fail
  go_loopw [6] (fun i wr => ∃ k v : Nat, k ≤ d ∧ i = .int .i64 (k : Int) ∧ Hid (v = sqI x k) ∧ Below w.heap.size w wr ∧ Blk wr w.heap.size 25 (fcs v) ∧ Blk wr (w.heap.size + 1) 25 #[.int .u64 0, .int .u64 0, .int .u64 0, .int .u64 0]) (fun i _ => d - (intOf i).toNat)
  case atStart => exact ⟨0, x, Nat.zero_le _, rfl, Lib.hid rfl, below_alloc2 w _ _, Blk.eq_ ((Blk.new w _ _).alloc _) (fcs_words FX.out).symm, blk_new2 w _ _ _⟩
  case round =>
    obtain ⟨k, v, hk, rfl, HV, hb, hB, hR⟩ := hrel
    have HL : Hid (v < 115792089237316195423570985008687907853269984665640564039457584007913129639936) := Lib.hid (by rw [HV.out]; exact sqI_lt x k HX.out)
    by_cases hlt : k < d
    · have p1 : (k : Int) < (d : Int) := by omega
      go_wp2_with (first | ((with_reducible refine here_load (d := some 8) ?_); refine wpList_load_fv rfl _ _ rfl (w.heap.size) rfl (v) _ _ _ (hB) (fv_fcs v) Try.underlying25 rfl (by kernel_rfl) ?_) | ((with_reducible refine here_load (d := some 9) ?_); refine wpList_load_fv rfl _ _ rfl (w.heap.size) rfl (v) _ _ _ (hB) (fv_fcs v) Try.underlying25 rfl (by kernel_rfl) ?_))
      refine (mulF_any _ v v HL.out HL.out).mono ?_
      rintro e w1 ⟨rfl, hb1⟩
      obtain ⟨z, hz⟩ : ∃ z, z = mulP v v := ⟨_, rfl⟩
      have HZ := Lib.hid hz
      rw [← hz]
      clear hz
      have hB1 := Gr.blk hb1 hB
      have hR1 := Gr.blk hb1 hR
      have hbb := Below.gr hb hb1
      clear hb hb1 hB hR
      go_wp2_with (first | ((with_reducible refine here_store ?_); refine wpList_store_blk rfl _ _ _ rfl (w.heap.size) (fcs (z)) rfl rfl _ _ (hB1) (by kernel_rfl) (by rfl) (fcs_one _) ?_; intro w2 hL2 hB2 hK2; have hR2 := hK2 _ (by omega) _ _ hR1))
      go_roundw
      case rel => exact ⟨k + 1, z, by omega, by simp <;> rfl, Lib.hid (by rw [HZ.out, HV.out]; rfl), hbb.trans (hB2 _ (by omega)), hL2, hR2⟩
      case measure => simp [intOf]; omega
    · have p1 : ¬ (k : Int) < (d : Int) := by omega
      obtain rfl : k = d := by omega
      go_wp2_with (first | ((with_reducible refine here_load (d := some 12) ?_); refine wpList_load_fv rfl _ _ rfl (w.heap.size) rfl (v) _ _ _ (hB) (fv_fcs v) Try.underlying25 rfl (by kernel_rfl) ?_) | ((with_reducible refine here_store ?_); refine wpList_store_blk rfl _ _ _ rfl (w.heap.size + 1) (fcs (v)) rfl rfl _ _ (hR) (by kernel_rfl) (by rfl) (fcs_one _) ?_; intro w2 hL2 hB2 hK2))
      exact bodyPost_ret (results_cell_row rfl _ _ (w.heap.size + 1) _ _ (0, 0) _ rfl hL2 Try.underlying25 rfl (by kernel_rfl)) rfl ⟨by rw [HV.out]; rfl, hb.trans (hB2 _ (by omega))⟩
end Go.Proofs.Ytneeefinaejgcaa

end
