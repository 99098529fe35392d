/-
  Texts of ours, put together: FeSpec, ShaSpec, ShaWd, Mem, FeLift, FeBase, FeAdd, Ord, FeOrd, OrdV, Ord4, Rnd, Sym, SymB, SymC, SymE, SymF, SymG, SymG2, Zz, SymZ, SymK, SymD, SymY, SymI, SymR, Ec, EcM, FeMul, FeRow, FeProd, FeOps, FeMul2, FeNum, FePow, FeRuns, FeEq, FeSqrt, FeInv, Crv, NumEq, Pnt, ZzK, CrvA, CrvB, RefNum, RefMinus, RowZ, FoldZ, RefFold, RefAdd, MulZ, RefMul, PowZ, RefPow, NumB, FeOwn, RefBytes, CrvC, CurveAlive, FeB32, FeRead, RefSqrt, RootNum, CrvD, CrvF, CrvG, CrvH, CurveBackL, SymT, SymQ, SymW, SymU, WirA, WirB.
-/
import Derived.WalkKit
import Derived.KernelRfl
import Derived.WalkSpells
import Derived.WalkLawsBesides
import Derived.Below
import Derived.Laws.OwnMore
import Derived.Deep.Draws
import Derived.Deep.QuietTactic
import Derived.Deep.WholeRow
import Derived.Deep.OwnRows
import Derived.Laws.CopyOwn
import Derived.OwnWalk
import Derived.Deep.MidRow
import Derived.Lib.Hide
import Derived.Laws.Rows
import Derived.Test.YtgemfpnlnipfnaaGreatRows
import Derived.Laws.IdiomArrays
import Derived.ProofKit
import Derived.OpenShut
import Derived.Deep.DeepHandedRow
import Derived.Lib.LaidTab
import Derived.Test.YtgemfpnlnipfnaaGreatChecked
import Derived.Shelf.Spec.BitsCarry
import Derived.Lib.Mul64
import Derived.Laws.Bits64b
import Derived.Laws.ResultCell
import Derived.OrdersHeld
import Derived.Deep.RegionHeld3
import Derived.OrdersIn
import Derived.TacticsIn
import Derived.RangeFuncCalls
import Derived.ControlIn
import Derived.RangeFuncNested
import Derived.RangeFuncLeaves
import Derived.LoopNIn
import Derived.Laws.AppendOwn
import Derived.Deep.DeepAppendRoom
import Derived.ArgAppend
import Derived.Laws.IdiomCopy
import Derived.Laws.MakeOwn
import Derived.RangeFuncSeq
import Derived.OwnWalkIn
import Derived.RegionTactic
import Derived.ChangeAlike
import Derived.BigRegion
import Derived.Stop.BytesEq
import Derived.Deep.AppendLies
import Derived.Great.BuildSlice
import Derived.Laws.Tables
import Derived.Lib.AppendZeros
import Derived.Scope
import Derived.Deep.Slices
import Derived.SizedLaws
set_option linter.unusedVariables false
set_option linter.unusedSimpArgs false
section
namespace Go.Proofs.YtgemfpnlnipfnaaGreat
open Go.RowKit

def pM : Nat := 115792089237316195423570985008687907853269984665640564039457584007908834671663
end Go.Proofs.YtgemfpnlnipfnaaGreat

end
section
namespace Go.Proofs.YtgemfpnlnipfnaaGreat.Sp

end Go.Proofs.YtgemfpnlnipfnaaGreat.Sp

end
section
namespace Go.Proofs.YtgemfpnlnipfnaaGreat
open Go.RowKit Sp

end Go.Proofs.YtgemfpnlnipfnaaGreat

end
section
namespace Go.Proofs.YtgemfpnlnipfnaaGreat
open Go.RowKit Sp

def Blk (w : World) (g : Nat) (t : TypeId) (cs : Array Value) : Prop := w.heap[g]? = some (.cells cs t (0, 0))

section
variable {w w' : World} {g : Nat} {t : TypeId} {cs : Array Value}
theorem Blk.lt (h : Blk w g t cs) : g < w.heap.size := by
  rcases Nat.lt_or_ge g w.heap.size with hlt | hge
  · exact hlt
  · unfold Blk at h; rw [Array.getElem?_eq_none hge] at h; cases h
theorem Blk.cell (h : Blk w g t cs) (i : Nat) : w.cell? ⟨g, i, none⟩ = cs[i]? := cell_of_row w g i cs t (0, 0) h
theorem Blk.frozen (h : Blk w g t cs) (i : Nat) : w.frozen? ⟨g, i, none⟩ = false := by
  unfold Blk at h
  simp [World.frozen?, h]
theorem Blk.new (w : World) (t : TypeId) (cs : Array Value) : Blk (w.alloc (.cells cs t)) w.heap.size t cs := heap_alloc_new w _
theorem Blk.set_ (h : Blk w g t cs) (i : Nat) (u : Value) : Blk (w.setCell ⟨g, i, none⟩ u) g t (cs.setIfInBounds i u) := by
  unfold Blk at h ⊢
  simp [World.setCell, Array.getElem?_modify, h]
theorem Blk.below {B : Nat} (h : Blk w g t cs) (hb : Below B w w') (hg : g < B) : Blk w' g t cs := (hb.block g hg).trans h
theorem Blk.grown {row : Option Nat} (h : Blk w g t cs) (hb : w.grownBy w' row) (hg : some g ≠ row) : Blk w' g t cs := (hb.block g h.lt hg).trans h
theorem only_setCell {a w : World} {g : Nat} (h : a.grownBy w (some g)) {p : Addr} (hp : p.block = g ∨ a.heap.size ≤ p.block) (u : Value) : a.grownBy (w.setCell p u) (some g) :=
  ⟨h.os, h.tape, h.output, by simpa [World.setCell] using h.size, fun i hi hne => (Below.heap_setCell w p u i (by
    rintro rfl
    rcases hp with hp | hp
    · exact hne (by rw [hp])
    · omega)).trans (h.block i hi hne)⟩
theorem only_setCells {a : World} {g : Nat} : ∀ (vs : List Value) (o : Nat) (w : World), a.grownBy w (some g) → a.grownBy (w.setCells g o vs) (some g)
  | [], _, _, h => h
  | v :: r, o, w, h => by
    rw [World.setCells]
    exact only_setCells r (o + 1) _ (only_setCell h (.inl rfl) v)
theorem below_of_only {B g : Nat} {a w : World} (h : a.grownBy w (some g)) (hB : B ≤ a.heap.size) (hg : B ≤ g) : Below B a w :=
  ⟨h.os, h.tape, h.output, h.size, fun k hk => h.block k (by omega) (fun e => by injection e; omega)⟩
def setAll (cs : Array Value) (o : Nat) : List Value → Array Value
  | [] => cs
  | v :: r => setAll (cs.setIfInBounds o v) (o + 1) r
theorem Blk.setCells {g : Nat} {t : TypeId} : ∀ (vs : List Value) (o : Nat) (w : World) (cs : Array Value), Blk w g t cs → Blk (w.setCells g o vs) g t (setAll cs o vs)
  | [], _, _, _, h => h
  | v :: r, o, w, cs, h => by
    rw [World.setCells]
    exact Blk.setCells r (o + 1) _ _ (h.set_ o v)
theorem Blk.there {w : World} {g : Nat} {t : TypeId} {cs : Array Value} (h : Blk w g t cs) (o n : Nat) (hn : o + n ≤ cs.size) : w.there g o n := fun j hj =>
  ⟨by rw [h.cell]; simp; omega, h.frozen _⟩
end

def bv (x : UInt8) : Value := .int .u8 (x.toNat : Int)

end Go.Proofs.YtgemfpnlnipfnaaGreat

end
section
namespace Go.Proofs.YtgemfpnlnipfnaaGreat
open Go.ChangeShapes Go.WideShapes Go.ChangeAt Go.RowKit

section
variable {H : Type} {enc : TypeId × Value → H} {P : Program}

theorem trodAll_stays (hl : laidOutB P = true) {W W' : World} (hb : Below W.heap.size W W') : ∀ (ts : List TypeId) (vs : List Value) (ds : List (DataW H)) (ps : List MemPlace),
    (∀ t ∈ ts, P.readableRec t = true ∧ t < P.types.size) → DataW.TrodAll enc P W 0 (fun _ => true) true ts vs ds ps → (∀ p ∈ ps, p.block < W.heap.size) →
    ∀ sp : Nat → Bool, (∀ p ∈ ps, sp p.block = true) → DataW.TrodAll enc P W' 0 sp true ts vs ds ps
  | [], vs, ds, ps, _, h, _, _, _ => by
    obtain ⟨rfl, rfl, rfl⟩ := trodAll_nil h
    exact trodAll_mk0
  | t :: ts, vs, ds, ps, hr, h, hlt, sp, hs => by
    obtain ⟨v, vs', d, ds', p, q, rfl, rfl, rfl, h0, h1⟩ := trodAll_cons h
    have hr0 := hr t (by simp)
    exact trodAll_cons_mk (WideElems.Trod_stays hl hr0.1 hr0.2 h0 (fun x hx => hb.same (hlt x (by simp [hx]))) (fun x hx => hs x (by simp [hx])))
      (trodAll_stays hl hb ts vs' ds' q (fun t ht => hr t (by simp [ht])) h1 (fun x hx => hlt x (by simp [hx])) sp (fun x hx => hs x (by simp [hx])))

theorem law_post {f : Func} {s : ChangeSpec} {apart fresh handsOn again : Bool} {W W' : World} {args : Array Value} {ds gs : List (DataW H)} {before : List MemPlace} {tb : TypeId}
    (hl : laidOutB P = true) (hr : ∀ t ∈ f.params.toList, P.readableRec t = true ∧ t < P.types.size)
    (hW : DataW.Whole enc P f.params.toList s.vars apart W args.toList ds gs before) (hv : s.vars = []) (hrt : f.resultTypes = #[tb]) (htb : P.underlying tb = some .bool)
    (hres : (s.fn H (ds ++ gs)).results = [.lit (.bool true)]) (hargs : (s.fn H (ds ++ gs)).args = ds) (hvars : (s.fn H (ds ++ gs)).vars = [])
    (hb : Below W.heap.size W W') : s.post enc P f apart fresh handsOn again W args (.bool true) W' := by
  have hlt : ∀ p ∈ before, p.block < W.heap.size := fun p hp => hW.lt p hp
  have hW' := hW
  obtain ⟨p, q, hA, hV, rfl, hz, hn⟩ := hW
  rw [hv] at hV
  obtain ⟨rfl, rfl⟩ := trodVars_none hV
  have hltp : ∀ x ∈ p, x.block < W.heap.size := fun x hx => hlt x (by simp [hx])
  have ha := trodAll_stays hl hb f.params.toList args.toList ds p hr hA hltp
  have hrs : ∀ (b : Nat) (sp : Nat → Bool) (hd : Bool), DataW.TrodAll enc P W' b sp hd f.resultTypes.toList ((Value.bool true).resultList f.resultTypes.size) (s.fn H (ds ++ [])).results [] := by
    intro b sp hd
    rw [hres, hrt]
    exact trodAll_mk1 (shut_bool htb true)
  have hvs : ∀ sp : Nat → Bool, DataW.TrodVars enc P W' sp s.vars (s.fn H (ds ++ [])).vars [] := by
    intro sp
    rw [hvars, hv]
    rfl
  have hold : ∀ x ∈ p, (fun b => decide (b < W.heap.size)) x.block = true := fun x hx => by simpa using hltp x hx
  refine ⟨ds, [], p ++ [], [], p, [], hW', hrs _ _ _, by rw [hargs]; exact ha _ hold, hvs _, World.keptBut_mono (fun x hx => ⟨hx, ?_⟩) (hb.frame (· ∈ p ++ [])), fun _ => ?_⟩
  · exact Or.inr (Or.inl (by simpa using hx))
  · refine ⟨?_, (s.fn H (ds ++ [])).results ++ ds, [], ([] ++ p) ++ [], ⟨[] ++ p, [], trodAll_append (ha _ (fun _ _ => rfl)) (hrs _ _ _), by rw [hv]; rfl, rfl, ?_, ?_⟩, ?_⟩
    · rw [hrt]
      intro j t r hj hv'
      match j, hj, hv' with
      | 0, hj, hv' =>
        simp [Value.resultList] at hj hv'
        subst hj; subst hv'
        exact okWide_bool_mk htb true
    · intro b off hp
      have hin : MemPlace.cell b off ∈ p ++ [] := by simpa using hp
      rw [hb.frozen (hlt _ hin)]
      exact hz b off hin
    · intro ha'
      have := hn ha'
      simpa using this
    · intro x hx _
      simpa using hx

end

end Go.Proofs.YtgemfpnlnipfnaaGreat

end
section
namespace Go.Proofs.YtgemfpnlnipfnaaGreat
open Go.RowKit Go.Lib

section
variable {P : Program} {ops : Array Oper} {Q : Exit → Act → World → Prop} {rest : List Oper} {a : Act} {w : World} {d : Option Tmp} {t : TypeId} {p : String} {af : Array Edge} {g : Option (Nat × Bool)}
end

end Go.Proofs.YtgemfpnlnipfnaaGreat

end
section
namespace Go.Proofs.YtgemfpnlnipfnaaGreat
open Go.RowKit Go.Lib

end Go.Proofs.YtgemfpnlnipfnaaGreat

end
section
namespace Go.Proofs.YtgemfpnlnipfnaaGreat
open Go.RowKit

section
variable {P : Program} {ops : Array Oper} {Q : Exit → Act → World → Prop} {md : Region.Mode} {ex : Nat → Bool}

def Gr (w w' : World) : Prop := Below w.heap.size w w'
theorem Gr.refl (w : World) : Gr w w := Below.refl _ _
theorem Gr.trans {a b c : World} (h : Gr a b) (k : Gr b c) : Gr a c := Below.trans h (Below.mono k (Below.size h))

theorem gr_alloc (w : World) (o : Obj) : Gr w (w.alloc o) := (Below.refl _ _).alloc (Nat.le_refl _) _
def Gives (P : Program) (s : Sem Next) (v : Value) (w : World) : Prop :=
  match s.run P w with
  | .ok (.value u) w' => u = v ∧ Gr w w'
  | .ok .skip w' => v = undef ∧ Gr w w'
  | .ok (.enter f args) w' => Calls P f args w' fun e w'' => e = .returned v ∧ Gr w w''
  | _ => False
def YieldsG (P : Program) (ops : Array Oper) (o : Oper) (v : Value) (a : Act) (w : World) : Prop :=
  (Region.wanted o (yielded ops a.tmps) = true ∧ ∀ w1, Gr w w1 → Gives P (execOp a.eval o) v w1) ∨ (Region.wanted o (yielded ops a.tmps) = false ∧ v = undef)
theorem YieldsG.of_same {o : Oper} {v : Value} {a a' : Act} {w : World} (hy : YieldsG P ops o v a w) (he : execOp a'.eval o = execOp a.eval o)
    (hw : Region.wanted o (yielded ops a'.tmps) = Region.wanted o (yielded ops a.tmps)) : YieldsG P ops o v a' w := by
  unfold YieldsG at *
  rw [he, hw]
  exact hy
theorem YieldsG.grow {o : Oper} {v : Value} {a : Act} {w w1 : World} (hy : YieldsG P ops o v a w) (hg : Gr w w1) : YieldsG P ops o v a w1 :=
  hy.imp (fun ⟨h, k⟩ => ⟨h, fun w2 h2 => k w2 (hg.trans h2)⟩) id
theorem YieldsG.wpOp {i : Nat} {o : Oper} {v : Value} {a : Act} (hi : ops[i]? = some o) {K : Act → World → Prop} {w : World} (hy : YieldsG P ops o v a w)
    (h : ∀ w', Gr w w' → K (a.put o.dst v) w') : wpOp P ops Q i K a w := by
  unfold Go.wpOp
  simp only [hi]
  rcases hy with ⟨hw, hv⟩ | ⟨hw, rfl⟩
  · simp only [hw, if_true]
    refine .inl ?_
    have h0 := hv w (Gr.refl w)
    unfold Gives at h0
    unfold Oper.wp
    generalize (execOp a.eval o).run P w = r at *
    cases r with
    | ok n w' =>
      cases n <;> simp only [Oper.upon] at h0 ⊢
      case value u => rw [h0.1]; exact h _ h0.2
      case skip => rw [← h0.1]; exact h _ h0.2
      case enter f args =>
        refine Calls.mono h0 fun e w'' he => ?_
        rw [he.1]
        exact h _ he.2
    | halt x w' => cases x <;> exact h0.elim
  · simp only [hw, Bool.false_eq_true, if_false]
    exact h _ (Gr.refl w)

theorem wpOp_putG {j : Nat} {oi oj : Oper} {v : Value} {w0 : World} (hj : ops[j]? = some oj) (hap : oi.apart ops oj = true)
    (hsi : ∀ cs b, oi.op ≠ .select cs b) (hsj : ∀ cs b, oj.op ≠ .select cs b)
    (hQ : ∀ c a w, Q (.panic c) (a.put oi.dst v) w → Q (.panic c) a w) {K : Act → World → Prop} {a : Act} {w : World}
    (hy : YieldsG P ops oi v a w0) (h : wpOp P ops Q j K (a.put oi.dst v) w) :
    wpOp P ops Q j (fun a' w' => YieldsG P ops oi v a' w0 ∧ K (a'.put oi.dst v) w') a w := by
  obtain ⟨h1, h2, h3⟩ := Oper.apart_spec hap
  have keep : ∀ (a : Act), YieldsG P ops oi v a w0 → ∀ u, YieldsG P ops oi v (a.put oj.dst u) w0 := fun a hy u =>
    hy.of_same (execOp_put oi hsi a oj.dst u h3) (wanted_put oi a oj.dst u h3)
  have keepD : ∀ d, YieldsG P ops oi v { a with defers := d :: a.defers } w0 := fun d => hy.of_same rfl rfl
  unfold wpOp at *
  simp only [hj] at *
  rw [wanted_put oj a oi.dst v h1] at h
  split
  · rename_i hw
    simp only [hw, if_true] at h
    rcases h with h | ⟨hasks, hlets⟩
    case inr => exact .inr ⟨by unfold Oper.asks at *; rw [execOp_put oj hsj a oi.dst v h1] at hasks; exact hasks, hlets⟩
    refine .inl ?_
    unfold Oper.wp at *
    rw [execOp_put oj hsj a oi.dst v h1] at h
    generalize (execOp a.eval oj).run P w = r at *
    cases r with
    | ok n w' =>
      cases n <;> simp only [Oper.upon] at h ⊢
      case value u => exact ⟨keep a hy u, by rw [← Act.put_comm a v u h2]; exact h⟩
      case skip => exact ⟨keep a hy _, by rw [← Act.put_comm a v undef h2]; exact h⟩
      case defer d =>
        refine ⟨keep _ (keepD d) _, ?_⟩
        rw [← Act.put_comm _ v undef h2, ← Act.put_defers]
        exact h
      case enter f args =>
        refine Calls.mono h fun e w'' he => ?_
        cases e with
        | returned u => exact ⟨keep a hy u, by rw [← Act.put_comm a v u h2]; exact he⟩
        | panicked c => exact hQ _ _ _ he
        | outgrown => exact he
      case row row args => exact Rows.mono h fun u w'' he => ⟨keep a hy u, by rw [← Act.put_comm a v u h2]; exact he⟩
    | halt x w' =>
      cases x <;> simp only [Oper.upon] at h ⊢
      case panic u => exact hQ _ _ _ h
  · rename_i hw
    simp only [hw] at h
    exact ⟨keep a hy _, by rw [← Act.put_comm a v undef h2]; exact h⟩

def wpAnyG (P : Program) (md : Region.Mode) (ops : Array Oper) (Q : Exit → Act → World → Prop) (ex : Nat → Bool) : Nat → Array Bool → Act → World → Prop
  | 0, listed, a, w => Region.ready md ops listed = [] ∧ ∀ w1, Gr w w1 → Q .normal a w1
  | fuel + 1, listed, a, w => ∀ w1, Gr w w1 →
    (Region.ready md ops listed = [] → Q .normal a w1) ∧
    ∀ i ∈ Region.ready md ops listed, wpOp P ops Q i (fun a' w' => (ex i = false → Gr w1 w') ∧ wpAnyG P md ops Q ex fuel (listed.setIfInBounds i true) a' w') a w1

theorem wpAny_of_G : ∀ (fuel : Nat) (listed : Array Bool) (a : Act) (w : World), wpAnyG P md ops Q ex fuel listed a w → wpAny P md ops Q fuel listed a w
  | 0, _, _, w, h => ⟨h.1, h.2 w (Gr.refl w)⟩
  | fuel + 1, _, _, w, h => ⟨(h w (Gr.refl w)).1, fun i hi => wpOp_mono (fun a' w' h' => wpAny_of_G fuel _ a' w' h'.2) ((h w (Gr.refl w)).2 i hi)⟩
theorem wpAnyG_grow : ∀ (fuel : Nat) (listed : Array Bool) (a : Act) (w w1 : World), Gr w w1 → wpAnyG P md ops Q ex fuel listed a w → wpAnyG P md ops Q ex fuel listed a w1
  | 0, _, _, _, _, hg, h => ⟨h.1, fun w2 h2 => h.2 w2 (hg.trans h2)⟩
  | _ + 1, _, _, _, _, hg, h => fun w2 h2 => h w2 (hg.trans h2)

def waitsB (md : Region.Mode) (ops : Array Oper) (ex : Nat → Bool) (i : Nat) : Bool :=
  (List.range ops.size).all fun j => !ex j || (match ops[j]? with
    | some oj => oj.after.any fun e => Region.binds md e && e.on == i
    | none => true)
theorem waits_spec {i j : Nat} {oj : Oper} (h : waitsB md ops ex i = true) (hj : ops[j]? = some oj) (he : ex j = true) : ∃ e ∈ oj.after, Region.binds md e = true ∧ e.on = i := by
  unfold waitsB at h
  rw [List.all_eq_true] at h
  have h1 := h j (List.mem_range.2 (Array.getElem?_eq_some_iff.1 hj).1)
  simp only [hj, he, Bool.not_true, Bool.false_or] at h1
  rw [Array.any_eq_true'] at h1
  obtain ⟨e, hm, hb⟩ := h1
  simp only [Bool.and_eq_true, beq_iff_eq] at hb
  exact ⟨e, hm, hb.1, hb.2⟩

theorem wpAnyG_first {i : Nat} {oi : Oper} {v : Value} (hi : ops[i]? = some oi) (hsel : ∀ (j : Nat) (o : Oper) cs b, ops[j]? = some o → o.op ≠ .select cs b)
    (hQ : ∀ c a w, Q (.panic c) (a.put oi.dst v) w → Q (.panic c) a w) (hex : waitsB md ops ex i = true) :
    ∀ (fuel : Nat) (listed : Array Bool) (a : Act) (w : World),
      (∀ j oj, ops[j]? = some oj → j ≠ i → listed.getD j true = false → (∀ e ∈ oj.after, Region.binds md e = true → e.on ≠ i) → oi.apart ops oj = true) →
      i ∈ Region.ready md ops listed → YieldsG P ops oi v a w →
      wpAnyG P md ops Q ex fuel (listed.setIfInBounds i true) (a.put oi.dst v) w → wpAnyG P md ops Q ex (fuel + 1) listed a w := by
  intro fuel
  induction fuel with
  | zero =>
    intro listed a w _ hr hy H w1 hw1
    refine ⟨fun h => (by rw [h] at hr; cases hr), fun j hj => ?_⟩
    by_cases hji : j = i
    · subst hji; exact (hy.grow hw1).wpOp hi (fun w' h' => ⟨fun _ => h', wpAnyG_grow _ _ _ _ _ (hw1.trans h') H⟩)
    · have := ready_mono hj hji
      rw [H.1] at this
      cases this
  | succ fuel ih =>
    intro listed a w hfree hr hy H w1 hw1
    refine ⟨fun h => (by rw [h] at hr; cases hr), fun j hj => ?_⟩
    by_cases hji : j = i
    · subst hji; exact (hy.grow hw1).wpOp hi (fun w' h' => ⟨fun _ => h', wpAnyG_grow _ _ _ _ _ (hw1.trans h') H⟩)
    · have h1 := (H w1 hw1).2 j (ready_mono hj hji)
      obtain ⟨hjun, oj, hoj, hall⟩ := mem_ready.1 hj
      have hnot : ∀ e ∈ oj.after, Region.binds md e = true → e.on ≠ i := fun e he hb heq => by
        have h1 := hall e he hb
        have h0 := (mem_ready.1 hr).1
        rw [heq] at h1
        rcases Nat.lt_or_ge i listed.size with h' | h'
        · simp [h'] at h0 h1; rw [h0] at h1; cases h1
        · simp [Array.getElem?_eq_none h'] at h1
      have hexj : ex j = false := by
        cases hxj : ex j with
        | false => rfl
        | true =>
          obtain ⟨e, he, hb, heq⟩ := waits_spec hex hoj hxj
          exact absurd heq (hnot e he hb)
      have h2 := wpOp_putG hoj (hfree j oj hoj hji hjun hnot) (fun cs b => hsel i oi cs b hi) (fun cs b => hsel j oj cs b hoj) hQ hy h1
      have hfree' : ∀ k ok, ops[k]? = some ok → k ≠ i → (listed.setIfInBounds j true).getD k true = false →
          (∀ e ∈ ok.after, Region.binds md e = true → e.on ≠ i) → oi.apart ops ok = true := fun k ok hk hki hun hno => by
        refine hfree k ok hk hki ?_ hno
        by_cases hjk : j = k
        · subst hjk; exact hjun
        · rw [getD_set_ne true hjk] at hun; exact hun
      refine wpOp_mono (fun a' w' h3 => ⟨h3.2.1, ih (listed.setIfInBounds j true) a' w' hfree' (ready_mono hr (Ne.symm hji)) (h3.1.grow (hw1.trans (h3.2.1 hexj))) ?_⟩) h2
      rw [Array.setIfInBounds_comm _ _ hji]
      exact h3.2.2

def canTake (md : Region.Mode) (ops : Array Oper) (listed : Array Bool) (ex : Nat → Bool) (i : Nat) : Bool :=
  Region.noSelect ops && Region.free md ops listed i && (Region.ready md ops listed).contains i && waitsB md ops ex i
theorem wpAnyG_take (i : Nat) {oi : Oper} {v : Value} {fuel : Nat} {listed : Array Bool} {a : Act} {w : World} (hi0 : ops.toList[i]? = some oi) (hc : canTake md ops listed ex i = true)
    (hQ : ∀ c a w, Q (.panic c) (a.put oi.dst v) w → Q (.panic c) a w) (hy : YieldsG P ops oi v a w)
    (h : wpAnyG P md ops Q ex fuel (listed.setIfInBounds i true) (a.put oi.dst v) w) : wpAnyG P md ops Q ex (fuel + 1) listed a w := by
  have hi : ops[i]? = some oi := by simpa using hi0
  unfold canTake at hc
  simp only [Bool.and_eq_true] at hc
  exact wpAnyG_first hi (Region.noSelect_spec hc.1.1.1) hQ hc.2 fuel listed a w (Region.free_spec hi hc.1.1.2) (by simpa using hc.1.2) hy h

theorem wpAnyG_sole (i : Nat) {oi : Oper} {fuel : Nat} {listed : Array Bool} {a : Act} {w : World} (hi0 : ops.toList[i]? = some oi) (hr : Region.ready md ops listed = [i])
    (hw : Region.wanted oi (yielded ops a.tmps) = true)
    (h : ∀ w1, Gr w w1 → ∀ K : Act → World → Prop, (∀ a' w', (ex i = false → Gr w1 w') → wpAnyG P md ops Q ex fuel (listed.setIfInBounds i true) a' w' → K a' w') → Oper.wp P oi a w1 K Q) :
    wpAnyG P md ops Q ex (fuel + 1) listed a w := fun w1 hw1 =>
  ⟨fun h0 => (by rw [hr] at h0; cases h0), fun j hj => by
    rw [hr] at hj
    obtain rfl : j = i := by simpa using hj
    have hi : ops[j]? = some oi := by simpa using hi0
    refine wpOp_step hi (fun K' hK => ?_)
    rw [if_pos hw]
    exact h w1 hw1 K' (fun a' w' h1 h2 => hK a' w' ⟨h1, h2⟩)⟩
theorem wpAnyG_done {fuel : Nat} {listed : Array Bool} {a : Act} {w : World} (hr : Region.ready md ops listed = []) (h : ∀ w1, Gr w w1 → Q .normal a w1) : wpAnyG P md ops Q ex fuel listed a w := by
  cases fuel with
  | zero => exact ⟨hr, h⟩
  | succ n => exact fun w1 hw1 => ⟨fun _ => h w1 hw1, fun i hi => by rw [hr] at hi; cases hi⟩
theorem wp_region_G (ex : Nat → Bool) {id : Nat} {a : Act} {w : World} (hm : P.follows .mixedOrders = true) (h : wpAnyG P .any ops Q ex ops.size (Array.replicate ops.size false) a w) : (Code.region id ops true).wp P Q a w :=
  wp_region_any hm (wpAny_of_G _ _ _ _ (wpAnyG_grow _ _ _ w _ ((Below.refl _ _).drew) h))

end
end Go.Proofs.YtgemfpnlnipfnaaGreat

end
section
namespace Go.Proofs.YtgemfpnlnipfnaaGreat
open Go.RowKit Go.Lib

theorem Gr.blk {w w' : World} (h : Gr w w') {g : Nat} {t : TypeId} {cs : Array Value} (hg : Blk w g t cs) : Blk w' g t cs := Blk.below hg h hg.lt
theorem Below.gr {w a b : World} (h : Below w.heap.size w a) (g : Gr a b) : Below w.heap.size w b := Below.trans h (Below.mono g (Below.size h))

section
variable {P : Program} {ops : Array Oper} {Q : Exit → Act → World → Prop} {md : Region.Mode} {ex : Nat → Bool}
end
open Go.RowKit

section
variable {P : Program} {ops : Array Oper} {Q : Exit → Act → World → Prop} {md : Region.Mode} {ex : Nat → Bool}
theorem wpOp_putA {j : Nat} {oi oj : Oper} {v : Value} (hj : ops[j]? = some oj) (hap : oi.apart ops oj = true)
    (hsi : ∀ cs b, oi.op ≠ .select cs b) (hsj : ∀ cs b, oj.op ≠ .select cs b)
    (hQ : ∀ c a w, Q (.panic c) (a.put oi.dst v) w → Q (.panic c) a w) {K : Act → World → Prop} {a : Act} {w : World}
    (hy : ∀ w0, YieldsG P ops oi v a w0) (h : wpOp P ops Q j K (a.put oi.dst v) w) :
    wpOp P ops Q j (fun a' w' => (∀ w0, YieldsG P ops oi v a' w0) ∧ K (a'.put oi.dst v) w') a w := by
  obtain ⟨h1, h2, h3⟩ := Oper.apart_spec hap
  have keep : ∀ (a : Act), (∀ w0, YieldsG P ops oi v a w0) → ∀ u w0, YieldsG P ops oi v (a.put oj.dst u) w0 := fun a hy u w0 =>
    (hy w0).of_same (execOp_put oi hsi a oj.dst u h3) (wanted_put oi a oj.dst u h3)
  have keepD : ∀ d w0, YieldsG P ops oi v { a with defers := d :: a.defers } w0 := fun d w0 => (hy w0).of_same rfl rfl
  unfold wpOp at *
  simp only [hj] at *
  rw [wanted_put oj a oi.dst v h1] at h
  split
  · rename_i hw
    simp only [hw, if_true] at h
    rcases h with h | ⟨hasks, hlets⟩
    case inr => exact .inr ⟨by unfold Oper.asks at *; rw [execOp_put oj hsj a oi.dst v h1] at hasks; exact hasks, hlets⟩
    refine .inl ?_
    unfold Oper.wp at *
    rw [execOp_put oj hsj a oi.dst v h1] at h
    generalize (execOp a.eval oj).run P w = r at *
    cases r with
    | ok n w' =>
      cases n <;> simp only [Oper.upon] at h ⊢
      case value u => exact ⟨keep a hy u, by rw [← Act.put_comm a v u h2]; exact h⟩
      case skip => exact ⟨keep a hy _, by rw [← Act.put_comm a v undef h2]; exact h⟩
      case defer d =>
        refine ⟨keep _ (keepD d) _, ?_⟩
        rw [← Act.put_comm _ v undef h2, ← Act.put_defers]
        exact h
      case enter f args =>
        refine Calls.mono h fun e w'' he => ?_
        cases e with
        | returned u => exact ⟨keep a hy u, by rw [← Act.put_comm a v u h2]; exact he⟩
        | panicked c => exact hQ _ _ _ he
        | outgrown => exact he
      case row row args => exact Rows.mono h fun u w'' he => ⟨keep a hy u, by rw [← Act.put_comm a v u h2]; exact he⟩
    | halt x w' =>
      cases x <;> simp only [Oper.upon] at h ⊢
      case panic u => exact hQ _ _ _ h
  · rename_i hw
    simp only [hw] at h
    exact ⟨keep a hy _, by rw [← Act.put_comm a v undef h2]; exact h⟩
theorem wpAnyG_firstA {i : Nat} {oi : Oper} {v : Value} (hi : ops[i]? = some oi) (hsel : ∀ (j : Nat) (o : Oper) cs b, ops[j]? = some o → o.op ≠ .select cs b)
    (hQ : ∀ c a w, Q (.panic c) (a.put oi.dst v) w → Q (.panic c) a w) :
    ∀ (fuel : Nat) (listed : Array Bool) (a : Act) (w : World),
      (∀ j oj, ops[j]? = some oj → j ≠ i → listed.getD j true = false → (∀ e ∈ oj.after, Region.binds md e = true → e.on ≠ i) → oi.apart ops oj = true) →
      i ∈ Region.ready md ops listed → (∀ w0, YieldsG P ops oi v a w0) →
      wpAnyG P md ops Q ex fuel (listed.setIfInBounds i true) (a.put oi.dst v) w → wpAnyG P md ops Q ex (fuel + 1) listed a w := by
  intro fuel
  induction fuel with
  | zero =>
    intro listed a w _ hr hy H w1 hw1
    refine ⟨fun h => (by rw [h] at hr; cases hr), fun j hj => ?_⟩
    by_cases hji : j = i
    · subst hji; exact (hy w1).wpOp hi (fun w' h' => ⟨fun _ => h', wpAnyG_grow _ _ _ _ _ (hw1.trans h') H⟩)
    · have := ready_mono hj hji
      rw [H.1] at this
      cases this
  | succ fuel ih =>
    intro listed a w hfree hr hy H w1 hw1
    refine ⟨fun h => (by rw [h] at hr; cases hr), fun j hj => ?_⟩
    by_cases hji : j = i
    · subst hji; exact (hy w1).wpOp hi (fun w' h' => ⟨fun _ => h', wpAnyG_grow _ _ _ _ _ (hw1.trans h') H⟩)
    · have h1 := (H w1 hw1).2 j (ready_mono hj hji)
      obtain ⟨hjun, oj, hoj, hall⟩ := mem_ready.1 hj
      have hnot : ∀ e ∈ oj.after, Region.binds md e = true → e.on ≠ i := fun e he hb heq => by
        have h1 := hall e he hb
        have h0 := (mem_ready.1 hr).1
        rw [heq] at h1
        rcases Nat.lt_or_ge i listed.size with h' | h'
        · simp [h'] at h0 h1; rw [h0] at h1; cases h1
        · simp [Array.getElem?_eq_none h'] at h1
      have h2 := wpOp_putA hoj (hfree j oj hoj hji hjun hnot) (fun cs b => hsel i oi cs b hi) (fun cs b => hsel j oj cs b hoj) hQ hy h1
      have hfree' : ∀ k ok, ops[k]? = some ok → k ≠ i → (listed.setIfInBounds j true).getD k true = false →
          (∀ e ∈ ok.after, Region.binds md e = true → e.on ≠ i) → oi.apart ops ok = true := fun k ok hk hki hun hno => by
        refine hfree k ok hk hki ?_ hno
        by_cases hjk : j = k
        · subst hjk; exact hjun
        · rw [getD_set_ne true hjk] at hun; exact hun
      refine wpOp_mono (fun a' w' h3 => ⟨h3.2.1, ih (listed.setIfInBounds j true) a' w' hfree' (ready_mono hr (Ne.symm hji)) h3.1 ?_⟩) h2
      rw [Array.setIfInBounds_comm _ _ hji]
      exact h3.2.2
def canTakeA (md : Region.Mode) (ops : Array Oper) (listed : Array Bool) (i : Nat) : Bool :=
  Region.noSelect ops && Region.free md ops listed i && (Region.ready md ops listed).contains i
theorem wpAnyG_takeA (i : Nat) {oi : Oper} {v : Value} {fuel : Nat} {listed : Array Bool} {a : Act} {w : World} (hi0 : ops.toList[i]? = some oi) (hc : canTakeA md ops listed i = true)
    (hQ : ∀ c a w, Q (.panic c) (a.put oi.dst v) w → Q (.panic c) a w) (hy : ∀ w0, YieldsG P ops oi v a w0)
    (h : wpAnyG P md ops Q ex fuel (listed.setIfInBounds i true) (a.put oi.dst v) w) : wpAnyG P md ops Q ex (fuel + 1) listed a w := by
  have hi : ops[i]? = some oi := by simpa using hi0
  unfold canTakeA at hc
  simp only [Bool.and_eq_true] at hc
  exact wpAnyG_firstA hi (Region.noSelect_spec hc.1.1) hQ fuel listed a w (Region.free_spec hi hc.1.2) (by simpa using hc.2) hy h
end

section
variable {P : Program} {ops : Array Oper} {Q : Exit → Act → World → Prop} {md : Region.Mode} {ex : Nat → Bool}
end
end Go.Proofs.YtgemfpnlnipfnaaGreat

end
section
namespace Go.Proofs.YtgemfpnlnipfnaaGreat
open Go.RowKit

section
variable {P : Program} {ops : Array Oper} {Q : Exit → Act → World → Prop} {md : Region.Mode} {V : List (Nat × Obj)}

end
end Go.Proofs.YtgemfpnlnipfnaaGreat

end
section
namespace Go.Proofs.YtgemfpnlnipfnaaGreat
open Go.RowKit

section
variable {P : Program} {ops : Array Oper} {Q : Exit → Act → World → Prop} {md : Region.Mode} {ex : Nat → Bool}
theorem wpAnyG_firstB {i : Nat} {oi : Oper} {v : Value} (bs : Nat → Bool) (hi : ops[i]? = some oi) (hsel : ∀ (j : Nat) (o : Oper) cs b, ops[j]? = some o → o.op ≠ .select cs b)
    (hQ : ∀ c a w, Q (.panic c) (a.put oi.dst v) w → Q (.panic c) a w) (hex : ∀ k ok, ops[k]? = some ok → ex k = true → bs k = true)
    (hbs : ∀ k ok, ops[k]? = some ok → bs k = true → ∃ e ∈ ok.after, Region.binds md e = true ∧ (e.on = i ∨ bs e.on = true)) :
    ∀ (fuel : Nat) (listed : Array Bool) (a : Act) (w : World), (∀ k, bs k = true → listed.getD k true = false) →
      (∀ j oj, ops[j]? = some oj → j ≠ i → listed.getD j true = false → bs j = false → oi.apart ops oj = true) →
      i ∈ Region.ready md ops listed → YieldsG P ops oi v a w →
      wpAnyG P md ops Q ex fuel (listed.setIfInBounds i true) (a.put oi.dst v) w → wpAnyG P md ops Q ex (fuel + 1) listed a w := by
  intro fuel
  induction fuel with
  | zero =>
    intro listed a w _ _ hr hy H w1 hw1
    refine ⟨fun h => (by rw [h] at hr; cases hr), fun j hj => ?_⟩
    by_cases hji : j = i
    · subst hji; exact (hy.grow hw1).wpOp hi (fun w' h' => ⟨fun _ => h', wpAnyG_grow _ _ _ _ _ (hw1.trans h') H⟩)
    · have := ready_mono hj hji
      rw [H.1] at this
      cases this
  | succ fuel ih =>
    intro listed a w hl hfree hr hy H w1 hw1
    refine ⟨fun h => (by rw [h] at hr; cases hr), fun j hj => ?_⟩
    by_cases hji : j = i
    · subst hji; exact (hy.grow hw1).wpOp hi (fun w' h' => ⟨fun _ => h', wpAnyG_grow _ _ _ _ _ (hw1.trans h') H⟩)
    · have h1 := (H w1 hw1).2 j (ready_mono hj hji)
      obtain ⟨hjun, oj, hoj, hall⟩ := mem_ready.1 hj
      have hun : ∀ k, listed.getD k true = false → listed.getD k false = true → False := fun k h0 h1 => by
        rcases Nat.lt_or_ge k listed.size with h' | h'
        · simp [h'] at h0 h1; rw [h0] at h1; cases h1
        · simp [Array.getElem?_eq_none h'] at h1
      have hbj : bs j = false := by
        cases hb : bs j with
        | false => rfl
        | true =>
          obtain ⟨e, he, hbd, ho⟩ := hbs j oj hoj hb
          have h2 := hall e he hbd
          rcases ho with ho | ho
          · rw [ho] at h2; exact (hun i (mem_ready.1 hr).1 h2).elim
          · exact (hun e.on (hl e.on ho) h2).elim
      have hexj : ex j = false := by
        cases hxj : ex j with
        | false => rfl
        | true => rw [hex j oj hoj hxj] at hbj; cases hbj
      have h2 := wpOp_putG hoj (hfree j oj hoj hji hjun hbj) (fun cs b => hsel i oi cs b hi) (fun cs b => hsel j oj cs b hoj) hQ hy h1
      have hl' : ∀ k, bs k = true → (listed.setIfInBounds j true).getD k true = false := fun k hk => by
        have hjk : j ≠ k := fun e => by rw [← e, hbj] at hk; cases hk
        rw [getD_set_ne true hjk]; exact hl k hk
      have hfree' : ∀ k ok, ops[k]? = some ok → k ≠ i → (listed.setIfInBounds j true).getD k true = false → bs k = false → oi.apart ops ok = true := fun k ok hk hki hun hno => by
        refine hfree k ok hk hki ?_ hno
        by_cases hjk : j = k
        · subst hjk; exact hjun
        · rw [getD_set_ne true hjk] at hun; exact hun
      refine wpOp_mono (fun a' w' h3 => ⟨h3.2.1, ih (listed.setIfInBounds j true) a' w' hl' hfree' (ready_mono hr (Ne.symm hji)) (h3.1.grow (hw1.trans (h3.2.1 hexj))) ?_⟩) h2
      rw [Array.setIfInBounds_comm _ _ hji]
      exact h3.2.2
def canTakeB (md : Region.Mode) (ops : Array Oper) (listed : Array Bool) (ex : Nat → Bool) (i : Nat) (bs : List Nat) : Bool :=
  Region.noSelect ops && (Region.ready md ops listed).contains i && (bs.all fun k => !(listed.getD k true)) &&
  (match ops[i]? with
   | none => false
   | some oi => (List.range ops.size).all fun k => match ops[k]? with
     | none => true
     | some ok => (!(bs.contains k) || ok.after.any fun e => Region.binds md e && (e.on == i || bs.contains e.on)) && (!(ex k) || bs.contains k) && (k == i || listed.getD k true || bs.contains k || oi.apart ops ok))
theorem wpAnyG_takeB (i : Nat) (bs : List Nat) {oi : Oper} {v : Value} {fuel : Nat} {listed : Array Bool} {a : Act} {w : World} (hi0 : ops.toList[i]? = some oi) (hc : canTakeB md ops listed ex i bs = true)
    (hQ : ∀ c a w, Q (.panic c) (a.put oi.dst v) w → Q (.panic c) a w) (hy : YieldsG P ops oi v a w)
    (h : wpAnyG P md ops Q ex fuel (listed.setIfInBounds i true) (a.put oi.dst v) w) : wpAnyG P md ops Q ex (fuel + 1) listed a w := by
  have hi : ops[i]? = some oi := by simpa using hi0
  unfold canTakeB at hc
  simp only [hi, Bool.and_eq_true] at hc
  obtain ⟨⟨⟨h1, h2⟩, h3⟩, h4⟩ := hc
  rw [List.all_eq_true] at h3 h4
  have h5 : ∀ k ok, ops[k]? = some ok → _ := fun k ok hk => by
    have h := h4 k (List.mem_range.2 (Array.getElem?_eq_some_iff.1 hk).1)
    simp only [hk, Bool.and_eq_true] at h
    exact h
  refine wpAnyG_firstB (fun k => bs.contains k) hi (Region.noSelect_spec h1) hQ (fun k ok hk he => ?_) (fun k ok hk hb => ?_) fuel listed a w (fun k hk => ?_) (fun j oj hj hji hun hb => ?_) (by simpa using h2) hy h
  · have h := (h5 k ok hk).1.2
    simpa [he] using h
  · have h := (h5 k ok hk).1.1
    simp only [hb, Bool.not_true, Bool.false_or] at h
    rw [Array.any_eq_true'] at h
    obtain ⟨e, hm, hx⟩ := h
    simp only [Bool.and_eq_true, Bool.or_eq_true, beq_iff_eq] at hx
    exact ⟨e, hm, hx.1, hx.2⟩
  · have h := h3 k (by simpa using hk)
    simpa using h
  · have h := (h5 j oj hj).2
    simp only [hun, hb, Bool.or_false, Bool.or_eq_true, beq_iff_eq] at h
    exact h.resolve_left hji
end
end Go.Proofs.YtgemfpnlnipfnaaGreat

end
section
namespace Go.Proofs.YtgemfpnlnipfnaaGreat.Sy
open Go.RowKit Go.Proofs.YtgemfpnlnipfnaaGreat

section
variable {P : Program} {ops : Array Oper} {Q : Exit → Act → World → Prop} {md : Region.Mode} {l n : Nat}
theorem rowsIn_of {row : String} {args : Array Value} {w : World} {R : Value → World → Prop} (h : Rows P row args w R) : RowsIn (Fence.wide.inRound l) n P row args w R :=
  fun c cs _ => let ⟨v, w', r, s⟩ := h c cs; ⟨v, w', r, stepsIn_wide.2 s⟩
theorem callsIn_of {f : FuncId} {args : Array Value} {w : World} {R : Ending → World → Prop} (h : Calls P f args w R) : CallsIn (Fence.wide.inRound l) n P f args w R := CallsIn.inRound l (callsIn_wide.2 h)
theorem operIn_of {o : Oper} {a : Act} {w : World} {K : Act → World → Prop} (hd : ∀ c, o.op ≠ .defer c) (h : o.wp P a w K Q) : o.wpIn (Fence.wide.inRound l) n P a w K Q := by
  unfold Oper.wpIn
  refine ⟨fun _ _ => trivial, ?_⟩
  rw [Oper.semAt_eq _ _ _ hd]
  unfold Oper.wp at h
  generalize (execOp a.eval o).run P w = r at *
  cases r with
  | ok x w' =>
    cases x <;> simp only [Oper.upon, Oper.uponIn] at h ⊢ <;> first
      | exact h
      | exact ⟨fun e => by simp [Fence.wide] at e, callsIn_of h⟩
      | exact ⟨fun e => by simp [Fence.wide] at e, rowsIn_of h⟩
      | exact h.elim
  | halt x w' => cases x <;> simp only [Oper.upon, Oper.uponIn] at h ⊢ <;> exact h
def noDefer (ops : Array Oper) : Bool := ops.all fun o => match o.op with | .defer _ => false | _ => true
theorem noDefer_spec (h : noDefer ops = true) {i : Nat} {o : Oper} (hi : ops[i]? = some o) : ∀ c, o.op ≠ .defer c := fun c e => by
  unfold noDefer at h
  rw [Array.all_eq_true'] at h
  have := h o (Array.mem_of_getElem? hi)
  rw [e] at this
  cases this
theorem listIn_of (hq : ¬ LetsOut Q) : ∀ (rest : List Oper), (∀ o ∈ rest, ∀ c, o.op ≠ .defer c) → ∀ (a : Act) (w : World), wpList P ops Q rest a w → wpListIn (Fence.wide.inRound l) n P ops Q rest a w
  | [], _, _, _, h => h
  | o :: rest, hd, a, w, h => by
    unfold wpList at h
    unfold wpListIn
    split
    · rename_i hw
      simp only [hw, if_true] at h
      rcases h with h | h
      · exact Oper.wpIn_mono (fun a w h' => listIn_of hq rest (fun o ho => hd o (by simp [ho])) a w h') (operIn_of (hd o (by simp)) h)
      · exact absurd h.2 hq
    · rename_i hw
      simp only [hw] at h
      exact ⟨fun _ _ => trivial, listIn_of hq rest (fun o ho => hd o (by simp [ho])) _ _ h⟩
theorem round_region_L {id : Nat} {a : Act} {w : World} (hq : ¬ LetsOut Q) (hd : noDefer ops = true) (h : wpList P ops Q ops.toList a w) : (Code.region id ops false).wpIn (Fence.wide.inRound l) n P Q a w :=
  wpIn_region_list (listIn_of hq _ (fun o ho => by
    obtain ⟨i, hi⟩ := List.mem_iff_getElem?.1 ho
    exact noDefer_spec hd (by simpa using hi)) _ _ h)
end
end Go.Proofs.YtgemfpnlnipfnaaGreat.Sy

end
section
namespace Go.Proofs.YtgemfpnlnipfnaaGreat.Sy
open Go.RowKit Go.Proofs.YtgemfpnlnipfnaaGreat

abbrev Slots := List (Nat × Value)
abbrev Blocks := List (Nat × TypeId × Array Value)

structure Base where
  world : World
  fz : World
  ds : List Deferred
  fence : Fence
  room : Nat
abbrev Base.of (w : World) : Base := ⟨w, w, [], Fence.wide, 9⟩
def Fr (ds : List Deferred) (a : Act) (n : Nat) (F : Slots) : Prop := a.defers = ds ∧ a.tmps.size = n ∧ ∀ i v, F.lookup i = some v → a.tmps[i]? = some v
def evF (F : Slots) : Operand → Value
  | .tmp t => (F.lookup t).getD undef
  | .const v => v
  | .global g => .pointer (some ⟨g, 0, none⟩)
  | .func f => .func (.func f) #[] #[]
def inF (F : Slots) : Operand → Bool
  | .tmp t => (F.lookup t).isSome
  | _ => true
def putF (F : Slots) : Option Tmp → Value → Slots
  | none, _ => F
  | some d, v => (d, v) :: F
def fits (n : Nat) : Option Tmp → Bool
  | none => true
  | some d => decide (d < n)
theorem Fr.eval {ds : List Deferred} {a : Act} {n : Nat} {F : Slots} (h : Fr ds a n F) {x : Operand} (hx : inF F x = true) : a.eval x = evF F x := by
  cases x with
  | tmp t =>
    obtain ⟨v, hv⟩ := Option.isSome_iff_exists.1 hx
    have := h.2.2 t v hv
    show a.tmps.getD t undef = (F.lookup t).getD undef
    rw [hv]
    simp [Array.getD_eq_getD_getElem?, this]
  | const v => rfl
  | global g => rfl
  | func f => rfl
theorem Fr.put {ds : List Deferred} {a : Act} {n : Nat} {F : Slots} (h : Fr ds a n F) {d : Option Tmp} (hd : fits n d = true) (v : Value) : Fr ds (a.put d v) n (putF F d v) := by
  cases d with
  | none => exact h
  | some d =>
    have hd' : d < n := of_decide_eq_true hd
    refine ⟨h.1, by simp [Act.put, h.2.1], fun i u hi => ?_⟩
    simp only [putF, List.lookup_cons] at hi
    simp only [Act.put]
    by_cases e : i = d
    · subst e
      simp at hi
      subst hi
      rw [Array.getElem?_setIfInBounds_self_of_lt (by rw [h.2.1]; exact hd')]
    · have e' : (i == d) = false := by simpa using e
      rw [e'] at hi
      rw [Array.getElem?_setIfInBounds_ne (Ne.symm e)]
      exact h.2.2 i u hi
theorem Fr.less {ds : List Deferred} {a : Act} {n : Nat} {F G : Slots} (h : Fr ds a n F) (hG : ∀ i v, G.lookup i = some v → F.lookup i = some v) : Fr ds a n G := ⟨h.1, h.2.1, fun i v hi => h.2.2 i v (hG i v hi)⟩

structure St (w0 : Base) (w : World) (L : Blocks) : Prop where
  below : Below w0.world.heap.size w0.world w
  blk : ∀ g t cs, (g, t, cs) ∈ L → w0.world.heap.size ≤ g ∧ Blk w g t cs
  apart : (L.map (·.1)).Nodup
  size : w0.fz.heap.size ≤ w.heap.size
  non : ∀ (k : Nat) (o : Obj), w0.world.heap.size ≤ k → w0.fz.heap[k]? = some o → o.isCells = false → w.heap[k]? = some o
theorem St.start (w : World) : St (Base.of w) w [] := ⟨Below.refl _ _, (fun _ _ _ h => by cases h), List.Pairwise.nil, Nat.le_refl _, fun _ _ _ h _ => h⟩
theorem St.gr {w0 : Base} {w w' : World} {L : Blocks} (h : St w0 w L) (hg : Gr w w') : St w0 w' L :=
  ⟨Below.gr h.below hg, fun g t cs hm => ⟨(h.blk g t cs hm).1, hg.blk (h.blk g t cs hm).2⟩, h.apart, Nat.le_trans h.size hg.size, fun k o hk ho hc => by
    have h1 := h.non k o hk ho hc
    exact (hg.block k (Array.getElem?_eq_some_iff.1 h1).1).trans h1⟩
theorem St.get {w0 : Base} {w : World} {L : Blocks} (h : St w0 w L) {i g : Nat} {t : TypeId} {cs : Array Value} (hi : L[i]? = some (g, t, cs)) : Blk w g t cs := (h.blk g t cs (List.mem_of_getElem? hi)).2
theorem St.add {w0 : Base} {w w' : World} {L : Blocks} (h : St w0 w L) (hg : Gr w w') {g : Nat} {t : TypeId} {cs : Array Value} (hn : w.heap.size ≤ g) (hb : Blk w' g t cs) : St w0 w' (L ++ [(g, t, cs)]) := by
  have h' := h.gr hg
  refine ⟨h'.below, fun g' t' cs' hm => ?_, ?_, h'.size, h'.non⟩
  · rcases List.mem_append.1 hm with hm | hm
    · exact h'.blk g' t' cs' hm
    · obtain ⟨rfl, rfl, rfl⟩ : g' = g ∧ t' = t ∧ cs' = cs := by simpa using hm
      exact ⟨Nat.le_trans h.below.size hn, hb⟩
  · rw [List.map_append, List.nodup_append]
    refine ⟨h.apart, by simp, fun x hx y hy e => ?_⟩
    obtain ⟨⟨g', t', cs'⟩, hm, rfl⟩ := List.mem_map.1 hx
    have hlt := (h.blk g' t' cs' hm).2.lt
    have : y = g := by simpa using hy
    omega
theorem St.set {w0 : Base} {w w' : World} {L : Blocks} (h : St w0 w L) {i g : Nat} {t : TypeId} {cs cs' : Array Value} (hi : L[i]? = some (g, t, cs)) (hg : w.grownBy w' (some g)) (hn : Blk w' g t cs') : St w0 w' (L.set i (g, t, cs')) := by
  have hil := (List.getElem?_eq_some_iff.1 hi).1
  have hie := (List.getElem?_eq_some_iff.1 hi).2
  have hbk := h.blk g t cs (List.mem_of_getElem? hi)
  refine ⟨h.below.trans (below_of_only hg h.below.size hbk.1), fun g1 t1 c1 hm => ?_, ?_, Nat.le_trans h.size hg.size, fun k o hk ho hc => ?_⟩
  · obtain ⟨j, hj⟩ := List.getElem?_of_mem hm
    rw [List.getElem?_set] at hj
    by_cases e : i = j
    · subst e
      rw [if_pos rfl, if_pos hil] at hj
      obtain ⟨rfl, rfl, rfl⟩ : g = g1 ∧ t = t1 ∧ cs' = c1 := by simpa using hj
      exact ⟨hbk.1, hn⟩
    · rw [if_neg e] at hj
      have hm1 := h.blk g1 t1 c1 (List.mem_of_getElem? hj)
      refine ⟨hm1.1, hm1.2.grown hg (fun eg => e ?_)⟩
      obtain rfl : g1 = g := by injection eg
      have hjl := (List.getElem?_eq_some_iff.1 hj).1
      have hje := (List.getElem?_eq_some_iff.1 hj).2
      have hp := List.pairwise_iff_getElem.1 h.apart
      rcases Nat.lt_trichotomy i j with hlt | he | hlt
      · exact (hp i j (by simpa using hil) (by simpa using hjl) hlt (by simp [hie, hje])).elim
      · exact he
      · exact (hp j i (by simpa using hjl) (by simpa using hil) hlt (by simp [hie, hje])).elim
  · rw [List.map_set]
    have : (L.map (·.1)).set i g = L.map (·.1) := by
      apply List.ext_getElem?
      intro j
      rw [List.getElem?_set]
      by_cases e : i = j
      · subst e
        rw [if_pos rfl, if_pos (by simpa using hil)]
        simp [hi]
      · rw [if_neg e]
    show ((L.map (·.1)).set i g).Nodup
    rw [this]
    exact h.apart
  · have h1 := h.non k o hk ho hc
    refine (hg.block k (Array.getElem?_eq_some_iff.1 h1).1 (fun e => ?_)).trans h1
    obtain rfl : k = g := by injection e
    have h2 := hbk.2
    unfold Blk at h2
    rw [h2] at h1
    cases h1
    cases hc
theorem St.less {w0 : Base} {w : World} {L M : Blocks} (h : St w0 w L) (hs : M.Sublist L) : St w0 w M :=
  ⟨h.below, fun g t cs hm => h.blk g t cs (hs.subset hm), h.apart.sublist (hs.map _), h.size, h.non⟩

def wantedF (ops : Array Oper) (F : Slots) (o : Oper) : Option Bool :=
  match o.guard with
  | none => some true
  | some (j, want) => match (ops[j]?).bind (·.dst) with
    | none => some false
    | some t => match F.lookup t with
      | some (.bool b) => some (b == want)
      | some _ => some false
      | none => none
theorem Fr.wanted {ds : List Deferred} {a : Act} {n : Nat} {F : Slots} (h : Fr ds a n F) {ops : Array Oper} {o : Oper} {b : Bool} (hw : wantedF ops F o = some b) : Region.wanted o (yielded ops a.tmps) = b := by
  unfold wantedF at hw
  unfold Region.wanted
  cases hg : o.guard with
  | none => rw [hg] at hw; simpa using hw
  | some jw =>
    obtain ⟨j, want⟩ := jw
    rw [hg] at hw
    simp only at hw ⊢
    cases hd : (ops[j]?).bind (·.dst) with
    | none =>
      rw [hd] at hw
      simp only [yielded, hd, Option.bind_none] at hw ⊢
      simpa using hw
    | some t =>
      rw [hd] at hw
      simp only at hw
      cases hl : F.lookup t with
      | none => rw [hl] at hw; cases hw
      | some v =>
        have hv := h.2.2 t v hl
        rw [hl] at hw
        simp only [yielded, hd, Option.bind_some, hv]
        cases v <;> simp at hw ⊢ <;> exact hw
def good (ops : Array Oper) (n : Nat) (F : Slots) (o : Oper) : Bool :=
  (wantedF ops F o == some true) && o.op.operands.all (inF F) && fits n o.dst && (match o.op with | .select .. => false | _ => true)
theorem good_spec {ops : Array Oper} {n : Nat} {F : Slots} {o : Oper} (h : good ops n F o = true) : wantedF ops F o = some true ∧ (∀ x ∈ o.op.operands, inF F x = true) ∧ fits n o.dst = true ∧ ∀ cs b, o.op ≠ .select cs b := by
  unfold good at h
  simp only [Bool.and_eq_true, beq_iff_eq] at h
  obtain ⟨⟨⟨h1, h2⟩, h3⟩, h4⟩ := h
  refine ⟨h1, Array.all_eq_true_iff_forall_mem.1 h2, h3, fun cs b e => ?_⟩
  rw [e] at h4
  cases h4
theorem good_exec {ops : Array Oper} {n : Nat} {F : Slots} {o : Oper} (h : good ops n F o = true) {ds : List Deferred} {a : Act} (ha : Fr ds a n F) : execOp a.eval o = execOp (evF F) o :=
  execOp_congr o (good_spec h).2.2.2 fun x hx => ha.eval ((good_spec h).2.1 x (by simpa using hx))

def Quiet (P : Program) (w0 : Base) (F : Slots) (L : Blocks) (o : Oper) (v : Value) : Prop := ∀ w, St w0 w L → Gives P (execOp (evF F) o) v w
theorem Quiet.pure {P : Program} {w0 : Base} {F : Slots} {L : Blocks} {o : Oper} {v : Value} (h : ∀ w, (execOp (evF F) o).run P w = .ok (.value v) w) : Quiet P w0 F L o v := fun w _ => by
  unfold Gives; rw [h w]; exact ⟨rfl, Gr.refl _⟩
theorem Quiet.load {P : Program} {w0 : Base} {F : Slots} {L : Blocks} {o : Oper} (i g f k : Nat) (t ty : TypeId) (cs : Array Value) (d : TypeDesc) (x : Operand) (ho : o.op = .load ty x) (hx : evF F x = .pointer (some ⟨g, f, none⟩))
    (hL : L[i]? = some (g, t, cs)) (hu : P.underlying ty = some d) (hd : d.isRow = true) (hi : (P.info? ty).map (·.size) = some k) (v : Value) (hv : Value.agg ((cs.toList.drop f).take k).toArray = v) (hk : f + k ≤ cs.size) : Quiet P w0 F L o v := fun w hw => by
  have hb := hw.get hL
  have hl := run_loadVar_mid (P := P) w g f ty ((cs.toList.drop f).take k) d (fun j u hj => by
    rw [hb.cell]
    have hlt : j < k := by
      have := (List.getElem?_eq_some_iff.1 hj).1
      simp at this; omega
    rw [List.getElem?_take_of_lt hlt, List.getElem?_drop] at hj
    simpa using hj) hu hd (by rw [hi]; simp; omega)
  unfold Gives execOp
  simp only [ho, hx, Instr.loadAt, Instr.sureAddr, Sem.run_bind, Sem.run_pure, Result.andThen_ok, hl]
  exact ⟨hv, Gr.refl _⟩
theorem Quiet.cell {P : Program} {w0 : Base} {F : Slots} {L : Blocks} {o : Oper} (i g f : Nat) (t ty : TypeId) (cs : Array Value) (d : TypeDesc) (x : Operand) (ho : o.op = .load ty x) (hx : evF F x = .pointer (some ⟨g, f, none⟩))
    (hL : L[i]? = some (g, t, cs)) (hu : P.underlying ty = some d) (hd : d.isRow = false) (v : Value) (hv : cs[f]? = some v) : Quiet P w0 F L o v := fun w hw => by
  have hb := hw.get hL
  have hc : w.cell? ⟨g, f, none⟩ = some v := (hb.cell f).trans hv
  have ha : (isAgg ty).run P w = .ok false w := by
    cases d <;> first | (cases hd; done) | simp [isAgg, underlying, hu]
  unfold Gives execOp
  simp only [ho, hx, Instr.loadAt, Instr.sureAddr, Sem.run_bind, Sem.run_pure, Result.andThen_ok, loadVar, ha, Bool.false_eq_true, if_false, run_load, hc]
  exact ⟨trivial, Gr.refl _⟩

section
variable {P : Program} {w0 : Base} {n : Nat}
def wpC (P : Program) (w0 : Base) (n : Nat) (Q : Exit → Act → World → Prop) (F : Slots) (L : Blocks) (c : Code) : Prop := ∀ a w, Fr w0.ds a n F → St w0 w L → c.wpIn w0.fence w0.room P Q a w
def wpS (P : Program) (w0 : Base) (n : Nat) (ops : Array Oper) (Q : Exit → Act → World → Prop) (F : Slots) (L : Blocks) (l : List Oper) : Prop := ∀ a w, Fr w0.ds a n F → St w0 w L → wpList P ops Q l a w
def wpD (P : Program) (w0 : Base) (n : Nat) (ops : Array Oper) (Q : Exit → Act → World → Prop) (ex : Nat → Bool) (F : Slots) (L : Blocks) (fuel : Nat) (listed : Array Bool) : Prop := ∀ a w, Fr w0.ds a n F → St w0 w L → wpAnyG P .any ops Q ex fuel listed a w
def X (w0 : Base) (n : Nat) (Q : Exit → Act → World → Prop) (F : Slots) (L : Blocks) (e : Exit) : Prop := ∀ a w, Fr w0.ds a n F → St w0 w L → Q e a w

variable {Q : Exit → Act → World → Prop} {F : Slots} {L : Blocks}
theorem seq {x y : Code} (h : wpC P w0 n (Exit.then (y.wpIn w0.fence w0.room P Q) Q) F L x) : wpC P w0 n Q F L (.seq x y) := fun a w ha hw => wpIn_seq (h a w ha hw)
theorem then_ {y : Code} (h : wpC P w0 n Q F L y) : X w0 n (Exit.then (y.wpIn w0.fence w0.room P Q) Q) F L .normal := h
theorem then_ret {K : Act → World → Prop} (h : X w0 n Q F L .ret) : X w0 n (Exit.then K Q) F L .ret := h
theorem then_exit {K : Act → World → Prop} {i : Nat} (h : X w0 n Q F L (.exit i)) : X w0 n (Exit.then K Q) F L (.exit i) := h
theorem block {i : Nat} {c : Code} (h : wpC P w0 n (Exit.inBlock i Q) F L c) : wpC P w0 n Q F L (.block i c) := fun a w ha hw => wpIn_block (h a w ha hw)
theorem in_ {i : Nat} (h : X w0 n Q F L .normal) : X w0 n (Exit.inBlock i Q) F L .normal := h
theorem in_ret {i : Nat} (h : X w0 n Q F L .ret) : X w0 n (Exit.inBlock i Q) F L .ret := h
theorem in_exit {i : Nat} (h : X w0 n Q F L .normal) : X w0 n (Exit.inBlock i Q) F L (.exit i) := fun a w ha hw => by
  show if i = i then Q .normal a w else Q (.exit i) a w
  rw [if_pos rfl]; exact h a w ha hw
theorem in_pass {i j : Nat} (hne : j ≠ i) (h : X w0 n Q F L (.exit j)) : X w0 n (Exit.inBlock i Q) F L (.exit j) := fun a w ha hw => by
  show if j = i then Q .normal a w else Q (.exit j) a w
  rw [if_neg hne]; exact h a w ha hw
theorem skip (h : X w0 n Q F L .normal) : wpC P w0 n Q F L .skip := fun a w ha hw => wpIn_skip (h a w ha hw)
theorem ret (h : X w0 n Q F L .ret) : wpC P w0 n Q F L .ret := fun a w ha hw => wpIn_ret (h a w ha hw)
theorem exit {i : Nat} (h : X w0 n Q F L (.exit i)) : wpC P w0 n Q F L (.exit i) := fun a w ha hw => wpIn_exit (h a w ha hw)
theorem cond_t {c : Operand} {x y : Code} (hi : inF F c = true) (hc : evF F c = .bool true) (h : wpC P w0 n Q F L x) : wpC P w0 n Q F L (.cond c x y) := fun a w ha hw => wpIn_cond_true ((ha.eval hi).trans hc) (h a w ha hw)
theorem cond_f {c : Operand} {x y : Code} (hi : inF F c = true) (hc : evF F c = .bool false) (h : wpC P w0 n Q F L y) : wpC P w0 n Q F L (.cond c x y) := fun a w ha hw => wpIn_cond_false ((ha.eval hi).trans hc) (h a w ha hw)
variable {ops : Array Oper} {o : Oper} {l : List Oper}
theorem region {i : Nat} (h : wpS P w0 n ops Q F L ops.toList) (hf : w0.fence = Fence.wide := by rfl) : wpC P w0 n Q F L (.region i ops false) := fun a w ha hw => by
  rw [hf]
  exact wpIn_wide.2 (wp_region_list (h a w ha hw))
theorem regionR {i : Nat} (hq : ¬ LetsOut Q) (hd : noDefer ops = true) (hf : ∃ l, w0.fence = Fence.wide.inRound l) (h : wpS P w0 n ops Q F L ops.toList) : wpC P w0 n Q F L (.region i ops false) := fun a w ha hw => by
  obtain ⟨l, hf⟩ := hf
  rw [hf]
  exact round_region_L hq hd (h a w ha hw)
theorem nil (h : X w0 n Q F L .normal) : wpS P w0 n ops Q F L [] := fun a w ha hw => wpList_nil (h a w ha hw)
theorem step (hg : good ops n F o = true) (v : Value) (hq : Quiet P w0 F L o v) (h : wpS P w0 n ops Q (putF F o.dst v) L l) : wpS P w0 n ops Q F L (o :: l) := fun a w ha hw => by
  obtain ⟨g1, _, g3, _⟩ := good_spec hg
  refine wpList_step fun K hK => ?_
  rw [if_pos (ha.wanted g1)]
  have h0 := hq w hw
  have he := good_exec hg ha
  unfold Gives at h0
  unfold Oper.wp
  rw [he]
  generalize (execOp (evF F) o).run P w = r at *
  cases r with
  | ok x w' =>
    cases x <;> simp only [Oper.upon] at h0 ⊢
    case value u => rw [h0.1]; exact hK _ _ (h _ _ (ha.put g3 v) (hw.gr h0.2))
    case skip => rw [← h0.1]; exact hK _ _ (h _ _ (ha.put g3 v) (hw.gr h0.2))
    case enter f args =>
      refine Calls.mono h0 fun e w'' he => ?_
      rw [he.1]
      exact hK _ _ (h _ _ (ha.put g3 v) (hw.gr he.2))
  | halt x w' => cases x <;> exact h0.elim
theorem pass (hg : wantedF ops F o = some false) (hd : fits n o.dst = true) (h : wpS P w0 n ops Q (putF F o.dst undef) L l) : wpS P w0 n ops Q F L (o :: l) := fun a w ha hw => by
  refine wpList_step fun K hK => ?_
  rw [if_neg (by rw [ha.wanted hg]; exact Bool.false_ne_true)]
  exact hK _ _ (h _ _ (ha.put hd undef) hw)
def Makes (P : Program) (F : Slots) (o : Oper) (t : TypeId) (cs : Array Value) (val : Nat → Value) : Prop := ∀ w, (execOp (evF F) o).run P w = .ok (.value (val w.heap.size)) (w.alloc (.cells cs t))
def ptr (g : Nat) : Value := .pointer (some ⟨g, 0, none⟩)
theorem make (hg : good ops n F o = true) (t : TypeId) (cs : Array Value) (val : Nat → Value) (hm : Makes P F o t cs val) (h : ∀ g, wpS P w0 n ops Q (putF F o.dst (val g)) (L ++ [(g, t, cs)]) l) : wpS P w0 n ops Q F L (o :: l) := fun a w ha hw => by
  obtain ⟨g1, _, g3, _⟩ := good_spec hg
  refine wpList_step fun K hK => ?_
  rw [if_pos (ha.wanted g1)]
  unfold Oper.wp
  rw [good_exec hg ha, hm w]
  exact hK _ _ (h w.heap.size _ _ (ha.put g3 _) (hw.add (gr_alloc w _) (Nat.le_refl _) (Blk.new w t cs)))
def Writes (P : Program) (F : Slots) (o : Oper) (g : Nat) (t : TypeId) (cs cs' : Array Value) : Prop :=
  ∀ w, Blk w g t cs → ∃ w', (execOp (evF F) o).run P w = .ok .skip w' ∧ w.grownBy w' (some g) ∧ Blk w' g t cs'
theorem Writes.store {F : Slots} {o : Oper} (f : Nat) {g : Nat} {t : TypeId} {cs cs' : Array Value} (ty : TypeId) (cells : Array Value) (x y : Operand) (ho : o.op = .store ty x y) (hx : evF F x = .pointer (some ⟨g, f, none⟩)) (hy : evF F y = .agg cells)
    (hi : (P.info? ty).map (·.size) = some cells.size) (hk : f + cells.size ≤ cs.size) (h1 : cells.all (·.oneCell') = true) (hcs : setAll cs f cells.toList = cs') : Writes P F o g t cs cs' :=
  fun w hb => ⟨w.setCells g f cells.toList, by
    unfold execOp
    simp only [ho, hx, hy, run_storeAt_mid w g f ty cells (hb.there f cells.size hk) hi h1, Sem.run_bind, Sem.run_pure, Result.andThen_ok],
    only_setCells cells.toList f w (World.grownBy.refl w (some g)),
    hcs ▸ Blk.setCells cells.toList f w cs hb⟩
theorem write (hg : good ops n F o = true) (i g : Nat) (t : TypeId) (cs cs' : Array Value) (hL : L[i]? = some (g, t, cs)) (hm : Writes P F o g t cs cs') (h : wpS P w0 n ops Q (putF F o.dst undef) (L.set i (g, t, cs')) l) : wpS P w0 n ops Q F L (o :: l) := fun a w ha hw => by
  obtain ⟨g1, _, g3, _⟩ := good_spec hg
  obtain ⟨w', h1, h2, h3⟩ := hm w (hw.get hL)
  refine wpList_step fun K hK => ?_
  rw [if_pos (ha.wanted g1)]
  unfold Oper.wp
  rw [good_exec hg ha, h1]
  exact hK _ _ (h _ _ (ha.put g3 _) (hw.set hL h2 h3))

variable {ex : Nat → Bool} {fuel : Nat} {listed : Array Bool}
theorem regionD {i : Nat} (ex : Nat → Bool) (hm : P.follows .mixedOrders = true) (h : wpD P w0 n ops Q ex F L ops.size (Array.replicate ops.size false)) (hf : w0.fence = Fence.wide := by rfl) : wpC P w0 n Q F L (.region i ops true) := fun a w ha hw => by
  rw [hf]
  exact wpIn_wide.2 (wp_region_G ex hm (h a w ha hw))
theorem doneD (hr : Region.ready .any ops listed = []) (h : X w0 n Q F L .normal) : wpD P w0 n ops Q ex F L fuel listed := fun a _ ha hw => wpAnyG_done hr fun w1 h1 => h a w1 ha (hw.gr h1)
theorem quiet_yields {o : Oper} {v : Value} {a : Act} {w : World} (hg : good ops n F o = true) (hq : Quiet P w0 F L o v) (ha : Fr w0.ds a n F) (hw : St w0 w L) : YieldsG P ops o v a w :=
  .inl ⟨ha.wanted (good_spec hg).1, fun w1 h1 => by rw [good_exec hg ha]; exact hq w1 (hw.gr h1)⟩
theorem stepD (i : Nat) {oi : Oper} (hi0 : ops.toList[i]? = some oi) (hc : canTake .any ops listed ex i = true) (hQ : ∀ c v a w, Q (.panic c) (a.put oi.dst v) w → Q (.panic c) a w)
    (hg : good ops n F oi = true) (v : Value) (hq : Quiet P w0 F L oi v) (h : wpD P w0 n ops Q ex (putF F oi.dst v) L fuel (listed.setIfInBounds i true)) : wpD P w0 n ops Q ex F L (fuel + 1) listed := fun _ _ ha hw =>
  wpAnyG_take i hi0 hc (fun c => hQ c v) (quiet_yields hg hq ha hw) (h _ _ (ha.put (good_spec hg).2.2.1 v) hw)
theorem stepDB (i : Nat) (bs : List Nat) {oi : Oper} (hi0 : ops.toList[i]? = some oi) (hc : canTakeB .any ops listed ex i bs = true) (hQ : ∀ c v a w, Q (.panic c) (a.put oi.dst v) w → Q (.panic c) a w)
    (hg : good ops n F oi = true) (v : Value) (hq : Quiet P w0 F L oi v) (h : wpD P w0 n ops Q ex (putF F oi.dst v) L fuel (listed.setIfInBounds i true)) : wpD P w0 n ops Q ex F L (fuel + 1) listed := fun _ _ ha hw =>
  wpAnyG_takeB i bs hi0 hc (fun c => hQ c v) (quiet_yields hg hq ha hw) (h _ _ (ha.put (good_spec hg).2.2.1 v) hw)
theorem stepDA (i : Nat) {oi : Oper} (hi0 : ops.toList[i]? = some oi) (hc : canTakeA .any ops listed i = true) (hQ : ∀ c v a w, Q (.panic c) (a.put oi.dst v) w → Q (.panic c) a w)
    (hg : good ops n F oi = true) (v : Value) (hq : ∀ w, (execOp (evF F) oi).run P w = .ok (.value v) w) (h : wpD P w0 n ops Q ex (putF F oi.dst v) L fuel (listed.setIfInBounds i true)) : wpD P w0 n ops Q ex F L (fuel + 1) listed := fun a w ha hw =>
  wpAnyG_takeA i hi0 hc (fun c => hQ c v) (fun w' => .inl ⟨ha.wanted (good_spec hg).1, fun w1 _ => by rw [good_exec hg ha]; unfold Gives; rw [hq w1]; exact ⟨rfl, Gr.refl _⟩⟩) (h _ _ (ha.put (good_spec hg).2.2.1 v) hw)
theorem makeD (i : Nat) {oi : Oper} (hi0 : ops.toList[i]? = some oi) (hr : Region.ready .any ops listed = [i]) (hg : good ops n F oi = true) (t : TypeId) (cs : Array Value) (val : Nat → Value) (hm : Makes P F oi t cs val)
    (h : ∀ g, wpD P w0 n ops Q ex (putF F oi.dst (val g)) (L ++ [(g, t, cs)]) fuel (listed.setIfInBounds i true)) : wpD P w0 n ops Q ex F L (fuel + 1) listed := fun a w ha hw =>
  wpAnyG_sole i hi0 hr (ha.wanted (good_spec hg).1) fun w1 h1 K hK => by
    unfold Oper.wp
    rw [good_exec hg ha, hm w1]
    exact hK _ _ (fun _ => gr_alloc w1 _) (h w1.heap.size _ _ (ha.put (good_spec hg).2.2.1 _) ((hw.gr h1).add (gr_alloc w1 _) (Nat.le_refl _) (Blk.new w1 t cs)))
theorem writeD (k : Nat) {oi : Oper} (hi0 : ops.toList[k]? = some oi) (hr : Region.ready .any ops listed = [k]) (hex : ex k = true) (hg : good ops n F oi = true) (i g : Nat) (t : TypeId) (cs cs' : Array Value) (hL : L[i]? = some (g, t, cs)) (hm : Writes P F oi g t cs cs')
    (h : wpD P w0 n ops Q ex (putF F oi.dst undef) (L.set i (g, t, cs')) fuel (listed.setIfInBounds k true)) : wpD P w0 n ops Q ex F L (fuel + 1) listed := fun a w ha hw =>
  wpAnyG_sole k hi0 hr (ha.wanted (good_spec hg).1) fun w1 h1 K hK => by
    obtain ⟨w', e1, e2, e3⟩ := hm w1 ((hw.gr h1).get hL)
    unfold Oper.wp
    rw [good_exec hg ha, e1]
    exact hK _ _ (fun e => by rw [hex] at e; cases e) (h _ _ (ha.put (good_spec hg).2.2.1 _) ((hw.gr h1).set hL e2 e3))

def Gets (w0 : World) (v : Value) (e : Ending) (w' : World) : Prop := e = .returned v ∧ Below w0.heap.size w0 w'
def slotsOf : Nat → List Value → Slots
  | _, [] => []
  | i, v :: r => (i, v) :: slotsOf (i + 1) r
theorem lookup_slotsOf : ∀ (l : List Value) (i j : Nat) (v : Value), (slotsOf i l).lookup j = some v → i ≤ j ∧ l[j - i]? = some v
  | [], _, _, _, h => by cases h
  | u :: r, i, j, v, h => by
    simp only [slotsOf, List.lookup_cons] at h
    by_cases e : j = i
    · subst e
      simp at h
      subst h
      exact ⟨Nat.le_refl _, by simp⟩
    · have e' : (j == i) = false := by simpa using e
      rw [e'] at h
      obtain ⟨h1, h2⟩ := lookup_slotsOf r (i + 1) j v h
      refine ⟨by omega, ?_⟩
      rw [show j - i = (j - (i + 1)) + 1 by omega]
      simpa using h2
theorem enter {f : FuncId} {fn : Func} {c : Code} {args : List Value} {w : World} {R : Ending → World → Prop} (hf : P.funcs[f]? = some fn) (hb : fn.body = some c) (hn : args.length ≤ fn.ntmps)
    (h : wpC P (Base.of w) fn.ntmps (bodyPost P fn R) (slotsOf 0 args) [] c) : Calls P f args.toArray w R :=
  calls_of_wp hf hb (wpIn_wide.1 (h _ _ ⟨rfl, by simp; omega, fun i v hi => by
    have := (lookup_slotsOf args 0 i v hi).2
    rw [Nat.sub_zero] at this
    have hl := (List.getElem?_eq_some_iff.1 this).1
    rw [Array.getElem?_append_left (by simpa using hl)]
    simpa using this⟩ (St.start w)))
def Res (P : Program) (F : Slots) (L : Blocks) (r : ResultVar) (v : Value) : Prop :=
  match r with
  | .tmp t => F.lookup t = some v
  | .cell t ty => ∃ (g i : Nat) (ty' : TypeId) (cs : Array Value) (d : TypeDesc), F.lookup t = some (.pointer (some ⟨g, 0, none⟩)) ∧ L[i]? = some (g, ty', cs) ∧ P.underlying ty = some d ∧ d.isRow = true ∧ (P.info? ty).map (·.size) = some cs.size ∧ v = .agg cs
theorem Res.cell {t : Tmp} {ty ty' : TypeId} {v : Value} (g i : Nat) (cs : Array Value) (d : TypeDesc) (h1 : F.lookup t = some (.pointer (some ⟨g, 0, none⟩))) (h2 : L[i]? = some (g, ty', cs)) (h3 : P.underlying ty = some d) (h4 : d.isRow = true) (h5 : (P.info? ty).map (·.size) = some cs.size) (h6 : v = .agg cs) : Res P F L (.cell t ty) v :=
  ⟨g, i, ty', cs, d, h1, h2, h3, h4, h5, h6⟩
def ResC (P : Program) (F : Slots) (L : Blocks) (t : Tmp) (ty : TypeId) (v : Value) : Prop :=
  ∃ (g i : Nat) (ty' : TypeId) (cs : Array Value) (d : TypeDesc), F.lookup t = some (.pointer (some ⟨g, 0, none⟩)) ∧ L[i]? = some (g, ty', cs) ∧ P.underlying ty = some d ∧ d.isRow = false ∧ cs[0]? = some v
abbrev Has (P : Program) (F : Slots) (L : Blocks) (r : ResultVar) (v : Value) : Prop := Res P F L r v ∨ ∃ t ty, r = .cell t ty ∧ ResC P F L t ty v
theorem Res.run {ds : List Deferred} {a : Act} {w : World} {r : ResultVar} {v : Value} (h : Has P F L r v) (ha : Fr ds a n F) (hw : St w0 w L) :
    (∃ t, r = .tmp t ∧ a.tmps[t]?.getD undef = v) ∨ ∃ t ty ad, r = .cell t ty ∧ (asAddr (a.tmps[t]?.getD undef)).run P w = .ok ad w ∧ (loadVar ty ad).run P w = .ok v w := by
  rcases h with h | ⟨t, ty, rfl, g, i, ty', cs, d, h1, h2, h3, h4, h5⟩
  · cases r with
    | tmp t => exact .inl ⟨t, rfl, by simp [ha.2.2 t v h]⟩
    | cell t ty =>
      obtain ⟨g, i, ty', cs, d, h1, h2, h3, h4, h5, rfl⟩ := h
      have e2 := run_loadVar_row (P := P) w g ty' ty cs (0, 0) d (hw.get h2) h3 (by cases d <;> first | rfl | cases h4) h5
      exact .inr ⟨t, ty, ⟨g, 0, none⟩, rfl, by simp [ha.2.2 t _ h1, asAddr], e2⟩
  · have hb := hw.get h2
    have hc : w.cell? ⟨g, 0, none⟩ = some v := (hb.cell 0).trans h5
    have hag : (isAgg ty).run P w = .ok false w := by
      cases d <;> first | (cases h4; done) | simp [isAgg, underlying, h3]
    exact .inr ⟨t, ty, ⟨g, 0, none⟩, rfl, by simp [ha.2.2 t _ h1, asAddr], by simp [loadVar, hag, hc, Result.andThen]⟩
theorem ret1 {w1 : World} {fn : Func} {r : ResultVar} {v : Value} (hr : fn.results = #[r]) (h : Has P F L r v) : X (Base.of w1) n (bodyPost P fn (Gets w1 v)) F L .ret := fun a w ha hw => by
  refine bodyPost_ret (v := v) ?_ ha.1 ⟨rfl, hw.below⟩
  rcases Res.run h ha hw with ⟨t, rfl, e1⟩ | ⟨t, ty, ad, rfl, e1, e2⟩ <;> simp [results, Result.andThen, *]
theorem ret2 {w1 : World} {fn : Func} {r s : ResultVar} {v u : Value} (hr : fn.results = #[r, s]) (h : Has P F L r v) (k : Has P F L s u) : X (Base.of w1) n (bodyPost P fn (Gets w1 (.tuple #[v, u]))) F L .ret := fun a w ha hw => by
  refine bodyPost_ret (v := .tuple #[v, u]) ?_ ha.1 ⟨rfl, hw.below⟩
  rcases Res.run h ha hw with ⟨t, rfl, e1⟩ | ⟨t, ty, ad, rfl, e1, e2⟩ <;> rcases Res.run k ha hw with ⟨t', rfl, f1⟩ | ⟨t', ty', ad', rfl, f1, f2⟩ <;> simp [results, Result.andThen, *]
theorem ret3 {w1 : World} {fn : Func} {r s q : ResultVar} {v u x : Value} (hr : fn.results = #[r, s, q]) (h : Has P F L r v) (k : Has P F L s u) (m : Has P F L q x) : X (Base.of w1) n (bodyPost P fn (Gets w1 (.tuple #[v, u, x]))) F L .ret := fun a w ha hw => by
  refine bodyPost_ret (v := .tuple #[v, u, x]) ?_ ha.1 ⟨rfl, hw.below⟩
  rcases Res.run h ha hw with ⟨t, rfl, e1⟩ | ⟨t, ty, ad, rfl, e1, e2⟩ <;> rcases Res.run k ha hw with ⟨t', rfl, f1⟩ | ⟨t', ty', ad', rfl, f1, f2⟩ <;> rcases Res.run m ha hw with ⟨t'', rfl, g1⟩ | ⟨t'', ty'', ad'', rfl, g1, g2⟩ <;> simp [results, Result.andThen, *]
end
end Go.Proofs.YtgemfpnlnipfnaaGreat.Sy

end
section
namespace Go.Proofs.YtgemfpnlnipfnaaGreat.Sy
open Go.RowKit Go.Proofs.YtgemfpnlnipfnaaGreat

theorem St.setNew {w0 : Base} {w w' : World} {L : Blocks} (h : St w0 w L) (hg : Gr w w') {i g : Nat} {t : TypeId} {cs : Array Value} (hi : i < L.length) (hn : w.heap.size ≤ g) (hb : Blk w' g t cs) : St w0 w' (L.set i (g, t, cs)) := by
  have h' := h.gr hg
  refine ⟨h'.below, fun g1 t1 c1 hm => ?_, ?_, h'.size, h'.non⟩
  · rcases List.mem_or_eq_of_mem_set hm with hm | e
    · exact ⟨(h.blk g1 t1 c1 hm).1, hg.blk (h.blk g1 t1 c1 hm).2⟩
    · obtain ⟨rfl, rfl, rfl⟩ : g1 = g ∧ t1 = t ∧ c1 = cs := by simpa using e
      exact ⟨Nat.le_trans h.below.size hn, hb⟩
  · rw [List.map_set]
    have hlt : ∀ x ∈ L.map (·.1), x < g := fun x hx => by
      obtain ⟨⟨g1, t1, c1⟩, hm, rfl⟩ := List.mem_map.1 hx
      exact Nat.lt_of_lt_of_le (h.blk g1 t1 c1 hm).2.lt hn
    have hp := h.apart
    generalize L.map (·.1) = l at hlt hp
    clear h hb hi
    induction l generalizing i with
    | nil => exact List.Pairwise.nil
    | cons x l ih =>
      obtain ⟨h1, h2⟩ := List.nodup_cons.1 hp
      cases i with
      | zero =>
        refine List.nodup_cons.2 ⟨fun hm => ?_, h2⟩
        have := hlt g (List.mem_cons_of_mem _ hm)
        omega
      | succ i =>
        refine List.nodup_cons.2 ⟨fun hm => ?_, ih (fun y hy => hlt y (List.mem_cons_of_mem _ hy)) h2⟩
        rcases List.mem_or_eq_of_mem_set hm with hm | e
        · exact h1 hm
        · have := hlt x (List.mem_cons_self ..)
          omega

theorem addr_off (b f q : Nat) : (⟨b, f, none⟩ : Addr).add q = ⟨b, f + q, none⟩ := by unfold Addr.add; split <;> simp_all

section
variable {P : Program} {w0 : Base} {n : Nat} {Q : Exit → Act → World → Prop} {F : Slots} {L : Blocks} {ops : Array Oper} {o : Oper} {l : List Oper}

theorem Quiet.callS {v : Value} (f : FuncId) (args : Array Value) (he : ∀ w, (execOp (evF F) o).run P w = .ok (.enter f args) w)
    (h : ∀ w, St w0 w L → Calls P f args w (Gets w v)) : Quiet P w0 F L o v := fun w hw => by
  unfold Gives; rw [he w]; exact h w hw

theorem Writes.one (f : Nat) {g : Nat} {t : TypeId} {cs cs' : Array Value} (ty : TypeId) (v : Value) (x y : Operand) (ho : o.op = .store ty x y) (hx : evF F x = .pointer (some ⟨g, f, none⟩)) (hy : evF F y = v)
    (hi : (P.info? ty).map (·.size) = some 1) (hv : v.cells = #[v]) (h1 : v.oneCell' = true) (hk : f < cs.size) (hcs : cs.setIfInBounds f v = cs') : Writes P F o g t cs cs' :=
  fun w hb => ⟨w.setCell ⟨g, f, none⟩ v, by
    have hth := hb.there f 1 hk
    have hst := run_storeCells_cells (P := P) g f [v] 0 w (fun j hj => by simpa using (hth j hj).1) (fun j hj => by simpa using (hth j hj).2) (fun u hu => by rw [List.mem_singleton.1 hu]; exact h1)
    unfold execOp
    cases hq : P.info? ty with
    | none => simp [hq] at hi
    | some i =>
      have hs : i.size = 1 := by simpa [hq] using hi
      simp only [World.setCells, Nat.add_zero] at hst
      simp [ho, hx, hy, Instr.storeAt, Instr.sureAddr, storeVar, sizeOf, typeInfo, hq, hs, hv, hst, Result.andThen],
    only_setCell (World.grownBy.refl w (some g)) (.inl rfl) v, hcs ▸ hb.set_ f v⟩

theorem loopI {c : Code} (N : Nat) (I : Nat → Act → World → Prop) (h0 : ∀ a w, Fr w0.ds a n F → St w0 w L → I 0 a w)
    (hr : ∀ i, i ≤ N → ∀ a w, I i a w → c.wpIn w0.fence w0.room P (Exit.then (fun a w => i < N ∧ I (i + 1) a w) Q) a w) : wpC P w0 n Q F L (.loop c) := fun a w ha hw => by
  refine wpIn_loop_rounds (N + 1) ?_
  have key : ∀ k i, i + k = N → ∀ a w, I i a w → Code.roundsIn w0.fence w0.room P c Q (k + 1) a w := by
    intro k
    induction k with
    | zero =>
      intro i hi a w h
      refine wpIn_mono (hr i (by omega) a w h) fun e a w hq => ?_
      cases e <;> first | exact hq | exact absurd hq.1 (by omega)
    | succ k ih =>
      intro i hi a w h
      refine wpIn_mono (hr i (by omega) a w h) fun e a w hq => ?_
      cases e <;> first | exact hq | exact ih (i + 1) (by omega) a w hq.2
  exact key N 0 (by omega) a w (h0 a w ha hw)
theorem lookup_all : ∀ (G : Slots), (∀ p ∈ G, F.lookup p.1 = some p.2) → ∀ i v, G.lookup i = some v → F.lookup i = some v
  | [], _, _, _, h => by cases h
  | (q, u) :: G, hG, i, v, h => by
    simp only [List.lookup_cons] at h
    by_cases e : i = q
    · subst e
      simp at h
      subst h
      exact hG (i, u) (List.mem_cons_self ..)
    · have e' : (i == q) = false := by simpa using e
      rw [e'] at h
      exact lookup_all G (fun p hp => hG p (List.mem_cons_of_mem _ hp)) i v h
theorem Fr.all {ds : List Deferred} {a : Act} (h : Fr ds a n F) {G : Slots} (hG : ∀ p ∈ G, F.lookup p.1 = some p.2) : Fr ds a n G := h.less (lookup_all G hG)
theorem all_nil : ∀ p ∈ ([] : Slots), F.lookup p.1 = some p.2 := fun _ h => by cases h
theorem all_cons {G : Slots} {i : Nat} {v : Value} (h : F.lookup i = some v) (hG : ∀ p ∈ G, F.lookup p.1 = some p.2) : ∀ p ∈ (i, v) :: G, F.lookup p.1 = some p.2 := fun p hp => by
  rcases List.mem_cons.1 hp with rfl | hp
  · exact h
  · exact hG p hp

theorem Quiet.thereOne (g f : Nat) (ty : TypeId) (d : TypeDesc) (x : Operand) (ho : o.op = .load ty x) (hx : evF F x = .pointer (some ⟨g, f, none⟩)) (hg : g < w0.world.heap.size) (v : Value) (hr : w0.world.cell? ⟨g, f, none⟩ = some v)
    (hu : P.underlying ty = some d) (hd : d.isRow = false) : Quiet P w0 F L o v := fun w hw => by
  have hc : w.cell? ⟨g, f, none⟩ = some v := (Below.cell (p := ⟨g, f, none⟩) hw.below hg).trans hr
  have ha : (isAgg ty).run P w = .ok false w := by
    cases d <;> first | (cases hd; done) | simp [isAgg, underlying, hu]
  unfold Gives execOp
  simp only [ho, hx, Instr.loadAt, Instr.sureAddr, Sem.run_bind, Sem.run_pure, Result.andThen_ok, loadVar, ha, Bool.false_eq_true, if_false, run_load, hc]
  exact ⟨trivial, Gr.refl _⟩
end
end Go.Proofs.YtgemfpnlnipfnaaGreat.Sy

end
section
namespace Go.Proofs.YtgemfpnlnipfnaaGreat.Sy
open Go.RowKit Go.Proofs.YtgemfpnlnipfnaaGreat

section
variable {P : Program} {w0 : Base} {n : Nat} {Q : Exit → Act → World → Prop} {F : Slots} {L : Blocks} {ops : Array Oper} {o : Oper} {l : List Oper} {ex : Nat → Bool} {fuel : Nat} {listed : Array Bool}
def WritesV (P : Program) (w0 : Base) (F : Slots) (L : Blocks) (o : Oper) (g : Nat) (t : TypeId) (cs' : Array Value) (v : Value) : Prop :=
  ∀ w, St w0 w L → ∃ w', (execOp (evF F) o).run P w = .ok (.value v) w' ∧ w.grownBy w' (some g) ∧ Blk w' g t cs'
theorem writeV (hg : good ops n F o = true) (i g : Nat) (t : TypeId) (cs cs' : Array Value) (v : Value) (hL : L[i]? = some (g, t, cs)) (hm : WritesV P w0 F L o g t cs' v) (h : wpS P w0 n ops Q (putF F o.dst v) (L.set i (g, t, cs')) l) : wpS P w0 n ops Q F L (o :: l) := fun a w ha hw => by
  obtain ⟨g1, _, g3, _⟩ := good_spec hg
  obtain ⟨w', h1, h2, h3⟩ := hm w hw
  refine wpList_step fun K hK => ?_
  rw [if_pos (ha.wanted g1)]
  unfold Oper.wp
  rw [good_exec hg ha, h1]
  exact hK _ _ (h _ _ (ha.put g3 _) (hw.set hL h2 h3))
end
end Go.Proofs.YtgemfpnlnipfnaaGreat.Sy

end
section
namespace Go.Proofs.YtgemfpnlnipfnaaGreat.Sy
open Go.RowKit Go.Proofs.YtgemfpnlnipfnaaGreat

theorem setAll_is : ∀ (vs : List Value) (o : Nat) (cs : Array Value), o + vs.length ≤ cs.size → setAll cs o vs = (cs.toList.take o ++ (vs ++ cs.toList.drop (o + vs.length))).toArray
  | [], o, cs, _ => by simp [setAll, List.take_append_drop]
  | v :: r, o, cs, h => by
    simp only [List.length_cons] at h
    rw [setAll, setAll_is r (o + 1) _ (by simp; omega)]
    congr 1
    have hlt : o < cs.toList.length := by simp; omega
    rw [Array.toList_setIfInBounds, List.take_set, List.take_add_one, List.drop_set_of_lt (by omega), List.getElem?_eq_getElem hlt, List.set_append_right _ _ (by simp; omega)]
    have e : o + 1 + r.length = o + (r.length + 1) := by omega
    simp [Nat.min_eq_left (Nat.le_of_lt (show o < cs.size by omega)), e]
def flat (f : Nat → List Value) (n : Nat) : List Value := (List.range n).flatMap f
section
variable {s : Nat} {f : Nat → List Value}
theorem flat_succ (n : Nat) : flat f (n + 1) = flat f n ++ f n := by simp [flat, List.range_succ]
theorem flat_len (h : ∀ k, (f k).length = s) : ∀ n, (flat f n).length = n * s
  | 0 => by simp [flat]
  | n + 1 => by rw [flat_succ, List.length_append, flat_len h n, h, Nat.succ_mul]
theorem flat_add (k : Nat) : ∀ m, flat f (k + m) = flat f k ++ flat (fun j => f (k + j)) m
  | 0 => by simp [flat]
  | m + 1 => by rw [← Nat.add_assoc, flat_succ, flat_add k m, flat_succ, List.append_assoc]
theorem flat_split {n k : Nat} (hk : k < n) : flat f n = flat f k ++ (f k ++ flat (fun j => f (k + 1 + j)) (n - k - 1)) := by
  obtain ⟨m, rfl⟩ : ∃ m, n = k + 1 + m := ⟨n - k - 1, by omega⟩
  rw [flat_add, flat_succ, List.append_assoc, show k + 1 + m - k - 1 = m by omega]
theorem flat_at (h : ∀ k, (f k).length = s) {n k o : Nat} (hk : k < n) (ho : o = k * s) : ((flat f n).drop o).take s = f k := by
  subst ho
  rw [flat_split hk, List.drop_append_of_le_length (by rw [flat_len h]; exact Nat.le_refl _), List.drop_eq_nil_of_le (by rw [flat_len h]; exact Nat.le_refl _), List.nil_append, List.take_append_of_le_length (by rw [h]; exact Nat.le_refl _), List.take_of_length_le (by rw [h]; exact Nat.le_refl _)]
theorem flat_in (h : ∀ k, (f k).length = s) {n k o e m : Nat} (hk : k < n) (ho : o = k * s + e) (hm : e + m ≤ s) : ((flat f n).drop o).take m = ((f k).drop e).take m := by
  subst ho
  rw [← flat_at h hk rfl, List.drop_take, List.drop_drop, List.take_take, Nat.min_eq_left (by omega)]
theorem flat_const (c : List Value) (hc : c.length = s) (hs : 0 < s) (n : Nat) (z : Array Value) (hz : z.toList = c) : (flat (fun _ => c) n).toArray = madeCells z (n * s) := by
  have hzs : z.size = s := by rw [← Array.length_toList, hz, hc]
  apply Array.ext'
  unfold madeCells
  apply List.ext_getElem?
  intro i
  rw [Array.toList_map, Array.toList_range, List.getElem?_map]
  by_cases hi : i < n * s
  · have hk : i / s < n := Nat.div_lt_of_lt_mul (by rw [Nat.mul_comm]; exact hi)
    have h := flat_in (s := s) (f := fun _ => c) (fun _ => hc) (n := n) (k := i / s) (o := i) (e := i % s) (m := 1) hk (by rw [Nat.mul_comm]; exact (Nat.div_add_mod i s).symm) (Nat.mod_lt _ hs)
    have h2 := congrArg (·[0]?) h
    simp only [List.getElem?_take, List.getElem?_drop, Nat.zero_lt_one, if_true, Nat.add_zero] at h2
    rw [h2, List.getElem?_range hi]
    have hm : i % s < s := Nat.mod_lt _ hs
    simp only [Option.map_some, hzs]
    rw [← hz]
    simp [hzs, hm]
  · rw [List.getElem?_eq_none (by rw [flat_len (s := s) (fun _ => hc)]; omega), List.getElem?_eq_none (by simp; omega)]
    rfl
end

section
variable {s n k : Nat} {A : Nat → List Value} {z : List Value}
end

section
variable {s n m : Nat} {f : Nat → List Value}
end

section
variable {P : Program} {w0 : Base} {n : Nat} {Q : Exit → Act → World → Prop} {F : Slots} {L : Blocks} {ops : Array Oper} {o : Oper} {l : List Oper}

theorem blk_range {w : World} {g : Nat} {t : TypeId} {cs : Array Value} (h : Blk w g t cs) {o : Nat} {vs : List Value} (e : (cs.toList.drop o).take vs.length = vs) : w.rangeAt g o vs := fun j v hj => by
  rw [h.cell]
  rw [← e] at hj
  have hlt : j < vs.length := by
    have h := (List.getElem?_eq_some_iff.1 hj).1
    rw [List.length_take] at h
    exact Nat.lt_of_lt_of_le h (Nat.min_le_left _ _)
  rw [List.getElem?_take_of_lt hlt, List.getElem?_drop] at hj
  simpa using hj
theorem exec_int (op : BinOp) (t : TypeId) (x y : Operand) {yt : TypeId} (k : IntKind) {k' : IntKind} (a b : Int) (v : Value) (ho : o.op = .binOp op t x y yt) (hx : evF F x = .int k a) (hy : evF F y = .int k' b) (h : ∀ w, (binOp op t (.int k a) (.int k' b)).run P w = .ok v w) (w : World) :
    (execOp (evF F) o).run P w = .ok (.value v) w := by
  have h1 : (eqGuard op t x y (.int k a) (.int k' b)).run P w = .ok () w := by
    unfold eqGuard
    cases op <;> rfl
  unfold execOp
  simp only [ho, hx, hy, Sem.run_bind, h1, h w, Result.andThen_ok, Sem.run_pure]
theorem wrap_i64 {z : Int} (h0 : -9223372036854775808 ≤ z) (h1 : z < 9223372036854775808) : IntKind.i64.wrap z = z := by
  unfold IntKind.wrap; simp [IntKind.bits, IntKind.signed]; omega
theorem wrap_u64 {z : Int} (h0 : 0 ≤ z) (h1 : z < 18446744073709551616) : IntKind.u64.wrap z = z := by
  unfold IntKind.wrap; simp [IntKind.bits, IntKind.signed]; omega
theorem int_add (t : TypeId) (k : IntKind) (a b c : Int) (h : k.wrap (a + b) = c) (w : World) : (binOp .add t (.int k a) (.int k b)).run P w = .ok (.int k c) w := by simp [binOp, Op.intArith, h]
theorem int_sub (t : TypeId) (k : IntKind) (a b c : Int) (h : k.wrap (a - b) = c) (w : World) : (binOp .sub t (.int k a) (.int k b)).run P w = .ok (.int k c) w := by simp [binOp, Op.intArith, h]
theorem int_mul (t : TypeId) (k : IntKind) (a b c : Int) (h : k.wrap (a * b) = c) (w : World) : (binOp .mul t (.int k a) (.int k b)).run P w = .ok (.int k c) w := by simp [binOp, Op.intArith, h]
theorem int_quo (t : TypeId) (k : IntKind) (a b c : Int) (hb : b ≠ 0) (h : k.wrap (a.tdiv b) = c) (w : World) : (binOp .quo t (.int k a) (.int k b)).run P w = .ok (.int k c) w := by simp [binOp, Op.intDiv, hb, h]
theorem int_rem (t : TypeId) (k : IntKind) (a b c : Int) (hb : b ≠ 0) (h : a.tmod b = c) (w : World) : (binOp .rem t (.int k a) (.int k b)).run P w = .ok (.int k c) w := by simp [binOp, Op.intDiv, hb, h]
theorem int_shr (t : TypeId) (k k' : IntKind) (a b c : Int) (hb : ¬ b < 0) (h : a.fdiv (2 ^ min b.toNat k.bits) = c) (w : World) : (binOp .shr t (.int k a) (.int k' b)).run P w = .ok (.int k c) w := by
  simp only [binOp, Op.shift, if_neg hb, Sem.run_pure, h]
theorem int_lss (t : TypeId) (k : IntKind) (a b : Int) (c : Bool) (h : decide (a < b) = c) (w : World) : (binOp .lss t (.int k a) (.int k b)).run P w = .ok (.bool c) w := by simp [binOp, Op.intCmp, ← h]
theorem int_leq (t : TypeId) (k : IntKind) (a b : Int) (c : Bool) (h : decide (a ≤ b) = c) (w : World) : (binOp .leq t (.int k a) (.int k b)).run P w = .ok (.bool c) w := by simp [binOp, Op.intCmp, ← h]
theorem int_gtr (t : TypeId) (k : IntKind) (a b : Int) (c : Bool) (h : decide (a > b) = c) (w : World) : (binOp .gtr t (.int k a) (.int k b)).run P w = .ok (.bool c) w := by simp [binOp, Op.intCmp, ← h]
theorem int_geq (t : TypeId) (k : IntKind) (a b : Int) (c : Bool) (h : decide (a ≥ b) = c) (w : World) : (binOp .geq t (.int k a) (.int k b)).run P w = .ok (.bool c) w := by simp [binOp, Op.intCmp, ← h]
theorem int_eql (t : TypeId) (k : IntKind) (a b : Int) (c : Bool) (h : decide (a = b) = c) (w : World) : (binOp .eql t (.int k a) (.int k b)).run P w = .ok (.bool c) w := by
  simp only [binOp, ne_eq, not_true_eq_false, if_false, Op.intCmp, Sem.run_pure, ← h]
  rfl
theorem int_neq (t : TypeId) (k : IntKind) (a b : Int) (c : Bool) (h : decide (a ≠ b) = c) (w : World) : (binOp .neq t (.int k a) (.int k b)).run P w = .ok (.bool c) w := by
  simp only [binOp, ne_eq, not_true_eq_false, if_false, Op.intCmp, Sem.run_pure, ← h]
  by_cases e : a = b <;> simp [e]
theorem exec_at (t e : TypeId) (x kx : Operand) (g f len cap k s : Nat) (ki : IntKind) (ho : o.op = .indexAddr t x kx) (hx : evF F x = .slice (some ⟨g, f, none⟩) len cap) (hkx : evF F kx = .int ki (k : Int)) (ht : P.underlying t = some (.slice e)) (hsz : ∀ w, (sizeOf e).run P w = .ok s w) (hk : k < len) (w : World) :
    (execOp (evF F) o).run P w = .ok (.value (.pointer (some ⟨g, f + k * s, none⟩))) w := by
  have h0 : (0 : Int) ≤ k := by omega
  have h1 : ((k : Int).toNat) = k := by omega
  unfold execOp
  simp [ho, hx, hkx, Instr.indexAt, asIntOf, run_underlying ht, hsz, h0, hk, addr_off, Result.andThen]
theorem exec_atA (t e : TypeId) (x kx : Operand) (g f m k s : Nat) (ki : IntKind) (ho : o.op = .indexAddr t x kx) (hx : evF F x = .pointer (some ⟨g, f, none⟩)) (hkx : evF F kx = .int ki (k : Int)) (ht : P.underlying t = some (.array m e)) (hsz : ∀ w, (sizeOf e).run P w = .ok s w) (hk : k < m) (w : World) :
    (execOp (evF F) o).run P w = .ok (.value (.pointer (some ⟨g, f + k * s, none⟩))) w := by
  have h0 : (0 : Int) ≤ k := by omega
  unfold execOp
  simp [ho, hx, hkx, Instr.indexAt, asIntOf, run_underlying ht, hsz, h0, hk, addr_off, Result.andThen, Instr.sureAddr]
def NextX {T : Type} (w0 : Base) (n N : Nat) (FF : Nat → T → Slots) (LL : Nat → T → Blocks) (H : Nat → T → Prop) (k : Nat) : Act → World → Prop := fun a w => k < N ∧ ∃ y, H (k + 1) y ∧ Fr w0.ds a n (FF (k + 1) y) ∧ St w0 w (LL (k + 1) y)
theorem Makes.slice (t e : TypeId) (i : TypeInfo) (z : Value) (s b : Nat) (x y : Operand) (kl kc : IntKind) (m : Nat) (c : List Value) (ho : o.op = .makeSlice t x y) (hx : evF F x = .int kl (m : Int)) (hy : evF F y = .int kc (m : Int)) (ht : P.underlying t = some (.slice e)) (hi : P.info? e = some i) (hz : i.zero = some z) (hs : i.size = s) (hs0 : 0 < s) (hb : i.bytes = b)
    (hc : z.cells.toList = c) (hcl : c.length = s) (hbytes : b * m ≤ 281474976710656) (h63 : m ≤ 9223372036854775807) : Makes P F o e (flat (fun _ => c) m).toArray (fun g => .slice (some ⟨g, 0, none⟩) m m) := fun w => by
  subst hs hb
  have hb : (i.bytes : Int) * (m : Int) ≤ 281474976710656 := by
    have h : ((i.bytes * m : Nat) : Int) ≤ 281474976710656 := by omega
    rwa [Int.natCast_mul] at h
  have hr := run_make (P := P) w t e i z ht hi hz kl kc m m (by omega) (Int.le_refl _) hb (by omega)
  simp only [Int.toNat_natCast] at hr
  unfold execOp
  simp only [ho, hx, hy, Sem.run_bind, Sem.run_pure, hr, Result.andThen_ok]
  rw [flat_const c hcl hs0 m z.cells hc]
end
end Go.Proofs.YtgemfpnlnipfnaaGreat.Sy

end
section
namespace Go.Proofs.YtgemfpnlnipfnaaGreat.Sy
open Go.RowKit Go.Proofs.YtgemfpnlnipfnaaGreat

abbrev mark (D : Nat) : Deferred := { target := .collected D, args := #[] }
theorem St.refix {w0 : Base} {w : World} {L : Blocks} (h : St w0 w L) (ds : List Deferred) (fe : Fence) (ro : Nat) : St ⟨w0.world, w, ds, fe, ro⟩ w L := ⟨h.below, h.blk, h.apart, Nat.le_refl _, fun _ _ _ h _ => h⟩
theorem St.back {w0 : Base} {W w : World} {L L' : Blocks} (h0 : St w0 W L) {ds : List Deferred} {fe : Fence} {ro : Nat} (h : St ⟨w0.world, W, ds, fe, ro⟩ w L') (ds' : List Deferred) (fe' : Fence) (ro' : Nat) : St ⟨w0.world, w0.fz, ds', fe', ro'⟩ w L' :=
  ⟨h.below, h.blk, h.apart, Nat.le_trans h0.size h.size, fun k o hk ho hc => h.non k o hk (h0.non k o hk ho hc) hc⟩
theorem St.own {w0 : Base} {X Y : World} {L : Blocks} {B : Nat} {row : Option Nat} (h : St w0 X L) (hB : w0.fz.heap.size ≤ B) (hB2 : w0.world.heap.size ≤ B) (hg : X.grownBy Y row) (hr : ∀ r, row = some r → B ≤ r ∧ ∃ o : Obj, X.heap[r]? = some o ∧ o.isCells = false) : St w0 Y L := by
  refine ⟨?_, fun g t cs hm => ⟨(h.blk g t cs hm).1, (h.blk g t cs hm).2.grown hg (fun e => ?_)⟩, h.apart, Nat.le_trans h.size hg.size, fun k o hk ho hc => ?_⟩
  · refine h.below.trans ⟨hg.os, hg.tape, hg.output, hg.size, fun k hk => hg.block k (Nat.lt_of_lt_of_le hk h.below.size) (fun e => ?_)⟩
    have := (hr k e.symm).1
    omega
  · obtain ⟨o, ho, hc⟩ := (hr g e.symm).2
    have hb := (h.blk g t cs hm).2
    unfold Blk at hb
    rw [hb] at ho
    cases ho
    cases hc
  · have h1 := h.non k o hk ho hc
    have hlt := (Array.getElem?_eq_some_iff.1 ho).1
    exact (hg.block k (Array.getElem?_eq_some_iff.1 h1).1 (fun e => by have := (hr k e.symm).1; omega)).trans h1

def roundF (F : Slots) (ps : Array Tmp) (vs : Array Value) : Slots := (ps.toList.zip vs.toList).foldl (fun F x => (x.1, x.2) :: F) F
theorem Fr.round {ds : List Deferred} {n : Nat} : ∀ (l : List (Tmp × Value)) {T : Array Value} {F : Slots}, (∀ x ∈ l, x.1 < n) → Fr ds { tmps := T, defers := ds } n F → Fr ds { tmps := l.foldl (fun t x => t.setIfInBounds x.1 x.2) T, defers := ds } n (l.foldl (fun F x => (x.1, x.2) :: F) F)
  | [], _, _, _, h => h
  | x :: l, T, F, hl, h => by
    have h2 := h.put (d := some x.1) (decide_eq_true (hl x (List.mem_cons_self ..))) x.2
    exact Fr.round l (fun y hy => hl y (List.mem_cons_of_mem _ hy)) h2

section
variable {P : Program} {w0 fz0 : World} {n : Nat} {Q : Exit → Act → World → Prop} {F : Slots} {L : Blocks}
abbrev rb (w0 fz : World) (l : Nat) : Base := ⟨w0, fz, [], Fence.wide.inRound l, 7⟩
abbrev ab (w0 fz : World) (D : Nat) : Base := ⟨w0, fz, [mark D], Fence.wide, 9⟩
def GetsN (w : World) (R : Value → Blocks → Prop) (e : Ending) (w' : World) : Prop := ∃ v M, e = .returned v ∧ R v M ∧ Below w.heap.size w w' ∧ (∀ g t cs, (g, t, cs) ∈ M → w.heap.size ≤ g ∧ Blk w' g t cs) ∧ (M.map (·.1)).Nodup
theorem St.addN {w0 : Base} {w w' : World} {L M : Blocks} (h : St w0 w L) (hg : Gr w w') (hM : ∀ g t cs, (g, t, cs) ∈ M → w.heap.size ≤ g ∧ Blk w' g t cs) (hn : (M.map (·.1)).Nodup) : St w0 w' (L ++ M) := by
  have h' := h.gr hg
  refine ⟨h'.below, fun g t cs hm => ?_, ?_, h'.size, h'.non⟩
  · rcases List.mem_append.1 hm with hm | hm
    · exact h'.blk g t cs hm
    · exact ⟨Nat.le_trans h.below.size (hM g t cs hm).1, (hM g t cs hm).2⟩
  · rw [List.map_append, List.nodup_append]
    refine ⟨h.apart, hn, fun x hx y hy e => ?_⟩
    obtain ⟨⟨g, t, cs⟩, hm, rfl⟩ := List.mem_map.1 hx
    obtain ⟨⟨g', t', cs'⟩, hm', rfl⟩ := List.mem_map.1 hy
    have h1 := (h.blk g t cs hm).2.lt
    have h2 := (hM g' t' cs' hm').1
    have e' : g = g' := e
    omega
theorem callN {w0 : Base} {ops : Array Oper} {o : Oper} {l : List Oper} (hg : good ops n F o = true) (f : FuncId) (args : Array Value) (he : ∀ w, (execOp (evF F) o).run P w = .ok (.enter f args) w) (R : Value → Blocks → Prop)
    (hc : ∀ w, St w0 w L → Calls P f args w (GetsN w R)) (h : ∀ v M, R v M → wpS P w0 n ops Q (putF F o.dst v) (L ++ M) l) : wpS P w0 n ops Q F L (o :: l) := fun a w ha hw => by
  obtain ⟨g1, _, g3, _⟩ := good_spec hg
  refine wpList_step fun K hK => ?_
  rw [if_pos (ha.wanted g1)]
  unfold Oper.wp
  rw [good_exec hg ha, he w]
  refine Calls.mono (hc w hw) fun e w' he' => ?_
  obtain ⟨v, M, rfl, hR, hb, hM, hn⟩ := he'
  exact hK _ _ (h v M hR _ _ (ha.put g3 v) (hw.addN hb hM hn))
end
end Go.Proofs.YtgemfpnlnipfnaaGreat.Sy

end
section
namespace Go.Proofs.YtgemfpnlnipfnaaGreat.Sy
open Go.RowKit Go.Proofs.YtgemfpnlnipfnaaGreat

section
variable {P : Program} {W : World} {m n : Nat} {Q : Exit → Act → World → Prop} {F : Slots} {L : Blocks} {ops : Array Oper} {o : Oper} {rest : List Oper}
theorem operIn_wide {o : Oper} {a : Act} {w : World} {K : Act → World → Prop} (hd : ∀ c, o.op ≠ .defer c) (h : o.wp P a w K Q) : o.wpIn Fence.wide m P a w K Q := by
  unfold Oper.wpIn
  refine ⟨fun _ _ => trivial, ?_⟩
  rw [Oper.semAt_plain _ _ _ hd]
  unfold Oper.wp at h
  generalize (execOp a.eval o).run P w = r at *
  cases r with
  | ok x w' =>
    cases x <;> simp only [Oper.upon, Oper.uponIn] at h ⊢ <;> first
      | exact h
      | exact ⟨fun e => by simp [Fence.wide] at e, callsIn_wide.2 h⟩
      | exact ⟨fun e => by simp [Fence.wide] at e, fun c cs _ => let ⟨v, w', r, s⟩ := h c cs; ⟨v, w', r, stepsIn_wide.2 s⟩⟩
      | exact h.elim
  | halt x w' => cases x <;> simp only [Oper.upon, Oper.uponIn] at h ⊢ <;> exact h
def thenI (P : Program) (ops : Array Oper) (m : Nat) (rest : List Oper) (Q : Exit → Act → World → Prop) : Exit → Act → World → Prop
  | .normal, a, w => wpListIn Fence.wide m P ops Q rest a w
  | e, a, w => Q e a w
theorem listIn_app (hq : ¬ LetsOut Q) : ∀ (l : List Oper), (∀ o ∈ l, ∀ c, o.op ≠ .defer c) → ∀ (a : Act) (w : World), wpList P ops (thenI P ops m rest Q) l a w → wpListIn Fence.wide m P ops Q (l ++ rest) a w
  | [], _, _, _, h => h
  | o :: l, hd, a, w, h => by
    have hq' : ¬ LetsOut (thenI P ops m rest Q) := fun ⟨a, w, q⟩ => hq ⟨a, w, q⟩
    unfold wpList at h
    show wpListIn Fence.wide m P ops Q (o :: (l ++ rest)) a w
    unfold wpListIn
    split
    · rename_i hw
      simp only [hw, if_true] at h
      rcases h with h | h
      · have h1 := operIn_wide (m := m) (hd o (by simp)) h
        have h2 : o.wpIn Fence.wide m P a w _ Q := h1
        exact Oper.wpIn_mono (fun a w h' => listIn_app hq l (fun o ho => hd o (by simp [ho])) a w h') h2
      · exact absurd h.2 hq'
    · rename_i hw
      simp only [hw] at h
      exact ⟨fun _ _ => trivial, listIn_app hq l (fun o ho => hd o (by simp [ho])) _ _ h⟩
theorem listIn_wide (hq : ¬ LetsOut Q) : ∀ (l : List Oper), (∀ o ∈ l, ∀ c, o.op ≠ .defer c) → ∀ (a : Act) (w : World), wpList P ops Q l a w → wpListIn Fence.wide m P ops Q l a w
  | [], _, _, _, h => h
  | o :: l, hd, a, w, h => by
    unfold wpList at h
    unfold wpListIn
    split
    · rename_i hw
      simp only [hw, if_true] at h
      rcases h with h | h
      · exact Oper.wpIn_mono (fun a w h' => listIn_wide hq l (fun o ho => hd o (by simp [ho])) a w h') (operIn_wide (hd o (by simp)) h)
      · exact absurd h.2 hq
    · rename_i hw
      simp only [hw] at h
      exact ⟨fun _ _ => trivial, listIn_wide hq l (fun o ho => hd o (by simp [ho])) _ _ h⟩
theorem noDefer_mem (h : noDefer ops = true) {o : Oper} (ho : o ∈ ops.toList) : ∀ c, o.op ≠ .defer c := by
  obtain ⟨i, hi⟩ := List.mem_iff_getElem?.1 ho
  exact noDefer_spec h (by simpa using hi)
end
end Go.Proofs.YtgemfpnlnipfnaaGreat.Sy

end
section
namespace Go.Proofs.YtgemfpnlnipfnaaGreat.Sy
open Go.RowKit Go.Proofs.YtgemfpnlnipfnaaGreat
section
variable {P : Program} {w0 fz0 : World} {n : Nat} {Q : Exit → Act → World → Prop} {F : Slots} {L : Blocks}
end
end Go.Proofs.YtgemfpnlnipfnaaGreat.Sy

end
section
namespace Go.Proofs.YtgemfpnlnipfnaaGreat
theorem kR {α : Sort _} {a b : α} (h : a = b := by kernel_rfl) : a = b := h
theorem kL {a b : Nat} (h : Nat.ble a b = true := by kernel_rfl) : a ≤ b := Nat.le_of_ble_eq_true h
theorem kF {α : Sort _} {β : α → Sort _} {f g : (x : α) → β x} (h : ∀ x, f x = g x := by intro _; kernel_rfl) (x : α) : f x = g x := h x
end Go.Proofs.YtgemfpnlnipfnaaGreat

end
section
namespace Go.Proofs.YtgemfpnlnipfnaaGreat.Sy
open Go.RowKit Go.Proofs.YtgemfpnlnipfnaaGreat

section
variable {P : Program} {w0 : Base} {n : Nat} {Q : Exit → Act → World → Prop} {F : Slots} {L : Blocks} {ops : Array Oper} {o : Oper} {l : List Oper}
theorem sS (v : Value) (hq : Quiet P w0 F L o v) (h : wpS P w0 n ops Q (putF F o.dst v) L l) (hg : good ops n F o = true := by kernel_rfl) : wpS P w0 n ops Q F L (o :: l) := step hg v hq h
theorem sN (h : wpS P w0 n ops Q (putF F o.dst undef) L l) (hg : wantedF ops F o = some false := by kernel_rfl) (hd : fits n o.dst = true := by kernel_rfl) : wpS P w0 n ops Q F L (o :: l) := pass hg hd h
theorem sM (t : TypeId) (cs : Array Value) (h : ∀ g, wpS P w0 n ops Q (putF F o.dst (ptr g)) (L ++ [(g, t, cs)]) l) (hg : good ops n F o = true := by kernel_rfl) (hm : ∀ w, (execOp (evF F) o).run P w = .ok (.value (ptr w.heap.size)) (w.alloc (.cells cs t)) := by intro _; kernel_rfl) : wpS P w0 n ops Q F L (o :: l) := make hg t cs ptr hm h
theorem wO {x y : Operand} (f : Nat) {g : Nat} {t : TypeId} {cs cs' : Array Value} (ty : TypeId) (v : Value) (ho : o.op = .store ty x y) (hx : evF F x = .pointer (some ⟨g, f, none⟩) := by kernel_rfl) (hy : evF F y = v := by kernel_rfl)
    (hi : (P.info? ty).map (·.size) = some 1 := by kernel_rfl) (hv : v.cells = #[v] := by rfl) (h1 : v.oneCell' = true := by rfl) (hk : Nat.ble (f + 1) cs.size = true := by kernel_rfl) (hcs : cs.setIfInBounds f v = cs' := by kernel_rfl) : Writes P F o g t cs cs' :=
  Writes.one f ty v x y ho hx hy hi hv h1 (Nat.le_of_ble_eq_true hk) hcs
variable {ex : Nat → Bool} {fuel : Nat} {listed : Array Bool}
theorem sD (i : Nat) {oi : Oper} (hi0 : ops.toList[i]? = some oi) (v : Value) (hq : Quiet P w0 F L oi v) (h : wpD P w0 n ops Q ex (putF F oi.dst v) L fuel (listed.setIfInBounds i true)) (hc : canTake .any ops listed ex i = true := by kernel_rfl)
    (hg : good ops n F oi = true := by kernel_rfl) (hQ : ∀ c v a w, Q (.panic c) (a.put oi.dst v) w → Q (.panic c) a w := by exact fun _ _ _ _ h => h) : wpD P w0 n ops Q ex F L (fuel + 1) listed := stepD i hi0 hc hQ hg v hq h
theorem sE (h : X w0 n Q F L .normal) (hr : Region.ready .any ops listed = [] := by kernel_rfl) : wpD P w0 n ops Q ex F L fuel listed := doneD hr h
theorem sT {c : Operand} {x y : Code} (h : wpC P w0 n Q F L x) (hi : inF F c = true := by kernel_rfl) (hc : evF F c = .bool true := by kernel_rfl) : wpC P w0 n Q F L (.cond c x y) := cond_t hi hc h
theorem sU {c : Operand} {x y : Code} (h : wpC P w0 n Q F L y) (hi : inF F c = true := by kernel_rfl) (hc : evF F c = .bool false := by kernel_rfl) : wpC P w0 n Q F L (.cond c x y) := cond_f hi hc h
theorem sC {i : Nat} {y : Code} (h : wpS P w0 n ops (Exit.then (y.wpIn w0.fence w0.room P Q) Q) F L ops.toList) (hf : w0.fence = Fence.wide := by rfl) : wpC P w0 n Q F L (.seq (.region i ops false) y) := seq (region h hf)
theorem sB {i : Nat} {y : Code} (h : wpS P w0 n ops (Exit.then (y.wpIn w0.fence w0.room P Q) Q) F L ops.toList) (hf : w0.fence = Fence.wide := by rfl) : X w0 n (Exit.then ((Code.seq (.region i ops false) y).wpIn w0.fence w0.room P Q) Q) F L .normal := then_ (sC h hf)
theorem sA {i : Nat} {y : Code} {ops0 : Array Oper} (h : wpS P w0 n ops (Exit.then (y.wpIn w0.fence w0.room P Q) Q) F L ops.toList) (hf : w0.fence = Fence.wide := by rfl) : wpS P w0 n ops0 (Exit.then ((Code.seq (.region i ops false) y).wpIn w0.fence w0.room P Q) Q) F L [] := nil (sB h hf)
theorem sP (v : Value) (h : wpS P w0 n ops Q (putF F o.dst v) L l) (hp : ∀ w, (execOp (evF F) o).run P w = .ok (.value v) w := by intro _; kernel_rfl) (hg : good ops n F o = true := by kernel_rfl) : wpS P w0 n ops Q F L (o :: l) := step hg v (Quiet.pure hp) h
theorem sZ (i : Nat) {oi : Oper} (hi0 : ops.toList[i]? = some oi) (v : Value) (h : wpD P w0 n ops Q ex (putF F oi.dst v) L fuel (listed.setIfInBounds i true)) (hp : ∀ w, (execOp (evF F) oi).run P w = .ok (.value v) w := by intro _; kernel_rfl) (hc : canTake .any ops listed ex i = true := by kernel_rfl)
    (hg : good ops n F oi = true := by kernel_rfl) (hQ : ∀ c v a w, Q (.panic c) (a.put oi.dst v) w → Q (.panic c) a w := by exact fun _ _ _ _ h => h) : wpD P w0 n ops Q ex F L (fuel + 1) listed := stepD i hi0 hc hQ hg v (Quiet.pure hp) h
theorem sR {i : Nat} {y : Code} (ex : Nat → Bool) (h : wpD P w0 n ops (Exit.then (y.wpIn w0.fence w0.room P Q) Q) ex F L ops.size (Array.replicate ops.size false)) (hm : P.follows .mixedOrders = true := by kernel_rfl) (hf : w0.fence = Fence.wide := by rfl) : X w0 n (Exit.then ((Code.seq (.region i ops true) y).wpIn w0.fence w0.room P Q) Q) F L .normal := then_ (seq (regionD ex hm h hf))
theorem sG {y : Code} {ops0 : Array Oper} (h : wpC P w0 n Q F L y) : wpS P w0 n ops0 (Exit.then (y.wpIn w0.fence w0.room P Q) Q) F L [] := nil (then_ h)
def opV (F : Slots) : Op → Option Value
  | .move (.tmp t) => F.lookup t
  | .assign (.tmp t) => F.lookup t
  | .move (.const v) => some v
  | .assign (.const v) => some v
  | .nilCheck (.tmp t) => match F.lookup t with | some (.pointer (some a)) => some (.pointer (some a)) | _ => none
  | .extract (.tmp t) i => match F.lookup t with | some (.tuple vs) => vs[i]? | _ => none
  | _ => none
theorem opV_run {v : Value} (h : opV F o.op = some v) (w : World) : (execOp (evF F) o).run P w = .ok (.value v) w := by
  unfold execOp
  generalize o.op = op at h
  unfold opV at h
  split at h
  · simp [evF, h]
  · simp [evF, h]
  · cases h; simp [evF]
  · cases h; simp [evF]
  · split at h
    · rename_i a e
      cases h
      simp [evF, e]
    · cases h
  · split at h
    · rename_i vs e
      simp [evF, e, Instr.extract, h]
    · cases h
  · cases h
theorem sp {v : Value} (hl : opV F o.op = some v) (h : wpS P w0 n ops Q (putF F o.dst v) L l) (hg : good ops n F o = true := by kernel_rfl) : wpS P w0 n ops Q F L (o :: l) := step hg v (Quiet.pure (opV_run hl)) h
theorem sz (i : Nat) {oi : Oper} (hi0 : ops.toList[i]? = some oi) {v : Value} (hl : opV F oi.op = some v) (h : wpD P w0 n ops Q ex (putF F oi.dst v) L fuel (listed.setIfInBounds i true)) (hc : canTake .any ops listed ex i = true := by kernel_rfl)
    (hg : good ops n F oi = true := by kernel_rfl) (hQ : ∀ c v a w, Q (.panic c) (a.put oi.dst v) w → Q (.panic c) a w := by exact fun _ _ _ _ h => h) : wpD P w0 n ops Q ex F L (fuel + 1) listed := stepD i hi0 hc hQ hg v (Quiet.pure (opV_run hl)) h
theorem sI {y : Code} (h : wpC P w0 n Q F L y) (hr : Region.ready .any ops listed = [] := by kernel_rfl) : wpD P w0 n ops (Exit.then (y.wpIn w0.fence w0.room P Q) Q) ex F L fuel listed := doneD hr (then_ h)
theorem rV {w1 : World} {fn : Func} {z : Tmp} (v : Value) (hr : fn.results = #[.tmp z]) (h : F.lookup z = some v := by kernel_rfl) : X (Base.of w1) n (bodyPost P fn (Gets w1 v)) F L .ret := ret1 hr (.inl h)
end
end Go.Proofs.YtgemfpnlnipfnaaGreat.Sy

end
section
namespace Go.Proofs.YtgemfpnlnipfnaaGreat.Sy
open Go.RowKit Go.Proofs.YtgemfpnlnipfnaaGreat
section
variable {P : Program} {w0 : Base} {n : Nat} {Q : Exit → Act → World → Prop} {F : Slots} {L : Blocks} {ops : Array Oper} {o : Oper} {l : List Oper}
theorem qk {x : Operand} {d : TypeDesc} {v : Value} {g : Nat} {t ty : TypeId} {cs : Array Value} (i f k : Nat) (hL : L[i]? = some (g, t, cs)) (ho : o.op = .load ty x) (hu : P.underlying ty = some d) (hx : evF F x = .pointer (some ⟨g, f, none⟩) := by kernel_rfl)
    (hd : d.isRow = true := by rfl) (hi : (P.info? ty).map (·.size) = some k := by kernel_rfl) (hv : Value.agg ((cs.toList.drop f).take k).toArray = v := by kernel_rfl) (hk : Nat.ble (f + k) cs.size = true := by kernel_rfl) : Quiet P w0 F L o v :=
  Quiet.load i g f k t ty cs d x ho hx hL hu hd hi v hv (Nat.le_of_ble_eq_true hk)
theorem qc {x : Operand} {d : TypeDesc} {v : Value} {g : Nat} {t ty : TypeId} {cs : Array Value} (i f : Nat) (hL : L[i]? = some (g, t, cs)) (ho : o.op = .load ty x) (hu : P.underlying ty = some d) (hx : evF F x = .pointer (some ⟨g, f, none⟩) := by kernel_rfl)
    (hd : d.isRow = false := by rfl) (hv : cs[f]? = some v := by kernel_rfl) : Quiet P w0 F L o v :=
  Quiet.cell i g f t ty cs d x ho hx hL hu hd v hv
theorem qg {v : Value} {f : FuncId} {args : Array Value} (h : ∀ w, St w0 w L → Calls P f args w (Gets w v)) (he : ∀ w, (execOp (evF F) o).run P w = .ok (.enter f args) w := by intro _; kernel_rfl) : Quiet P w0 F L o v := Quiet.callS f args he h
theorem sw {g : Nat} {t : TypeId} {cs : Array Value} (i : Nat) (hL : L[i]? = some (g, t, cs)) (cs' : Array Value) (hm : Writes P F o g t cs cs') (h : wpS P w0 n ops Q (putF F o.dst undef) (L.set i (g, t, cs')) l) (hg : good ops n F o = true := by kernel_rfl) : wpS P w0 n ops Q F L (o :: l) := write hg i g t cs cs' hL hm h
theorem wA {x y : Operand} {g : Nat} {t ty : TypeId} {cs cells : Array Value} (ho : o.op = .store ty x y) (hx : evF F x = .pointer (some ⟨g, 0, none⟩) := by kernel_rfl) (hy : evF F y = .agg cells := by kernel_rfl)
    (hi : (P.info? ty).map (·.size) = some cells.size := by kernel_rfl) (hk : Nat.ble (0 + cells.size) cs.size = true := by kernel_rfl) (h1 : cells.all (·.oneCell') = true := by kernel_rfl) (hcs : setAll cs 0 cells.toList = cells := by kernel_rfl) : Writes P F o g t cs cells :=
  Writes.store 0 ty cells x y ho hx hy hi (Nat.le_of_ble_eq_true hk) h1 hcs
variable {ex : Nat → Bool} {fuel : Nat} {listed : Array Bool}
theorem sx {g : Nat} {t : TypeId} {cs : Array Value} (k : Nat) {oi : Oper} (hi0 : ops.toList[k]? = some oi) (i : Nat) (hL : L[i]? = some (g, t, cs)) (cs' : Array Value) (hm : Writes P F oi g t cs cs') (h : wpD P w0 n ops Q ex (putF F oi.dst undef) (L.set i (g, t, cs')) fuel (listed.setIfInBounds k true))
    (hr : Region.ready .any ops listed = [k] := by kernel_rfl) (hex : ex k = true := by rfl) (hg : good ops n F oi = true := by kernel_rfl) : wpD P w0 n ops Q ex F L (fuel + 1) listed := writeD k hi0 hr hex hg i g t cs cs' hL hm h
def Turns (w0 : Base) (R : Value → Blocks → Prop) (e : Ending) (w' : World) : Prop := ∃ v M, e = .returned v ∧ R v M ∧ St w0 w' M
theorem callT {f : FuncId} {args : Array Value} {R : Value → Blocks → Prop} (hc : ∀ w, St w0 w L → Calls P f args w (Turns w0 R)) (h : ∀ v M, R v M → wpS P w0 n ops Q (putF F o.dst v) M l) (he : ∀ w, (execOp (evF F) o).run P w = .ok (.enter f args) w := by intro _; kernel_rfl) (hg : good ops n F o = true := by kernel_rfl) : wpS P w0 n ops Q F L (o :: l) := fun a w ha hw => by
  obtain ⟨g1, _, g3, _⟩ := good_spec hg
  refine wpList_step fun K hK => ?_
  rw [if_pos (ha.wanted g1)]
  unfold Oper.wp
  rw [good_exec hg ha, he w]
  refine Calls.mono (hc w hw) fun e w' he' => ?_
  obtain ⟨v, M, rfl, hR, hM⟩ := he'
  exact hK _ _ (h v M hR _ _ (ha.put g3 v) hM)
abbrev Base.inn (w0 : Base) : Base := ⟨w0.world, w0.fz, [], Fence.wide, 9⟩
theorem St.inn {w : World} (h : St w0 w L) : St w0.inn w L := ⟨h.below, h.blk, h.apart, h.size, h.non⟩
theorem St.out {w : World} (h : St w0.inn w L) : St w0 w L := ⟨h.below, h.blk, h.apart, h.size, h.non⟩
theorem enterT {f : FuncId} {fn : Func} {c : Code} {args : List Value} {w : World} {R : Ending → World → Prop} (hw : St w0 w L) (hf : P.funcs[f]? = some fn) (hb : fn.body = some c) (hn : args.length ≤ fn.ntmps)
    (h : wpC P w0.inn fn.ntmps (bodyPost P fn R) (slotsOf 0 args) L c) : Calls P f args.toArray w R :=
  calls_of_wp hf hb (wpIn_wide.1 (h _ _ ⟨rfl, by simp; omega, fun i v hi => by
    have := (lookup_slotsOf args 0 i v hi).2
    rw [Nat.sub_zero] at this
    have hl := (List.getElem?_eq_some_iff.1 this).1
    rw [Array.getElem?_append_left (by simpa using hl)]
    simpa using this⟩ hw.inn))
theorem retT0 {fn : Func} {R : Value → Blocks → Prop} (hr : fn.results = #[]) (M : Blocks) (hM : ∀ w, St w0 w L → St w0 w M) (h : ∀ v, R v M) {e : Exit} (he : e = .ret ∨ e = .normal := by first | exact .inl rfl | exact .inr rfl) : X w0.inn n (bodyPost P fn (Turns w0 R)) F L e := fun a w ha hw => by
  have hx : a.defers = [] ∧ ∃ v, (results fn a.tmps).run P w = .ok v w ∧ Turns w0 R (.returned v) w := ⟨ha.1, _, results_none hr _ _ _, _, M, rfl, h _, hM w hw.out⟩
  rcases he with rfl | rfl <;> exact hx
theorem retT1 {fn : Func} {r : ResultVar} {v : Value} {R : Value → Blocks → Prop} (M : Blocks) (hr : fn.results = #[r]) (h : Has P F L r v) (hM : ∀ w, St w0 w L → St w0 w M) (hR : R v M) : X w0.inn n (bodyPost P fn (Turns w0 R)) F L .ret := fun a w ha hw => by
  refine bodyPost_ret (v := v) ?_ ha.1 ⟨v, M, rfl, hR, hM w hw.out⟩
  rcases Res.run h ha hw with ⟨t, rfl, e1⟩ | ⟨t, ty, ad, rfl, e1, e2⟩ <;> simp [results, Result.andThen, *]
theorem retT2 {fn : Func} {r s : ResultVar} {v u : Value} {R : Value → Blocks → Prop} (M : Blocks) (hr : fn.results = #[r, s]) (h : Has P F L r v) (k : Has P F L s u) (hM : ∀ w, St w0 w L → St w0 w M) (hR : R (.tuple #[v, u]) M) : X w0.inn n (bodyPost P fn (Turns w0 R)) F L .ret := fun a w ha hw => by
  refine bodyPost_ret (v := .tuple #[v, u]) ?_ ha.1 ⟨_, M, rfl, hR, hM w hw.out⟩
  rcases Res.run h ha hw with ⟨t, rfl, e1⟩ | ⟨t, ty, ad, rfl, e1, e2⟩ <;> rcases Res.run k ha hw with ⟨t', rfl, f1⟩ | ⟨t', ty', ad', rfl, f1, f2⟩ <;> simp [results, Result.andThen, *]
end
end Go.Proofs.YtgemfpnlnipfnaaGreat.Sy

end
section
namespace Go.Proofs.YtgemfpnlnipfnaaGreat.Sy
open Go.RowKit Go.Proofs.YtgemfpnlnipfnaaGreat

section
variable {P : Program} {w0 : Base} {n : Nat} {Q : Exit → Act → World → Prop} {F : Slots} {L : Blocks} {ops : Array Oper} {ex : Nat → Bool} {fuel : Nat} {listed : Array Bool}
def wpO (P : Program) (w0 : Base) (n : Nat) (ops : Array Oper) (Q : Exit → Act → World → Prop) (ex : Nat → Bool) (F : Slots) (L : Blocks) (fuel : Nat) (listed : Array Bool) (i : Nat) : Prop :=
  ∃ oi, ops[i]? = some oi ∧ wantedF ops F oi = some true ∧ ∀ a w, Fr w0.ds a n F → St w0 w L → ∀ w1, Gr w w1 → ∀ K : Act → World → Prop, (∀ a' w', (ex i = false → Gr w1 w') → wpAnyG P .any ops Q ex fuel (listed.setIfInBounds i true) a' w' → K a' w') → oi.wp P a w1 K Q
theorem anyOf (l : List Nat) (hr : Region.ready .any ops listed = l) (hl : l ≠ []) (h : ∀ i ∈ l, wpO P w0 n ops Q ex F L fuel listed i) : wpD P w0 n ops Q ex F L (fuel + 1) listed := fun a w ha hw w1 hw1 =>
  ⟨fun h0 => (hl (hr.symm.trans h0)).elim, fun m hm => by
    rw [hr] at hm
    obtain ⟨oi, ho, hg, hk⟩ := h m hm
    refine wpOp_step ho (fun K' hK => ?_)
    rw [if_pos (ha.wanted hg)]
    exact hk a w ha hw w1 hw1 K' (fun a' w' h1 h2 => hK a' w' ⟨h1, h2⟩)⟩
theorem each2 {p : Nat → Prop} {i j : Nat} (hi : p i) (hj : p j) : ∀ k ∈ [i, j], p k := fun k hk => by
  simp only [List.mem_cons, List.not_mem_nil, or_false] at hk
  rcases hk with rfl | rfl <;> assumption
theorem each3 {p : Nat → Prop} {i j m : Nat} (hi : p i) (hj : p j) (hm : p m) : ∀ k ∈ [i, j, m], p k := fun k hk => by
  simp only [List.mem_cons, List.not_mem_nil, or_false] at hk
  rcases hk with rfl | rfl | rfl <;> assumption
theorem each1 {p : Nat → Prop} {i : Nat} (hi : p i) : ∀ k ∈ [i], p k := fun k hk => by rw [List.mem_singleton.1 hk]; exact hi
theorem oneQuiet {i : Nat} {oi : Oper} (hi0 : ops.toList[i]? = some oi) (hg : good ops n F oi = true) (v : Value) (hq : Quiet P w0 F L oi v) (h : wpD P w0 n ops Q ex (putF F oi.dst v) L fuel (listed.setIfInBounds i true)) : wpO P w0 n ops Q ex F L fuel listed i :=
  ⟨oi, by simpa using hi0, (good_spec hg).1, fun a w ha hw w1 h1 K hK => by
    have hw1 := hw.gr h1
    have h0 := hq w1 hw1
    unfold Gives at h0
    unfold Oper.wp
    rw [good_exec hg ha]
    have last : ∀ w2, Gr w1 w2 → wpAnyG P .any ops Q ex fuel (listed.setIfInBounds i true) (a.put oi.dst v) w2 := fun w2 h2 => h _ _ (ha.put (good_spec hg).2.2.1 v) (hw1.gr h2)
    generalize (execOp (evF F) oi).run P w1 = r at *
    cases r with
    | ok x w' =>
      cases x <;> simp only [Oper.upon] at h0 ⊢
      case value u => rw [h0.1]; exact hK _ _ (fun _ => h0.2) (last _ h0.2)
      case skip => rw [← h0.1]; exact hK _ _ (fun _ => h0.2) (last _ h0.2)
      case enter f args =>
        refine Calls.mono h0 fun e w'' he => ?_
        rw [he.1]
        exact hK _ _ (fun _ => he.2) (last _ he.2)
    | halt x w' => cases x <;> exact h0.elim⟩
theorem oneMake {i : Nat} {oi : Oper} (hi0 : ops.toList[i]? = some oi) (hg : good ops n F oi = true) (t : TypeId) (cs : Array Value) (val : Nat → Value) (hm : Makes P F oi t cs val) (h : ∀ g, wpD P w0 n ops Q ex (putF F oi.dst (val g)) (L ++ [(g, t, cs)]) fuel (listed.setIfInBounds i true)) : wpO P w0 n ops Q ex F L fuel listed i :=
  ⟨oi, by simpa using hi0, (good_spec hg).1, fun a w ha hw w1 h1 K hK => by
    unfold Oper.wp
    rw [good_exec hg ha, hm w1]
    exact hK _ _ (fun _ => gr_alloc w1 _) (h w1.heap.size _ _ (ha.put (good_spec hg).2.2.1 _) ((hw.gr h1).add (gr_alloc w1 _) (Nat.le_refl _) (Blk.new w1 t cs)))⟩
end
end Go.Proofs.YtgemfpnlnipfnaaGreat.Sy

end
section
namespace Go.Proofs.YtgemfpnlnipfnaaGreat.Sy
open Go.RowKit Go.Proofs.YtgemfpnlnipfnaaGreat

theorem St.perm {w0 : Base} {w : World} {L M : Blocks} (h : St w0 w L) (p : L.Perm M) : St w0 w M :=
  ⟨h.below, fun g t cs hm => h.blk g t cs (p.mem_iff.2 hm), (p.map _).nodup_iff.1 h.apart, h.size, h.non⟩
theorem perm_at {α : Type _} {l m : List α} (is : List Nat) (hi : is.isPerm (List.range l.length) = true) (hm : is.map (fun i => l[i]?) = m.map some) : l.Perm m := by
  have h1 : (is.map (fun i => l[i]?)).Perm ((List.range l.length).map (fun i => l[i]?)) := (List.isPerm_iff.1 hi).map _
  have h2 : (List.range l.length).map (fun i => l[i]?) = l.map some := by
    refine List.ext_getElem (by simp) fun i h _ => ?_
    simp only [List.getElem_map, List.getElem_range]
    exact List.getElem?_eq_getElem (by simpa using h)
  rw [hm, h2] at h1
  have h3 := h1.filterMap id
  simpa [List.filterMap_map] using h3.symm
section
variable {P : Program} {w0 : Base} {n : Nat} {Q : Exit → Act → World → Prop} {F : Slots} {L : Blocks} {ops : Array Oper} {ex : Nat → Bool} {fuel : Nat} {listed : Array Bool}
theorem oneCallN {i : Nat} {oi : Oper} (hi0 : ops.toList[i]? = some oi) (hg : good ops n F oi = true) (f : FuncId) (args : Array Value) (he : ∀ w, (execOp (evF F) oi).run P w = .ok (.enter f args) w) (R : Value → Blocks → Prop)
    (hc : ∀ w, St w0 w L → Calls P f args w (GetsN w R)) (h : ∀ v M, R v M → wpD P w0 n ops Q ex (putF F oi.dst v) (L ++ M) fuel (listed.setIfInBounds i true)) : wpO P w0 n ops Q ex F L fuel listed i :=
  ⟨oi, by simpa using hi0, (good_spec hg).1, fun a w ha hw w1 h1 K hK => by
    unfold Oper.wp
    rw [good_exec hg ha, he w1]
    refine Calls.mono (hc w1 (hw.gr h1)) fun e w' he' => ?_
    obtain ⟨v, M, rfl, hR, hb, hM, hn⟩ := he'
    exact hK _ _ (fun _ => hb) (h v M hR _ _ (ha.put (good_spec hg).2.2.1 v) ((hw.gr h1).addN hb hM hn))⟩
theorem joinG {T : Type} (FF : T → Slots) (LL : T → Blocks) (H : T → Prop) (fu : Nat) (li : Array Bool) {fuel' : Nat} (h : ∀ x, H x → wpD P w0 n ops Q ex (FF x) (LL x) fu li) (k : (∀ x, H x → wpD P w0 n ops Q ex (FF x) (LL x) fu li) → wpD P w0 n ops Q ex F L fuel' listed) : wpD P w0 n ops Q ex F L fuel' listed := k h
end
end Go.Proofs.YtgemfpnlnipfnaaGreat.Sy

end
section
namespace Go.Proofs.YtgemfpnlnipfnaaGreat.Sy
open Go.RowKit Go.Proofs.YtgemfpnlnipfnaaGreat
section
variable {P : Program} {w0 fz0 : World} {n : Nat} {Q : Exit → Act → World → Prop} {F : Slots} {L : Blocks}
abbrev ib (w0 fz : World) : Base := ⟨w0, fz, [], Fence.wide, 8⟩
def APZ {Z : Type} (w0 fz : World) (l n : Nat) (FA : Z → Slots) (LA : Z → Blocks) : Exit → Act → World → Prop
  | .normal, a, w => ∃ z, Fr [] a n (FA z) ∧ St (rb w0 fz l) w (LA z)
  | _, _, _ => False
def BPZ {Y : Type} (w0 fz : World) (l : Nat) (HR : Y → Prop) (LR : Y → Blocks) : Exit → Act → World → Prop
  | .normal, _, w => ∃ y, HR y ∧ St (rb w0 fz l) w (LR y)
  | _, _, _ => False
def RoundT {Y : Type} (w0 fz : World) (HR : Y → Prop) (LR : Y → Blocks) (e : Ending) (w : World) : Prop := e = .returned (.bool true) ∧ ∃ y, HR y ∧ St (ib w0 fz) w (LR y)
def DoneT {Y : Type} (w0 fz : World) (HD : Y → Prop) (LD : Y → Blocks) (e : Ending) (w : World) : Prop := (∃ v, e = .returned v) ∧ ∃ y, HD y ∧ St (ib w0 fz) w (LD y)
theorem rangeT {α Y Z : Type} {g : Operand} {ps : Array Tmp} {assign body : Code} (gf : Nat) (lb : Array Value) (hgi : inF F g = true) (hg : evF F g = .func (.func gf) #[] lb) (eg : ∀ args w, (callFunc gf args).run P w = .ok (.enter gf args) w)
    (encs : α → Array Value) (hps : ∀ x, (encs x).size = ps.size) (hpn : ∀ p ∈ ps.toList, p < n)
    (HY : α → Y → Prop) (LY : α → Y → Blocks) (FA : α → Y → Z → Slots) (LA : α → Y → Z → Blocks) (HR : α → Y → Y → Prop) (LR : Y → Blocks) (HD : Y → Prop) (LD : Y → Blocks)
    (hiter : ∀ l fz w, St (ib w0 fz) w L → (∀ x y W, HY x y → St (ib w0 fz) W (LY x y) → YieldAt Fence.wide 7 P l (encs x) W (RoundT w0 fz (HR x y) LR)) → CallsIn Fence.wide 8 P gf (#[.func (.yield l) #[] #[]] ++ lb) w (DoneT w0 fz HD LD))
    (hassign : ∀ l fz x y, HY x y → wpC P (rb w0 fz l) n (APZ w0 fz l n (FA x y) (LA x y)) (roundF F ps (encs x)) (LY x y) assign)
    (hbody : ∀ l fz x y z, HY x y → wpC P (rb w0 fz l) n (BPZ w0 fz l (HR x y) LR) (FA x y z) (LA x y z) body)
    (hdone : ∀ D fz y, HD y → w0.heap.size ≤ D → fz0.heap.size ≤ D → fz.heap[D]? = some (.deferred (some [])) → St ⟨w0, fz0, [], Fence.wide, 9⟩ fz (LD y) → X (ab w0 fz D) n Q F (LD y) .normal) :
    wpC P ⟨w0, fz0, [], Fence.wide, 9⟩ n Q F L (.rangeFunc g ps assign body) := by
  intro a w ha hw
  refine wpIn_rangeFunc ?_
  intro fn hfn
  have hsz : fz0.heap.size ≤ w.heap.size := hw.size
  have hsz0 : w0.heap.size ≤ w.heap.size := hw.below.size
  have had : a.defers = [] := ha.1
  obtain ⟨rec, hrec⟩ : ∃ rec : LoopState → Option Code → Loop, rec = fun st pe => { state := st, pending := pe, fn, tmps := a.tmps, params := ps, assign, body, defers := w.heap.size } := ⟨_, rfl⟩
  obtain ⟨W1, hW1⟩ : ∃ W1, (w.alloc (.deferred (some []))).alloc (.loop (rec .ready none)) = W1 := ⟨_, rfl⟩
  have hL1 : W1.heap[w.heap.size + 1]? = some (.loop (rec .ready none)) := by
    rw [← hW1]; have := World.alloc_heap_new (w.alloc (.deferred (some []))) (.loop (rec .ready none)); rwa [World.size_alloc] at this
  have hK1 : W1.heap[w.heap.size]? = some (.deferred (some [])) := by
    rw [← hW1]; exact (Below.heap_alloc _ _ _ (by simp)).trans (World.alloc_heap_new w _)
  have hI1 : St ⟨w0, fz0, [], Fence.wide, 9⟩ W1 L := by rw [← hW1]; exact (hw.gr (gr_alloc w _)).gr (gr_alloc _ _)
  refine ⟨w.heap.size + 1, [{ target := .collected w.heap.size, args := #[] }], W1, { target := .fn (.func gf) lb, args := #[.func (.yield (w.heap.size + 1)) #[] #[]] }, W1, gf,
    #[.func (.yield (w.heap.size + 1)) #[] #[]] ++ lb, W1, ?_, ?_, ?_, ?_, fun _ => (show 1 ≤ 9 by decide), ?_⟩
  · rw [← hW1, hrec]; exact run_enterLoop_outer _ _ _ _ _
  · have he : a.eval g = .func (.func gf) #[] lb := (ha.eval hgi).trans hg
    simp only [resolve, he]
    simp [go_sem]
  · intro f' hf'; simp [Target.leads] at hf'; subst hf'; trivial
  · simp [invoke, go_sem, eg]
  · refine (hiter (w.heap.size + 1) W1 W1 (hI1.refix _ _ _) ?_).mono ?_
    · intro x y W hH hW
      have hWb : St ⟨w0, fz0, [], Fence.wide, 9⟩ W (LY x y) := hI1.back hW _ _ _
      have hl : W.heap[w.heap.size + 1]? = some (.loop (rec .ready none)) := hW.non _ _ (by show w0.heap.size ≤ _; omega) hL1 rfl
      have hy := run_yield (P := P) (args := encs x) hl (by rw [hrec]; exact hps x)
      rw [hrec] at hy
      have hfr : Fr [] { tmps := (ps.zip (encs x)).foldl (fun t (p, v) => t.setIfInBounds p v) a.tmps, defers := [] } n (roundF F ps (encs x)) := by
        have h1 : Fr [] { tmps := a.tmps, defers := [] } n F := ⟨rfl, ha.2.1, ha.2.2⟩
        have h2 := Fr.round (ps.toList.zip (encs x).toList) (fun y hy => hpn y.1 (List.of_mem_zip hy).1) h1
        have e : (ps.zip (encs x)).foldl (fun t (p, v) => t.setIfInBounds p v) a.tmps = (ps.toList.zip (encs x).toList).foldl (fun t x => t.setIfInBounds x.1 x.2) a.tmps := by
          rw [← Array.foldl_toList, Array.toList_zip]
        rw [e]
        exact h2
      refine ⟨fn, _, assign, body, hy, roundIn_of_wpIn hfn (wpIn_mono (hassign (w.heap.size + 1) W x y hH _ W hfr (hWb.refix _ _ _)) fun e a1 w1 hq => ?_)⟩
      cases e with
      | normal =>
        obtain ⟨z, h1, h2⟩ := hq
        have hl1 : w1.heap[w.heap.size + 1]? = some (.loop (rec .ready none)) := h2.non _ _ (by show w0.heap.size ≤ _; omega) hl rfl
        have h2b : St ⟨w0, fz0, [], Fence.wide, 9⟩ w1 (LA x y z) := hWb.back h2 _ _ _
        obtain ⟨w2, hw2⟩ : ∃ w2, w1.putObj (w.heap.size + 1) (.loop { rec .ready none with state := .busy }) = w2 := ⟨_, rfl⟩
        have hlt1 : w.heap.size + 1 < w1.heap.size := (Array.getElem?_eq_some_iff.1 hl1).1
        have hl2 : w2.heap[w.heap.size + 1]? = some (.loop { rec .ready none with state := .busy }) := by rw [← hw2]; exact World.putObj_heap_same hlt1
        have h3b : St ⟨w0, fz0, [], Fence.wide, 9⟩ w2 (LA x y z) := by
          rw [← hw2]
          exact St.own h2b hsz hsz0 (grownBy_putObj' _ _ _) (fun r e => by cases e; exact ⟨by omega, _, hl1, rfl⟩)
        refine ⟨w2, by rw [← hw2]; exact run_beginRound hl1 (by rw [hrec]), ?_⟩
        refine wpIn_mono (hbody (w.heap.size + 1) w2 x y z hH a1 w2 h1 (h3b.refix _ _ _)) fun e a3 w3 hq => ?_
        cases e with
        | normal =>
          obtain ⟨y', hR, h4⟩ := hq
          have h4b : St ⟨w0, fz0, [], Fence.wide, 9⟩ w3 (LR y') := h3b.back h4 _ _ _
          have hl3 : w3.heap[w.heap.size + 1]? = some (.loop { rec .ready none with state := .busy }) := h4.non _ _ (by show w0.heap.size ≤ _; omega) hl2 rfl
          have hr := run_endRound (P := P) none hl3
          rw [hrec] at hr
          have hlt3 : w.heap.size + 1 < w3.heap.size := (Array.getElem?_eq_some_iff.1 hl3).1
          have h5b : St ⟨w0, fz0, [], Fence.wide, 9⟩ (w3.putObj (w.heap.size + 1) (.loop (rec .ready none))) (LR y') :=
            St.own h4b hsz hsz0 (grownBy_putObj' _ _ _) (fun r e => by cases e; exact ⟨by omega, _, hl3, rfl⟩)
          have hg3 := grownBy_putObj' w3 (w.heap.size + 1) (.loop (rec .ready none))
          refine ⟨_, _, hr, rfl, y', hR, ?_⟩
          rw [hrec] at h5b
          refine ⟨h5b.below, h5b.blk, h5b.apart, ?_, fun k o hk ho hc => ?_⟩
          · have q1 : W1.heap.size ≤ W.heap.size := hW.size
            have q2 : W.heap.size ≤ w1.heap.size := h2.size
            have q3 : w1.heap.size ≤ w2.heap.size := by rw [← hw2]; exact (grownBy_putObj' _ _ _).size
            have q4 : w2.heap.size ≤ w3.heap.size := h4.size
            have q5 := hg3.size
            rw [hrec] at q5
            exact Nat.le_trans q1 (Nat.le_trans q2 (Nat.le_trans q3 (Nat.le_trans q4 q5)))
          · by_cases e : k = w.heap.size + 1
            · subst e
              rw [hL1] at ho
              cases ho
              rw [hrec]
              exact World.putObj_heap_same hlt3
            · have e1 : W.heap[k]? = some o := hW.non k o hk ho hc
              have e2 : w1.heap[k]? = some o := h2.non k o hk e1 hc
              have e3 : w2.heap[k]? = some o := by rw [← hw2]; exact (World.putObj_heap_other e).trans e2
              have e4 : w3.heap[k]? = some o := h4.non k o hk e3 hc
              exact (World.putObj_heap_other e).trans e4
        | _ => exact hq.elim
      | _ => exact hq.elim
    · rintro e W2 ⟨⟨v, rfl⟩, y, hD, hS⟩
      have hl : W2.heap[w.heap.size + 1]? = some (.loop (rec .ready none)) := hS.non _ _ (by show w0.heap.size ≤ _; omega) hL1 rfl
      have hk : W2.heap[w.heap.size]? = some (.deferred (some [])) := hS.non _ _ (by show w0.heap.size ≤ _; omega) hK1 rfl
      have hSb : St ⟨w0, fz0, [], Fence.wide, 9⟩ W2 (LD y) := hI1.back hS _ _ _
      obtain ⟨ob, hob⟩ : ∃ ob, (Instr.endLoop (w.heap.size + 1)).run P W2 = .ok none (W2.putObj (w.heap.size + 1) ob) := ⟨_, by have := run_endLoop (P := P) hl (by rw [hrec]; simp); rw [hrec] at this; exact this⟩
      refine ⟨none, _, hob, ?_⟩
      have h4 : St ⟨w0, fz0, [], Fence.wide, 9⟩ (W2.putObj (w.heap.size + 1) ob) (LD y) := St.own hSb hsz hsz0 (grownBy_putObj' _ _ _) (fun r e => by cases e; exact ⟨by omega, _, hl, rfl⟩)
      have h5 : (W2.putObj (w.heap.size + 1) ob).heap[w.heap.size]? = some (.deferred (some [])) := (World.putObj_heap_other (by omega)).trans hk
      exact hdone w.heap.size _ y hD hsz0 hsz h5 h4 _ _ ⟨by simp [had], ha.2.1, ha.2.2⟩ (h4.refix _ _ _)
theorem enterI {f : FuncId} {fn : Func} {c : Code} {args : List Value} {w : World} {R : Ending → World → Prop} (hw : St (ib w0 fz0) w L) (hf : P.funcs[f]? = some fn) (hb : fn.body = some c) (hn : args.length ≤ fn.ntmps)
    (h : wpC P (ib w0 fz0) fn.ntmps (bodyPost P fn R) (slotsOf 0 args) L c) : CallsIn Fence.wide 8 P f args.toArray w R :=
  callsIn_of_wp hf hb trivial (h _ _ ⟨rfl, by simp; omega, fun i v hi => by
    have := (lookup_slotsOf args 0 i v hi).2
    rw [Nat.sub_zero] at this
    have hl := (List.getElem?_eq_some_iff.1 this).1
    rw [Array.getElem?_append_left (by simpa using hl)]
    simpa using this⟩ hw) rfl
theorem retI {fn : Func} {R : Ending → World → Prop} (hr : fn.results = #[]) (h : ∀ v w, St (ib w0 fz0) w L → R (.returned v) w) {e : Exit} (he : e = .ret ∨ e = .normal) : X (ib w0 fz0) n (bodyPost P fn R) F L e := fun a w ha hw => by
  have hx : a.defers = [] ∧ ∃ v, (results fn a.tmps).run P w = .ok v w ∧ R (.returned v) w := ⟨ha.1, _, results_none hr _ _ _, h _ w hw⟩
  rcases he with rfl | rfl <;> exact hx
variable {ops : Array Oper} {o : Oper} {rest : List Oper}
theorem regionI {i : Nat} (k : Nat) (hq : ¬ LetsOut Q) (hd : noDefer ops = true) (h : wpS P (ib w0 fz0) n ops (thenI P ops 8 (ops.toList.drop k) Q) F L (ops.toList.take k)) : wpC P (ib w0 fz0) n Q F L (.region i ops false) := fun a w ha hw => by
  refine wpIn_region_list ?_
  have h1 := listIn_app hq (ops.toList.take k) (fun o ho => noDefer_mem hd (List.mem_of_mem_take ho)) a w (h a w ha hw)
  rwa [List.take_append_drop] at h1
theorem yieldI {Y : Type} {HR : Y → Prop} {LR : Y → Blocks} {k : Nat} (hl : ops.toList.drop k = o :: rest) (hq : ¬ LetsOut Q) (hd : noDefer ops = true) (hg : good ops n F o = true) (l : Nat) (args : Array Value) (he : ∀ w, (execOp (evF F) o).run P w = (Instr.yield l args).run P w)
    (hY : ∀ w, St (ib w0 fz0) w L → YieldAt Fence.wide 7 P l args w (RoundT w0 fz0 HR LR)) (h : ∀ y, HR y → wpS P (ib w0 fz0) n ops Q (putF F o.dst (.bool true)) (LR y) rest) : X (ib w0 fz0) n (thenI P ops 8 (ops.toList.drop k) Q) F L .normal := fun a w ha hw => by
  show wpListIn Fence.wide 8 P ops Q (ops.toList.drop k) a w
  have hdr : ∀ o ∈ ops.toList.drop k, ∀ c, o.op ≠ .defer c := fun o ho => noDefer_mem hd (List.mem_of_mem_drop ho)
  rw [hl] at hdr ⊢
  obtain ⟨g1, _, g3, _⟩ := good_spec hg
  unfold wpListIn
  rw [if_pos (ha.wanted g1)]
  unfold Oper.wpIn
  refine ⟨fun _ _ => trivial, ?_⟩
  rw [Oper.semAt_plain _ _ _ (hdr o (by simp)), good_exec hg ha, he w]
  obtain ⟨fn, tmps, assign, body, e1, e2⟩ := hY w hw
  rw [e1]
  refine ⟨fun e => by simp [Fence.wide] at e, e2.mono fun e w' hr => ?_⟩
  obtain ⟨rfl, y, hy, hS⟩ := hr
  exact listIn_wide hq rest (fun o ho => hdr o (by simp [ho])) _ _ (h y hy _ _ (ha.put g3 _) hS)
theorem enterTM {b0 : Base} {f : FuncId} {fn : Func} {c : Code} {args : List Value} {w : World} {R : Ending → World → Prop} (hw : St b0 w L) (hf : P.funcs[f]? = some fn) (hb : fn.body = some c) (hn : args.length ≤ fn.ntmps)
    (h : wpC P b0.inn fn.ntmps (bodyPostM Fence.wide 9 P fn R) (slotsOf 0 args) L c) : Calls P f args.toArray w R :=
  (callsIn_wide (n := 9)).1 (callsIn_of_wp_marks hf hb trivial (h _ _ ⟨rfl, by simp; omega, fun i v hi => by
    have := (lookup_slotsOf args 0 i v hi).2
    rw [Nat.sub_zero] at this
    have hl := (List.getElem?_eq_some_iff.1 this).1
    rw [Array.getElem?_append_left (by simpa using hl)]
    simpa using this⟩ hw.inn) rfl)
theorem retTM1 {b0 : Base} {L0 M : Blocks} {fz : World} {D : Nat} {fn : Func} {r : ResultVar} {v : Value} {R : Value → Blocks → Prop} (hr : fn.results = #[r]) (h : Has P F L r v) (hM : ∀ w, St b0 w L → St b0 w M) (hR : R v M) (hD : b0.world.heap.size ≤ D) (hD2 : b0.fz.heap.size ≤ D) (hm : fz.heap[D]? = some (.deferred (some []))) (h0 : St b0 fz L0) : X (ab b0.world fz D) n (bodyPostM Fence.wide 9 P fn (Turns b0 R)) F L .ret := fun a w ha hw => by
  have ho := hw.non D _ hD hm rfl
  have hg := grownBy_putObj' w D (.deferred none)
  have h1 : St b0 w L := h0.back hw b0.ds b0.fence b0.room
  have h2 : St b0 (w.putObj D (.deferred none)) L := h1.own (B := D) hD2 hD hg (fun r e => by cases e; exact ⟨Nat.le_refl _, _, ho, rfl⟩)
  have hd : a.defers = [mark D] := ha.1
  show LeavesInM Fence.wide 9 P fn a.tmps (Turns b0 R) a.defers .returning w
  rw [hd]
  refine ⟨by simp, .inl ⟨D, _, rfl, run_takeDeferred ho, ?_⟩⟩
  refine ⟨v, ?_, v, M, rfl, hR, hM _ h2⟩
  rcases Res.run h ha h2 with ⟨t, rfl, f1⟩ | ⟨t, ty, ad, rfl, f1, f2⟩ <;> simp [results, Result.andThen, *]
end
end Go.Proofs.YtgemfpnlnipfnaaGreat.Sy

end
section
namespace Go.Proofs.YtgemfpnlnipfnaaGreat.Sy
open Go.RowKit Go.Proofs.YtgemfpnlnipfnaaGreat
section
variable {P : Program} {w0 : Base} {n : Nat} {Q : Exit → Act → World → Prop} {F : Slots} {L : Blocks} {ops : Array Oper} {o : Oper} {l : List Oper}
def From (w0 : Base) (L : Blocks) (A : Option Addr) (news : List Value) : Prop := ∀ w, St w0 w L → (news = [] ∨ ∃ a, A = some a ∧ ∀ j u, news[j]? = some u → w.cell? (a.add j) = some u)
theorem From.blk {i g f : Nat} {t : TypeId} {cs : Array Value} {news : List Value} (hL : L[i]? = some (g, t, cs)) (hn : (cs.toList.drop f).take news.length = news) : From w0 L (some ⟨g, f, none⟩) news := fun w hw =>
  .inr ⟨_, rfl, fun j u hj => by
    rw [addr_off]
    exact blk_range (hw.get hL) hn j u hj⟩
theorem appendG (hg : good ops n F o = true) (ts e : TypeId) (inf : TypeInfo) (z : Value) (sz by_ : Nat) (ht : P.underlying ts = some (.slice e)) (hinf : P.info? e = some inf) (hz : inf.zero = some z) (hs1 : inf.size = sz) (hb1 : inf.bytes = by_) (hzs : z.cells.size = sz) (h0 : 0 < sz)
    (s x : Operand) (ho : o.op = .call { callee := .builtin .append, args := #[s, x], argTypes := #[ts, ts] })
    (i g len cap : Nat) (old sp : List Value) (hs : evF F s = .slice (some ⟨g, 0, none⟩) len cap) (hL : L[i]? = some (g, e, (old ++ sp).toArray)) (hlen : old.length = len * sz) (hsp : sp.length + len * sz = cap * sz) (hmax : cap ≤ maxLen)
    (A : Option Addr) (m c : Nat) (news : List Value) (hx : evF F x = .slice A m c) (hf : From w0 L A news) (hm : news.length = m * sz) (hmc : m ≤ c) (h1 : ∀ u ∈ news, u.oneCell' = true) (hsmall : (len + m) * by_ ≤ 140737488355328) (h63 : len + m ≤ maxLen)
    (h : ∀ (g' cap' : Nat) (sp' : List Value), sp'.length + (len + m) * sz = cap' * sz → len + m ≤ cap' → cap' ≤ maxLen → wpS P w0 n ops Q (putF F o.dst (.slice (some ⟨g', 0, none⟩) (len + m) cap')) (L.set i (g', e, (old ++ news ++ sp').toArray)) l) : wpS P w0 n ops Q F L (o :: l) := fun a w ha hw => by
  obtain ⟨k1, _, k3, _⟩ := good_spec hg
  refine wpList_step fun K hK => ?_
  rw [if_pos (ha.wanted k1)]
  have hb := hw.get hL
  have hle : len ≤ cap := Nat.le_of_mul_le_mul_right (by omega) h0
  have step : ∀ v' w', (Builtin.append_ #[ts, ts] o.type #[.slice (some ⟨g, 0, none⟩) len cap, .slice A m c]).run P w = .ok v' w' → K (a.put o.dst v') w' → o.wp P a w K Q := fun v' w' hr hk => by
    unfold Oper.wp
    rw [good_exec hg ha]
    unfold execOp
    simp only [ho, resolve, invoke, builtin, Sem.run_bind, Sem.run_pure, Result.andThen_ok, List.map_toArray, List.map_cons, List.map_nil, hs, hx, hr]
    exact hk
  rcases hf w hw with rfl | ⟨ad, rfl, hn⟩
  · have hm0 : m = 0 := by
      rcases Nat.eq_zero_or_pos m with h | h
      · exact h
      · have := Nat.mul_pos h h0
        simp at hm
        omega
    subst hm0
    have hr : (Builtin.append_ #[ts, ts] o.type #[.slice (some ⟨g, 0, none⟩) len cap, .slice A 0 c]).run P w = .ok (.slice (some ⟨g, 0, none⟩) len cap) w := by
      have hfc : (Builtin.firstCells inf.size 0 (.slice A 0 c)).run P w = .ok #[] w := by
        cases A with
        | none => simp [Builtin.firstCells, Sem.run_pure]
        | some a => simpa using run_firstCells_some (P := P) w inf.size 0 a 0 c [] (by simp) (fun j u hj => by cases hj)
      have hst : ∀ a : Addr, (storeCells a []).run P w = .ok () w := fun a => by simp [storeCells, Sem.run_pure]
      simp [Builtin.append_, run_underlying ht, sizeOf, typeInfo, hinf, hle, Builtin.lenOf, hfc, hst]
    refine step _ w hr ?_
    have hset : L.set i (g, e, (old ++ [] ++ sp).toArray) = L := by
      rw [List.append_nil]
      refine List.ext_getElem? fun j => ?_
      rw [List.getElem?_set]
      by_cases e' : i = j
      · subst e'
        rw [if_pos rfl, if_pos (List.getElem?_eq_some_iff.1 hL).1, hL]
      · rw [if_neg e']
    refine hK _ _ (h g cap sp (by simpa using hsp) (by omega) hmax _ _ (ha.put k3 _) ?_)
    rw [hset]
    exact hw
  · have hown : w.ownsRow 0 e sz (.slice (some ⟨g, 0, none⟩) len cap) len old := ⟨hlen, .inr ⟨g, cap, _, rfl, Nat.zero_le _, hb, hle, hmax, by rw [List.size_toArray, List.length_append]; omega, by show (old ++ sp).take _ = old; rw [List.take_left' hlen]⟩⟩
    have last : ∀ (w' : World) (g' cap' : Nat) (cur : Array Value), cur.size = cap' * sz → len + m ≤ cap' → cap' ≤ maxLen → cur.toList.take ((len + m) * sz) = old ++ news → St w0 w' (L.set i (g', e, cur)) → K (a.put o.dst (.slice (some ⟨g', 0, none⟩) (len + m) cap')) w' := fun w' g' cap' cur h2 h2' h3 h4 h5 => by
      have hc : cur = (old ++ news ++ cur.toList.drop ((len + m) * sz)).toArray := by
        rw [← h4, List.take_append_drop]
      rw [hc] at h5
      refine hK _ _ (h g' cap' _ ?_ h2' h3 _ _ (ha.put k3 _) h5)
      have h6 := Nat.mul_le_mul_right sz h2'
      rw [List.length_drop, Array.length_toList, h2]
      omega
    rcases Nat.lt_or_ge cap (len + m) with hlt | hge
    · obtain ⟨v', w', hr, hrow, hgr⟩ := run_append_arg_grows (P := P) w ts o.type e inf z sz by_ ht hinf hz hs1 hb1 hzs h0 ⟨g, 0, none⟩ len cap old hlen (hown.cells (g := g) rfl) ad m c news hm hn hlt h63 hsmall
      refine step v' w' hr ?_
      rcases hrow.2 with ⟨rfl, h0'⟩ | ⟨g', cap', cur, rfl, q1, q2, q3, q4, q5, q6⟩
      · omega
      · exact last w' g' cap' cur q5 q3 q4 q6 (hw.setNew (⟨hgr.os, hgr.tape, hgr.output, hgr.size, fun k hk => hgr.block k hk (by simp)⟩) (List.getElem?_eq_some_iff.1 hL).1 q1 q2)
    · obtain ⟨w', hr, hrow, hgr⟩ := run_append_own_spare (P := P) w 0 ts o.type e inf sz ht hinf hs1 g len cap old hown ad m c news hm hn h1 hge
      refine step _ w' hr ?_
      rcases hrow.2 with ⟨h0', _⟩ | ⟨g', cap', cur, hv, _, q2, q3, q4, q5, q6⟩
      · cases h0'
      · cases hv
        exact last w' g cap cur q5 q3 q4 q6 (hw.set hL hgr q2)
theorem appendGNil (hg : good ops n F o = true) (ts e : TypeId) (inf : TypeInfo) (z : Value) (sz by_ : Nat) (ht : P.underlying ts = some (.slice e)) (hinf : P.info? e = some inf) (hz : inf.zero = some z) (hs1 : inf.size = sz) (hb1 : inf.bytes = by_) (hzs : z.cells.size = sz) (h0 : 0 < sz)
    (s x : Operand) (ho : o.op = .call { callee := .builtin .append, args := #[s, x], argTypes := #[ts, ts] }) (hs : evF F s = .slice none 0 0)
    (A : Option Addr) (m c : Nat) (news : List Value) (hx : evF F x = .slice A m c) (hf : From w0 L A news) (hm : news.length = m * sz) (hm0 : 0 < m) (h1 : ∀ u ∈ news, u.oneCell' = true) (hsmall : m * by_ ≤ 140737488355328) (h63 : m ≤ maxLen)
    (h : ∀ (g' cap' : Nat) (sp' : List Value), sp'.length + m * sz = cap' * sz → m ≤ cap' → cap' ≤ maxLen → wpS P w0 n ops Q (putF F o.dst (.slice (some ⟨g', 0, none⟩) m cap')) (L ++ [(g', e, (news ++ sp').toArray)]) l) : wpS P w0 n ops Q F L (o :: l) := fun a w ha hw => by
  obtain ⟨k1, _, k3, _⟩ := good_spec hg
  refine wpList_step fun K hK => ?_
  rw [if_pos (ha.wanted k1)]
  rcases hf w hw with rfl | ⟨ad, rfl, hn⟩
  · have := Nat.mul_pos hm0 h0
    simp at hm
    omega
  obtain ⟨v', w', hr, hrow, hgr, hnil⟩ := run_append_own (P := P) w w.heap.size ts o.type e inf z sz by_ ht hinf hz hs1 hb1 hzs h0 (.slice none 0 0) 0 [] (World.ownsRow_nil w _ e sz) ad m c news hm hn h1 (by omega) (by rw [Nat.zero_add]; exact hsmall) (Nat.le_refl _)
  rcases hrow.2 with ⟨_, h0'⟩ | ⟨g', cap', cur, rfl, q1, q2, q3, q4, q5, q6⟩
  · omega
  have q6' : cur.toList.take (m * sz) = news := by simpa using q6
  unfold Oper.wp
  rw [good_exec hg ha]
  unfold execOp
  simp only [ho, resolve, invoke, builtin, Sem.run_bind, Sem.run_pure, Result.andThen_ok, List.map_toArray, List.map_cons, List.map_nil, hs, hx, hr]
  have hc : cur = (news ++ cur.toList.drop (m * sz)).toArray := by rw [← q6', List.take_append_drop]
  rw [hc] at q2
  rw [Nat.zero_add] at q3 ⊢
  refine hK _ _ (h g' cap' _ ?_ q3 q4 _ _ (ha.put k3 _) (hw.add (⟨hgr.os, hgr.tape, hgr.output, hgr.size, fun k hk => hgr.block k hk (by simp [Value.ownBlock])⟩) q1 q2))
  have h6 := Nat.mul_le_mul_right sz q3
  rw [List.length_drop, Array.length_toList, q5]
  omega
theorem permC {c : Code} {M : Blocks} (p : L.Perm M) (h : wpC P w0 n Q F M c) : wpC P w0 n Q F L c := fun a w ha hw => h a w ha (hw.perm p)
theorem permS {M : Blocks} (p : L.Perm M) (h : wpS P w0 n ops Q F M l) : wpS P w0 n ops Q F L l := fun a w ha hw => h a w ha (hw.perm p)
end
end Go.Proofs.YtgemfpnlnipfnaaGreat.Sy

end
section
namespace Go.Proofs.YtgemfpnlnipfnaaGreat.Ec
variable {n : Nat} [NeZero n]

variable {inv : Fin n → Fin n}

end Go.Proofs.YtgemfpnlnipfnaaGreat.Ec

end
section
namespace Go.Proofs.YtgemfpnlnipfnaaGreat.Ec
variable {n : Nat} [NeZero n] {inv : Fin n → Fin n}

end Go.Proofs.YtgemfpnlnipfnaaGreat.Ec

end
section
namespace Go.Proofs.YtgemfpnlnipfnaaGreat
open Go.RowKit Go.Lib

namespace M64
end M64

end Go.Proofs.YtgemfpnlnipfnaaGreat

end
section
namespace Go.Proofs.YtgemfpnlnipfnaaGreat
open Go.RowKit Go.Lib

end Go.Proofs.YtgemfpnlnipfnaaGreat

end
section
namespace Go.Proofs.YtgemfpnlnipfnaaGreat
open Go.RowKit Go.Lib

end Go.Proofs.YtgemfpnlnipfnaaGreat

end
section
namespace Go.Proofs.YtgemfpnlnipfnaaGreat
open Go.RowKit Go.Lib

end Go.Proofs.YtgemfpnlnipfnaaGreat

end
section
namespace Go.Proofs.YtgemfpnlnipfnaaGreat
open Go.RowKit Go.Lib

end Go.Proofs.YtgemfpnlnipfnaaGreat

end
section
namespace Go.Proofs.YtgemfpnlnipfnaaGreat.Nt

end Go.Proofs.YtgemfpnlnipfnaaGreat.Nt

end
section
namespace Go.Proofs.YtgemfpnlnipfnaaGreat
open Go.RowKit Go.Lib

end Go.Proofs.YtgemfpnlnipfnaaGreat

end
section
namespace Go.Proofs.YtgemfpnlnipfnaaGreat
open Go.RowKit Go.Lib

end Go.Proofs.YtgemfpnlnipfnaaGreat

end
section
namespace Go.Proofs.YtgemfpnlnipfnaaGreat
open Go.RowKit Go.Lib

end Go.Proofs.YtgemfpnlnipfnaaGreat

end
section
namespace Go.Proofs.YtgemfpnlnipfnaaGreat
open Go.RowKit Go.Lib

end Go.Proofs.YtgemfpnlnipfnaaGreat

end
section
namespace Go.Proofs.YtgemfpnlnipfnaaGreat
open Go.RowKit Go.Lib

end Go.Proofs.YtgemfpnlnipfnaaGreat

end
section
namespace Go.Proofs.YtgemfpnlnipfnaaGreat.Cu
open Go.RowKit Go.Proofs.YtgemfpnlnipfnaaGreat Go.Proofs.YtgemfpnlnipfnaaGreat.Sy

instance npM : NeZero pM := ⟨by unfold pM; decide⟩
end Go.Proofs.YtgemfpnlnipfnaaGreat.Cu

end
section
namespace Go.Proofs.YtgemfpnlnipfnaaGreat.Nm
open Go.RowKit Go.Lib

end Go.Proofs.YtgemfpnlnipfnaaGreat.Nm

end
section
namespace Go.Proofs.YtgemfpnlnipfnaaGreat.Cu
open Go.RowKit Go.Proofs.YtgemfpnlnipfnaaGreat Go.Proofs.YtgemfpnlnipfnaaGreat.Sy

end Go.Proofs.YtgemfpnlnipfnaaGreat.Cu

end
section
namespace Go.Proofs.YtgemfpnlnipfnaaGreat.Cu
open Go.RowKit Go.Proofs.YtgemfpnlnipfnaaGreat
end Go.Proofs.YtgemfpnlnipfnaaGreat.Cu

end
section
namespace Go.Proofs.YtgemfpnlnipfnaaGreat.Cu
open Go.RowKit Go.Proofs.YtgemfpnlnipfnaaGreat Go.Proofs.YtgemfpnlnipfnaaGreat.Sy
set_option maxRecDepth 100000
set_option maxHeartbeats 4000000

end Go.Proofs.YtgemfpnlnipfnaaGreat.Cu

end
section
namespace Go.Proofs.YtgemfpnlnipfnaaGreat.Cu
open Go.RowKit Go.Proofs.YtgemfpnlnipfnaaGreat Go.Proofs.YtgemfpnlnipfnaaGreat.Sy
set_option maxRecDepth 100000
set_option maxHeartbeats 4000000

end Go.Proofs.YtgemfpnlnipfnaaGreat.Cu

end
section
namespace Go.Proofs.YtgemfpnlnipfnaaGreat
open Go.RowKit Go.Lib

end Go.Proofs.YtgemfpnlnipfnaaGreat

end
section
namespace Go.Proofs.YtgemfpnlnipfnaaGreat
open Go.RowKit Go.Lib

end Go.Proofs.YtgemfpnlnipfnaaGreat

end
section
namespace Go.Proofs.YtgemfpnlnipfnaaGreat.Fz
open Go.RowKit Go.Lib Go.Proofs.YtgemfpnlnipfnaaGreat Go.Proofs.YtgemfpnlnipfnaaGreat.Sy

end Go.Proofs.YtgemfpnlnipfnaaGreat.Fz

end
section
namespace Go.Proofs.YtgemfpnlnipfnaaGreat.Fz
open Go.RowKit Go.Lib Go.Proofs.YtgemfpnlnipfnaaGreat Go.Proofs.YtgemfpnlnipfnaaGreat.Sy

end Go.Proofs.YtgemfpnlnipfnaaGreat.Fz

end
section
namespace Go.Proofs.YtgemfpnlnipfnaaGreat
open Go.RowKit Go.Lib Go.Proofs.YtgemfpnlnipfnaaGreat

end Go.Proofs.YtgemfpnlnipfnaaGreat

end
section
namespace Go.Proofs.YtgemfpnlnipfnaaGreat
open Go.RowKit Go.Lib

section
variable {P : Program} {ops : Array Oper}
end

end Go.Proofs.YtgemfpnlnipfnaaGreat

end
section
namespace Go.Proofs.YtgemfpnlnipfnaaGreat.Fz
open Go.RowKit Go.Lib Go.Proofs.YtgemfpnlnipfnaaGreat Go.Proofs.YtgemfpnlnipfnaaGreat.Sy

end Go.Proofs.YtgemfpnlnipfnaaGreat.Fz

end
section
namespace Go.Proofs.YtgemfpnlnipfnaaGreat
open Go.RowKit Go.Lib Go.Proofs.YtgemfpnlnipfnaaGreat

end Go.Proofs.YtgemfpnlnipfnaaGreat

end
section
namespace Go.Proofs.YtgemfpnlnipfnaaGreat.Fz
open Go.RowKit Go.Lib Go.Proofs.YtgemfpnlnipfnaaGreat Go.Proofs.YtgemfpnlnipfnaaGreat.Sy

end Go.Proofs.YtgemfpnlnipfnaaGreat.Fz

end
section
namespace Go.Proofs.YtgemfpnlnipfnaaGreat
open Go.RowKit Go.Lib

end Go.Proofs.YtgemfpnlnipfnaaGreat

end
section
namespace Go.Proofs.YtgemfpnlnipfnaaGreat
open Go.RowKit Go.Lib

end Go.Proofs.YtgemfpnlnipfnaaGreat

end
section
namespace Go.Proofs.YtgemfpnlnipfnaaGreat
open Go.RowKit Sp

end Go.Proofs.YtgemfpnlnipfnaaGreat

end
section
namespace Go.Proofs.YtgemfpnlnipfnaaGreat
open Go.RowKit Go.Lib

end Go.Proofs.YtgemfpnlnipfnaaGreat

end
section
namespace Go.Proofs.YtgemfpnlnipfnaaGreat.Cu
open Go.RowKit Go.Proofs.YtgemfpnlnipfnaaGreat Go.Proofs.YtgemfpnlnipfnaaGreat.Sy
set_option maxRecDepth 100000
set_option maxHeartbeats 4000000

end Go.Proofs.YtgemfpnlnipfnaaGreat.Cu

end
section
namespace Go.Proofs.YtgemfpnlnipfnaaGreat.Cu
open Go.RowKit Go.Proofs.YtgemfpnlnipfnaaGreat Go.Proofs.YtgemfpnlnipfnaaGreat.Sy

end Go.Proofs.YtgemfpnlnipfnaaGreat.Cu

end
section
namespace Go.Proofs.YtgemfpnlnipfnaaGreat
open Go.RowKit Go.Lib

end Go.Proofs.YtgemfpnlnipfnaaGreat

end
section
namespace Go.Proofs.YtgemfpnlnipfnaaGreat
open Go.RowKit Go.Lib

end Go.Proofs.YtgemfpnlnipfnaaGreat

end
section
namespace Go.Proofs.YtgemfpnlnipfnaaGreat
open Go.RowKit Go.Lib

end Go.Proofs.YtgemfpnlnipfnaaGreat

end
section
namespace Go.Proofs.YtgemfpnlnipfnaaGreat
open Go.RowKit Go.Lib

end Go.Proofs.YtgemfpnlnipfnaaGreat

end
section
namespace Go.Proofs.YtgemfpnlnipfnaaGreat.Cu
open Go.RowKit Go.Proofs.YtgemfpnlnipfnaaGreat Go.Proofs.YtgemfpnlnipfnaaGreat.Sy
set_option maxRecDepth 100000
set_option maxHeartbeats 4000000

noncomputable def infU8 : TypeInfo := (Tryz.prog.info? 5).getD default
theorem info_u8 : Tryz.prog.info? 5 = some infU8 := by kernel_rfl
end Go.Proofs.YtgemfpnlnipfnaaGreat.Cu

end
section
namespace Go.Proofs.YtgemfpnlnipfnaaGreat.Cu
open Go.RowKit Go.Proofs.YtgemfpnlnipfnaaGreat Go.Proofs.YtgemfpnlnipfnaaGreat.Sy

end Go.Proofs.YtgemfpnlnipfnaaGreat.Cu

end
section
namespace Go.Proofs.YtgemfpnlnipfnaaGreat.Cu
open Go.RowKit Go.Proofs.YtgemfpnlnipfnaaGreat Go.Proofs.YtgemfpnlnipfnaaGreat.Sy
set_option maxRecDepth 100000
set_option maxHeartbeats 4000000

end Go.Proofs.YtgemfpnlnipfnaaGreat.Cu

end
section
namespace Go.Proofs.YtgemfpnlnipfnaaGreat.Cu
open Go.RowKit Go.Proofs.YtgemfpnlnipfnaaGreat Go.Proofs.YtgemfpnlnipfnaaGreat.Sy
set_option maxRecDepth 100000
set_option maxHeartbeats 4000000

end Go.Proofs.YtgemfpnlnipfnaaGreat.Cu

end
section
namespace Go.Proofs.YtgemfpnlnipfnaaGreat.Cu
open Go.RowKit Go.Proofs.YtgemfpnlnipfnaaGreat Go.Proofs.YtgemfpnlnipfnaaGreat.Sy

theorem setAll_all : ∀ (vs : List Value) (o : Nat) (cs : Array Value), o + vs.length = cs.size → setAll cs o vs = (cs.toList.take o ++ vs).toArray
  | [], o, cs, h => by
    rw [List.append_nil, List.take_of_length_le (by simp at h ⊢; omega)]
    simp [setAll]
  | v :: r, o, cs, h => by
    have hlt : o < cs.size := by simp at h; omega
    rw [setAll, setAll_all r (o + 1) _ (by simp at h ⊢; omega)]
    congr 1
    rw [Array.toList_setIfInBounds, List.take_set, List.take_succ_eq_append_getElem (by simpa using hlt), List.set_append_right _ _ (by rw [List.length_take]; exact Nat.min_le_left _ _)]
    have : (cs.toList.take o).length = o := by simp; omega
    simp [this]
end Go.Proofs.YtgemfpnlnipfnaaGreat.Cu

end
section
namespace Go.Proofs.YtgemfpnlnipfnaaGreat.Sy
open Go.RowKit Go.Proofs.YtgemfpnlnipfnaaGreat

section
variable {P : Program} {w0 : Base} {n : Nat} {F : Slots} {L : Blocks} {o : Oper}
theorem exec_atO (t e : TypeId) (x kx : Operand) (A : Option Addr) (g f len cap k s : Nat) (ki : IntKind) (hA : A = some ⟨g, f, none⟩) (ho : o.op = .indexAddr t x kx) (hx : evF F x = .slice A len cap) (hkx : evF F kx = .int ki (k : Int)) (ht : P.underlying t = some (.slice e)) (hsz : ∀ w, (sizeOf e).run P w = .ok s w) (hk : k < len) (w : World) :
    (execOp (evF F) o).run P w = .ok (.value (.pointer (some ⟨g, f + k * s, none⟩))) w := by
  subst hA
  exact exec_at t e x kx g f len cap k s ki ho hx hkx ht hsz hk w
theorem Writes.row {g : Nat} {t : TypeId} {cs : Array Value} (ty : TypeId) (c : List Value) (m : Nat) (x y : Operand) (ho : o.op = .store ty x y) (hx : evF F x = .pointer (some ⟨g, 0, none⟩)) (hy : evF F y = .agg c.toArray) (hi : (P.info? ty).map (·.size) = some m) (hc : c.length = m) (hs : cs.size = m) (h1 : ∀ u ∈ c, u.oneCell' = true) : Writes P F o g t cs c.toArray :=
  Writes.store 0 ty c.toArray x y ho hx hy (by rw [hi, List.size_toArray, hc]) (by rw [List.size_toArray, hc, hs, Nat.zero_add]; exact Nat.le_refl _) (by rw [List.all_toArray, List.all_eq_true]; exact h1) (by
    have := Cu.setAll_all c 0 cs (by omega)
    simpa using this)
theorem Quiet.mid (i g f k : Nat) (t ty : TypeId) (cs m : List Value) (d : TypeDesc) (x : Operand) (ho : o.op = .load ty x) (hx : evF F x = .pointer (some ⟨g, f, none⟩)) (hL : L[i]? = some (g, t, cs.toArray)) (hu : P.underlying ty = some d) (hd : d.isRow = true) (hi : (P.info? ty).map (·.size) = some k) (hm : (cs.drop f).take k = m) (hk : f + k ≤ cs.length) : Quiet P w0 F L o (.agg m.toArray) :=
  Quiet.load i g f k t ty cs.toArray d x ho hx hL hu hd hi _ (by rw [← hm]) (by simpa using hk)
end
end Go.Proofs.YtgemfpnlnipfnaaGreat.Sy

end
section
namespace Go.Proofs.YtgemfpnlnipfnaaGreat.Sy
open Go.RowKit Go.Proofs.YtgemfpnlnipfnaaGreat

structure Slc where
  v : Value
  bl : Blocks
structure Slc.Is (r : Slc) (e : TypeId) (sz : Nat) (xs : List (List Value)) : Prop where
  len : ∀ x ∈ xs, x.length = sz
  one : ∀ x ∈ xs, ∀ u ∈ x, u.oneCell' = true
  row : (xs = [] ∧ r = ⟨.slice none 0 0, []⟩) ∨ ∃ g cap sp, r = ⟨.slice (some ⟨g, 0, none⟩) xs.length cap, [(g, e, (xs.flatten ++ sp).toArray)]⟩ ∧ sp.length + xs.length * sz = cap * sz ∧ xs.length ≤ cap ∧ cap ≤ maxLen
theorem Slc.Is.nil (e : TypeId) (sz : Nat) : Slc.Is ⟨.slice none 0 0, []⟩ e sz [] := ⟨fun _ h => (by cases h), fun _ h => (by cases h), .inl ⟨rfl, rfl⟩⟩
theorem flat_len' {sz : Nat} : ∀ {xs : List (List Value)}, (∀ x ∈ xs, x.length = sz) → xs.flatten.length = xs.length * sz
  | [], _ => by simp
  | x :: xs, h => by
    rw [List.flatten_cons, List.length_append, h x (List.mem_cons_self ..), flat_len' fun y hy => h y (List.mem_cons_of_mem _ hy), List.length_cons, Nat.add_mul, Nat.one_mul, Nat.add_comm]
theorem flat_at' {sz : Nat} : ∀ {xs : List (List Value)} (sp : List Value), (∀ x ∈ xs, x.length = sz) → ∀ (j : Nat) (x : List Value), xs[j]? = some x → ((xs.flatten ++ sp).drop (j * sz)).take sz = x
  | [], _, _, _, _, h => by simp at h
  | y :: xs, sp, h, 0, x, hx => by
    have hy := h y (List.mem_cons_self ..)
    simp only [List.getElem?_cons_zero, Option.some.injEq] at hx
    subst hx
    rw [Nat.zero_mul, List.drop_zero, List.flatten_cons, List.append_assoc, List.take_append_of_le_length (by omega), List.take_of_length_le (by omega)]
  | y :: xs, sp, h, j + 1, x, hx => by
    have hy := h y (List.mem_cons_self ..)
    rw [List.getElem?_cons_succ] at hx
    have ih := flat_at' sp (fun z hz => h z (List.mem_cons_of_mem _ hz)) j x hx
    rw [List.flatten_cons, List.append_assoc, List.drop_append, hy, List.drop_of_length_le (by rw [hy, Nat.add_mul, Nat.one_mul]; omega), List.nil_append, Nat.add_mul, Nat.one_mul, Nat.add_sub_cancel]
    exact ih
section
variable {P : Program} {w0 : Base} {n : Nat} {Q : Exit → Act → World → Prop} {F : Slots} {pre T : Blocks} {ops : Array Oper} {o : Oper} {l : List Oper}
theorem appendR (hg : good ops n F o = true) (ts e : TypeId) (inf : TypeInfo) (z : Value) (sz by_ : Nat) (ht : P.underlying ts = some (.slice e)) (hinf : P.info? e = some inf) (hz : inf.zero = some z) (hs1 : inf.size = sz) (hb1 : inf.bytes = by_) (hzs : z.cells.size = sz) (h0 : 0 < sz)
    (s x : Operand) (ho : o.op = .call { callee := .builtin .append, args := #[s, x], argTypes := #[ts, ts] })
    {r : Slc} {xs : List (List Value)} (hr : r.Is e sz xs) (hs : evF F s = r.v) (y : List Value) (hy : y.length = sz) (hy1 : ∀ u ∈ y, u.oneCell' = true)
    (j gx : Nat) (tx : TypeId) (hx : evF F x = .slice (some ⟨gx, 0, none⟩) 1 1) (hLx : (pre ++ (r.bl ++ T))[j]? = some (gx, tx, y.toArray)) (hsmall : (xs.length + 1) * by_ ≤ 140737488355328) (h63 : xs.length + 1 ≤ maxLen)
    (h : ∀ r' : Slc, r'.Is e sz (xs ++ [y]) → wpS P w0 n ops Q (putF F o.dst r'.v) (pre ++ (r'.bl ++ T)) l) : wpS P w0 n ops Q F (pre ++ (r.bl ++ T)) (o :: l) := by
  have hfrom : From w0 (pre ++ (r.bl ++ T)) (some ⟨gx, 0, none⟩) y := From.blk hLx (by simp)
  have hlen : ∀ u ∈ xs ++ [y], u.length = sz := fun u hu => by
    rcases List.mem_append.1 hu with hu | hu
    · exact hr.len u hu
    · rw [List.mem_singleton.1 hu]; exact hy
  have hone : ∀ u ∈ xs ++ [y], ∀ v ∈ u, v.oneCell' = true := fun u hu => by
    rcases List.mem_append.1 hu with hu | hu
    · exact hr.one u hu
    · rw [List.mem_singleton.1 hu]; exact hy1
  rcases hr.row with ⟨rfl, rfl⟩ | ⟨g, cap, sp, rfl, q1, q2, q3⟩
  · refine appendGNil hg ts e inf z sz by_ ht hinf hz hs1 hb1 hzs h0 s x ho hs (some ⟨gx, 0, none⟩) 1 1 y hx hfrom (by omega) (by decide) hy1 (by simpa using hsmall) (by simpa using h63) (fun g' cap' sp' h1 h2 h3 => ?_)
    have hq := h ⟨.slice (some ⟨g', 0, none⟩) 1 cap', [(g', e, (y ++ sp').toArray)]⟩ ⟨hlen, hone, .inr ⟨g', cap', sp', by simp, by simpa using h1, by simpa using h2, h3⟩⟩
    exact permS (by
      rw [List.nil_append, List.append_assoc]
      exact (List.perm_append_comm (l₁ := T) (l₂ := [(g', e, (y ++ sp').toArray)])).append_left pre) hq
  · have hi : (pre ++ ([(g, e, (xs.flatten ++ sp).toArray)] ++ T))[pre.length]? = some (g, e, (xs.flatten ++ sp).toArray) := by
      rw [List.getElem?_append_right (Nat.le_refl _), Nat.sub_self]
      rfl
    refine appendG hg ts e inf z sz by_ ht hinf hz hs1 hb1 hzs h0 s x ho pre.length g xs.length cap xs.flatten sp hs hi (flat_len' hr.len) q1 q3 (some ⟨gx, 0, none⟩) 1 1 y hx hfrom (by omega) (Nat.le_refl _) hy1 hsmall h63 (fun g' cap' sp' h1 h2 h3 => ?_)
    have hq := h ⟨.slice (some ⟨g', 0, none⟩) (xs.length + 1) cap', [(g', e, (xs.flatten ++ y ++ sp').toArray)]⟩ ⟨hlen, hone, .inr ⟨g', cap', sp', by simp, by simpa using h1, by simpa using h2, h3⟩⟩
    have he : (pre ++ ([(g, e, (xs.flatten ++ sp).toArray)] ++ T)).set pre.length (g', e, (xs.flatten ++ y ++ sp').toArray) = pre ++ ([(g', e, (xs.flatten ++ y ++ sp').toArray)] ++ T) := by
      rw [List.set_append_right _ _ (Nat.le_refl _), Nat.sub_self]
      rfl
    rw [he]
    exact hq
theorem movT {b : Nat × TypeId × Array Value} (h : wpS P w0 n ops Q F ((pre ++ [b]) ++ T) l) : wpS P w0 n ops Q F ((pre ++ T) ++ [b]) l :=
  permS (by
    rw [List.append_assoc, List.append_assoc]
    exact (List.perm_append_comm (l₁ := T) (l₂ := [b])).append_left pre) h
theorem setT {i : Nat} {b : Nat × TypeId × Array Value} (h : wpS P w0 n ops Q F ((pre.set i b) ++ T) l) (hi : Nat.ble (i + 1) pre.length = true := by kernel_rfl) : wpS P w0 n ops Q F ((pre ++ T).set i b) l := by
  rw [List.set_append_left _ _ (Nat.le_of_ble_eq_true hi)]
  exact h
theorem loopT {L : Blocks} {Y : Type} {c : Code} (N : Nat) (FF : Nat → Y → Slots) (LL : Nat → Y → Blocks) (H : Nat → Y → Prop) (x0 : Y) (h0 : H 0 x0) (hF : ∀ p ∈ FF 0 x0, F.lookup p.1 = some p.2) (hL : ∀ w, St w0 w L → St w0 w (LL 0 x0))
    (hr : ∀ k x, k ≤ N → H k x → wpC P w0 n (Exit.then (NextX w0 n N FF LL H k) Q) (FF k x) (LL k x) c) : wpC P w0 n Q F L (.loop c) :=
  loopI N (fun k a w => ∃ x, H k x ∧ Fr w0.ds a n (FF k x) ∧ St w0 w (LL k x)) (fun _ w ha hw => ⟨x0, h0, ha.all hF, hL w hw⟩)
    fun k hk a w ⟨x, hx, ha, hw⟩ => hr k x hk hx a w ha hw
theorem againT {L : Blocks} {Y : Type} {N : Nat} {FF : Nat → Y → Slots} {LL : Nat → Y → Blocks} {H : Nat → Y → Prop} {k : Nat} {R : Exit → Act → World → Prop} (y : Y) (hk : k < N) (hy : H (k + 1) y) (hF : ∀ p ∈ FF (k + 1) y, F.lookup p.1 = some p.2) (hL : ∀ w, St w0 w L → St w0 w (LL (k + 1) y)) :
    X w0 n (Exit.then (NextX w0 n N FF LL H k) R) F L .normal := fun _ w ha hw => ⟨hk, y, hy, ha.all hF, hL w hw⟩
theorem Slc.Is.cells {r : Slc} {e : TypeId} {sz : Nat} {xs : List (List Value)} (h : r.Is e sz xs) : r.v.cells = #[r.v] ∧ r.v.oneCell' = true := by
  rcases h.row with ⟨rfl, rfl⟩ | ⟨g, cap, sp, rfl, _⟩ <;> exact ⟨rfl, rfl⟩
end
theorem fold_all : ∀ (c : List Value) (off k : Nat) (cs : Array Value), (c.zipIdx k).foldl (fun cs x => cs.setIfInBounds (off + x.2) x.1) cs = setAll cs (off + k) c
  | [], _, _, _ => rfl
  | v :: c, off, k, cs => by
    rw [List.zipIdx_cons, List.foldl_cons, fold_all c off (k + 1)]
    rfl
theorem fill_one {place : Nat → Option (Nat × Nat)} {cs : Array Value} {c : List Value} {n : Nat} (hp : place 0 = some (0, n)) (hc : c.length = n) (hs : cs.size = n) : Instr.fill place cs [(0, .agg c.toArray)] = some c.toArray := by
  unfold Instr.fill
  rw [hp]
  simp only [Value.cells, List.size_toArray, hc, hs, Nat.zero_add, ne_eq, not_true_eq_false, decide_false, Bool.false_or]
  rw [if_neg (by simp)]
  unfold Instr.fill
  have h1 : c.toArray.zipIdx.foldl (fun cs (x : Value × Nat) => cs.setIfInBounds (0 + x.2) x.1) cs = setAll cs (0 + 0) c := by
    rw [← fold_all c 0 0 cs, ← Array.foldl_toList, Array.toList_zipIdx]
  have h2 := Cu.setAll_all c 0 cs (by omega)
  simp only [Nat.zero_add] at h1
  rw [h1, h2]
  simp
section
variable {P : Program} {w0 : Base} {F : Slots} {L : Blocks} {o : Oper}
theorem Makes.one (t e : TypeId) (ie : TypeInfo) (z : Value) (s : Nat) (x : Operand) (c : List Value) (ho : o.op = .buildSlice t 1 #[(0, x)]) (hx : evF F x = .agg c.toArray) (ht : P.underlying t = some (.slice e)) (hi : P.info? e = some ie) (hz : ie.zero = some z) (hs : ie.size = s) (hc : c.length = s) (h0 : 0 < s) (hb : s ≤ 16777216) :
    Makes P F o e c.toArray (fun g => .slice (some ⟨g, 0, none⟩) 1 1) := fun w => by
  subst hs
  have hr := run_buildSlice (P := P) w t e 1 #[(0, .agg c.toArray)] c.toArray ie z ht hi hz (by omega) (by omega) (fill_one (by simp) hc (by simp))
  unfold execOp
  simp only [ho, Sem.run_bind, List.map_toArray, List.map_cons, List.map_nil, hx, hr, Result.andThen_ok, Sem.run_pure]
theorem exec_upto (t : TypeId) (x hx' : Operand) (g f len cap hi s : Nat) (kh : IntKind) (ho : o.op = .slice t x none (some hx') none) (hx : evF F x = .slice (some ⟨g, f, none⟩) len cap) (hh : evF F hx' = .int kh (hi : Int)) (ht : P.underlying t = some (.slice (P.elem t))) (hsz : ∀ w, (sizeOf (P.elem t)).run P w = .ok s w) (h1 : hi ≤ cap) (w : World) :
    (execOp (evF F) o).run P w = .ok (.value (.slice (some ⟨g, f, none⟩) hi cap)) w := by

  have e : (Instr.sliceAt t (.slice (some ⟨g, f, none⟩) len cap) none (some (.int kh (hi : Int))) none).run P w = .ok (.slice (some ⟨g, f, none⟩) hi cap) w := by
    rw [run_sliceAt_slice w t _ _ _ _ ht]
    simp [Instr.slice, run_underlying ht, Instr.sliceBounds, Instr.sliceBound, asIntOf, h1, hsz, Result.andThen, Addr.add]
  unfold execOp
  simp only [ho, hx, hh, Option.map_some, Option.map_none, e, Sem.run_bind, Sem.run_pure, Result.andThen_ok]
end
end Go.Proofs.YtgemfpnlnipfnaaGreat.Sy

end
section
namespace Go.Proofs.YtgemfpnlnipfnaaGreat.Sy
open Go.RowKit Go.Proofs.YtgemfpnlnipfnaaGreat

section
variable {P : Program} {w0 : Base} {n : Nat} {Q : Exit → Act → World → Prop} {F : Slots} {L M : Blocks} {ops : Array Oper} {ex : Nat → Bool} {fuel : Nat} {listed : Array Bool} {pre T : Blocks}
theorem permD (p : L.Perm M) (h : wpD P w0 n ops Q ex F M fuel listed) : wpD P w0 n ops Q ex F L fuel listed := fun a w ha hw => h a w ha (hw.perm p)
theorem mov_perm {b : Nat × TypeId × Array Value} : ((pre ++ T) ++ [b]).Perm ((pre ++ [b]) ++ T) := by
  rw [List.append_assoc, List.append_assoc]
  exact (List.perm_append_comm (l₁ := T) (l₂ := [b])).append_left pre
theorem movTD {b : Nat × TypeId × Array Value} (h : wpD P w0 n ops Q ex F ((pre ++ [b]) ++ T) fuel listed) : wpD P w0 n ops Q ex F ((pre ++ T) ++ [b]) fuel listed := permD mov_perm h
theorem setTD {i : Nat} {b : Nat × TypeId × Array Value} (h : wpD P w0 n ops Q ex F ((pre.set i b) ++ T) fuel listed) (hi : Nat.ble (i + 1) pre.length = true := by kernel_rfl) : wpD P w0 n ops Q ex F ((pre ++ T).set i b) fuel listed := by
  rw [List.set_append_left _ _ (Nat.le_of_ble_eq_true hi)]
  exact h
def onlyQ (Q : Exit → Act → World → Prop) (K : Act → World → Prop) : Exit → Act → World → Prop
  | .normal => K
  | .panic c => Q (.panic c)
  | _ => fun _ _ => False
theorem wp_only {o : Oper} {a : Act} {w : World} {K' K : Act → World → Prop} (h : o.wp P a w K (onlyQ Q K')) : o.wp P a w K Q := by
  unfold Oper.wp at *
  generalize (execOp a.eval o).run P w = r at *
  cases r with
  | ok x w' =>
    cases x <;> simp only [Oper.upon] at h ⊢ <;>
      first
        | exact h
        | exact Calls.mono h (fun e w'' he => by cases e <;> first | exact he | (obtain ⟨_, _, q⟩ := he; exact q.elim))
  | halt x w' => cases x <;> simp only [Oper.upon] at h ⊢ <;> exact h
theorem soleD (k : Nat) {oi : Oper} (hi0 : ops.toList[k]? = some oi) (h : ∀ Q', (∀ F' L', wpD P w0 n ops Q ex F' L' fuel (listed.setIfInBounds k true) → wpS P w0 n ops Q' F' L' []) → wpS P w0 n ops Q' F L [oi])
    (hg : wantedF ops F oi = some true := by kernel_rfl) (hr : Region.ready .any ops listed = [k] := by kernel_rfl) (hex : ex k = true := by rfl) : wpD P w0 n ops Q ex F L (fuel + 1) listed := fun a w ha hw =>
  wpAnyG_sole k hi0 hr (ha.wanted hg) fun w1 h1 K hK => by
    have q := h (onlyQ Q K) (fun F' L' hd a' w' ha' hw' => wpList_nil (hK _ _ (fun e => by rw [hex] at e; cases e) (hd a' w' ha' hw'))) a w1 ha (hw.gr h1)
    unfold wpList at q
    rw [if_pos (ha.wanted hg)] at q
    rcases q with q | ⟨_, a', w', q⟩
    · exact wp_only (K' := K) q
    · exact q.elim
end
def nilS : Slc := ⟨.slice none 0 0, []⟩
section
variable {r : Nat → Slc} {n i : Nat} {x : Slc}
end
section
variable {w0 : Base} {w : World} {pre a T M N : Blocks}
end
section
variable {P : Program} {w0 : Base} {F : Slots} {L : Blocks} {o : Oper}
end
end Go.Proofs.YtgemfpnlnipfnaaGreat.Sy

end
section
namespace Go.Proofs.YtgemfpnlnipfnaaGreat.Sy
open Go.RowKit Go.Proofs.YtgemfpnlnipfnaaGreat

section
variable {P : Program} {w0 : Base} {n : Nat} {Q : Exit → Act → World → Prop} {F : Slots} {L pre T : Blocks} {ops : Array Oper} {o : Oper} {l : List Oper}
theorem appendM (hg : good ops n F o = true) (ts e : TypeId) (inf : TypeInfo) (z : Value) (sz by_ : Nat) (ht : P.underlying ts = some (.slice e)) (hinf : P.info? e = some inf) (hz : inf.zero = some z) (hs1 : inf.size = sz) (hb1 : inf.bytes = by_) (hzs : z.cells.size = sz) (h0 : 0 < sz)
    (s x : Operand) (ho : o.op = .call { callee := .builtin .append, args := #[s, x], argTypes := #[ts, ts] })
    {r : Slc} {xs ys : List (List Value)} (hr : r.Is e sz xs) (hs : evF F s = r.v) (hy : ∀ y ∈ ys, y.length = sz) (hy1 : ∀ y ∈ ys, ∀ u ∈ y, u.oneCell' = true)
    (A : Option Addr) (m c : Nat) (hm : ys.length = m) (hmc : m ≤ c) (hx : evF F x = .slice A m c) (hf : ∀ r : Slc, From w0 (pre ++ (r.bl ++ T)) A ys.flatten) (hsmall : (xs.length + m) * by_ ≤ 140737488355328) (h63 : xs.length + m ≤ maxLen)
    (h : ∀ r' : Slc, r'.Is e sz (xs ++ ys) → wpS P w0 n ops Q (putF F o.dst r'.v) (pre ++ (r'.bl ++ T)) l) : wpS P w0 n ops Q F (pre ++ (r.bl ++ T)) (o :: l) := by
  have hlen : ∀ u ∈ xs ++ ys, u.length = sz := fun u hu => (List.mem_append.1 hu).elim (hr.len u) (hy u)
  have hone : ∀ u ∈ xs ++ ys, ∀ v ∈ u, v.oneCell' = true := fun u hu => (List.mem_append.1 hu).elim (hr.one u) (hy1 u)
  have hyl : ys.flatten.length = m * sz := by rw [flat_len' hy, hm]
  have hyo : ∀ u ∈ ys.flatten, u.oneCell' = true := fun u hu => by
    obtain ⟨y, h1, h2⟩ := List.mem_flatten.1 hu
    exact hy1 y h1 u h2
  rcases hr.row with ⟨rfl, rfl⟩ | ⟨g, cap, sp, rfl, q1, q2, q3⟩
  · rcases Nat.eq_zero_or_pos m with rfl | hm0
    · obtain rfl : ys = [] := List.eq_nil_of_length_eq_zero hm
      intro a w ha hw
      obtain ⟨k1, _, k3, _⟩ := good_spec hg
      refine wpList_step fun K hK => ?_
      rw [if_pos (ha.wanted k1)]
      have hfc : (Builtin.firstCells inf.size 0 (.slice A 0 c)).run P w = .ok #[] w := by
        cases A with
        | none => simp [Builtin.firstCells, Sem.run_pure]
        | some a => simpa using run_firstCells_some (P := P) w inf.size 0 a 0 c [] (by simp) (fun j u hj => by cases hj)
      have hrn : (Builtin.append_ #[ts, ts] o.type #[.slice none 0 0, .slice A 0 c]).run P w = .ok (.slice none 0 0) w := by
        simp [Builtin.append_, run_underlying ht, sizeOf, typeInfo, hinf, Builtin.lenOf, hfc]
      unfold Oper.wp
      rw [good_exec hg ha]
      unfold execOp
      simp only [ho, resolve, invoke, builtin, Sem.run_bind, Sem.run_pure, Result.andThen_ok, List.map_toArray, List.map_cons, List.map_nil, hs, hx, hrn]
      exact hK _ _ (h nilS (Slc.Is.nil e sz) _ _ (ha.put k3 _) hw)
    · refine appendGNil hg ts e inf z sz by_ ht hinf hz hs1 hb1 hzs h0 s x ho hs A m c ys.flatten hx (hf _) hyl hm0 hyo (by simpa using hsmall) (by simpa using h63) (fun g' cap' sp' h1 h2 h3 => ?_)
      have hq := h ⟨.slice (some ⟨g', 0, none⟩) m cap', [(g', e, (ys.flatten ++ sp').toArray)]⟩ ⟨hlen, hone, .inr ⟨g', cap', sp', by simp [hm], by simpa [hm] using h1, by simpa [hm] using h2, h3⟩⟩
      exact permS (by
        rw [List.nil_append, List.append_assoc]
        exact (List.perm_append_comm (l₁ := T) (l₂ := [(g', e, (ys.flatten ++ sp').toArray)])).append_left pre) hq
  · have hi : (pre ++ ([(g, e, (xs.flatten ++ sp).toArray)] ++ T))[pre.length]? = some (g, e, (xs.flatten ++ sp).toArray) := by
      rw [List.getElem?_append_right (Nat.le_refl _), Nat.sub_self]
      rfl
    refine appendG hg ts e inf z sz by_ ht hinf hz hs1 hb1 hzs h0 s x ho pre.length g xs.length cap xs.flatten sp hs hi (flat_len' hr.len) q1 q3 A m c ys.flatten hx (hf ⟨.slice none 0 0, [(g, e, (xs.flatten ++ sp).toArray)]⟩) hyl hmc hyo hsmall h63 (fun g' cap' sp' h1 h2 h3 => ?_)
    have hq := h ⟨.slice (some ⟨g', 0, none⟩) (xs.length + m) cap', [(g', e, (xs.flatten ++ ys.flatten ++ sp').toArray)]⟩ ⟨hlen, hone, .inr ⟨g', cap', sp', by simp [hm], by simpa [hm] using h1, by simpa [hm] using h2, h3⟩⟩
    have he : (pre ++ ([(g, e, (xs.flatten ++ sp).toArray)] ++ T)).set pre.length (g', e, (xs.flatten ++ ys.flatten ++ sp').toArray) = pre ++ ([(g', e, (xs.flatten ++ ys.flatten ++ sp').toArray)] ++ T) := by
      rw [List.set_append_right _ _ (Nat.le_refl _), Nat.sub_self]
      rfl
    rw [he]
    exact hq
end
theorem retGM {P : Program} {w1 : World} {n : Nat} {F : Slots} {L : Blocks} {fn : Func} {r : ResultVar} {v : Value} {R : Value → Blocks → Prop} (M : Blocks) (hr : fn.results = #[r]) (h : Has P F L r v) (hM : ∀ w, St (Base.of w1) w L → St (Base.of w1) w M) (hR : R v M) : X (Base.of w1) n (bodyPost P fn (GetsN w1 R)) F L .ret := fun a w ha hw => by
  refine bodyPost_ret (v := v) ?_ ha.1 ⟨v, M, rfl, hR, hw.below, fun g t cs hm => (hM w hw).blk g t cs hm, (hM w hw).apart⟩
  rcases Res.run h ha hw with ⟨t, rfl, e1⟩ | ⟨t, ty, ad, rfl, e1, e2⟩ <;> simp [results, Result.andThen, *]
end Go.Proofs.YtgemfpnlnipfnaaGreat.Sy

end
section
namespace Go.Proofs.YtgemfpnlnipfnaaGreat.Wr
abbrev Byt := List UInt8
def nb : Nat → Nat → Byt
  | 0, _ => []
  | k + 1, n => UInt8.ofNat (n / 256 ^ k) :: nb k n
theorem nb_len (k n : Nat) : (nb k n).length = k := by induction k with | zero => rfl | succ k ih => simp [nb, ih]
def said (l : Byt) : Nat := l.foldl (fun a b => 256 * a + b.toNat) 0
theorem foldl_said (l : Byt) (a : Nat) : l.foldl (fun a b => 256 * a + b.toNat) a = a * 256 ^ l.length + said l := by
  induction l generalizing a with
  | nil => simp [said]
  | cons b l ih =>
    unfold said
    rw [List.foldl_cons, List.foldl_cons, ih, ih, List.length_cons, Nat.pow_succ, Nat.mul_zero, Nat.zero_add, Nat.add_mul, Nat.add_assoc]
    congr 1
    rw [Nat.mul_comm 256 a, Nat.mul_assoc, Nat.mul_comm 256]
theorem said_cons (b : UInt8) (l : Byt) : said (b :: l) = b.toNat * 256 ^ l.length + said l := by
  rw [← foldl_said]; unfold said; rw [List.foldl_cons, Nat.mul_zero, Nat.zero_add]
theorem said_snoc (l : Byt) (b : UInt8) : said (l ++ [b]) = 256 * said l + b.toNat := by simp [said]
theorem said_lt (l : Byt) : said l < 256 ^ l.length := by
  induction l with
  | nil => exact Nat.lt_of_lt_of_le Nat.zero_lt_one (Nat.le_refl _)
  | cons b l ih =>
    rw [said_cons, List.length_cons, Nat.pow_succ]
    have h : b.toNat ≤ 255 := by have := b.toNat_lt; omega
    have h2 : b.toNat * 256 ^ l.length ≤ 255 * 256 ^ l.length := Nat.mul_le_mul_right _ h
    omega
def varB (n : Nat) : Byt := if n < 253 then [UInt8.ofNat n] else if n < 65536 then 253 :: nb 2 n else if n < 4294967296 then 254 :: nb 4 n else 255 :: nb 8 n
theorem varB_len (n : Nat) : (varB n).length ≤ 9 := by
  unfold varB
  repeat' split
  all_goals simp only [List.length_cons, List.length_nil, nb_len]; omega
abbrev Ps (α : Type) := Byt → Option (α × Byt)
def takeP (n : Nat) : Ps Byt := fun l => if n ≤ l.length then some (l.take n, l.drop n) else none
def retP {α : Type} (x : α) : Ps α := fun l => some (x, l)
def bindP {α β : Type} (p : Ps α) (q : α → Ps β) : Ps β := fun l => match p l with | none => none | some (x, r) => q x r
def mustP (b : Bool) : Ps Unit := fun l => if b then some ((), l) else none
def numP (k : Nat) : Ps Nat := bindP (takeP k) fun b => retP (said b)
def wide (c : Nat) : Nat := if c = 253 then 2 else if c = 254 then 4 else 8
def least (c : Nat) : Nat := if c = 253 then 253 else if c = 254 then 65536 else 4294967296
def longP (c : Nat) : Ps Nat := bindP (numP (wide c)) fun n => bindP (mustP (decide (least c ≤ n))) fun _ => retP n
def varP (most : Nat) : Ps Nat := bindP (bindP (numP 1) fun c => if c < 253 then retP c else longP c) fun n => bindP (mustP (decide (n ≤ most))) fun _ => retP n
def textP (most : Nat) : Ps Byt := bindP (varP most) takeP
def repP {α : Type} (p : Ps α) : Nat → Ps (List α)
  | 0 => retP []
  | n + 1 => bindP p fun x => bindP (repP p n) fun l => retP (x :: l)
def listP {α : Type} (most : Nat) (p : Ps α) : Ps (List α) := bindP (varP most) (repP p)
def allP {α : Type} (p : Ps α) (l : Byt) : Option α := match p l with | some (x, []) => some x | _ => none

structure RS where
  rest : Byt
  e : Nat
structure After {α : Type} (p : Ps α) (s : RS) (x : α) (s' : RS) : Prop where
  bad : s.e ≠ 0 → s'.e ≠ 0
  yes : ∀ y r, s.e = 0 → p s.rest = some (y, r) → x = y ∧ s' = ⟨r, 0⟩
  no : s.e = 0 → p s.rest = none → s'.e ≠ 0
theorem After.bind {α β : Type} {p : Ps α} {q : α → Ps β} {s s1 s2 : RS} {x : α} {y : β} (h : After p s x s1) (k : After (q x) s1 y s2) : After (bindP p q) s y s2 := by
  refine ⟨fun h0 => k.bad (h.bad h0), fun z r h0 hz => ?_, fun h0 hz => ?_⟩
  · unfold bindP at hz
    cases hp : p s.rest with
    | none => rw [hp] at hz; cases hz
    | some u =>
      obtain ⟨x1, r1⟩ := u
      obtain ⟨rfl, rfl⟩ := h.yes x1 r1 h0 hp
      rw [hp] at hz
      exact k.yes z r rfl hz
  · unfold bindP at hz
    cases hp : p s.rest with
    | none => exact k.bad (h.no h0 hp)
    | some u =>
      obtain ⟨x1, r1⟩ := u
      obtain ⟨rfl, rfl⟩ := h.yes x1 r1 h0 hp
      rw [hp] at hz
      exact k.no rfl hz
theorem After.ret {α : Type} (x : α) (s : RS) : After (retP x) s x s := ⟨fun h => h, fun y r h0 h => by cases s; cases h; cases h0; exact ⟨rfl, rfl⟩, fun _ h => by cases h⟩
theorem After.ok {α : Type} {p : Ps α} {s s' : RS} {x : α} (h : After p s x s') (h0 : s.e = 0) (h1 : s'.e = 0) : p s.rest = some (x, s'.rest) := by
  cases hp : p s.rest with
  | none => exact absurd h1 (h.no h0 hp)
  | some u => obtain ⟨y, r⟩ := u; obtain ⟨rfl, rfl⟩ := h.yes y r h0 hp; rfl
structure Wrote (ok : Bool) (e : Byt) (k : Nat) (bad : Bool) (b : Byt) (bad' : Bool) (b' : Byt) : Prop where
  bad : bad' = (bad || !ok)
  bytes : bad' = false → b' = b ++ e
  len : b'.length ≤ b.length + k
theorem Wrote.then_ {o1 o2 : Bool} {e1 e2 : Byt} {k1 k2 : Nat} {x y z : Bool} {a b c : Byt} (h : Wrote o1 e1 k1 x a y b) (g : Wrote o2 e2 k2 y b z c) : Wrote (o1 && o2) (e1 ++ e2) (k1 + k2) x a z c := by
  refine ⟨?_, fun hz => ?_, ?_⟩
  · rw [g.bad, h.bad]; cases x <;> cases o1 <;> cases o2 <;> rfl
  · have hy : y = false := by
      have q := g.bad
      rw [hz] at q
      cases y with
      | false => rfl
      | true => cases q
    rw [g.bytes hz, h.bytes hy, List.append_assoc]
  · have := h.len; have := g.len; omega
theorem Wrote.must (ok : Bool) (x : Bool) (b : Byt) : Wrote ok [] 0 x b (x || !ok) b := ⟨rfl, fun _ => (List.append_nil b).symm, Nat.le_refl _⟩
theorem Wrote.raw (e : Byt) (x : Bool) (b : Byt) {k : Nat} (hk : e.length ≤ k) : Wrote true e k x b x (b ++ e) := ⟨by cases x <;> rfl, fun _ => rfl, by rw [List.length_append]; omega⟩
structure MOut where
  value : Nat
  claim : Byt
def encMO (o : MOut) : Byt := nb 8 o.value ++ o.claim
def rdMO : Ps MOut := bindP (numP 8) fun v => bindP (takeP 32) fun c => retP ⟨v, c⟩
structure MTx where
  nonce : Nat
  outs : List MOut
def encL {α : Type} (f : α → Byt) (l : List α) : Byt := varB l.length ++ l.flatMap f
def okMT (t : MTx) : Bool := decide (t.outs.length ≤ 16)
def encMT (t : MTx) : Byt := nb 8 t.nonce ++ encL encMO t.outs
def rdMT : Ps MTx := bindP (numP 8) fun n => bindP (listP 16 rdMO) fun l => retP ⟨n, l⟩
theorem bind_some {α β : Type} {p : Ps α} {q : α → Ps β} {l r : Byt} {x : α} (h : p l = some (x, r)) : bindP p q l = q x r := by unfold bindP; rw [h]
theorem bind_none {α β : Type} {p : Ps α} {q : α → Ps β} {l : Byt} (h : p l = none) : bindP p q l = none := by unfold bindP; rw [h]
theorem repP_snoc {α : Type} (p : Ps α) (i : Nat) (s : Byt) : repP p (i + 1) s = bindP (repP p i) (fun l => bindP p fun x => retP (l ++ [x])) s := by
  induction i generalizing s with
  | zero =>
    show bindP p (fun x => bindP (repP p 0) fun l => retP (x :: l)) s = _
    cases h : p s with
    | none => rw [bind_none h]; symm; rw [bind_some (show repP p 0 s = some ([], s) from rfl), bind_none h]
    | some u => obtain ⟨x, r⟩ := u; rw [bind_some h, bind_some (show repP p 0 r = some ([], r) from rfl), bind_some (show repP p 0 s = some ([], s) from rfl), bind_some h]; rfl
  | succ i ih =>
    show bindP p (fun x => bindP (repP p (i + 1)) fun l => retP (x :: l)) s = _
    cases h : p s with
    | none => rw [bind_none h, bind_none (show repP p (i + 1) s = none from bind_none h)]
    | some u =>
      obtain ⟨x, r⟩ := u
      rw [bind_some h]
      cases h2 : repP p i r with
      | none =>
        rw [bind_none (show repP p (i + 1) r = none by rw [ih, bind_none h2]), bind_none]
        show bindP p _ s = none
        rw [bind_some h, bind_none h2]
      | some u2 =>
        obtain ⟨l, r2⟩ := u2
        have e : repP p (i + 1) s = some (x :: l, r2) := by
          show bindP p _ s = _
          rw [bind_some h, bind_some h2]; rfl
        rw [bind_some e]
        cases h3 : p r2 with
        | none => rw [bind_none h3, bind_none]; rw [ih, bind_some h2, bind_none h3]
        | some u3 =>
          obtain ⟨y, r3⟩ := u3
          rw [bind_some h3, bind_some (show repP p (i + 1) r = some (l ++ [y], r3) by rw [ih, bind_some h2, bind_some h3]; rfl)]
          rfl
theorem repP_none {α : Type} {p : Ps α} {s : Byt} {i : Nat} (h : repP p i s = none) : ∀ j, i ≤ j → repP p j s = none := by
  intro j hj
  obtain ⟨k, rfl⟩ : ∃ k, j = i + k := ⟨j - i, by omega⟩
  clear hj
  induction k with
  | zero => exact h
  | succ k ih => rw [← Nat.add_assoc, repP_snoc, bind_none ih]
theorem varB_wide {c n : Nat} (hc : c < 256) (hc2 : 253 ≤ c) (hn : n < 256 ^ wide c) : (varB n).length = 1 + wide c ↔ least c ≤ n := by
  have h : c = 253 ∨ c = 254 ∨ c = 255 := by omega
  rcases h with rfl | rfl | rfl
  · have hn : n < 65536 := by simpa [wide] using hn
    clear hc hc2
    show (varB n).length = 3 ↔ 253 ≤ n
    unfold varB
    repeat' split
    all_goals (simp only [List.length_cons, List.length_nil, nb_len, true_iff]; omega)
  · have hn : n < 4294967296 := by simpa [wide] using hn
    clear hc hc2
    show (varB n).length = 5 ↔ 65536 ≤ n
    unfold varB
    repeat' split
    all_goals (simp only [List.length_cons, List.length_nil, nb_len, true_iff]; omega)
  · show (varB n).length = 9 ↔ 4294967296 ≤ n
    unfold varB
    repeat' split
    all_goals (simp only [List.length_cons, List.length_nil, nb_len, true_iff]; omega)
theorem take_len {n : Nat} {l b r : Byt} (h : takeP n l = some (b, r)) : b.length = n ∧ l = b ++ r := by
  unfold takeP at h
  by_cases hn : n ≤ l.length
  · rw [if_pos hn] at h
    obtain ⟨rfl, rfl⟩ : l.take n = b ∧ l.drop n = r := by simpa using h
    exact ⟨by rw [List.length_take]; omega, (List.take_append_drop n l).symm⟩
  · rw [if_neg hn] at h; cases h
theorem num_lt {k n : Nat} {l r : Byt} (h : numP k l = some (n, r)) : n < 256 ^ k := by
  unfold numP at h
  cases ht : takeP k l with
  | none => rw [bind_none ht] at h; cases h
  | some u =>
    obtain ⟨b, r2⟩ := u
    rw [bind_some ht] at h
    obtain ⟨rfl, rfl⟩ : said b = n ∧ r2 = r := by simpa [retP] using h
    have := said_lt b
    rwa [(take_len ht).1] at this
end Go.Proofs.YtgemfpnlnipfnaaGreat.Wr

end
section
namespace Go.Proofs.YtgemfpnlnipfnaaGreat.Wr
open Go.RowKit Go.Proofs.YtgemfpnlnipfnaaGreat Go.Proofs.YtgemfpnlnipfnaaGreat.Sy
set_option maxRecDepth 100000
set_option maxHeartbeats 4000000

abbrev Rdr := Nat → Nat → Value → Prop
def Le (C D : Rdr) : Prop := ∀ g o v, C g o v → D g o v
def rdW (w : World) : Rdr := fun g o v => g < w.heap.size ∧ w.cell? ⟨g, o, none⟩ = some v
def rdB (M : Blocks) : Rdr := fun g o v => ∃ t cs, (g, t, cs) ∈ M ∧ cs[o]? = some v
def rdC (w0 : Base) (R : Blocks) : Rdr := fun g o v => rdW w0.world g o v ∨ rdB R g o v
theorem rdB_le {M N : Blocks} (h : ∀ b ∈ M, b ∈ N) : Le (rdB M) (rdB N) := fun _ _ _ ⟨t, cs, hm, hc⟩ => ⟨t, cs, h _ hm, hc⟩
theorem rdC_le {w0 : Base} {M N : Blocks} (h : ∀ b ∈ M, b ∈ N) : Le (rdC w0 M) (rdC w0 N) := fun g o v hv => hv.imp id (rdB_le h g o v)
theorem rdC_world {w0 : Base} {w : World} {L R : Blocks} (hw : St w0 w L) (hR : ∀ b ∈ R, b ∈ L) : Le (rdC w0 R) (rdW w) := by
  rintro g o v (⟨hg, hc⟩ | ⟨t, cs, hm, hc⟩)
  · exact ⟨Nat.lt_of_lt_of_le hg hw.below.size, (Below.cell (p := ⟨g, o, none⟩) hw.below hg).trans hc⟩
  · have hb := (hw.blk g t cs (hR _ hm)).2
    exact ⟨hb.lt, (hb.cell o).trans hc⟩
theorem rdW_base {w : World} {R : Blocks} : Le (rdW w) (rdC (Base.of w) R) := fun _ _ _ h => .inl h
theorem rdB_base {w0 : Base} {R : Blocks} : Le (rdB R) (rdC w0 R) := fun _ _ _ h => .inr h
def BytR (C : Rdr) (v : Value) (b : Byt) : Prop := ∃ A n cp, v = .slice A n cp ∧ b.length = n ∧ n ≤ cp ∧ cp ≤ maxLen ∧ (b ≠ [] → ∃ g o, A = some ⟨g, o, none⟩ ∧ ∀ j u, b[j]? = some u → C g (o + j) (bv u))
theorem BytR.le {C D : Rdr} (hl : Le C D) {v : Value} {b : Byt} (h : BytR C v b) : BytR D v b := by
  obtain ⟨A, n, cp, h1, h2, h3, h4, h5⟩ := h
  exact ⟨A, n, cp, h1, h2, h3, h4, fun hb => by obtain ⟨g, o, e, hq⟩ := h5 hb; exact ⟨g, o, e, fun j u hu => hl _ _ _ (hq j u hu)⟩⟩
theorem BytR.nil (C : Rdr) : BytR C (.slice none 0 0) [] := ⟨none, 0, 0, rfl, rfl, Nat.le_refl _, Nat.zero_le _, fun h => (h rfl).elim⟩
theorem BytR.cells {C : Rdr} {v : Value} {b : Byt} (h : BytR C v b) : v.cells = #[v] ∧ v.oneCell' = true := by
  obtain ⟨A, n, cp, rfl, _⟩ := h; exact ⟨rfl, rfl⟩
def byL (b : Byt) : List (List Value) := b.map fun u => [bv u]
theorem byL_flat (b : Byt) : (byL b).flatten = b.map bv := by induction b with | nil => rfl | cons u b ih => show bv u :: (byL b).flatten = bv u :: b.map bv; rw [ih]
theorem byL_len (b : Byt) : (byL b).length = b.length := List.length_map _
theorem byL_app (a b : Byt) : byL (a ++ b) = byL a ++ byL b := List.map_append
theorem byL_one (b : Byt) : ∀ y ∈ byL b, y.length = 1 := fun y hy => by obtain ⟨u, _, rfl⟩ := List.mem_map.1 hy; rfl
theorem byL_oneC (b : Byt) : ∀ y ∈ byL b, ∀ u ∈ y, u.oneCell' = true := fun y hy u hu => by
  obtain ⟨w, _, rfl⟩ := List.mem_map.1 hy
  rw [List.mem_singleton.1 hu]; rfl
theorem BytR.from {w0 : Base} {L R : Blocks} {A : Option Addr} {n cp : Nat} {b : Byt} (h : BytR (rdC w0 R) (.slice A n cp) b) (hR : ∀ x ∈ R, x ∈ L) : From w0 L A (byL b).flatten := fun w hw => by
  obtain ⟨A', n', cp', e, h2, h3, h4, h5⟩ := h
  injection e with e1 e2 e3
  subst e1
  rw [byL_flat]
  cases b with
  | nil => exact .inl rfl
  | cons u b =>
    obtain ⟨g, o, rfl, hq⟩ := h5 (by simp)
    refine .inr ⟨_, rfl, fun j v hj => ?_⟩
    rw [addr_off]
    rw [List.getElem?_map] at hj
    cases hx : (u :: b)[j]? with
    | none => rw [hx] at hj; cases hj
    | some x =>
      rw [hx] at hj
      cases hj
      exact (rdC_world hw hR _ _ _ (hq j x hx)).2
theorem Slc_byt {r : Slc} {e : TypeId} {b : Byt} (h : r.Is e 1 (byL b)) : BytR (rdB r.bl) r.v b := by
  rcases h.row with ⟨e1, rfl⟩ | ⟨g, cap, sp, rfl, h1, h2, h3⟩
  · have : b = [] := by cases b with | nil => rfl | cons => cases e1
    rw [this]
    exact BytR.nil _
  · rw [byL_len] at h1 h2
    refine ⟨_, _, _, rfl, (byL_len b).symm, by rw [byL_len]; exact h2, h3, fun _ => ⟨g, 0, rfl, fun j u hu => ⟨e, _, List.mem_singleton.2 rfl, ?_⟩⟩⟩
    have hl := (List.getElem?_eq_some_iff.1 hu).1
    rw [byL_flat, Nat.zero_add, List.getElem?_toArray, List.getElem?_append_left (by simpa using hl), List.getElem?_map, hu]
    rfl
section
variable {P : Program} {w0 : Base} {n : Nat} {Q : Exit → Act → World → Prop} {F : Slots} {L : Blocks} {ops : Array Oper} {o : Oper} {ex : Nat → Bool} {fuel : Nat} {listed : Array Bool}
theorem sa (i : Nat) {oi : Oper} (hi0 : ops.toList[i]? = some oi) {v : Value} (hl : opV F oi.op = some v) (h : wpD P w0 n ops Q ex (putF F oi.dst v) L fuel (listed.setIfInBounds i true)) (hc : canTakeA .any ops listed i = true := by kernel_rfl) (hg : good ops n F oi = true := by kernel_rfl)
    (hQ : ∀ c v a w, Q (.panic c) (a.put oi.dst v) w → Q (.panic c) a w := by exact fun _ _ _ _ h => h) : wpD P w0 n ops Q ex F L (fuel + 1) listed := stepDA i hi0 hc hQ hg v (opV_run hl) h
theorem sb (i : Nat) {oi : Oper} (hi0 : ops.toList[i]? = some oi) (v : Value) (h : wpD P w0 n ops Q ex (putF F oi.dst v) L fuel (listed.setIfInBounds i true)) (hp : ∀ w, (execOp (evF F) oi).run P w = .ok (.value v) w := by intro _; kernel_rfl) (hc : canTakeA .any ops listed i = true := by kernel_rfl) (hg : good ops n F oi = true := by kernel_rfl)
    (hQ : ∀ c v a w, Q (.panic c) (a.put oi.dst v) w → Q (.panic c) a w := by exact fun _ _ _ _ h => h) : wpD P w0 n ops Q ex F L (fuel + 1) listed := stepDA i hi0 hc hQ hg v hp h
theorem sv (i : Nat) {oi : Oper} (hi0 : ops.toList[i]? = some oi) (v : Value) (hp : ∀ w, (execOp (evF F) oi).run P w = .ok (.value v) w) (h : wpD P w0 n ops Q ex (putF F oi.dst v) L fuel (listed.setIfInBounds i true)) (hc : canTakeA .any ops listed i = true := by kernel_rfl) (hg : good ops n F oi = true := by kernel_rfl)
    (hQ : ∀ c v a w, Q (.panic c) (a.put oi.dst v) w → Q (.panic c) a w := by exact fun _ _ _ _ h => h) : wpD P w0 n ops Q ex F L (fuel + 1) listed := stepDA i hi0 hc hQ hg v hp h
theorem se (i : Nat) (bs : List Nat) {oi : Oper} (hi0 : ops.toList[i]? = some oi) (v : Value) (hq : Quiet P w0 F L oi v) (h : wpD P w0 n ops Q ex (putF F oi.dst v) L fuel (listed.setIfInBounds i true)) (hc : canTakeB .any ops listed ex i bs = true := by kernel_rfl) (hg : good ops n F oi = true := by kernel_rfl)
    (hQ : ∀ c v a w, Q (.panic c) (a.put oi.dst v) w → Q (.panic c) a w := by exact fun _ _ _ _ h => h) : wpD P w0 n ops Q ex F L (fuel + 1) listed := stepDB i bs hi0 hc hQ hg v hq h
theorem keep1 {a b : Nat × TypeId × Array Value} {A : Blocks} {w : World} (h : St w0 w ([a, b] ++ A)) : St w0 w ([a] ++ A) := h.less (((List.Sublist.refl A).cons b).cons_cons a)
end
end Go.Proofs.YtgemfpnlnipfnaaGreat.Wr

end
