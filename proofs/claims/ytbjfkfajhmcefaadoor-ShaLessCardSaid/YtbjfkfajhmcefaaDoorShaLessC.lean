/-
  The order of digests: sha.Less tells of every two digests what the document tells; it is an order. Every input; the constants' table stands as the program's text lays it.
-/
import Derived.Test.YtbjfkfajhmcefaaDoorLift
import Derived.Test.YtbjfkfajhmcefaaDoorShaLessL
namespace Go.Proofs.YtbjfkfajhmcefaaDoor.lawLess
open Go.ChangeShapes Go.WideShapes Go.ChangeAt Go.RowKit Go.Proofs.YtbjfkfajhmcefaaDoor.Sp

theorem own : ownKnob Tryd.prog.godebug = none := by kernel_rfl
theorem laidOut : laidOutB Tryd.prog = true := by kernel_rfl
theorem gTab : Tryd.prog.globalNamed "tollhouse/sha.cubeRoots" = some 1 := by kernel_rfl
theorem gTabType : (Tryd.prog.globals[1]?).map (·.type) = some 65 := by kernel_rfl
theorem cellsTab : Tryd.prog.cellsOf 65 = 64 := by kernel_rfl
theorem cellsWord : Tryd.prog.cellsOf 51 = 1 := by kernel_rfl
theorem cellsDig : Tryd.prog.cellsOf 24 = 32 := by kernel_rfl
theorem cellsByte : Tryd.prog.cellsOf 5 = 1 := by kernel_rfl

/-- what the row's list gives: the constants -/
theorem table {W : World} (h : laidMetH Tryd.prog Rows.shaLessRow.laid W) : TabAt W 1 := by
  have ht : Lib.TabIs Tryd.prog W "tollhouse/sha.cubeRoots" .u32 (ktab.map (fun n : Nat => (n : Int))) :=
    Lib.tabIs_of_head (rest := []) gTab gTabType Tryd.underlying65 Tryd.underlying51 cellsWord cellsTab h
  intro t hlt
  have hk : ktab.length = 64 := rfl
  have hc := ht.cell gTab t (by rw [List.length_map, hk]; exact hlt)
  rw [hc]
  unfold wv kc
  rw [BitVec.toNat_ofNat]
  have hb : ∀ j, j < 64 → (ktab.getD j 0) % 2 ^ 32 = ktab.getD j 0 := by decide
  rw [hb t hlt]
  have hlt' : t < ktab.length := by rw [hk]; exact hlt
  simp [List.getElem?_eq_getElem hlt']

/-- THE CONTRACT, for every argument and every world that holds the table. -/
theorem contract (H : Type) (enc : TypeId × Value → H) (W : World) (base : Nat) (args : Array Value) (ds gs : List (DataW H)) (before : List MemPlace)
    (hval : ∀ (j : Nat) t v, Tryd.f8.params[j]? = some t → args[j]? = some v → Value.okWide Tryd.prog W .any base t v)
    (hW : DataW.Whole enc Tryd.prog Tryd.f8.params.toList Rows.shaLessSpec.vars false W args.toList ds gs before) (hL : laidMetH Tryd.prog Rows.shaLessRow.laid W) :
    Calls Tryd.prog 8 args W fun e W' => ∃ v, e = .returned v ∧ Rows.shaLessSpec.post enc Tryd.prog Tryd.f8 false true false false W args v W' := by
  have hW' := hW
  obtain ⟨p, q, hA, hV, rfl, hfz, hnd⟩ := hW
  rw [Tryd.params8] at hA hval
  obtain ⟨v0, vs0, d0, ds0, p0, q0, hargs, rfl, rfl, h0, r0⟩ := trodAll_cons hA
  obtain ⟨v1, vs1, d1, ds1, p1, q1, rfl, rfl, rfl, h1, r1⟩ := trodAll_cons r0
  obtain ⟨v2, vs2, d2, ds2, p2, q2, rfl, rfl, rfl, h2, r2⟩ := trodAll_cons r1
  obtain ⟨rfl, rfl, rfl⟩ := trodAll_nil r2
  obtain rfl : args = #[v0, v1, v2] := by cases args; simp_all
  have dig (j : Nat) (v : Value) (d : DataW H) (ps : List MemPlace) (hj : #[24, 24, 24][j]? = some 24) (hv : #[v0, v1, v2][j]? = some v) (h : DataW.Trod enc Tryd.prog W 0 (fun _ => true) true 24 v d ps) :
      ∃ l : List UInt8, l.length = 32 ∧ v = .agg (l.map bv).toArray := by
    have ho := hval j 24 v hj hv
    simp only [Value.okWide, Tryd.underlying24] at ho
    obtain ⟨cs, rfl, _⟩ := ho
    obtain ⟨fuel, hf⟩ := h
    obtain ⟨l, hl, he⟩ := open_bytes Tryd.underlying24 Tryd.underlying5 cellsByte cellsDig hf
    refine ⟨l, hl, ?_⟩
    rw [← he]
    simp [Value.cells]
  obtain ⟨a, ha, rfl⟩ := dig 0 v0 d0 p0 rfl rfl h0
  obtain ⟨b, hb, rfl⟩ := dig 1 v1 d1 p1 rfl rfl h1
  obtain ⟨c, hc, rfl⟩ := dig 2 v2 d2 p2 rfl rfl h2
  refine (law_less W a b c ha hb hc (table hL)).mono fun e W' ⟨he, hbe⟩ => ⟨_, he, ?_⟩
  obtain ⟨rfl, _⟩ := trodVars_none hV
  exact law_post laidOut (by rw [Tryd.params8]; intro t ht; simp at ht; subst ht; exact ⟨by kernel_rfl, of_decide_eq_true (by kernel_rfl)⟩) hW' rfl rfl Tryd.underlying4 rfl rfl rfl hbe

/-- a world for the witness: the settled one, the constants (their variable's block) as their initialiser lays them -/
noncomputable def laidWorld (os : Os) : World :=
  { World.holding Tryd.prog os ⟨#[], #[], []⟩ with heap := (World.holding Tryd.prog os ⟨#[], #[], []⟩).heap.modify 1 fun
      | .cells _ t frozen => .cells (ktab.map (fun n : Nat => Value.int .u32 n)).toArray t frozen
      | o => o }
def zeroArg : Value := .agg (List.replicate 32 (Value.int .u8 0)).toArray
theorem laid_met (os : Os) : laidMet Tryd.prog Rows.shaLessRow.laid ((laidWorld os).forCall (fun _ _ => 0) ⟨#[], #[zeroArg, zeroArg, zeroArg], []⟩).memory :=
  laidMet_of_run' 8 (by kernel_rfl) (by kernel_rfl)
theorem reads (os : Os) {H : Type} (enc : TypeId × Value → H) : ∃ ds places, DataW.whole enc Tryd.prog ((laidWorld os).forCall (fun _ _ => 0) ⟨#[], #[zeroArg, zeroArg, zeroArg], []⟩).memory Tryd.f8.params.toList Rows.shaLessSpec.vars false #[zeroArg, zeroArg, zeroArg].toList 8 = some (ds, [], places) :=
  ⟨[.agg (List.replicate 32 (.lit (.int .u8 0))), .agg (List.replicate 32 (.lit (.int .u8 0))), .agg (List.replicate 32 (.lit (.int .u8 0)))], [], by kernel_rfl⟩

set_option maxRecDepth 100000 in
theorem lifted (os : Os) (started : os.Started) (H : Type) (enc : TypeId × Value → H) (F : Stop.Interp) :
    ReturnsInHanded {} Tryd.checked os 8 .any ((OpenSpec.ofChange Rows.shaLessSpec).preRow enc Tryd.prog Tryd.f8 Rows.shaLessRow.domain false Rows.shaLessRow.laid) (((OpenSpec.ofChange Rows.shaLessSpec).at F).post enc Tryd.prog Tryd.f8 false true false false) := by
  obtain ⟨ds, places, hx⟩ := reads os enc
  refine returnsInHanded_of_row (C := Tryd.checked) (s := OpenSpec.ofChange Rows.shaLessSpec) own started (by kernel_rfl) Tryd.func8
    (witness_row_at (enc := enc) (C := Tryd.checked) false (laidWorld os) #[zeroArg, zeroArg, zeroArg] rfl (by kernel_rfl) (by kernel_rfl) (by kernel_rfl)
      (OpenSpec.preRow_of_cond 8 hx (by kernel_rfl) (fun k hk => by cases hk) (by kernel_rfl) (laid_met os))) ?_
  intro W base args ds gs before hval hW _ _ _ hL _ _
  exact contract H enc W base args ds gs before hval hW hL

theorem said : Rows.ShaLessSaid :=
  OpenClaim.holds_of_cond 8 Tryd.f8 rfl rfl rfl rfl rfl rfl rfl ⟨rfl, rfl, rfl, rfl, rfl⟩ rfl rfl rfl rfl rfl (by kernel_rfl) Tryd.func8 (by kernel_rfl)
    (of_decide_eq_true (by kernel_rfl)) (by unfold Func.isWrapper; first | (rw [if_pos (by decide +kernel)]; kernel_rfl) | (rw [if_neg (by decide +kernel)]; exact ⟨rfl, rfl⟩))
    (fun os started H enc _ F => by rw [OpenClaim.pre_eq_preRow]; exact lifted os started H enc F)

theorem plain (f : FuncId) (fn : Func) (hf : Tryd.pinned.checked.prog.funcNamed "tollhouse/tollhouselaw01.ShaLess" = some f) (hfn : Tryd.pinned.checked.prog.funcs[f]? = some fn) :
    false = Tryd.pinned.checked.prog.looks [] ∧ ∀ (j : Nat) t, fn.params[j]? = some t → Tryd.pinned.checked.prog.wantsStandIn t = false := by
  obtain rfl : f = 8 := Option.some.inj ((show Tryd.prog.funcNamed "tollhouse/tollhouselaw01.ShaLess" = some 8 by kernel_rfl).symm.trans hf) |>.symm
  obtain rfl : fn = Tryd.f8 := (Option.some.inj (Tryd.func8.symm.trans hfn)).symm
  refine ⟨by kernel_rfl, fun j t ht => ?_⟩
  rw [Tryd.params8] at ht
  have hm := Array.mem_of_getElem? ht
  simp at hm
  subst hm
  exact (show Tryd.prog.wantsStandIn 24 = false by kernel_rfl)

theorem card : Rows.ShaLessCardSaid :=
  Claim7.holds_tied_plain_at .later [] _ _ _ _ said (fun _ h => by cases h) (by kernel_rfl) (fun _ h => by cases h) shaLess_row_tie rfl ⟨rfl, rfl⟩ (by kernel_rfl) rfl plain (by kernel_rfl)
end Go.Proofs.YtbjfkfajhmcefaaDoor.lawLess
