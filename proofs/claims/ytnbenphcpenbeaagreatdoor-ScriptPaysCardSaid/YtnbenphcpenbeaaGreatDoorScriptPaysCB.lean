/-
  A program that asks for a key's signature lets spend whom Verify takes, and nobody else; the key's owner may spend by what he signs; without a witness the stack is too low: for every secret, digest, height and signature. Every input; the constants' table stands as the program's text lays it.
-/
import Derived.Test.YtnbenphcpenbeaaGreatDoorSY6
import Derived.Test.YtnbenphcpenbeaaGreatDoorQYShaTabs
import Derived.Test.YtnbenphcpenbeaaGreatDoorQYShaTab1
set_option linter.unusedVariables false
set_option linter.unusedSimpArgs false
namespace Go.Proofs.YtnbenphcpenbeaaGreatDoor.lawScriptPays
open Go.ChangeShapes Go.WideShapes Go.ChangeAt Go.RowKit Go.Proofs.YtnbenphcpenbeaaGreatDoor

set_option maxRecDepth 100000 in
/-- THE CONTRACT, for every argument within the bound and every world that holds the tables. -/
theorem contract (H : Type) (enc : TypeId × Value → H) (W : World) (base : Nat) (args : Array Value) (ds gs : List (DataW H)) (before : List MemPlace)
    (hval : ∀ (j : Nat) t v, Tryz.f5.params[j]? = some t → args[j]? = some v → Value.okWide Tryz.prog W .any base t v)
    (hW : DataW.Whole enc Tryz.prog Tryz.f5.params.toList Rows.scriptPaysSpec.vars false W args.toList ds gs before) (hL : laidMetH Tryz.prog Rows.scriptPaysRow.laid W) :
    Calls Tryz.prog 5 args W fun e W' => ∃ v, e = .returned v ∧ Rows.scriptPaysSpec.post enc Tryz.prog Tryz.f5 false true false false W args v W' := by
  have hW' := hW
  obtain ⟨p, q, hA, hV, rfl, hfz, hnd⟩ := hW
  rw [Tryz.params5] at hA hval
  obtain ⟨v0, vs0, d0, ds0, p0, q0, hargs, rfl, rfl, h0, r0⟩ := trodAll_cons hA
  obtain ⟨v1, vs1, d1, ds1, p1, q1, rfl, rfl, rfl, h1, r1⟩ := trodAll_cons r0
  obtain ⟨v2, vs2, d2, ds2, p2, q2, rfl, rfl, rfl, h2, r2⟩ := trodAll_cons r1
  obtain ⟨rfl, rfl, rfl⟩ := trodAll_nil r2
  obtain rfl : args = #[v0, v1, v2] := by cases args; simp_all
  obtain ⟨rfl, rfl⟩ := trodVars_none hV
  obtain ⟨n0, l0, rfl⟩ := open_fe Tryz.underlying36 Tryz.underlying26 (by kernel_rfl) (by kernel_rfl) (hval 0 36 v0 rfl rfl) h0
  obtain ⟨cs1, y1, rfl, hl1, hr1, hz1⟩ := Pg.arg_s Pg.opn_cas Tryz.underlying28 (by kernel_rfl) (hval 1 28 v1 rfl rfl) h1
  have ho2 := (hval 2 38 v2 rfl rfl)
  simp only [Value.okWide, Tryz.underlying38] at ho2
  obtain ⟨cs2, rfl, _⟩ := ho2
  obtain ⟨fuel2, hf2⟩ := h2
  obtain ⟨a2, ha2, he2⟩ := Sh.open_bytes Tryz.underlying38 Tryz.underlying5 Sh.cellsByte (show Tryz.prog.cellsOf 38 = 64 by kernel_rfl) hf2
  obtain rfl : cs2 = (a2.map bv).toArray := by
    rw [← he2]
    simp [Value.cells]
  have t1 := Sh.tab1 hL
  refine (Pg.law_scriptpays W n0 l0 cs1 y1 hr1 a2 ha2 t1).mono fun e W' ⟨he, hbe⟩ => ⟨_, he, ?_⟩
  exact Sh.law_post Sh.laidOutP (by rw [Tryz.params5]; intro t ht; simp at ht; rcases ht with rfl | rfl | rfl <;> exact ⟨by kernel_rfl, of_decide_eq_true (by kernel_rfl)⟩) hW' rfl rfl Tryz.underlying4 rfl rfl rfl hbe

theorem laid_met (os : Os) : laidMet Tryz.prog Rows.scriptPaysRow.laid ((Sh.tabWorld1 os).forCall (fun _ _ => 0) ⟨#[], #[.agg #[.int .u64 0, .int .u64 0, .int .u64 0, .int .u64 0], .agg ([Value.slice none 0 0] ++ List.replicate 32 (Value.int .u8 0) ++ [Value.int .u64 0]).toArray, .agg (List.replicate 64 (Value.int .u8 0)).toArray], []⟩).memory :=
  laidMet_of_run' 8 (by kernel_rfl) (by kernel_rfl)
theorem reads (os : Os) {H : Type} (enc : TypeId × Value → H) : ∃ places, DataW.whole enc Tryz.prog ((Sh.tabWorld1 os).forCall (fun _ _ => 0) ⟨#[], #[.agg #[.int .u64 0, .int .u64 0, .int .u64 0, .int .u64 0], .agg ([Value.slice none 0 0] ++ List.replicate 32 (Value.int .u8 0) ++ [Value.int .u64 0]).toArray, .agg (List.replicate 64 (Value.int .u8 0)).toArray], []⟩).memory Tryz.f5.params.toList Rows.scriptPaysSpec.vars false #[Value.agg #[.int .u64 0, .int .u64 0, .int .u64 0, .int .u64 0], .agg ([Value.slice none 0 0] ++ List.replicate 32 (Value.int .u8 0) ++ [Value.int .u64 0]).toArray, .agg (List.replicate 64 (Value.int .u8 0)).toArray].toList 8 = some ([.agg [.lit (.int .u64 0), .lit (.int .u64 0), .lit (.int .u64 0), .lit (.int .u64 0)], .agg [.nil, .agg (List.replicate 32 (.lit (.int .u8 0))), .lit (.int .u64 0)], .agg (List.replicate 64 (.lit (.int .u8 0)))], [], places) :=
  ⟨[], by kernel_rfl⟩

set_option maxRecDepth 100000 in
theorem lifted (os : Os) (started : os.Started) (H : Type) (enc : TypeId × Value → H) (F : Stop.Interp) :
    ReturnsInHanded {} Tryz.checked os 5 .any ((OpenSpec.ofChange Rows.scriptPaysSpec).preRow enc Tryz.prog Tryz.f5 Rows.scriptPaysRow.domain false Rows.scriptPaysRow.laid) (((OpenSpec.ofChange Rows.scriptPaysSpec).at F).post enc Tryz.prog Tryz.f5 false true false false) := by
  obtain ⟨places, hx⟩ := reads os enc
  refine returnsInHanded_of_row (C := Tryz.checked) (s := OpenSpec.ofChange Rows.scriptPaysSpec) Sh.ownNone started (by kernel_rfl) Tryz.func5
    (witness_row_at (enc := enc) (C := Tryz.checked) false (Sh.tabWorld1 os) #[.agg #[.int .u64 0, .int .u64 0, .int .u64 0, .int .u64 0], .agg ([Value.slice none 0 0] ++ List.replicate 32 (Value.int .u8 0) ++ [Value.int .u64 0]).toArray, .agg (List.replicate 64 (Value.int .u8 0)).toArray] rfl (by kernel_rfl) (by kernel_rfl) (by kernel_rfl)
      (OpenSpec.preRow_of_cond 8 hx (by kernel_rfl) (fun k hk => by cases hk) (by kernel_rfl) (laid_met os))) ?_
  intro W base args ds gs before hval hW _ _ _ hL _ _
  exact contract H enc W base args ds gs before hval hW hL

set_option maxHeartbeats 8000000 in
set_option maxRecDepth 100000 in
theorem said : Rows.ScriptPaysSaid :=
  OpenClaim.holds_of_cond 5 Tryz.f5 rfl rfl rfl rfl rfl rfl rfl ⟨rfl, rfl, rfl, rfl, rfl⟩ rfl rfl rfl rfl rfl (by kernel_rfl) Tryz.func5 (by
      unfold joinedFacts
      repeat' with_reducible refine Bool.and_eq_true_iff.2 ⟨?_, ?_⟩
      all_goals (as_aux_lemma => kernel_rfl))
    (of_decide_eq_true (by kernel_rfl)) (by unfold Func.isWrapper; first | (rw [if_pos (by decide +kernel)]; kernel_rfl) | (rw [if_neg (by decide +kernel)]; exact ⟨rfl, rfl⟩))
    (fun os started H enc _ F => by rw [OpenClaim.pre_eq_preRow]; exact lifted os started H enc F)

theorem plain (f : FuncId) (fn : Func) (hf : Tryz.pinned.checked.prog.funcNamed "tollhouse/tollhouselaw13.ScriptPays" = some f) (hfn : Tryz.pinned.checked.prog.funcs[f]? = some fn) :
    false = Tryz.pinned.checked.prog.looks [] ∧ ∀ (j : Nat) t, fn.params[j]? = some t → Tryz.pinned.checked.prog.wantsStandIn t = false := by
  obtain rfl : f = 5 := Option.some.inj ((show Tryz.prog.funcNamed "tollhouse/tollhouselaw13.ScriptPays" = some 5 by kernel_rfl).symm.trans hf) |>.symm
  obtain rfl : fn = Tryz.f5 := (Option.some.inj (Tryz.func5.symm.trans hfn)).symm
  refine ⟨by kernel_rfl, fun j t ht => ?_⟩
  rw [Tryz.params5] at ht
  have hm := Array.mem_of_getElem? ht
  simp at hm
  rcases hm with rfl | rfl | rfl
  · exact (show Tryz.prog.wantsStandIn 36 = false by kernel_rfl)
  · exact (show Tryz.prog.wantsStandIn 28 = false by kernel_rfl)
  · exact (show Tryz.prog.wantsStandIn 38 = false by kernel_rfl)

theorem card : Rows.ScriptPaysCardSaid :=
  Claim7.holds_tied_plain_at .later [] _ _ _ _ said (fun _ h => by cases h) (by kernel_rfl) (fun _ h => by cases h) scriptPays_row_tie rfl ⟨rfl, rfl⟩ (by kernel_rfl) rfl plain (by kernel_rfl)
end Go.Proofs.YtnbenphcpenbeaaGreatDoor.lawScriptPays
