/-
  Of every program, on every witness, the code tells whether it lets spend, or why not, as the document does. Every input; the constants' tables stand as the program's text lays them.
-/
import Derived.Test.YtnbenphcpenbeaaGreatDoorSZ8
import Derived.Test.YtnbenphcpenbeaaGreatDoorQYShaTabs
set_option linter.unusedVariables false
set_option linter.unusedSimpArgs false
namespace Go.Proofs.YtnbenphcpenbeaaGreatDoor.lawScriptRuns
open Go.ChangeShapes Go.WideShapes Go.ChangeAt Go.RowKit Go.Proofs.YtnbenphcpenbeaaGreatDoor

set_option maxRecDepth 100000 in
/-- THE CONTRACT, for every argument within the bound and every world that holds the tables. -/
theorem contract (H : Type) (enc : TypeId × Value → H) (W : World) (base : Nat) (args : Array Value) (ds gs : List (DataW H)) (before : List MemPlace)
    (hval : ∀ (j : Nat) t v, Tryz.f3.params[j]? = some t → args[j]? = some v → Value.okWide Tryz.prog W .any base t v)
    (hW : DataW.Whole enc Tryz.prog Tryz.f3.params.toList Rows.scriptRunsSpec.vars false W args.toList ds gs before) (hL : laidMetH Tryz.prog Rows.scriptRunsRow.laid W) :
    Calls Tryz.prog 3 args W fun e W' => ∃ v, e = .returned v ∧ Rows.scriptRunsSpec.post enc Tryz.prog Tryz.f3 false true false false W args v W' := by
  have hW' := hW
  obtain ⟨p, q, hA, hV, rfl, hfz, hnd⟩ := hW
  rw [Tryz.params3] at hA hval
  obtain ⟨v0, vs0, d0, ds0, p0, q0, hargs, rfl, rfl, h0, r0⟩ := trodAll_cons hA
  obtain ⟨v1, vs1, d1, ds1, p1, q1, rfl, rfl, rfl, h1, r1⟩ := trodAll_cons r0
  obtain ⟨rfl, rfl, rfl⟩ := trodAll_nil r1
  obtain rfl : args = #[v0, v1] := by cases args; simp_all
  obtain ⟨rfl, rfl⟩ := trodVars_none hV
  obtain ⟨y0, hr0, hz0⟩ := Pg.arg_v Pg.opn_by Tryz.underlying22 (hval 0 22 v0 rfl rfl) h0
  obtain ⟨cs1, y1, rfl, hl1, hr1, hz1⟩ := Pg.arg_s Pg.opn_cas Tryz.underlying28 (by kernel_rfl) (hval 1 28 v1 rfl rfl) h1
  obtain ⟨t1, t2⟩ := Sh.tabs hL
  refine (Pg.law_scriptruns W v0 y0 hr0.one cs1 y1 hr1 t1 t2).mono fun e W' ⟨he, hbe⟩ => ⟨_, he, ?_⟩
  exact Sh.law_post Sh.laidOutP (by rw [Tryz.params3]; intro t ht; simp at ht; rcases ht with rfl | rfl <;> exact ⟨by kernel_rfl, of_decide_eq_true (by kernel_rfl)⟩) hW' rfl rfl Tryz.underlying4 rfl rfl rfl hbe

theorem laid_met (os : Os) : laidMet Tryz.prog Rows.scriptRunsRow.laid ((Sh.tabWorld os).forCall (fun _ _ => 0) ⟨#[], #[.slice none 0 0, .agg ([Value.slice none 0 0] ++ List.replicate 32 (Value.int .u8 0) ++ [Value.int .u64 0]).toArray], []⟩).memory :=
  laidMet_of_run' 8 (by kernel_rfl) (by kernel_rfl)
theorem reads (os : Os) {H : Type} (enc : TypeId × Value → H) : ∃ places, DataW.whole enc Tryz.prog ((Sh.tabWorld os).forCall (fun _ _ => 0) ⟨#[], #[.slice none 0 0, .agg ([Value.slice none 0 0] ++ List.replicate 32 (Value.int .u8 0) ++ [Value.int .u64 0]).toArray], []⟩).memory Tryz.f3.params.toList Rows.scriptRunsSpec.vars false #[Value.slice none 0 0, .agg ([Value.slice none 0 0] ++ List.replicate 32 (Value.int .u8 0) ++ [Value.int .u64 0]).toArray].toList 8 = some ([.nil, .agg [.nil, .agg (List.replicate 32 (.lit (.int .u8 0))), .lit (.int .u64 0)]], [], places) :=
  ⟨[], by kernel_rfl⟩

set_option maxRecDepth 100000 in
theorem lifted (os : Os) (started : os.Started) (H : Type) (enc : TypeId × Value → H) (F : Stop.Interp) :
    ReturnsInHanded {} Tryz.checked os 3 .any ((OpenSpec.ofChange Rows.scriptRunsSpec).preRow enc Tryz.prog Tryz.f3 Rows.scriptRunsRow.domain false Rows.scriptRunsRow.laid) (((OpenSpec.ofChange Rows.scriptRunsSpec).at F).post enc Tryz.prog Tryz.f3 false true false false) := by
  obtain ⟨places, hx⟩ := reads os enc
  refine returnsInHanded_of_row (C := Tryz.checked) (s := OpenSpec.ofChange Rows.scriptRunsSpec) Sh.ownNone started (by kernel_rfl) Tryz.func3
    (witness_row_at (enc := enc) (C := Tryz.checked) false (Sh.tabWorld os) #[.slice none 0 0, .agg ([Value.slice none 0 0] ++ List.replicate 32 (Value.int .u8 0) ++ [Value.int .u64 0]).toArray] rfl (by kernel_rfl) (by kernel_rfl) (by kernel_rfl)
      (OpenSpec.preRow_of_cond 8 hx (by kernel_rfl) (fun k hk => by cases hk) (by kernel_rfl) (laid_met os))) ?_
  intro W base args ds gs before hval hW _ _ _ hL _ _
  exact contract H enc W base args ds gs before hval hW hL

set_option maxHeartbeats 8000000 in
set_option maxRecDepth 100000 in
theorem said : Rows.ScriptRunsSaid :=
  OpenClaim.holds_of_cond 3 Tryz.f3 rfl rfl rfl rfl rfl rfl rfl ⟨rfl, rfl, rfl, rfl, rfl⟩ rfl rfl rfl rfl rfl (by kernel_rfl) Tryz.func3 (by
      unfold joinedFacts
      repeat' with_reducible refine Bool.and_eq_true_iff.2 ⟨?_, ?_⟩
      all_goals (as_aux_lemma => kernel_rfl))
    (of_decide_eq_true (by kernel_rfl)) (by unfold Func.isWrapper; first | (rw [if_pos (by decide +kernel)]; kernel_rfl) | (rw [if_neg (by decide +kernel)]; exact ⟨rfl, rfl⟩))
    (fun os started H enc _ F => by rw [OpenClaim.pre_eq_preRow]; exact lifted os started H enc F)

theorem plain (f : FuncId) (fn : Func) (hf : Tryz.pinned.checked.prog.funcNamed "tollhouse/tollhouselaw13.ScriptRuns" = some f) (hfn : Tryz.pinned.checked.prog.funcs[f]? = some fn) :
    false = Tryz.pinned.checked.prog.looks [] ∧ ∀ (j : Nat) t, fn.params[j]? = some t → Tryz.pinned.checked.prog.wantsStandIn t = false := by
  obtain rfl : f = 3 := Option.some.inj ((show Tryz.prog.funcNamed "tollhouse/tollhouselaw13.ScriptRuns" = some 3 by kernel_rfl).symm.trans hf) |>.symm
  obtain rfl : fn = Tryz.f3 := (Option.some.inj (Tryz.func3.symm.trans hfn)).symm
  refine ⟨by kernel_rfl, fun j t ht => ?_⟩
  rw [Tryz.params3] at ht
  have hm := Array.mem_of_getElem? ht
  simp at hm
  rcases hm with rfl | rfl
  · exact (show Tryz.prog.wantsStandIn 22 = false by kernel_rfl)
  · exact (show Tryz.prog.wantsStandIn 28 = false by kernel_rfl)

theorem card : Rows.ScriptRunsCardSaid :=
  Claim7.holds_tied_plain_at .later [] _ _ _ _ said (fun _ h => by cases h) (by kernel_rfl) (fun _ h => by cases h) scriptRuns_row_tie rfl ⟨rfl, rfl⟩ (by kernel_rfl) rfl plain (by kernel_rfl)
end Go.Proofs.YtnbenphcpenbeaaGreatDoor.lawScriptRuns
