/-
  Every proof, or that there is none, is the document's, whatever the case: a seed, assets, an asset, a place and a difference. Every input; the constants' tables stand as the program's text lays them.
-/
import Derived.Test.YtbjmjcpdonochaaGreatDoorBP9
import Derived.Test.YtbjmjcpdonochaaGreatDoorQShaTabs
set_option linter.unusedVariables false
set_option linter.unusedSimpArgs false
namespace Go.Proofs.YtbjmjcpdonochaaGreatDoor.lawSurjectProves
open Go.ChangeShapes Go.WideShapes Go.ChangeAt Go.RowKit Go.Proofs.YtbjmjcpdonochaaGreatDoor

set_option maxRecDepth 100000 in
/-- THE CONTRACT, for every argument within the bound and every world that holds the tables. -/
theorem contract (H : Type) (enc : TypeId × Value → H) (W : World) (base : Nat) (args : Array Value) (ds gs : List (DataW H)) (before : List MemPlace)
    (hval : ∀ (j : Nat) t v, Tryz.f8.params[j]? = some t → args[j]? = some v → Value.okWide Tryz.prog W .any base t v)
    (hW : DataW.Whole enc Tryz.prog Tryz.f8.params.toList Rows.surjectProvesSpec.vars false W args.toList ds gs before) (hL : laidMetH Tryz.prog Rows.surjectProvesRow.laid W) :
    Calls Tryz.prog 8 args W fun e W' => ∃ v, e = .returned v ∧ Rows.surjectProvesSpec.post enc Tryz.prog Tryz.f8 false true false false W args v W' := by
  have hW' := hW
  obtain ⟨p, q, hA, hV, rfl, hfz, hnd⟩ := hW
  rw [Tryz.params8] at hA hval
  obtain ⟨v0, vs0, d0, ds0, p0, q0, hargs, rfl, rfl, h0, r0⟩ := trodAll_cons hA
  obtain ⟨rfl, rfl, rfl⟩ := trodAll_nil r0
  obtain rfl : args = #[v0] := by cases args; simp_all
  obtain ⟨rfl, rfl⟩ := trodVars_none hV
  obtain ⟨sd, A, n, c, X, Y, I, ax, ay, ai, z, kx, rfl, hsd, hX, hY, hn, hlk, hax, hay, hkx⟩ := Cu.open_case10 (hval 0 72 v0 rfl rfl) h0
  obtain ⟨t1, t2⟩ := Sh.tabs hL
  refine (Cu.law_surjectproves W sd hsd A n c X Y I hX hY hn hlk ax ay ai hax hay z kx hkx t1 t2).mono fun e W' ⟨he, hbe⟩ => ⟨_, he, ?_⟩
  exact Sh.law_post Sh.laidOutP (by rw [Tryz.params8]; intro t ht; simp at ht; subst ht; exact ⟨by kernel_rfl, of_decide_eq_true (by kernel_rfl)⟩) hW' rfl rfl Tryz.underlying4 rfl rfl rfl hbe

theorem laid_met (os : Os) : laidMet Tryz.prog Rows.surjectProvesRow.laid ((Sh.tabWorld os).forCall (fun _ _ => 0) ⟨#[], #[.agg (List.replicate 32 (Value.int .u8 0) ++ ([Value.slice none 0 0] ++ (List.replicate 8 (Value.int .u64 0) ++ ([Value.bool false, Value.int .i64 0] ++ List.replicate 4 (Value.int .u64 0))))).toArray], []⟩).memory :=
  laidMet_of_run' 8 (by kernel_rfl) (by kernel_rfl)
theorem reads (os : Os) {H : Type} (enc : TypeId × Value → H) : ∃ places, DataW.whole enc Tryz.prog ((Sh.tabWorld os).forCall (fun _ _ => 0) ⟨#[], #[.agg (List.replicate 32 (Value.int .u8 0) ++ ([Value.slice none 0 0] ++ (List.replicate 8 (Value.int .u64 0) ++ ([Value.bool false, Value.int .i64 0] ++ List.replicate 4 (Value.int .u64 0))))).toArray], []⟩).memory Tryz.f8.params.toList Rows.surjectProvesSpec.vars false #[Value.agg (List.replicate 32 (Value.int .u8 0) ++ ([Value.slice none 0 0] ++ (List.replicate 8 (Value.int .u64 0) ++ ([Value.bool false, Value.int .i64 0] ++ List.replicate 4 (Value.int .u64 0))))).toArray].toList 8 = some ([.agg [.agg (List.replicate 32 (.lit (.int .u8 0))), .nil, .agg [.agg [.lit (.int .u64 0), .lit (.int .u64 0), .lit (.int .u64 0), .lit (.int .u64 0)], .agg [.lit (.int .u64 0), .lit (.int .u64 0), .lit (.int .u64 0), .lit (.int .u64 0)], .lit (.bool false)], .lit (.int .i64 0), .agg [.lit (.int .u64 0), .lit (.int .u64 0), .lit (.int .u64 0), .lit (.int .u64 0)]]], [], places) :=
  ⟨[], by kernel_rfl⟩

set_option maxRecDepth 100000 in
theorem lifted (os : Os) (started : os.Started) (H : Type) (enc : TypeId × Value → H) (F : Stop.Interp) :
    ReturnsInHanded {} Tryz.checked os 8 .any ((OpenSpec.ofChange Rows.surjectProvesSpec).preRow enc Tryz.prog Tryz.f8 Rows.surjectProvesRow.domain false Rows.surjectProvesRow.laid) (((OpenSpec.ofChange Rows.surjectProvesSpec).at F).post enc Tryz.prog Tryz.f8 false true false false) := by
  obtain ⟨places, hx⟩ := reads os enc
  refine returnsInHanded_of_row (C := Tryz.checked) (s := OpenSpec.ofChange Rows.surjectProvesSpec) Sh.ownNone started (by kernel_rfl) Tryz.func8
    (witness_row_at (enc := enc) (C := Tryz.checked) false (Sh.tabWorld os) #[.agg (List.replicate 32 (Value.int .u8 0) ++ ([Value.slice none 0 0] ++ (List.replicate 8 (Value.int .u64 0) ++ ([Value.bool false, Value.int .i64 0] ++ List.replicate 4 (Value.int .u64 0))))).toArray] rfl (by kernel_rfl) (by kernel_rfl) (by kernel_rfl)
      (OpenSpec.preRow_of_cond 8 hx (by kernel_rfl) (fun k hk => by cases hk) (by kernel_rfl) (laid_met os))) ?_
  intro W base args ds gs before hval hW _ _ _ hL _ _
  exact contract H enc W base args ds gs before hval hW hL

set_option maxHeartbeats 8000000 in
set_option maxRecDepth 100000 in
theorem said : Rows.SurjectProvesSaid :=
  OpenClaim.holds_of_cond 8 Tryz.f8 rfl rfl rfl rfl rfl rfl rfl ⟨rfl, rfl, rfl, rfl, rfl⟩ rfl rfl rfl rfl rfl (by kernel_rfl) Tryz.func8 (by
      unfold joinedFacts
      repeat' with_reducible refine Bool.and_eq_true_iff.2 ⟨?_, ?_⟩
      all_goals (as_aux_lemma => kernel_rfl))
    (of_decide_eq_true (by kernel_rfl)) (by unfold Func.isWrapper; first | (rw [if_pos (by decide +kernel)]; kernel_rfl) | (rw [if_neg (by decide +kernel)]; exact ⟨rfl, rfl⟩))
    (fun os started H enc _ F => by rw [OpenClaim.pre_eq_preRow]; exact lifted os started H enc F)

theorem plain (f : FuncId) (fn : Func) (hf : Tryz.pinned.checked.prog.funcNamed "tollhouse/tollhouselaw10.SurjectProves" = some f) (hfn : Tryz.pinned.checked.prog.funcs[f]? = some fn) :
    false = Tryz.pinned.checked.prog.looks [] ∧ ∀ (j : Nat) t, fn.params[j]? = some t → Tryz.pinned.checked.prog.wantsStandIn t = false := by
  obtain rfl : f = 8 := Option.some.inj ((show Tryz.prog.funcNamed "tollhouse/tollhouselaw10.SurjectProves" = some 8 by kernel_rfl).symm.trans hf) |>.symm
  obtain rfl : fn = Tryz.f8 := (Option.some.inj (Tryz.func8.symm.trans hfn)).symm
  refine ⟨by kernel_rfl, fun j t ht => ?_⟩
  rw [Tryz.params8] at ht
  have hm := Array.mem_of_getElem? ht
  simp at hm
  subst hm
  exact (show Tryz.prog.wantsStandIn 72 = false by kernel_rfl)

theorem card : Rows.SurjectProvesCardSaid :=
  Claim7.holds_tied_plain_at .later [] _ _ _ _ said (fun _ h => by cases h) (by kernel_rfl) (fun _ h => by cases h) surjectProves_row_tie rfl ⟨rfl, rfl⟩ (by kernel_rfl) rfl plain (by kernel_rfl)
end Go.Proofs.YtbjmjcpdonochaaGreatDoor.lawSurjectProves
