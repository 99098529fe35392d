/-
  Of all bytes it is told as the document says whether they are a proof, for all assets and every asset; the bytes stay as they were: for all that the row's bound lets in (together at most 1048576 values); the constants' tables stand as the program's text lays them.
-/
import Derived.Test.YtbjmjcpdonochaaGreatDoorBE9
import Derived.Test.YtbjmjcpdonochaaGreatDoorQEShaTabs
set_option linter.unusedVariables false
set_option linter.unusedSimpArgs false
namespace Go.Proofs.YtbjmjcpdonochaaGreatDoor.lawSurjectVerifies
open Go.ChangeShapes Go.WideShapes Go.ChangeAt Go.RowKit Go.Proofs.YtbjmjcpdonochaaGreatDoor

set_option maxRecDepth 100000 in
/-- THE CONTRACT, for every argument within the bound and every world that holds the tables. -/
theorem contract (H : Type) (enc : TypeId × Value → H) (W : World) (base : Nat) (args : Array Value) (ds gs : List (DataW H)) (before : List MemPlace)
    (hval : ∀ (j : Nat) t v, Tryz.f9.params[j]? = some t → args[j]? = some v → Value.okWide Tryz.prog W .any base t v)
    (hW : DataW.Whole enc Tryz.prog Tryz.f9.params.toList Rows.surjectVerifiesSpec.vars false W args.toList ds gs before) (hk : Rows.uptoSmall H (ds ++ gs) = true) (hL : laidMetH Tryz.prog Rows.surjectVerifiesUptoRow.laid W) :
    Calls Tryz.prog 9 args W fun e W' => ∃ v, e = .returned v ∧ Rows.surjectVerifiesSpec.post enc Tryz.prog Tryz.f9 false true false false W args v W' := by
  have hW' := hW
  obtain ⟨p, q, hA, hV, rfl, hfz, hnd⟩ := hW
  rw [Tryz.params9] at hA hval
  obtain ⟨v0, vs0, d0, ds0, p0, q0, hargs, rfl, rfl, h0, r0⟩ := trodAll_cons hA
  obtain ⟨v1, vs1, d1, ds1, p1, q1, rfl, rfl, rfl, h1, r1⟩ := trodAll_cons r0
  obtain ⟨v2, vs2, d2, ds2, p2, q2, rfl, rfl, rfl, h2, r2⟩ := trodAll_cons r1
  obtain ⟨rfl, rfl, rfl⟩ := trodAll_nil r2
  obtain rfl : args = #[v0, v1, v2] := by cases args; simp_all
  obtain ⟨rfl, rfl⟩ := trodVars_none hV
  obtain ⟨A, n, c, X, Y, I, rfl, hX, hY, hn, hlk⟩ := Cu.open_pts (hval 0 45 v0 rfl rfl) h0
  obtain ⟨x1, y1, i1, hx1, hy1, rfl⟩ := Cu.open_point (hval 1 48 v1 rfl rfl) h1
  obtain ⟨A2, m2, c2, rfl, kc2, mc2, s2, b2⟩ := Sh.open_src Tryz.underlying24 Tryz.underlying5 Sh.cellsByte (hval 2 24 v2 rfl rfl) h2
  have hb := of_decide_eq_true hk
  simp only [List.append_nil, Rows.uptoBulkAll] at hb
  obtain ⟨t1, t2⟩ := Sh.tabs hL
  refine (Cu.law_surjectverifies W A n c X Y I hX hY hn hlk x1 y1 i1 hx1 hy1 A2 m2 m2.length c2 rfl (by omega) (by omega) (by omega) s2 t1 t2).mono fun e W' ⟨he, hbe⟩ => ⟨_, he, ?_⟩
  exact Sh.law_post Sh.laidOutP (by rw [Tryz.params9]; intro t ht; simp at ht; rcases ht with rfl | rfl | rfl <;> exact ⟨by kernel_rfl, of_decide_eq_true (by kernel_rfl)⟩) hW' rfl rfl Tryz.underlying4 rfl rfl rfl hbe

theorem laid_met (os : Os) : laidMet Tryz.prog Rows.surjectVerifiesUptoRow.laid ((Sh.tabWorld os).forCall (fun _ _ => 0) ⟨#[], #[.slice none 0 0, .agg (List.replicate 8 (Value.int .u64 0) ++ [Value.bool false]).toArray, .slice none 0 0], []⟩).memory :=
  laidMet_of_run' 8 (by kernel_rfl) (by kernel_rfl)
theorem reads (os : Os) {H : Type} (enc : TypeId × Value → H) : ∃ places, DataW.whole enc Tryz.prog ((Sh.tabWorld os).forCall (fun _ _ => 0) ⟨#[], #[.slice none 0 0, .agg (List.replicate 8 (Value.int .u64 0) ++ [Value.bool false]).toArray, .slice none 0 0], []⟩).memory Tryz.f9.params.toList Rows.surjectVerifiesSpec.vars false #[Value.slice none 0 0, .agg (List.replicate 8 (Value.int .u64 0) ++ [Value.bool false]).toArray, .slice none 0 0].toList 8 = some ([.nil, .agg [.agg [.lit (.int .u64 0), .lit (.int .u64 0), .lit (.int .u64 0), .lit (.int .u64 0)], .agg [.lit (.int .u64 0), .lit (.int .u64 0), .lit (.int .u64 0), .lit (.int .u64 0)], .lit (.bool false)], .nil], [], places) :=
  ⟨[], by kernel_rfl⟩

set_option maxRecDepth 100000 in
theorem lifted (os : Os) (started : os.Started) (H : Type) (enc : TypeId × Value → H) (F : Stop.Interp) :
    ReturnsInHanded {} Tryz.checked os 9 .any ((Rows.OpenSpec.upto Rows.surjectVerifiesSpec).preRow enc Tryz.prog Tryz.f9 Rows.surjectVerifiesUptoRow.domain false Rows.surjectVerifiesUptoRow.laid) (((Rows.OpenSpec.upto Rows.surjectVerifiesSpec).at F).post enc Tryz.prog Tryz.f9 false true false false) := by
  obtain ⟨places, hx⟩ := reads os enc
  refine returnsInHanded_of_row (C := Tryz.checked) (s := Rows.OpenSpec.upto Rows.surjectVerifiesSpec) Sh.ownNone started (by kernel_rfl) Tryz.func9
    (witness_row_at (enc := enc) (C := Tryz.checked) false (Sh.tabWorld os) #[.slice none 0 0, .agg (List.replicate 8 (Value.int .u64 0) ++ [Value.bool false]).toArray, .slice none 0 0] rfl (by kernel_rfl) (by kernel_rfl) (by kernel_rfl)
      (OpenSpec.preRow_of_cond 8 hx (by kernel_rfl) (fun k hk => by cases hk; kernel_rfl) (by kernel_rfl) (laid_met os))) ?_
  intro W base args ds gs before hval hW _ hcond _ hL _ _
  exact contract H enc W base args ds gs before hval hW (hcond _ rfl) hL

set_option maxHeartbeats 8000000 in
set_option maxRecDepth 100000 in
theorem said : Rows.SurjectVerifiesUptoSaid :=
  OpenClaim.holds_of_cond 9 Tryz.f9 rfl rfl rfl rfl rfl rfl rfl ⟨rfl, rfl, rfl, rfl, rfl⟩ rfl rfl rfl rfl rfl (by kernel_rfl) Tryz.func9 (by
      unfold joinedFacts
      repeat' with_reducible refine Bool.and_eq_true_iff.2 ⟨?_, ?_⟩
      all_goals (as_aux_lemma => kernel_rfl))
    (of_decide_eq_true (by kernel_rfl)) (by unfold Func.isWrapper; first | (rw [if_pos (by decide +kernel)]; kernel_rfl) | (rw [if_neg (by decide +kernel)]; exact ⟨rfl, rfl⟩))
    (fun os started H enc _ F => by rw [OpenClaim.pre_eq_preRow]; exact lifted os started H enc F)

theorem plain (f : FuncId) (fn : Func) (hf : Tryz.pinned.checked.prog.funcNamed "tollhouse/tollhouselaw10.SurjectVerifies" = some f) (hfn : Tryz.pinned.checked.prog.funcs[f]? = some fn) :
    false = Tryz.pinned.checked.prog.looks [] ∧ ∀ (j : Nat) t, fn.params[j]? = some t → Tryz.pinned.checked.prog.wantsStandIn t = false := by
  obtain rfl : f = 9 := Option.some.inj ((show Tryz.prog.funcNamed "tollhouse/tollhouselaw10.SurjectVerifies" = some 9 by kernel_rfl).symm.trans hf) |>.symm
  obtain rfl : fn = Tryz.f9 := (Option.some.inj (Tryz.func9.symm.trans hfn)).symm
  refine ⟨by kernel_rfl, fun j t ht => ?_⟩
  rw [Tryz.params9] at ht
  have hm := Array.mem_of_getElem? ht
  simp at hm
  rcases hm with rfl | rfl | rfl
  · exact (show Tryz.prog.wantsStandIn 45 = false by kernel_rfl)
  · exact (show Tryz.prog.wantsStandIn 48 = false by kernel_rfl)
  · exact (show Tryz.prog.wantsStandIn 24 = false by kernel_rfl)

theorem card : Rows.SurjectVerifiesUptoCardSaid :=
  Claim7.holds_tied_plain_at .later [] _ _ _ _ said (fun _ h => by cases h) (by kernel_rfl) (fun _ h => by cases h) surjectVerifiesUpto_row_tie rfl ⟨rfl, rfl⟩ (by kernel_rfl) rfl plain (by kernel_rfl)
end Go.Proofs.YtbjmjcpdonochaaGreatDoor.lawSurjectVerifies
