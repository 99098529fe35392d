/-
  Whether an opening is that of a tag and an amount is told as the document says: for every tag, amount and opening. Every input; the constants' tables stand as the program's text lays them.
-/
import Derived.Test.YtbofhoonlmikcaaGreatDoorBZ7
import Derived.Test.YtbofhoonlmikcaaGreatDoorLift
import Derived.Test.YtbofhoonlmikcaaGreatDoorShaTabs
set_option linter.unusedVariables false
set_option linter.unusedSimpArgs false
namespace Go.Proofs.YtbofhoonlmikcaaGreatDoor.lawCOpens
open Go.ChangeShapes Go.WideShapes Go.ChangeAt Go.RowKit Go.Proofs.YtbofhoonlmikcaaGreatDoor

set_option maxRecDepth 100000 in
/-- THE CONTRACT, for every argument within the bound and every world that holds the tables. -/
theorem contract (H : Type) (enc : TypeId × Value → H) (W : World) (base : Nat) (args : Array Value) (ds gs : List (DataW H)) (before : List MemPlace)
    (hval : ∀ (j : Nat) t v, Tryz.f9.params[j]? = some t → args[j]? = some v → Value.okWide Tryz.prog W .any base t v)
    (hW : DataW.Whole enc Tryz.prog Tryz.f9.params.toList Rows.commitOpensSpec.vars false W args.toList ds gs before) (hL : laidMetH Tryz.prog Rows.commitOpensRow.laid W) :
    Calls Tryz.prog 9 args W fun e W' => ∃ v, e = .returned v ∧ Rows.commitOpensSpec.post enc Tryz.prog Tryz.f9 false true false false W args v W' := by
  have hW' := hW
  obtain ⟨p, q, hA, hV, rfl, hfz, hnd⟩ := hW
  rw [Tryz.params9] at hA hval
  obtain ⟨v0, vs0, d0, ds0, p0, q0, hargs, rfl, rfl, h0, r0⟩ := trodAll_cons hA
  obtain ⟨v1, vs1, d1, ds1, p1, q1, rfl, rfl, rfl, h1, r1⟩ := trodAll_cons r0
  obtain ⟨v2, vs2, d2, ds2, p2, q2, rfl, rfl, rfl, h2, r2⟩ := trodAll_cons r1
  obtain ⟨rfl, rfl, rfl⟩ := trodAll_nil r2
  obtain rfl : args = #[v0, v1, v2] := by cases args; simp_all
  obtain ⟨rfl, rfl⟩ := trodVars_none hV
  obtain ⟨b0, id0, x0, y0, i0, hid0, hx0, hy0, rfl⟩ := Cu.open_tag (hval 0 57 v0 rfl rfl) h0
  obtain ⟨f0, rfl⟩ := Cu.l32_of id0 hid0
  obtain ⟨b1, v1', x1, y1, i1, hv1, hx1, hy1, rfl⟩ := Cu.open_amount (hval 1 59 v1 rfl rfl) h1
  obtain ⟨id2, u2, k2, l2, hid2, hu2, hk2, hl2, rfl⟩ := Cu.open_opening (hval 2 49 v2 rfl rfl) h2
  obtain ⟨f2, rfl⟩ := Cu.l32_of id2 hid2
  obtain ⟨t1, t2⟩ := Sh.tabs hL
  refine (Cu.law_copens W b0 b1 f0 x0 y0 i0 hx0 hy0 v1' hv1 x1 y1 i1 hx1 hy1 f2 u2 k2 l2 hu2 hk2 hl2 t1 t2).mono fun e W' ⟨he, hbe⟩ => ⟨_, he, ?_⟩
  exact Sh.law_post Sh.laidOutP (by rw [Tryz.params9]; intro t ht; simp at ht; rcases ht with rfl | rfl | rfl <;> exact ⟨by kernel_rfl, of_decide_eq_true (by kernel_rfl)⟩) hW' rfl rfl Tryz.underlying4 rfl rfl rfl hbe

theorem laid_met (os : Os) : laidMet Tryz.prog Rows.commitOpensRow.laid ((Sh.tabWorld os).forCall (fun _ _ => 0) ⟨#[], #[.agg ([Value.bool false] ++ List.replicate 32 (Value.int .u8 0) ++ List.replicate 8 (Value.int .u64 0) ++ [Value.bool false]).toArray, .agg ([Value.bool false] ++ List.replicate 9 (Value.int .u64 0) ++ [Value.bool false]).toArray, .agg (List.replicate 32 (Value.int .u8 0) ++ List.replicate 9 (Value.int .u64 0)).toArray], []⟩).memory :=
  laidMet_of_run' 8 (by kernel_rfl) (by kernel_rfl)
theorem reads (os : Os) {H : Type} (enc : TypeId × Value → H) : ∃ places, DataW.whole enc Tryz.prog ((Sh.tabWorld os).forCall (fun _ _ => 0) ⟨#[], #[.agg ([Value.bool false] ++ List.replicate 32 (Value.int .u8 0) ++ List.replicate 8 (Value.int .u64 0) ++ [Value.bool false]).toArray, .agg ([Value.bool false] ++ List.replicate 9 (Value.int .u64 0) ++ [Value.bool false]).toArray, .agg (List.replicate 32 (Value.int .u8 0) ++ List.replicate 9 (Value.int .u64 0)).toArray], []⟩).memory Tryz.f9.params.toList Rows.commitOpensSpec.vars false #[Value.agg ([Value.bool false] ++ List.replicate 32 (Value.int .u8 0) ++ List.replicate 8 (Value.int .u64 0) ++ [Value.bool false]).toArray, .agg ([Value.bool false] ++ List.replicate 9 (Value.int .u64 0) ++ [Value.bool false]).toArray, .agg (List.replicate 32 (Value.int .u8 0) ++ List.replicate 9 (Value.int .u64 0)).toArray].toList 8 = some ([.agg [.lit (.bool false), .agg (List.replicate 32 (.lit (.int .u8 0))), .agg [.agg [.lit (.int .u64 0), .lit (.int .u64 0), .lit (.int .u64 0), .lit (.int .u64 0)], .agg [.lit (.int .u64 0), .lit (.int .u64 0), .lit (.int .u64 0), .lit (.int .u64 0)], .lit (.bool false)]], .agg [.lit (.bool false), .lit (.int .u64 0), .agg [.agg [.lit (.int .u64 0), .lit (.int .u64 0), .lit (.int .u64 0), .lit (.int .u64 0)], .agg [.lit (.int .u64 0), .lit (.int .u64 0), .lit (.int .u64 0), .lit (.int .u64 0)], .lit (.bool false)]], .agg [.agg (List.replicate 32 (.lit (.int .u8 0))), .lit (.int .u64 0), .agg [.lit (.int .u64 0), .lit (.int .u64 0), .lit (.int .u64 0), .lit (.int .u64 0)], .agg [.lit (.int .u64 0), .lit (.int .u64 0), .lit (.int .u64 0), .lit (.int .u64 0)]]], [], places) :=
  ⟨[], by kernel_rfl⟩

set_option maxRecDepth 100000 in
theorem lifted (os : Os) (started : os.Started) (H : Type) (enc : TypeId × Value → H) (F : Stop.Interp) :
    ReturnsInHanded {} Tryz.checked os 9 .any ((OpenSpec.ofChange Rows.commitOpensSpec).preRow enc Tryz.prog Tryz.f9 Rows.commitOpensRow.domain false Rows.commitOpensRow.laid) (((OpenSpec.ofChange Rows.commitOpensSpec).at F).post enc Tryz.prog Tryz.f9 false true false false) := by
  obtain ⟨places, hx⟩ := reads os enc
  refine returnsInHanded_of_row (C := Tryz.checked) (s := OpenSpec.ofChange Rows.commitOpensSpec) Sh.ownNone started (by kernel_rfl) Tryz.func9
    (witness_row_at (enc := enc) (C := Tryz.checked) false (Sh.tabWorld os) #[.agg ([Value.bool false] ++ List.replicate 32 (Value.int .u8 0) ++ List.replicate 8 (Value.int .u64 0) ++ [Value.bool false]).toArray, .agg ([Value.bool false] ++ List.replicate 9 (Value.int .u64 0) ++ [Value.bool false]).toArray, .agg (List.replicate 32 (Value.int .u8 0) ++ List.replicate 9 (Value.int .u64 0)).toArray] rfl (by kernel_rfl) (by kernel_rfl) (by kernel_rfl)
      (OpenSpec.preRow_of_cond 8 hx (by kernel_rfl) (fun k hk => by cases hk) (by kernel_rfl) (laid_met os))) ?_
  intro W base args ds gs before hval hW _ _ _ hL _ _
  exact contract H enc W base args ds gs before hval hW hL

theorem said : Rows.CommitOpensSaid :=
  OpenClaim.holds_of_cond 9 Tryz.f9 rfl rfl rfl rfl rfl rfl rfl ⟨rfl, rfl, rfl, rfl, rfl⟩ rfl rfl rfl rfl rfl (by kernel_rfl) Tryz.func9 (by kernel_rfl)
    (of_decide_eq_true (by kernel_rfl)) (by unfold Func.isWrapper; first | (rw [if_pos (by decide +kernel)]; kernel_rfl) | (rw [if_neg (by decide +kernel)]; exact ⟨rfl, rfl⟩))
    (fun os started H enc _ F => by rw [OpenClaim.pre_eq_preRow]; exact lifted os started H enc F)

theorem plain (f : FuncId) (fn : Func) (hf : Tryz.pinned.checked.prog.funcNamed "tollhouse/tollhouselaw07.CommitOpens" = some f) (hfn : Tryz.pinned.checked.prog.funcs[f]? = some fn) :
    false = Tryz.pinned.checked.prog.looks [] ∧ ∀ (j : Nat) t, fn.params[j]? = some t → Tryz.pinned.checked.prog.wantsStandIn t = false := by
  obtain rfl : f = 9 := Option.some.inj ((show Tryz.prog.funcNamed "tollhouse/tollhouselaw07.CommitOpens" = some 9 by kernel_rfl).symm.trans hf) |>.symm
  obtain rfl : fn = Tryz.f9 := (Option.some.inj (Tryz.func9.symm.trans hfn)).symm
  refine ⟨by kernel_rfl, fun j t ht => ?_⟩
  rw [Tryz.params9] at ht
  have hm := Array.mem_of_getElem? ht
  simp at hm
  rcases hm with rfl | rfl | rfl
  · exact (show Tryz.prog.wantsStandIn 57 = false by kernel_rfl)
  · exact (show Tryz.prog.wantsStandIn 59 = false by kernel_rfl)
  · exact (show Tryz.prog.wantsStandIn 49 = false by kernel_rfl)

theorem card : Rows.CommitOpensCardSaid :=
  Claim7.holds_tied_plain_at .later [] _ _ _ _ said (fun _ h => by cases h) (by kernel_rfl) (fun _ h => by cases h) commitOpens_row_tie rfl ⟨rfl, rfl⟩ (by kernel_rfl) rfl plain (by kernel_rfl)
end Go.Proofs.YtbofhoonlmikcaaGreatDoor.lawCOpens
