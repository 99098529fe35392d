/-
  Every name is the digest that the document says: for all transactions, blocks and beginnings that the row's bound lets in (together at most 1048576 values); the constants' tables stand as the program's text lays them.
-/
import Derived.Test.YtgggdbjakcpanaaGreatDoorNX7
import Derived.Test.YtgggdbjakcpanaaGreatDoorQCShaTabs
set_option linter.unusedVariables false
set_option linter.unusedSimpArgs false
namespace Go.Proofs.YtgggdbjakcpanaaGreatDoor.lawWNames
open Go.ChangeShapes Go.WideShapes Go.ChangeAt Go.RowKit Go.Proofs.YtgggdbjakcpanaaGreatDoor

set_option maxRecDepth 100000 in
/-- THE CONTRACT, for every argument within the bound and every world that holds the tables. -/
theorem contract (H : Type) (enc : TypeId × Value → H) (W : World) (base : Nat) (args : Array Value) (ds gs : List (DataW H)) (before : List MemPlace)
    (hval : ∀ (j : Nat) t v, Tryz.f4.params[j]? = some t → args[j]? = some v → Value.okWide Tryz.prog W .any base t v)
    (hW : DataW.Whole enc Tryz.prog Tryz.f4.params.toList Rows.wireNamesSpec.vars false W args.toList ds gs before) (hk : Rows.uptoSmall H (ds ++ gs) = true) (hL : laidMetH Tryz.prog Rows.wireNamesUptoRow.laid W) :
    Calls Tryz.prog 4 args W fun e W' => ∃ v, e = .returned v ∧ Rows.wireNamesSpec.post enc Tryz.prog Tryz.f4 false true false false W args v W' := by
  have hW' := hW
  obtain ⟨p, q, hA, hV, rfl, hfz, hnd⟩ := hW
  rw [Tryz.params4] at hA hval
  obtain ⟨v0, vs0, d0, ds0, p0, q0, hargs, rfl, rfl, h0, r0⟩ := trodAll_cons hA
  obtain ⟨v1, vs1, d1, ds1, p1, q1, rfl, rfl, rfl, h1, r1⟩ := trodAll_cons r0
  obtain ⟨v2, vs2, d2, ds2, p2, q2, rfl, rfl, rfl, h2, r2⟩ := trodAll_cons r1
  obtain ⟨rfl, rfl, rfl⟩ := trodAll_nil r2
  obtain rfl : args = #[v0, v1, v2] := by cases args; simp_all
  obtain ⟨rfl, rfl⟩ := trodVars_none hV
  obtain ⟨cs0, y0, rfl, hl0, hr0, hz0⟩ := Wr.arg_s Wr.opn_txx Tryz.underlying26 (by kernel_rfl) (hval 0 26 v0 rfl rfl) h0
  obtain ⟨cs1, y1, rfl, hl1, hr1, hz1⟩ := Wr.arg_s Wr.opn_blk Tryz.underlying38 (by kernel_rfl) (hval 1 38 v1 rfl rfl) h1
  obtain ⟨cs2, y2, rfl, hl2, hr2, hz2⟩ := Wr.arg_s Wr.opn_cfg Tryz.underlying56 (by kernel_rfl) (hval 2 56 v2 rfl rfl) h2
  have hb := of_decide_eq_true hk
  simp only [List.append_nil, Rows.uptoBulkAll] at hb
  obtain ⟨t1, t2⟩ := Sh.tabs hL
  refine (Wr.law_wirenames W cs0 y0 hr0 (by have := Wr.linTR y0; omega) cs1 y1 hr1 (by have := Wr.linBL y1; omega) (by have : y1.txs.length ≤ Wr.szBL y1 := (by unfold Wr.szBL; omega); omega) cs2 y2 hr2 (by have := Wr.linCF y2; omega) t1 t2).mono fun e W' ⟨he, hbe⟩ => ⟨_, he, ?_⟩
  exact Sh.law_post Sh.laidOutP (by rw [Tryz.params4]; intro t ht; simp at ht; rcases ht with rfl | rfl | rfl <;> exact ⟨by kernel_rfl, of_decide_eq_true (by kernel_rfl)⟩) hW' rfl rfl Tryz.underlying4 rfl rfl rfl hbe

theorem laid_met (os : Os) : laidMet Tryz.prog Rows.wireNamesUptoRow.laid ((Sh.tabWorld os).forCall (fun _ _ => 0) ⟨#[], #[.agg #[.int .u64 0, .slice none 0 0, .slice none 0 0], .agg (List.replicate 32 (Value.int .u8 0) ++ [Value.int .u64 0, Value.int .u64 0] ++ List.replicate 64 (Value.int .u8 0) ++ [Value.slice none 0 0, Value.bool false, Value.int .i64 0, Value.slice none 0 0, Value.slice none 0 0, Value.slice none 0 0]).toArray, .agg (List.replicate 32 (Value.int .u8 0) ++ [Value.int .u64 0, Value.int .i64 0, Value.slice none 0 0] ++ List.replicate 64 (Value.int .u8 0) ++ [Value.int .u64 0, Value.int .u64 0, Value.slice none 0 0]).toArray], []⟩).memory :=
  laidMet_of_run' 8 (by kernel_rfl) (by kernel_rfl)
theorem reads (os : Os) {H : Type} (enc : TypeId × Value → H) : ∃ places, DataW.whole enc Tryz.prog ((Sh.tabWorld os).forCall (fun _ _ => 0) ⟨#[], #[.agg #[.int .u64 0, .slice none 0 0, .slice none 0 0], .agg (List.replicate 32 (Value.int .u8 0) ++ [Value.int .u64 0, Value.int .u64 0] ++ List.replicate 64 (Value.int .u8 0) ++ [Value.slice none 0 0, Value.bool false, Value.int .i64 0, Value.slice none 0 0, Value.slice none 0 0, Value.slice none 0 0]).toArray, .agg (List.replicate 32 (Value.int .u8 0) ++ [Value.int .u64 0, Value.int .i64 0, Value.slice none 0 0] ++ List.replicate 64 (Value.int .u8 0) ++ [Value.int .u64 0, Value.int .u64 0, Value.slice none 0 0]).toArray], []⟩).memory Tryz.f4.params.toList Rows.wireNamesSpec.vars false #[Value.agg #[.int .u64 0, .slice none 0 0, .slice none 0 0], .agg (List.replicate 32 (Value.int .u8 0) ++ [Value.int .u64 0, Value.int .u64 0] ++ List.replicate 64 (Value.int .u8 0) ++ [Value.slice none 0 0, Value.bool false, Value.int .i64 0, Value.slice none 0 0, Value.slice none 0 0, Value.slice none 0 0]).toArray, .agg (List.replicate 32 (Value.int .u8 0) ++ [Value.int .u64 0, Value.int .i64 0, Value.slice none 0 0] ++ List.replicate 64 (Value.int .u8 0) ++ [Value.int .u64 0, Value.int .u64 0, Value.slice none 0 0]).toArray].toList 8 = some ([.agg [.lit (.int .u64 0), .nil, .nil], .agg [.agg [.agg (List.replicate 32 (.lit (.int .u8 0))), .lit (.int .u64 0), .lit (.int .u64 0), .agg (List.replicate 32 (.lit (.int .u8 0))), .agg (List.replicate 32 (.lit (.int .u8 0))), .nil, .lit (.bool false), .agg [.lit (.int .i64 0), .nil]], .nil, .nil], .agg [.agg (List.replicate 32 (.lit (.int .u8 0))), .lit (.int .u64 0), .agg [.lit (.int .i64 0), .nil], .agg [.agg (List.replicate 32 (.lit (.int .u8 0))), .agg (List.replicate 32 (.lit (.int .u8 0))), .lit (.int .u64 0), .lit (.int .u64 0)], .nil]], [], places) :=
  ⟨[], by kernel_rfl⟩

set_option maxRecDepth 100000 in
theorem lifted (os : Os) (started : os.Started) (H : Type) (enc : TypeId × Value → H) (F : Stop.Interp) :
    ReturnsInHanded {} Tryz.checked os 4 .any ((Rows.OpenSpec.upto Rows.wireNamesSpec).preRow enc Tryz.prog Tryz.f4 Rows.wireNamesUptoRow.domain false Rows.wireNamesUptoRow.laid) (((Rows.OpenSpec.upto Rows.wireNamesSpec).at F).post enc Tryz.prog Tryz.f4 false true false false) := by
  obtain ⟨places, hx⟩ := reads os enc
  refine returnsInHanded_of_row (C := Tryz.checked) (s := Rows.OpenSpec.upto Rows.wireNamesSpec) Sh.ownNone started (by kernel_rfl) Tryz.func4
    (witness_row_at (enc := enc) (C := Tryz.checked) false (Sh.tabWorld os) #[.agg #[.int .u64 0, .slice none 0 0, .slice none 0 0], .agg (List.replicate 32 (Value.int .u8 0) ++ [Value.int .u64 0, Value.int .u64 0] ++ List.replicate 64 (Value.int .u8 0) ++ [Value.slice none 0 0, Value.bool false, Value.int .i64 0, Value.slice none 0 0, Value.slice none 0 0, Value.slice none 0 0]).toArray, .agg (List.replicate 32 (Value.int .u8 0) ++ [Value.int .u64 0, Value.int .i64 0, Value.slice none 0 0] ++ List.replicate 64 (Value.int .u8 0) ++ [Value.int .u64 0, Value.int .u64 0, Value.slice none 0 0]).toArray] rfl (by kernel_rfl) (by kernel_rfl) (by kernel_rfl)
      (OpenSpec.preRow_of_cond 8 hx (by kernel_rfl) (fun k hk => by cases hk; kernel_rfl) (by kernel_rfl) (laid_met os))) ?_
  intro W base args ds gs before hval hW _ hcond _ hL _ _
  exact contract H enc W base args ds gs before hval hW (hcond _ rfl) hL

set_option maxHeartbeats 8000000 in
set_option maxRecDepth 100000 in
theorem said : Rows.WireNamesUptoSaid :=
  OpenClaim.holds_of_cond 4 Tryz.f4 rfl rfl rfl rfl rfl rfl rfl ⟨rfl, rfl, rfl, rfl, rfl⟩ rfl rfl rfl rfl rfl (by kernel_rfl) Tryz.func4 (by
      unfold joinedFacts
      repeat' with_reducible refine Bool.and_eq_true_iff.2 ⟨?_, ?_⟩
      all_goals (as_aux_lemma => kernel_rfl))
    (of_decide_eq_true (by kernel_rfl)) (by unfold Func.isWrapper; first | (rw [if_pos (by decide +kernel)]; kernel_rfl) | (rw [if_neg (by decide +kernel)]; exact ⟨rfl, rfl⟩))
    (fun os started H enc _ F => by rw [OpenClaim.pre_eq_preRow]; exact lifted os started H enc F)

theorem plain (f : FuncId) (fn : Func) (hf : Tryz.pinned.checked.prog.funcNamed "tollhouse/tollhouselaw12.WireNames" = some f) (hfn : Tryz.pinned.checked.prog.funcs[f]? = some fn) :
    false = Tryz.pinned.checked.prog.looks [] ∧ ∀ (j : Nat) t, fn.params[j]? = some t → Tryz.pinned.checked.prog.wantsStandIn t = false := by
  obtain rfl : f = 4 := Option.some.inj ((show Tryz.prog.funcNamed "tollhouse/tollhouselaw12.WireNames" = some 4 by kernel_rfl).symm.trans hf) |>.symm
  obtain rfl : fn = Tryz.f4 := (Option.some.inj (Tryz.func4.symm.trans hfn)).symm
  refine ⟨by kernel_rfl, fun j t ht => ?_⟩
  rw [Tryz.params4] at ht
  have hm := Array.mem_of_getElem? ht
  simp at hm
  rcases hm with rfl | rfl | rfl
  · exact (show Tryz.prog.wantsStandIn 26 = false by kernel_rfl)
  · exact (show Tryz.prog.wantsStandIn 38 = false by kernel_rfl)
  · exact (show Tryz.prog.wantsStandIn 56 = false by kernel_rfl)

theorem card : Rows.WireNamesUptoCardSaid :=
  Claim7.holds_tied_plain_at .later [] _ _ _ _ said (fun _ h => by cases h) (by kernel_rfl) (fun _ h => by cases h) wireNamesUpto_row_tie rfl ⟨rfl, rfl⟩ (by kernel_rfl) rfl plain (by kernel_rfl)
end Go.Proofs.YtgggdbjakcpanaaGreatDoor.lawWNames
