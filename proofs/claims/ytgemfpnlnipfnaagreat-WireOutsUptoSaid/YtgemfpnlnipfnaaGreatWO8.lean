/-
  Texts of ours, put together: WirDK, WirDF, WirDL, WirDG, WireOutsL.
-/
import Derived.Test.YtgemfpnlnipfnaaGreatWO7
set_option linter.unusedVariables false
set_option linter.unusedSimpArgs false
section
namespace Go.Proofs.YtgemfpnlnipfnaaGreat.Wr
open Go.RowKit Go.Proofs.YtgemfpnlnipfnaaGreat Go.Proofs.YtgemfpnlnipfnaaGreat.Sy
set_option maxRecDepth 100000
set_option maxHeartbeats 4000000

theorem fill_nil {place : Nat → Option (Nat × Nat)} {cs : Array Value} : Instr.fill place cs [] = some cs := by unfold Instr.fill; rfl
theorem fill_at {place : Nat → Option (Nat × Nat)} {A B C c : List Value} {v : Value} {i n o : Nat} {rest : List (Nat × Value)} (hp : place i = some (o, n)) (hv : v.cells = c.toArray) (hA : A.length = o) (hB : B.length = n) (hc : c.length = n) : Instr.fill place (A ++ (B ++ C)).toArray ((i, v) :: rest) = Instr.fill place (A ++ (c ++ C)).toArray rest := by
  conv => lhs; unfold Instr.fill
  rw [hp]
  simp only [hv, List.size_toArray, hc, ne_eq, not_true_eq_false, decide_false, Bool.false_or]
  rw [if_neg (by simp only [List.length_append, hA, hB, decide_eq_true_eq]; omega)]
  have h1 : c.toArray.zipIdx.foldl (fun cs (x : Value × Nat) => cs.setIfInBounds (o + x.2) x.1) (A ++ (B ++ C)).toArray = setAll (A ++ (B ++ C)).toArray (o + 0) c := by
    rw [← fold_all c o 0, ← Array.foldl_toList, Array.toList_zipIdx]
  rw [h1, Nat.add_zero, setAll_mid hA (hB.trans hc.symm)]
theorem Quiet.build1M {P : Program} {w0 : Base} {F : Slots} {L : Blocks} {o : Oper} (t : TypeId) (fs : Array Field) (it : TypeInfo) (A B C c : List Value) (v : Value) (i : Nat) (x : Operand) (f n : Nat) (ps : List (Nat × Nat)) (ho : o.op = .build t #[(i, x)]) (hx : evF F x = v) (hv : v.cells = c.toArray) (hu : P.underlying t = some (.struct fs)) (hit : P.info? t = some it) (hz : it.zero = some (.agg (A ++ (B ++ C)).toArray))
    (hpl : fs.toList.mapM (fun f => (P.info? f.type).map fun i => (f.offset, i.size)) = some ps) (hpi : ps.toArray[i]? = some (f, n)) (hA : A.length = f) (hB : B.length = n) (hc : c.length = n) : Quiet P w0 F L o (.agg (A ++ (c ++ C)).toArray) := Quiet.pure fun w => by
  have hb : P.built t #[(i, v)].toList = some (A ++ (c ++ C)).toArray := by
    unfold Program.built
    rw [hit, hu]
    simp only [hz, hpl]
    show Instr.fill (fun x => ps.toArray[x]?) (A ++ (B ++ C)).toArray [(i, v)] = _
    exact (fill_at (place := fun x => ps.toArray[x]?) hpi hv hA hB hc).trans fill_nil
  have hr := run_build (P := P) w t #[(i, v)] _ hb
  unfold execOp
  simp only [ho, Sem.run_bind, List.map_toArray, List.map_cons, List.map_nil, hx, hr, Result.andThen_ok, Sem.run_pure]
noncomputable def infTG : TypeInfo := (Tryz.prog.info? 60).getD default
theorem info_tg : Tryz.prog.info? 60 = some infTG := by kernel_rfl
theorem zero_tg : infTG.zero = some (.agg ([Value.bool false] ++ (Z32 ++ lPT ⟨0, 0, false⟩)).toArray) := by kernel_rfl
theorem oneTG {C : Rdr} {cs : List Value} {t : MTag} (h : repTG C cs t) : ∀ u ∈ cs, u.oneCell' = true := by
  obtain ⟨rfl, _⟩ := h
  exact ones_app (fun u hu => by rw [List.mem_singleton.1 hu]; rfl) (ones_app (ones_bW _) (lPT_one _))
theorem oneAM {C : Rdr} {cs : List Value} {t : MAmt} (h : repAM C cs t) : ∀ u ∈ cs, u.oneCell' = true := by
  obtain ⟨rfl, _⟩ := h
  exact ones_app (fun u hu => by rw [List.mem_singleton.1 hu]; rfl) (ones_app (fun u hu => by rw [List.mem_singleton.1 hu]; rfl) (lPT_one _))

theorem tagM_any (w0 : Base) (gr : Nat) (sl : Value) (b : Byt) (at_ e : Nat) (R : Blocks) (hat : at_ ≤ b.length) (he : e ≤ 200) (hl : b.length ≤ 70368744177664) (hv : BytR (rdW w0.world) sl b) (w : World) (hw : St w0 w (RB gr sl at_ e R)) :
    Calls Tryz.prog 127 #[ptr gr] w (Turns w0 (Rfd rdTG (rowV 42 repTG) gr sl b R at_ e)) := by
  refine Sy.enterT (args := [ptr gr]) hw Tryz.func127 rfl kL ?_
  refine sC ?_
  refine sM 60 ([Value.bool false] ++ (Z32 ++ lPT ⟨0, 0, false⟩)).toArray (fun g2 => ?_)
  refine Sy.movT (pre := [(gr, 186, rrC sl at_ e)]) (T := R) ?_
  refine sG ?_
  refine Sy.seq ?_
  refine sC ?_
  refine sp rfl ?_
  refine Sy.callT (fun w hw => smallM_any 0 1 w0.inn gr sl b at_ e ((g2, 60, ([Value.bool false] ++ (Z32 ++ lPT ⟨0, 0, false⟩)).toArray) :: R) hat he hl hv w hw) (fun u M hM => ?_)
  obtain ⟨z1, a1, e1, N1, p1, ⟨rfl, rfl⟩, u1, v1_, rfl⟩ := hM
  rw [List.append_nil ((g2, 60, ([Value.bool false] ++ (Z32 ++ lPT ⟨0, 0, false⟩)).toArray) :: R)]
  obtain ⟨x1, hx1⟩ : ∃ c : Bool, c = decide (z1 = 1) := ⟨_, rfl⟩
  refine sS (.bool x1) (Quiet.pure (exec_int .eql _ _ _ .i64 _ _ _ rfl rfl rfl (int_eql _ _ _ _ _ (hx1.symm)))) ?_
  have p1t : After truP ⟨b.drop at_, e⟩ x1 ⟨b.drop a1, e1⟩ := by rw [← sml_tru, hx1]; exact p1.bind (After.ret _ _)
  refine sG ?_
  cases x1
  case' true =>
    refine sT ?_
    refine sC ?_
    refine sp rfl ?_
    refine Sy.callT (fun w hw => pointM_any w0.inn gr sl b a1 e1 ((g2, 60, ([Value.bool false] ++ (Z32 ++ lPT ⟨0, 0, false⟩)).toArray) :: R) u1 v1_ hl hv w hw) (fun u M hM => ?_)
    obtain ⟨x2, a2, e2, N2, p2, ⟨rfl, rfl, hx, hy⟩, u2, v2_, rfl⟩ := hM
    rw [List.append_nil ((g2, 60, ([Value.bool false] ++ (Z32 ++ lPT ⟨0, 0, false⟩)).toArray) :: R)]
    have hrp : repTG (rdB []) (cTG ⟨true, z32, x2⟩) ⟨true, z32, x2⟩ := ⟨rfl, rfl, hx, hy⟩
    have hln : (cTG ⟨true, z32, x2⟩).length = 42 := rfl
    refine sP (.agg (cTG ⟨true, z32, x2⟩).toArray) <| sw 1 rfl (cTG ⟨true, z32, x2⟩).toArray (Writes.row 60 (cTG ⟨true, z32, x2⟩) 42 _ _ rfl kR kR kR hln (by kernel_rfl) (oneTG hrp)) ?_
    refine sG ?_
    refine Sy.ret ?_
    refine Sy.then_ret ?_
    exact Sy.retT1 (RB gr sl a2 e2 (R ++ [])) rfl (.inl (Sy.Res.cell (ty' := 60) g2 1 (cTG ⟨true, z32, x2⟩).toArray _ (by kernel_rfl) rfl Tryz.underlying60 rfl (by rw [List.size_toArray, hln]; kernel_rfl) rfl)) (fun _ h => by rw [List.append_nil]; exact h.less ((List.Sublist.refl R).cons _ |>.cons_cons _)) ⟨_, a2, e2, [], p1t.bind (by rw [if_pos rfl]; exact p2.bind (After.ret _ _)), ⟨(cTG ⟨true, z32, x2⟩), rfl, hln, oneTG hrp, hrp⟩, u2, v2_, rfl⟩
  refine sU ?_
  refine Sy.skip ?_
  refine sB ?_
  refine sp rfl ?_
  refine Sy.callT (fun w hw => digM_any w0.inn gr sl b a1 e1 ((g2, 60, ([Value.bool false] ++ (Z32 ++ lPT ⟨0, 0, false⟩)).toArray) :: R) u1 v1_ hl hv w hw) (fun u M hM => ?_)
  obtain ⟨x2, a2, e2, N2, p2, ⟨rfl, r2, rfl⟩, u2, v2_, rfl⟩ := hM
  rw [List.append_nil ((g2, 60, ([Value.bool false] ++ (Z32 ++ lPT ⟨0, 0, false⟩)).toArray) :: R)]
  have hrp : repTG (rdB []) (cTG ⟨false, x2, ⟨0, 0, false⟩⟩) ⟨false, x2, ⟨0, 0, false⟩⟩ := ⟨rfl, r2, (show 0 < Cu.K4 by decide), (show 0 < Cu.K4 by decide)⟩
  have hln : (cTG ⟨false, x2, ⟨0, 0, false⟩⟩).length = 42 := cTG_len r2
  refine sS (.agg (cTG ⟨false, x2, ⟨0, 0, false⟩⟩).toArray) (Quiet.build1M 60 _ infTG [Value.bool false] Z32 (lPT ⟨0, 0, false⟩) (x2.map bv) (.agg (x2.map bv).toArray) 1 _ 1 32 [(0, 1), (1, 32), (33, 9)] rfl kR rfl Tryz.underlying60 info_tg zero_tg (by kernel_rfl) rfl rfl Z32_len ((List.length_map ..).trans r2)) <| sw 1 rfl (cTG ⟨false, x2, ⟨0, 0, false⟩⟩).toArray (Writes.row 60 (cTG ⟨false, x2, ⟨0, 0, false⟩⟩) 42 _ _ rfl kR kR kR hln (by kernel_rfl) (oneTG hrp)) ?_
  refine sG ?_
  refine Sy.ret ?_
  exact Sy.retT1 (RB gr sl a2 e2 (R ++ [])) rfl (.inl (Sy.Res.cell (ty' := 60) g2 1 (cTG ⟨false, x2, ⟨0, 0, false⟩⟩).toArray _ (by kernel_rfl) rfl Tryz.underlying60 rfl (by rw [List.size_toArray, hln]; kernel_rfl) rfl)) (fun _ h => by rw [List.append_nil]; exact h.less ((List.Sublist.refl R).cons _ |>.cons_cons _)) ⟨_, a2, e2, [], p1t.bind (by rw [if_neg (by decide)]; exact p2.bind (After.ret _ _)), ⟨(cTG ⟨false, x2, ⟨0, 0, false⟩⟩), rfl, hln, oneTG hrp, hrp⟩, u2, v2_, rfl⟩

theorem amountM_any (w0 : Base) (gr : Nat) (sl : Value) (b : Byt) (at_ e : Nat) (R : Blocks) (hat : at_ ≤ b.length) (he : e ≤ 200) (hl : b.length ≤ 70368744177664) (hv : BytR (rdW w0.world) sl b) (w : World) (hw : St w0 w (RB gr sl at_ e R)) :
    Calls Tryz.prog 128 #[ptr gr] w (Turns w0 (Rfd rdAM (rowV 11 repAM) gr sl b R at_ e)) := by
  refine Sy.enterT (args := [ptr gr]) hw Tryz.func128 rfl kL ?_
  refine sC ?_
  refine sM 62 ([Value.bool false] ++ ([Value.int .u64 0] ++ lPT ⟨0, 0, false⟩)).toArray (fun g2 => ?_)
  refine Sy.movT (pre := [(gr, 186, rrC sl at_ e)]) (T := R) ?_
  refine sG ?_
  refine Sy.seq ?_
  refine sC ?_
  refine sp rfl ?_
  refine Sy.callT (fun w hw => smallM_any 0 1 w0.inn gr sl b at_ e ((g2, 62, ([Value.bool false] ++ ([Value.int .u64 0] ++ lPT ⟨0, 0, false⟩)).toArray) :: R) hat he hl hv w hw) (fun u M hM => ?_)
  obtain ⟨z1, a1, e1, N1, p1, ⟨rfl, rfl⟩, u1, v1_, rfl⟩ := hM
  rw [List.append_nil ((g2, 62, ([Value.bool false] ++ ([Value.int .u64 0] ++ lPT ⟨0, 0, false⟩)).toArray) :: R)]
  obtain ⟨x1, hx1⟩ : ∃ c : Bool, c = decide (z1 = 1) := ⟨_, rfl⟩
  refine sS (.bool x1) (Quiet.pure (exec_int .eql _ _ _ .i64 _ _ _ rfl rfl rfl (int_eql _ _ _ _ _ (hx1.symm)))) ?_
  have p1t : After truP ⟨b.drop at_, e⟩ x1 ⟨b.drop a1, e1⟩ := by rw [← sml_tru, hx1]; exact p1.bind (After.ret _ _)
  refine sG ?_
  cases x1
  case' true =>
    refine sT ?_
    refine sC ?_
    refine sp rfl ?_
    refine Sy.callT (fun w hw => pointM_any w0.inn gr sl b a1 e1 ((g2, 62, ([Value.bool false] ++ ([Value.int .u64 0] ++ lPT ⟨0, 0, false⟩)).toArray) :: R) u1 v1_ hl hv w hw) (fun u M hM => ?_)
    obtain ⟨x2, a2, e2, N2, p2, ⟨rfl, rfl, hx, hy⟩, u2, v2_, rfl⟩ := hM
    rw [List.append_nil ((g2, 62, ([Value.bool false] ++ ([Value.int .u64 0] ++ lPT ⟨0, 0, false⟩)).toArray) :: R)]
    have hrp : repAM (rdB []) (cAM ⟨true, 0, x2⟩) ⟨true, 0, x2⟩ := ⟨rfl, (show (0 : Nat) < 18446744073709551616 by decide), hx, hy⟩
    have hln : (cAM ⟨true, 0, x2⟩).length = 11 := rfl
    refine sP (.agg (cAM ⟨true, 0, x2⟩).toArray) <| sw 1 rfl (cAM ⟨true, 0, x2⟩).toArray (Writes.row 62 (cAM ⟨true, 0, x2⟩) 11 _ _ rfl kR kR kR hln (by kernel_rfl) (oneAM hrp)) ?_
    refine sG ?_
    refine Sy.ret ?_
    refine Sy.then_ret ?_
    exact Sy.retT1 (RB gr sl a2 e2 (R ++ [])) rfl (.inl (Sy.Res.cell (ty' := 62) g2 1 (cAM ⟨true, 0, x2⟩).toArray _ (by kernel_rfl) rfl Tryz.underlying62 rfl (by rw [List.size_toArray, hln]; kernel_rfl) rfl)) (fun _ h => by rw [List.append_nil]; exact h.less ((List.Sublist.refl R).cons _ |>.cons_cons _)) ⟨_, a2, e2, [], p1t.bind (by rw [if_pos rfl]; exact p2.bind (After.ret _ _)), ⟨(cAM ⟨true, 0, x2⟩), rfl, hln, oneAM hrp, hrp⟩, u2, v2_, rfl⟩
  refine sU ?_
  refine Sy.skip ?_
  refine sB ?_
  refine sp rfl ?_
  refine Sy.callT (fun w hw => numM_any w0.inn gr sl b a1 e1 8 ((g2, 62, ([Value.bool false] ++ ([Value.int .u64 0] ++ lPT ⟨0, 0, false⟩)).toArray) :: R) u1 v1_ (by decide) hl hv w hw) (fun u M hM => ?_)
  obtain ⟨x2, a2, e2, N2, p2, ⟨rfl, r2, rfl⟩, u2, v2_, rfl⟩ := hM
  rw [List.append_nil ((g2, 62, ([Value.bool false] ++ ([Value.int .u64 0] ++ lPT ⟨0, 0, false⟩)).toArray) :: R)]
  have hrp : repAM (rdB []) (cAM ⟨false, x2, ⟨0, 0, false⟩⟩) ⟨false, x2, ⟨0, 0, false⟩⟩ := ⟨rfl, r2, (show 0 < Cu.K4 by decide), (show 0 < Cu.K4 by decide)⟩
  have hln : (cAM ⟨false, x2, ⟨0, 0, false⟩⟩).length = 11 := rfl
  refine sP (.agg (cAM ⟨false, x2, ⟨0, 0, false⟩⟩).toArray) <| sw 1 rfl (cAM ⟨false, x2, ⟨0, 0, false⟩⟩).toArray (Writes.row 62 (cAM ⟨false, x2, ⟨0, 0, false⟩⟩) 11 _ _ rfl kR kR kR hln (by kernel_rfl) (oneAM hrp)) ?_
  refine sG ?_
  refine Sy.ret ?_
  exact Sy.retT1 (RB gr sl a2 e2 (R ++ [])) rfl (.inl (Sy.Res.cell (ty' := 62) g2 1 (cAM ⟨false, x2, ⟨0, 0, false⟩⟩).toArray _ (by kernel_rfl) rfl Tryz.underlying62 rfl (by rw [List.size_toArray, hln]; kernel_rfl) rfl)) (fun _ h => by rw [List.append_nil]; exact h.less ((List.Sublist.refl R).cons _ |>.cons_cons _)) ⟨_, a2, e2, [], p1t.bind (by rw [if_neg (by decide)]; exact p2.bind (After.ret _ _)), ⟨(cAM ⟨false, x2, ⟨0, 0, false⟩⟩), rfl, hln, oneAM hrp, hrp⟩, u2, v2_, rfl⟩
end Go.Proofs.YtgemfpnlnipfnaaGreat.Wr

end
section
namespace Go.Proofs.YtgemfpnlnipfnaaGreat.Wr
open Go.RowKit Go.Proofs.YtgemfpnlnipfnaaGreat Go.Proofs.YtgemfpnlnipfnaaGreat.Sy
set_option maxRecDepth 100000
set_option maxHeartbeats 4000000

theorem After.mustX {α : Type} (f : Unit → Ps α) (y : α) {s s' : RS} (h : s'.e ≠ 0) : After (bindP (mustP false) f) s y s' := ⟨fun _ => h, fun z r _ hp => (by cases hp), fun _ _ => h⟩
theorem After.mustY {α : Type} {f : Unit → Ps α} {b : Bool} {y : α} {s s' : RS} (hb : b = true) (h : After (f ()) s y s') : After (bindP (mustP b) f) s y s' := by subst hb; exact h
theorem one_ni : ∀ u ∈ [Value.slice none 0 0], u.oneCell' = true := fun u hu => by rw [List.mem_singleton.1 hu]; rfl
theorem out_r : GetC 65 58 ([Value.int .i64 0] ++ (([Value.bool false] ++ (Z32 ++ lPT ⟨0, 0, false⟩)) ++ (([Value.bool false] ++ ([Value.int .u64 0] ++ lPT ⟨0, 0, false⟩)) ++ ([Value.slice none 0 0] ++ ([Value.slice none 0 0] ++ ([Value.slice none 0 0] ++ ([Value.slice none 0 0]))))))) repOU rdOU := fun w0 gc gr gx f tx A Z sl s R S hS hA he hl hv w hw => by
  refine Sy.enterT (args := [ptr gc, .pointer (some ⟨gx, f, none⟩)]) hw Tryz.func65 rfl kL ?_
  refine sC ?_
  refine sp rfl <| sp rfl <| sp rfl <| sP (.pointer (some ⟨gx, f, none⟩)) ?_
  refine Sy.callT (fun w hw => octet_r w0.inn gc gr gx f tx (A) (([Value.bool false] ++ (Z32 ++ lPT ⟨0, 0, false⟩)) ++ (([Value.bool false] ++ ([Value.int .u64 0] ++ lPT ⟨0, 0, false⟩)) ++ ([Value.slice none 0 0] ++ ([Value.slice none 0 0] ++ ([Value.slice none 0 0] ++ ([Value.slice none 0 0] ++ (Z))))))) sl s (R) S hS hA he (hl) hv w (by simpa only [List.append_assoc] using hw)) (fun u M hM => ?_)
  obtain ⟨x1, s1, sl1, cs1, N1, a1, n1, o1, rfl, e1, h1, y1, rfl⟩ := hM
  have g1 : s1.rest.length ≤ s.rest.length := h1
  have A1 : (A ++ [Value.int .i64 x1]).length = f + 1 := by rw [List.length_append, hA, n1]
  refine sA ?_
  refine sp rfl <| sp rfl <| sP (.pointer (some ⟨gx, f, none⟩)) <| sS (.int .i64 x1) (Quiet.cell 1 gx f tx 3 (A ++ ([Value.int .i64 x1] ++ (([Value.bool false] ++ (Z32 ++ lPT ⟨0, 0, false⟩)) ++ (([Value.bool false] ++ ([Value.int .u64 0] ++ lPT ⟨0, 0, false⟩)) ++ ([Value.slice none 0 0] ++ ([Value.slice none 0 0] ++ ([Value.slice none 0 0] ++ ([Value.slice none 0 0] ++ (Z))))))))).toArray _ _ rfl kR rfl Tryz.underlying3 rfl _ (by rw [List.getElem?_toArray, List.getElem?_append_right (by omega), hA, Nat.sub_self]; rfl)) ?_
  refine sG ?_
  refine Sy.block ?_
  refine Sy.seq ?_
  refine Sy.block ?_
  by_cases hk : x1 = 1 ∨ x1 = 2 ∨ x1 = 3 ∨ x1 = 4
  · obtain ⟨k1, k2⟩ := okK_yes hk
    refine Sy.seq ?_
    refine cutC [(0, ptr gc), (1, .pointer (some ⟨gx, f, none⟩))] (CRS gc gr gx tx (A ++ ([Value.int .i64 x1] ++ (([Value.bool false] ++ (Z32 ++ lPT ⟨0, 0, false⟩)) ++ (([Value.bool false] ++ ([Value.int .u64 0] ++ lPT ⟨0, 0, false⟩)) ++ ([Value.slice none 0 0] ++ ([Value.slice none 0 0] ++ ([Value.slice none 0 0] ++ ([Value.slice none 0 0] ++ (Z))))))))) sl1 s1.e (R ++ N1)) ?_ ?_
    · clear a1 n1 o1 A1 k1 k2
      rcases hk with rfl | rfl | rfl | rfl
      · refine Sy.block ?_
        refine Sy.block ?_
        refine Sy.block ?_
        refine Sy.block ?_
        refine Sy.seq ?_
        refine Sy.seq ?_
        refine sC ?_
        refine sP (.bool true) <| sp rfl ?_
        refine sG ?_
        refine sT ?_
        refine Sy.exit ?_
        refine Sy.then_exit ?_
        refine Sy.then_exit ?_
        refine Sy.in_exit ?_
        refine Sy.in_ ?_
        refine Sy.in_ ?_
        refine Sy.in_ ?_
        exact meet (all_cons kR (all_cons kR all_nil)) (fun _ h => h)
      · refine Sy.block ?_
        refine Sy.block ?_
        refine Sy.block ?_
        refine Sy.block ?_
        refine Sy.seq ?_
        refine Sy.seq ?_
        refine sC ?_
        refine sP (.bool false) <| sp rfl ?_
        refine sG ?_
        refine sU ?_
        refine Sy.skip ?_
        refine Sy.then_ ?_
        refine Sy.seq ?_
        refine sC ?_
        refine sP (.bool true) <| sp rfl ?_
        refine sG ?_
        refine sT ?_
        refine Sy.exit ?_
        refine Sy.then_exit ?_
        refine Sy.then_exit ?_
        refine Sy.in_pass (by decide) ?_
        refine Sy.in_exit ?_
        refine Sy.in_ ?_
        refine Sy.in_ ?_
        exact meet (all_cons kR (all_cons kR all_nil)) (fun _ h => h)
      · refine Sy.block ?_
        refine Sy.block ?_
        refine Sy.block ?_
        refine Sy.block ?_
        refine Sy.seq ?_
        refine Sy.seq ?_
        refine sC ?_
        refine sP (.bool false) <| sp rfl ?_
        refine sG ?_
        refine sU ?_
        refine Sy.skip ?_
        refine Sy.then_ ?_
        refine Sy.seq ?_
        refine sC ?_
        refine sP (.bool false) <| sp rfl ?_
        refine sG ?_
        refine sU ?_
        refine Sy.skip ?_
        refine Sy.then_ ?_
        refine Sy.seq ?_
        refine sC ?_
        refine sP (.bool true) <| sp rfl ?_
        refine sG ?_
        refine sT ?_
        refine Sy.exit ?_
        refine Sy.then_exit ?_
        refine Sy.then_exit ?_
        refine Sy.in_pass (by decide) ?_
        refine Sy.in_pass (by decide) ?_
        refine Sy.in_exit ?_
        refine Sy.in_ ?_
        exact meet (all_cons kR (all_cons kR all_nil)) (fun _ h => h)
      · refine Sy.block ?_
        refine Sy.block ?_
        refine Sy.block ?_
        refine Sy.block ?_
        refine Sy.seq ?_
        refine Sy.seq ?_
        refine sC ?_
        refine sP (.bool false) <| sp rfl ?_
        refine sG ?_
        refine sU ?_
        refine Sy.skip ?_
        refine Sy.then_ ?_
        refine Sy.seq ?_
        refine sC ?_
        refine sP (.bool false) <| sp rfl ?_
        refine sG ?_
        refine sU ?_
        refine Sy.skip ?_
        refine Sy.then_ ?_
        refine Sy.seq ?_
        refine sC ?_
        refine sP (.bool false) <| sp rfl ?_
        refine sG ?_
        refine sU ?_
        refine Sy.skip ?_
        refine Sy.then_ ?_
        refine sC ?_
        refine sP (.bool true) <| sp rfl ?_
        refine sG ?_
        refine sT ?_
        refine Sy.exit ?_
        refine Sy.then_exit ?_
        refine Sy.in_pass (by decide) ?_
        refine Sy.in_pass (by decide) ?_
        refine Sy.in_pass (by decide) ?_
        refine Sy.in_exit ?_
        exact meet (all_cons kR (all_cons kR all_nil)) (fun _ h => h)
    refine Sy.then_ ?_
    refine Sy.seq ?_
    refine sC ?_
    refine sp rfl <| sp rfl <| sp rfl <| sP (.pointer (some ⟨gx, f + 1, none⟩)) ?_
    refine Sy.callT (fun w hw => tag_r w0.inn gc gr gx (f + 1) tx (A ++ [Value.int .i64 x1]) (([Value.bool false] ++ ([Value.int .u64 0] ++ lPT ⟨0, 0, false⟩)) ++ ([Value.slice none 0 0] ++ ([Value.slice none 0 0] ++ ([Value.slice none 0 0] ++ ([Value.slice none 0 0] ++ (Z)))))) sl1 s1 (R ++ N1) S (fun b h => List.mem_append_left _ (hS b h)) A1 e1 (Nat.le_trans g1 hl) y1 w (by have e : A ++ [Value.int .i64 x1] ++ (([Value.bool false] ++ (Z32 ++ lPT ⟨0, 0, false⟩)) ++ (([Value.bool false] ++ ([Value.int .u64 0] ++ lPT ⟨0, 0, false⟩)) ++ ([Value.slice none 0 0] ++ ([Value.slice none 0 0] ++ ([Value.slice none 0 0] ++ ([Value.slice none 0 0] ++ (Z))))))) = A ++ ([Value.int .i64 x1] ++ (([Value.bool false] ++ (Z32 ++ lPT ⟨0, 0, false⟩)) ++ (([Value.bool false] ++ ([Value.int .u64 0] ++ lPT ⟨0, 0, false⟩)) ++ ([Value.slice none 0 0] ++ ([Value.slice none 0 0] ++ ([Value.slice none 0 0] ++ ([Value.slice none 0 0] ++ (Z)))))))) := List.append_assoc ..; rw [e]; exact hw)) (fun u M hM => ?_)
    obtain ⟨x2, s2, sl2, cs2, N2, a2, n2, o2, ⟨rfl, r2⟩, e2, h2, y2, rfl⟩ := hM
    have g2 : s2.rest.length ≤ s.rest.length := Nat.le_trans h2 g1
    have A2 : (A ++ [Value.int .i64 x1] ++ (cTG x2)).length = f + 43 := by rw [List.length_append, A1, n2]
    refine sA ?_
    refine sp rfl <| sp rfl <| sp rfl <| sP (.pointer (some ⟨gx, f + 43, none⟩)) ?_
    refine Sy.callT (fun w hw => amount_r w0.inn gc gr gx (f + 43) tx (A ++ [Value.int .i64 x1] ++ (cTG x2)) ([Value.slice none 0 0] ++ ([Value.slice none 0 0] ++ ([Value.slice none 0 0] ++ ([Value.slice none 0 0] ++ (Z))))) sl2 s2 (R ++ N1 ++ N2) S (fun b h => List.mem_append_left _ (List.mem_append_left _ (hS b h))) A2 e2 (Nat.le_trans g2 hl) y2 w (by have e : A ++ [Value.int .i64 x1] ++ (cTG x2) ++ (([Value.bool false] ++ ([Value.int .u64 0] ++ lPT ⟨0, 0, false⟩)) ++ ([Value.slice none 0 0] ++ ([Value.slice none 0 0] ++ ([Value.slice none 0 0] ++ ([Value.slice none 0 0] ++ (Z)))))) = A ++ [Value.int .i64 x1] ++ (cTG x2 ++ (([Value.bool false] ++ ([Value.int .u64 0] ++ lPT ⟨0, 0, false⟩)) ++ ([Value.slice none 0 0] ++ ([Value.slice none 0 0] ++ ([Value.slice none 0 0] ++ ([Value.slice none 0 0] ++ (Z))))))) := List.append_assoc ..; rw [e]; exact hw)) (fun u M hM => ?_)
    obtain ⟨x3, s3, sl3, cs3, N3, a3, n3, o3, ⟨rfl, r3⟩, e3, h3, y3, rfl⟩ := hM
    have g3 : s3.rest.length ≤ s.rest.length := Nat.le_trans h3 g2
    have A3 : (A ++ [Value.int .i64 x1] ++ (cTG x2) ++ (cAM x3)).length = f + 54 := by rw [List.length_append, A2, n3]
    refine sA ?_
    refine sp rfl <| sp rfl <| sp rfl <| sP (.pointer (some ⟨gx, f + 54, none⟩)) ?_
    refine Sy.callT (fun w hw => text_r 6000 (by decide) w0.inn gc gr gx (f + 54) tx (A ++ [Value.int .i64 x1] ++ (cTG x2) ++ (cAM x3)) ([Value.slice none 0 0] ++ ([Value.slice none 0 0] ++ ([Value.slice none 0 0] ++ (Z)))) sl3 s3 (R ++ N1 ++ N2 ++ N3) S (fun b h => List.mem_append_left _ (List.mem_append_left _ (List.mem_append_left _ (hS b h)))) A3 e3 (Nat.le_trans g3 hl) y3 w (by have e : A ++ [Value.int .i64 x1] ++ (cTG x2) ++ (cAM x3) ++ ([Value.slice none 0 0] ++ ([Value.slice none 0 0] ++ ([Value.slice none 0 0] ++ ([Value.slice none 0 0] ++ (Z))))) = A ++ [Value.int .i64 x1] ++ (cTG x2) ++ (cAM x3 ++ ([Value.slice none 0 0] ++ ([Value.slice none 0 0] ++ ([Value.slice none 0 0] ++ ([Value.slice none 0 0] ++ (Z)))))) := List.append_assoc ..; rw [e]; exact hw)) (fun u M hM => ?_)
    obtain ⟨x4, s4, sl4, cs4, N4, a4, n4, o4, ⟨v4, rfl, r4⟩, e4, h4, y4, rfl⟩ := hM
    have g4 : s4.rest.length ≤ s.rest.length := Nat.le_trans h4 g3
    have A4 : (A ++ [Value.int .i64 x1] ++ (cTG x2) ++ (cAM x3) ++ [v4]).length = f + 55 := by rw [List.length_append, A3, n4]
    refine sA ?_
    refine sp rfl <| sp rfl <| sp rfl <| sP (.pointer (some ⟨gx, f + 55, none⟩)) ?_
    refine Sy.callT (fun w hw => text_r 6000 (by decide) w0.inn gc gr gx (f + 55) tx (A ++ [Value.int .i64 x1] ++ (cTG x2) ++ (cAM x3) ++ [v4]) ([Value.slice none 0 0] ++ ([Value.slice none 0 0] ++ (Z))) sl4 s4 (R ++ N1 ++ N2 ++ N3 ++ N4) S (fun b h => List.mem_append_left _ (List.mem_append_left _ (List.mem_append_left _ (List.mem_append_left _ (hS b h))))) A4 e4 (Nat.le_trans g4 hl) y4 w (by have e : A ++ [Value.int .i64 x1] ++ (cTG x2) ++ (cAM x3) ++ [v4] ++ ([Value.slice none 0 0] ++ ([Value.slice none 0 0] ++ ([Value.slice none 0 0] ++ (Z)))) = A ++ [Value.int .i64 x1] ++ (cTG x2) ++ (cAM x3) ++ ([v4] ++ ([Value.slice none 0 0] ++ ([Value.slice none 0 0] ++ ([Value.slice none 0 0] ++ (Z))))) := List.append_assoc ..; rw [e]; exact hw)) (fun u M hM => ?_)
    obtain ⟨x5, s5, sl5, cs5, N5, a5, n5, o5, ⟨v5, rfl, r5⟩, e5, h5, y5, rfl⟩ := hM
    have g5 : s5.rest.length ≤ s.rest.length := Nat.le_trans h5 g4
    have A5 : (A ++ [Value.int .i64 x1] ++ (cTG x2) ++ (cAM x3) ++ [v4] ++ [v5]).length = f + 56 := by rw [List.length_append, A4, n5]
    refine sA ?_
    refine sp rfl <| sp rfl <| sp rfl <| sP (.pointer (some ⟨gx, f + 56, none⟩)) ?_
    refine Sy.callT (fun w hw => text_r 128 (by decide) w0.inn gc gr gx (f + 56) tx (A ++ [Value.int .i64 x1] ++ (cTG x2) ++ (cAM x3) ++ [v4] ++ [v5]) ([Value.slice none 0 0] ++ (Z)) sl5 s5 (R ++ N1 ++ N2 ++ N3 ++ N4 ++ N5) S (fun b h => List.mem_append_left _ (List.mem_append_left _ (List.mem_append_left _ (List.mem_append_left _ (List.mem_append_left _ (hS b h)))))) A5 e5 (Nat.le_trans g5 hl) y5 w (by have e : A ++ [Value.int .i64 x1] ++ (cTG x2) ++ (cAM x3) ++ [v4] ++ [v5] ++ ([Value.slice none 0 0] ++ ([Value.slice none 0 0] ++ (Z))) = A ++ [Value.int .i64 x1] ++ (cTG x2) ++ (cAM x3) ++ [v4] ++ ([v5] ++ ([Value.slice none 0 0] ++ ([Value.slice none 0 0] ++ (Z)))) := List.append_assoc ..; rw [e]; exact hw)) (fun u M hM => ?_)
    obtain ⟨x6, s6, sl6, cs6, N6, a6, n6, o6, ⟨v6, rfl, r6⟩, e6, h6, y6, rfl⟩ := hM
    have g6 : s6.rest.length ≤ s.rest.length := Nat.le_trans h6 g5
    have A6 : (A ++ [Value.int .i64 x1] ++ (cTG x2) ++ (cAM x3) ++ [v4] ++ [v5] ++ [v6]).length = f + 57 := by rw [List.length_append, A5, n6]
    refine Sy.nil ?_
    refine Sy.then_ ?_
    refine Sy.region ?_
    refine sp rfl <| sp rfl <| sp rfl <| sP (.pointer (some ⟨gx, f + 57, none⟩)) ?_
    refine Sy.callT (fun w hw => text_r 256 (by decide) w0.inn gc gr gx (f + 57) tx (A ++ [Value.int .i64 x1] ++ (cTG x2) ++ (cAM x3) ++ [v4] ++ [v5] ++ [v6]) (Z) sl6 s6 (R ++ N1 ++ N2 ++ N3 ++ N4 ++ N5 ++ N6) S (fun b h => List.mem_append_left _ (List.mem_append_left _ (List.mem_append_left _ (List.mem_append_left _ (List.mem_append_left _ (List.mem_append_left _ (hS b h))))))) A6 e6 (Nat.le_trans g6 hl) y6 w (by have e : A ++ [Value.int .i64 x1] ++ (cTG x2) ++ (cAM x3) ++ [v4] ++ [v5] ++ [v6] ++ ([Value.slice none 0 0] ++ (Z)) = A ++ [Value.int .i64 x1] ++ (cTG x2) ++ (cAM x3) ++ [v4] ++ [v5] ++ ([v6] ++ ([Value.slice none 0 0] ++ (Z))) := List.append_assoc ..; rw [e]; exact hw)) (fun u M hM => ?_)
    obtain ⟨x7, s7, sl7, cs7, N7, a7, n7, o7, ⟨v7, rfl, r7⟩, e7, h7, y7, rfl⟩ := hM
    have g7 : s7.rest.length ≤ s.rest.length := Nat.le_trans h7 g6
    have A7 : (A ++ [Value.int .i64 x1] ++ (cTG x2) ++ (cAM x3) ++ [v4] ++ [v5] ++ [v6] ++ [v7]).length = f + 58 := by rw [List.length_append, A6, n7]
    refine Sy.nil ?_
    refine Sy.then_ ?_
    refine Sy.exit ?_
    refine Sy.in_pass (by decide) ?_
    refine Sy.then_exit ?_
    refine Sy.in_exit ?_
    have hAf : After rdOU s ⟨x1, x2, x3, x4, x5, x6, x7⟩ s7 := a1.bind (After.mustY k1 (a2.bind (a3.bind (a4.bind (a5.bind (a6.bind (a7.bind (After.ret _ _))))))))
    have hLn : ([Value.int .i64 x1] ++ (cTG x2 ++ (cAM x3 ++ ([v4] ++ ([v5] ++ ([v6] ++ ([v7]))))))).length = 58 := by simp only [List.length_append, n2, n3]; rfl
    have hOn : ∀ u ∈ ([Value.int .i64 x1] ++ (cTG x2 ++ (cAM x3 ++ ([v4] ++ ([v5] ++ ([v6] ++ ([v7]))))))), u.oneCell' = true := ones_app o1 (ones_app o2 (ones_app o3 (ones_app o4 (ones_app o5 (ones_app o6 o7)))))
    have hRp : repOU (rdB (N1 ++ (N2 ++ (N3 ++ (N4 ++ (N5 ++ (N6 ++ N7))))))) ([Value.int .i64 x1] ++ (cTG x2 ++ (cAM x3 ++ ([v4] ++ ([v5] ++ ([v6] ++ ([v7]))))))) ⟨x1, x2, x3, x4, x5, x6, x7⟩ := ⟨v4, v5, v6, v7, rfl, r2, r3, r4.le (rdB_le fun b h => by simp [h]), r5.le (rdB_le fun b h => by simp [h]), r6.le (rdB_le fun b h => by simp [h]), r7.le (rdB_le fun b h => by simp [h])⟩
    exact Sy.retT0 rfl (CRS gc gr gx tx (A ++ (([Value.int .i64 x1] ++ (cTG x2 ++ (cAM x3 ++ ([v4] ++ ([v5] ++ ([v6] ++ ([v7]))))))) ++ Z)) sl7 s7.e (R ++ (N1 ++ (N2 ++ (N3 ++ (N4 ++ (N5 ++ (N6 ++ N7)))))))) (fun _ h => by simpa only [List.append_assoc, List.cons_append, List.nil_append] using h) (fun _ => ⟨_, s7, sl7, _, _, hAf, hLn, hOn, hRp, e7, g7, y7, rfl⟩)
  refine Sy.seq ?_
  refine Sy.block ?_
  refine Sy.block ?_
  refine Sy.block ?_
  refine Sy.block ?_
  refine Sy.seq ?_
  refine Sy.seq ?_
  refine sC ?_
  refine sS (.bool false) (Quiet.pure (exec_int .eql _ _ _ .i64 _ _ _ rfl rfl rfl (int_eql _ _ _ _ _ (decide_eq_false (fun e => hk (by simp [e])))))) <| sp rfl ?_
  refine sG ?_
  refine sU ?_
  refine Sy.skip ?_
  refine Sy.then_ ?_
  refine Sy.seq ?_
  refine sC ?_
  refine sS (.bool false) (Quiet.pure (exec_int .eql _ _ _ .i64 _ _ _ rfl rfl rfl (int_eql _ _ _ _ _ (decide_eq_false (fun e => hk (by simp [e])))))) <| sp rfl ?_
  refine sG ?_
  refine sU ?_
  refine Sy.skip ?_
  refine Sy.then_ ?_
  refine Sy.seq ?_
  refine sC ?_
  refine sS (.bool false) (Quiet.pure (exec_int .eql _ _ _ .i64 _ _ _ rfl rfl rfl (int_eql _ _ _ _ _ (decide_eq_false (fun e => hk (by simp [e])))))) <| sp rfl ?_
  refine sG ?_
  refine sU ?_
  refine Sy.skip ?_
  refine Sy.then_ ?_
  refine sC ?_
  refine sS (.bool false) (Quiet.pure (exec_int .eql _ _ _ .i64 _ _ _ rfl rfl rfl (int_eql _ _ _ _ _ (decide_eq_false (fun e => hk (by simp [e])))))) <| sp rfl ?_
  refine sG ?_
  refine sU ?_
  refine Sy.skip ?_
  refine Sy.then_ ?_
  refine Sy.exit ?_
  refine Sy.in_pass (by decide) ?_
  refine Sy.in_pass (by decide) ?_
  refine Sy.in_pass (by decide) ?_
  refine Sy.in_pass (by decide) ?_
  refine Sy.then_exit ?_
  refine Sy.in_exit ?_
  refine sB ?_
  refine sp rfl ?_
  have p5 : (CRS gc gr gx tx (A ++ ([Value.int .i64 x1] ++ (([Value.bool false] ++ (Z32 ++ lPT ⟨0, 0, false⟩)) ++ (([Value.bool false] ++ ([Value.int .u64 0] ++ lPT ⟨0, 0, false⟩)) ++ ([Value.slice none 0 0] ++ ([Value.slice none 0 0] ++ ([Value.slice none 0 0] ++ ([Value.slice none 0 0] ++ (Z))))))))) sl1 s1.e (R ++ N1)).Perm (CRN gc gr sl1 s1.e ((gx, tx, (A ++ ([Value.int .i64 x1] ++ (([Value.bool false] ++ (Z32 ++ lPT ⟨0, 0, false⟩)) ++ (([Value.bool false] ++ ([Value.int .u64 0] ++ lPT ⟨0, 0, false⟩)) ++ ([Value.slice none 0 0] ++ ([Value.slice none 0 0] ++ ([Value.slice none 0 0] ++ ([Value.slice none 0 0] ++ (Z))))))))).toArray) :: (R ++ N1))) := swap23
  refine Sy.permS p5 ?_
  refine Sy.callT (fun w hw => must_r w0.inn gc gr sl1 s1.e e1 ((gx, tx, (A ++ ([Value.int .i64 x1] ++ (([Value.bool false] ++ (Z32 ++ lPT ⟨0, 0, false⟩)) ++ (([Value.bool false] ++ ([Value.int .u64 0] ++ lPT ⟨0, 0, false⟩)) ++ ([Value.slice none 0 0] ++ ([Value.slice none 0 0] ++ ([Value.slice none 0 0] ++ ([Value.slice none 0 0] ++ (Z))))))))).toArray) :: (R ++ N1)) false w hw) (fun u M hM => ?_)
  subst hM
  obtain ⟨e2, he2⟩ : ∃ e2, e2 = if false = true then s1.e else if s1.e = 0 then 120 else s1.e := ⟨_, rfl⟩
  rw [← he2]
  rw [if_neg (by decide)] at he2
  have he3 : e2 ≠ 0 := by rw [he2]; split <;> omega
  have he4 : e2 ≤ 200 := by rw [he2]; split <;> omega
  refine sG ?_
  refine Sy.exit ?_
  refine Sy.in_exit ?_
  have p6 : (CRN gc gr sl1 e2 ((gx, tx, (A ++ ([Value.int .i64 x1] ++ (([Value.bool false] ++ (Z32 ++ lPT ⟨0, 0, false⟩)) ++ (([Value.bool false] ++ ([Value.int .u64 0] ++ lPT ⟨0, 0, false⟩)) ++ ([Value.slice none 0 0] ++ ([Value.slice none 0 0] ++ ([Value.slice none 0 0] ++ ([Value.slice none 0 0] ++ (Z))))))))).toArray) :: (R ++ N1))).Perm (CRS gc gr gx tx (A ++ ([Value.int .i64 x1] ++ (([Value.bool false] ++ (Z32 ++ lPT ⟨0, 0, false⟩)) ++ (([Value.bool false] ++ ([Value.int .u64 0] ++ lPT ⟨0, 0, false⟩)) ++ ([Value.slice none 0 0] ++ ([Value.slice none 0 0] ++ ([Value.slice none 0 0] ++ ([Value.slice none 0 0] ++ (Z))))))))) sl1 e2 (R ++ N1)) := swap23
  have hno : okK x1 = false := okK_of hk
  have hAf : After rdOU s ⟨x1, ⟨false, z32, ⟨0, 0, false⟩⟩, ⟨false, 0, ⟨0, 0, false⟩⟩, [], [], [], []⟩ ⟨s1.rest, e2⟩ := a1.bind (by rw [hno]; exact After.mustX _ _ he3)
  have hLn : ([Value.int .i64 x1] ++ (([Value.bool false] ++ (Z32 ++ lPT ⟨0, 0, false⟩)) ++ (([Value.bool false] ++ ([Value.int .u64 0] ++ lPT ⟨0, 0, false⟩)) ++ ([Value.slice none 0 0] ++ ([Value.slice none 0 0] ++ ([Value.slice none 0 0] ++ ([Value.slice none 0 0]))))))).length = 58 := rfl
  have hOn : ∀ u ∈ ([Value.int .i64 x1] ++ (([Value.bool false] ++ (Z32 ++ lPT ⟨0, 0, false⟩)) ++ (([Value.bool false] ++ ([Value.int .u64 0] ++ lPT ⟨0, 0, false⟩)) ++ ([Value.slice none 0 0] ++ ([Value.slice none 0 0] ++ ([Value.slice none 0 0] ++ ([Value.slice none 0 0]))))))), u.oneCell' = true := ones_app o1 (ones_app (ones_app (fun u hu => by rw [List.mem_singleton.1 hu]; rfl) (ones_app (ones_bW z32) (lPT_one _))) (ones_app (ones_app (fun u hu => by rw [List.mem_singleton.1 hu]; rfl) (ones_app (fun u hu => by rw [List.mem_singleton.1 hu]; rfl) (lPT_one _))) (ones_app one_ni (ones_app one_ni (ones_app one_ni one_ni)))))
  have hRp : repOU (rdB N1) ([Value.int .i64 x1] ++ (([Value.bool false] ++ (Z32 ++ lPT ⟨0, 0, false⟩)) ++ (([Value.bool false] ++ ([Value.int .u64 0] ++ lPT ⟨0, 0, false⟩)) ++ ([Value.slice none 0 0] ++ ([Value.slice none 0 0] ++ ([Value.slice none 0 0] ++ ([Value.slice none 0 0]))))))) ⟨x1, ⟨false, z32, ⟨0, 0, false⟩⟩, ⟨false, 0, ⟨0, 0, false⟩⟩, [], [], [], []⟩ := ⟨.slice none 0 0, .slice none 0 0, .slice none 0 0, .slice none 0 0, rfl, ⟨rfl, (show 0 < Cu.K4 by decide), (show 0 < Cu.K4 by decide)⟩, ⟨(show (0 : Nat) < 18446744073709551616 by decide), (show 0 < Cu.K4 by decide), (show 0 < Cu.K4 by decide)⟩, BytR.nil _, BytR.nil _, BytR.nil _, BytR.nil _⟩
  have hcs : A ++ (([Value.int .i64 x1] ++ (([Value.bool false] ++ (Z32 ++ lPT ⟨0, 0, false⟩)) ++ (([Value.bool false] ++ ([Value.int .u64 0] ++ lPT ⟨0, 0, false⟩)) ++ ([Value.slice none 0 0] ++ ([Value.slice none 0 0] ++ ([Value.slice none 0 0] ++ ([Value.slice none 0 0]))))))) ++ Z) = A ++ ([Value.int .i64 x1] ++ (([Value.bool false] ++ (Z32 ++ lPT ⟨0, 0, false⟩)) ++ (([Value.bool false] ++ ([Value.int .u64 0] ++ lPT ⟨0, 0, false⟩)) ++ ([Value.slice none 0 0] ++ ([Value.slice none 0 0] ++ ([Value.slice none 0 0] ++ ([Value.slice none 0 0] ++ (Z)))))))) := by simp only [List.append_assoc]
  exact Sy.retT0 rfl (CRS gc gr gx tx (A ++ (([Value.int .i64 x1] ++ (([Value.bool false] ++ (Z32 ++ lPT ⟨0, 0, false⟩)) ++ (([Value.bool false] ++ ([Value.int .u64 0] ++ lPT ⟨0, 0, false⟩)) ++ ([Value.slice none 0 0] ++ ([Value.slice none 0 0] ++ ([Value.slice none 0 0] ++ ([Value.slice none 0 0]))))))) ++ Z)) sl1 e2 (R ++ N1)) (fun _ h => by rw [hcs]; exact h.perm p6) (fun _ => ⟨_, ⟨s1.rest, e2⟩, sl1, _, N1, hAf, hLn, hOn, hRp, he4, h1, y1, rfl⟩)
theorem oneOU {C : Rdr} {cs : List Value} {t : MOu} (h : repOU C cs t) : ∀ u ∈ cs, u.oneCell' = true := by
  obtain ⟨vr, vs, vn, vc, rfl, _, _, h1, h2, h3, h4⟩ := h
  exact ones_app (fun u hu => by rw [List.mem_singleton.1 hu]; rfl) (ones_app (ones_app (fun u hu => by rw [List.mem_singleton.1 hu]; rfl) (ones_app (ones_bW _) (lPT_one _))) (ones_app (ones_app (fun u hu => by rw [List.mem_singleton.1 hu]; rfl) (ones_app (fun u hu => by rw [List.mem_singleton.1 hu]; rfl) (lPT_one _))) (ones_app (fun u hu => by rw [List.mem_singleton.1 hu]; exact h1.cells.2) (ones_app (fun u hu => by rw [List.mem_singleton.1 hu]; exact h2.cells.2) (ones_app (fun u hu => by rw [List.mem_singleton.1 hu]; exact h3.cells.2) (fun u hu => by rw [List.mem_singleton.1 hu]; exact h4.cells.2))))))
end Go.Proofs.YtgemfpnlnipfnaaGreat.Wr

end
section
namespace Go.Proofs.YtgemfpnlnipfnaaGreat.Wr
open Go.RowKit Go.Proofs.YtgemfpnlnipfnaaGreat Go.Proofs.YtgemfpnlnipfnaaGreat.Sy
set_option maxRecDepth 100000
set_option maxHeartbeats 4000000

theorem sml_kind {α : Type} (f : Int → Ps α) : bindP (smlP 1 4) f = bindP octP fun k => bindP (mustP (okK k)) fun _ => f k := by
  funext l
  cases h : numP 1 l with
  | none =>
    have h1 : smlP 1 4 l = none := by unfold smlP; exact bind_none h
    have h2 : octP l = none := by unfold octP; exact bind_none h
    rw [bind_none h1, bind_none h2]
  | some u =>
    obtain ⟨n, r⟩ := u
    have h2 : octP l = some ((n : Int), r) := by unfold octP; rw [bind_some h]; rfl
    rw [bind_some h2]
    by_cases hn : 1 ≤ n ∧ n ≤ 4
    · have h1 : smlP 1 4 l = some ((n : Int), r) := by
        unfold smlP
        rw [bind_some h, decide_eq_true hn]
        rfl
      have hk : okK (n : Int) = true := by
        unfold okK
        rw [decide_eq_true (show (1 : Int) ≤ n by omega), decide_eq_true (show (n : Int) ≤ 4 by omega)]; rfl
      rw [bind_some h1, hk]
      rfl
    · have h1 : smlP 1 4 l = none := by
        unfold smlP
        rw [bind_some h, decide_eq_false hn]
        rfl
      have hk : okK (n : Int) = false := okK_of (by omega)
      rw [bind_none h1, hk]
      rfl
theorem outM_any (w0 : Base) (gr : Nat) (sl : Value) (b : Byt) (at_ e : Nat) (R : Blocks) (hat : at_ ≤ b.length) (he : e ≤ 200) (hl : b.length ≤ 70368744177664) (hv : BytR (rdW w0.world) sl b) (w : World) (hw : St w0 w (RB gr sl at_ e R)) :
    Calls Tryz.prog 68 #[ptr gr] w (Turns w0 (Rfd rdOU (rowV 58 repOU) gr sl b R at_ e)) := by
  have L0 : ([] : List Value).length = 0 := rfl
  refine Sy.enterT (args := [ptr gr]) hw Tryz.func68 rfl kL ?_
  refine sC ?_
  refine sM 64 ((([] : List Value)) ++ ([Value.int .i64 0] ++ (([Value.bool false] ++ (Z32 ++ lPT ⟨0, 0, false⟩)) ++ (([Value.bool false] ++ ([Value.int .u64 0] ++ lPT ⟨0, 0, false⟩)) ++ ([Value.slice none 0 0] ++ ([Value.slice none 0 0] ++ ([Value.slice none 0 0] ++ ([Value.slice none 0 0] ++ (([] : List Value)))))))))).toArray (fun g2 => ?_)
  refine Sy.movT (pre := [(gr, 186, rrC sl at_ e)]) (T := R) ?_
  refine sA ?_
  refine sM 64 ((([] : List Value)) ++ ([Value.int .i64 0] ++ (([Value.bool false] ++ (Z32 ++ lPT ⟨0, 0, false⟩)) ++ (([Value.bool false] ++ ([Value.int .u64 0] ++ lPT ⟨0, 0, false⟩)) ++ ([Value.slice none 0 0] ++ ([Value.slice none 0 0] ++ ([Value.slice none 0 0] ++ ([Value.slice none 0 0] ++ (([] : List Value)))))))))).toArray (fun g3 => ?_)
  refine Sy.movT (pre := [(gr, 186, rrC sl at_ e), (g2, 64, ((([] : List Value)) ++ ([Value.int .i64 0] ++ (([Value.bool false] ++ (Z32 ++ lPT ⟨0, 0, false⟩)) ++ (([Value.bool false] ++ ([Value.int .u64 0] ++ lPT ⟨0, 0, false⟩)) ++ ([Value.slice none 0 0] ++ ([Value.slice none 0 0] ++ ([Value.slice none 0 0] ++ ([Value.slice none 0 0] ++ (([] : List Value)))))))))).toArray)]) (T := R) ?_
  refine sA ?_
  refine sp rfl ?_
  refine Sy.callT (fun w hw => smallM_any 1 4 w0.inn gr sl b at_ e ((g2, 64, ((([] : List Value)) ++ ([Value.int .i64 0] ++ (([Value.bool false] ++ (Z32 ++ lPT ⟨0, 0, false⟩)) ++ (([Value.bool false] ++ ([Value.int .u64 0] ++ lPT ⟨0, 0, false⟩)) ++ ([Value.slice none 0 0] ++ ([Value.slice none 0 0] ++ ([Value.slice none 0 0] ++ ([Value.slice none 0 0] ++ (([] : List Value)))))))))).toArray) :: (g3, 64, ((([] : List Value)) ++ ([Value.int .i64 0] ++ (([Value.bool false] ++ (Z32 ++ lPT ⟨0, 0, false⟩)) ++ (([Value.bool false] ++ ([Value.int .u64 0] ++ lPT ⟨0, 0, false⟩)) ++ ([Value.slice none 0 0] ++ ([Value.slice none 0 0] ++ ([Value.slice none 0 0] ++ ([Value.slice none 0 0] ++ (([] : List Value)))))))))).toArray) :: R) hat he hl hv w hw) (fun u M hM => ?_)
  obtain ⟨x1, a1, e1, N1, p1, ⟨rfl, rfl⟩, u1, v1_, rfl⟩ := hM
  rw [List.append_nil ((g2, 64, ((([] : List Value)) ++ ([Value.int .i64 0] ++ (([Value.bool false] ++ (Z32 ++ lPT ⟨0, 0, false⟩)) ++ (([Value.bool false] ++ ([Value.int .u64 0] ++ lPT ⟨0, 0, false⟩)) ++ ([Value.slice none 0 0] ++ ([Value.slice none 0 0] ++ ([Value.slice none 0 0] ++ ([Value.slice none 0 0] ++ (([] : List Value)))))))))).toArray) :: (g3, 64, ((([] : List Value)) ++ ([Value.int .i64 0] ++ (([Value.bool false] ++ (Z32 ++ lPT ⟨0, 0, false⟩)) ++ (([Value.bool false] ++ ([Value.int .u64 0] ++ lPT ⟨0, 0, false⟩)) ++ ([Value.slice none 0 0] ++ ([Value.slice none 0 0] ++ ([Value.slice none 0 0] ++ ([Value.slice none 0 0] ++ (([] : List Value)))))))))).toArray) :: R)]
  refine sP (.pointer (some ⟨g3, 0, none⟩)) <| sw 2 rfl ((([] : List Value) ++ ([Value.int .i64 x1])) ++ (([Value.bool false] ++ (Z32 ++ lPT ⟨0, 0, false⟩)) ++ (([Value.bool false] ++ ([Value.int .u64 0] ++ lPT ⟨0, 0, false⟩)) ++ ([Value.slice none 0 0] ++ ([Value.slice none 0 0] ++ ([Value.slice none 0 0] ++ ([Value.slice none 0 0] ++ (([] : List Value))))))))).toArray (by rw [show ((([] : List Value) ++ ([Value.int .i64 x1])) ++ (([Value.bool false] ++ (Z32 ++ lPT ⟨0, 0, false⟩)) ++ (([Value.bool false] ++ ([Value.int .u64 0] ++ lPT ⟨0, 0, false⟩)) ++ ([Value.slice none 0 0] ++ ([Value.slice none 0 0] ++ ([Value.slice none 0 0] ++ ([Value.slice none 0 0] ++ (([] : List Value))))))))) = (([] : List Value)) ++ ([Value.int .i64 x1] ++ (([Value.bool false] ++ (Z32 ++ lPT ⟨0, 0, false⟩)) ++ (([Value.bool false] ++ ([Value.int .u64 0] ++ lPT ⟨0, 0, false⟩)) ++ ([Value.slice none 0 0] ++ ([Value.slice none 0 0] ++ ([Value.slice none 0 0] ++ ([Value.slice none 0 0] ++ (([] : List Value))))))))) from List.append_assoc ..]; exact Writes.one 0 3 (.int .i64 x1) _ _ rfl kR kR kR rfl rfl (by rw [List.size_toArray, List.length_append, L0]; exact Nat.lt_add_of_pos_right (Nat.succ_pos _)) (set_mid L0)) ?_
  have L1 : (([] : List Value) ++ ([Value.int .i64 x1])).length = 1 := by rw [List.length_append, L0]; rfl
  refine sA ?_
  refine sp rfl ?_
  refine Sy.callT (fun w hw => tagM_any w0.inn gr sl b a1 e1 ((g2, 64, ((([] : List Value)) ++ ([Value.int .i64 0] ++ (([Value.bool false] ++ (Z32 ++ lPT ⟨0, 0, false⟩)) ++ (([Value.bool false] ++ ([Value.int .u64 0] ++ lPT ⟨0, 0, false⟩)) ++ ([Value.slice none 0 0] ++ ([Value.slice none 0 0] ++ ([Value.slice none 0 0] ++ ([Value.slice none 0 0] ++ (([] : List Value)))))))))).toArray) :: (g3, 64, ((([] : List Value) ++ ([Value.int .i64 x1])) ++ (([Value.bool false] ++ (Z32 ++ lPT ⟨0, 0, false⟩)) ++ (([Value.bool false] ++ ([Value.int .u64 0] ++ lPT ⟨0, 0, false⟩)) ++ ([Value.slice none 0 0] ++ ([Value.slice none 0 0] ++ ([Value.slice none 0 0] ++ ([Value.slice none 0 0] ++ (([] : List Value))))))))).toArray) :: R) u1 v1_ hl hv w hw) (fun u M hM => ?_)
  obtain ⟨x2, a2, e2, N2, p2, ⟨cs2, rfl, n2, o2, rfl, b2⟩, u2, v2_, rfl⟩ := hM
  refine Sy.permS (M := RB gr sl a2 e2 ((g2, 64, ((([] : List Value)) ++ ([Value.int .i64 0] ++ (([Value.bool false] ++ (Z32 ++ lPT ⟨0, 0, false⟩)) ++ (([Value.bool false] ++ ([Value.int .u64 0] ++ lPT ⟨0, 0, false⟩)) ++ ([Value.slice none 0 0] ++ ([Value.slice none 0 0] ++ ([Value.slice none 0 0] ++ ([Value.slice none 0 0] ++ (([] : List Value)))))))))).toArray) :: (g3, 64, ((([] : List Value) ++ ([Value.int .i64 x1])) ++ (([Value.bool false] ++ (Z32 ++ lPT ⟨0, 0, false⟩)) ++ (([Value.bool false] ++ ([Value.int .u64 0] ++ lPT ⟨0, 0, false⟩)) ++ ([Value.slice none 0 0] ++ ([Value.slice none 0 0] ++ ([Value.slice none 0 0] ++ ([Value.slice none 0 0] ++ (([] : List Value))))))))).toArray) :: (R ++ N2))) (List.Perm.refl _) ?_
  refine sP (.pointer (some ⟨g3, 1, none⟩)) <| sw 2 rfl ((([] : List Value) ++ ([Value.int .i64 x1]) ++ (cTG x2)) ++ (([Value.bool false] ++ ([Value.int .u64 0] ++ lPT ⟨0, 0, false⟩)) ++ ([Value.slice none 0 0] ++ ([Value.slice none 0 0] ++ ([Value.slice none 0 0] ++ ([Value.slice none 0 0] ++ (([] : List Value)))))))).toArray (by rw [show ((([] : List Value) ++ ([Value.int .i64 x1]) ++ (cTG x2)) ++ (([Value.bool false] ++ ([Value.int .u64 0] ++ lPT ⟨0, 0, false⟩)) ++ ([Value.slice none 0 0] ++ ([Value.slice none 0 0] ++ ([Value.slice none 0 0] ++ ([Value.slice none 0 0] ++ (([] : List Value)))))))) = (([] : List Value) ++ ([Value.int .i64 x1])) ++ (cTG x2 ++ (([Value.bool false] ++ ([Value.int .u64 0] ++ lPT ⟨0, 0, false⟩)) ++ ([Value.slice none 0 0] ++ ([Value.slice none 0 0] ++ ([Value.slice none 0 0] ++ ([Value.slice none 0 0] ++ (([] : List Value)))))))) from List.append_assoc ..]; exact wM 60 (([] : List Value) ++ ([Value.int .i64 x1])) ([Value.bool false] ++ (Z32 ++ lPT ⟨0, 0, false⟩)) (cTG x2) (([Value.bool false] ++ ([Value.int .u64 0] ++ lPT ⟨0, 0, false⟩)) ++ ([Value.slice none 0 0] ++ ([Value.slice none 0 0] ++ ([Value.slice none 0 0] ++ ([Value.slice none 0 0] ++ (([] : List Value))))))) 42 1 _ _ rfl kR kR kR L1 rfl n2 o2) ?_
  have L2 : (([] : List Value) ++ ([Value.int .i64 x1]) ++ (cTG x2)).length = 43 := by rw [List.length_append, L1, n2]
  refine sA ?_
  refine sp rfl ?_
  refine Sy.callT (fun w hw => amountM_any w0.inn gr sl b a2 e2 ((g2, 64, ((([] : List Value)) ++ ([Value.int .i64 0] ++ (([Value.bool false] ++ (Z32 ++ lPT ⟨0, 0, false⟩)) ++ (([Value.bool false] ++ ([Value.int .u64 0] ++ lPT ⟨0, 0, false⟩)) ++ ([Value.slice none 0 0] ++ ([Value.slice none 0 0] ++ ([Value.slice none 0 0] ++ ([Value.slice none 0 0] ++ (([] : List Value)))))))))).toArray) :: (g3, 64, ((([] : List Value) ++ ([Value.int .i64 x1]) ++ (cTG x2)) ++ (([Value.bool false] ++ ([Value.int .u64 0] ++ lPT ⟨0, 0, false⟩)) ++ ([Value.slice none 0 0] ++ ([Value.slice none 0 0] ++ ([Value.slice none 0 0] ++ ([Value.slice none 0 0] ++ (([] : List Value)))))))).toArray) :: (R ++ N2)) u2 v2_ hl hv w hw) (fun u M hM => ?_)
  obtain ⟨x3, a3, e3, N3, p3, ⟨cs3, rfl, n3, o3, rfl, b3⟩, u3, v3_, rfl⟩ := hM
  refine Sy.permS (M := RB gr sl a3 e3 ((g2, 64, ((([] : List Value)) ++ ([Value.int .i64 0] ++ (([Value.bool false] ++ (Z32 ++ lPT ⟨0, 0, false⟩)) ++ (([Value.bool false] ++ ([Value.int .u64 0] ++ lPT ⟨0, 0, false⟩)) ++ ([Value.slice none 0 0] ++ ([Value.slice none 0 0] ++ ([Value.slice none 0 0] ++ ([Value.slice none 0 0] ++ (([] : List Value)))))))))).toArray) :: (g3, 64, ((([] : List Value) ++ ([Value.int .i64 x1]) ++ (cTG x2)) ++ (([Value.bool false] ++ ([Value.int .u64 0] ++ lPT ⟨0, 0, false⟩)) ++ ([Value.slice none 0 0] ++ ([Value.slice none 0 0] ++ ([Value.slice none 0 0] ++ ([Value.slice none 0 0] ++ (([] : List Value)))))))).toArray) :: (R ++ N2 ++ N3))) (List.Perm.refl _) ?_
  refine sP (.pointer (some ⟨g3, 43, none⟩)) <| sw 2 rfl ((([] : List Value) ++ ([Value.int .i64 x1]) ++ (cTG x2) ++ (cAM x3)) ++ ([Value.slice none 0 0] ++ ([Value.slice none 0 0] ++ ([Value.slice none 0 0] ++ ([Value.slice none 0 0] ++ (([] : List Value))))))).toArray (by rw [show ((([] : List Value) ++ ([Value.int .i64 x1]) ++ (cTG x2) ++ (cAM x3)) ++ ([Value.slice none 0 0] ++ ([Value.slice none 0 0] ++ ([Value.slice none 0 0] ++ ([Value.slice none 0 0] ++ (([] : List Value))))))) = (([] : List Value) ++ ([Value.int .i64 x1]) ++ (cTG x2)) ++ (cAM x3 ++ ([Value.slice none 0 0] ++ ([Value.slice none 0 0] ++ ([Value.slice none 0 0] ++ ([Value.slice none 0 0] ++ (([] : List Value))))))) from List.append_assoc ..]; exact wM 62 (([] : List Value) ++ ([Value.int .i64 x1]) ++ (cTG x2)) ([Value.bool false] ++ ([Value.int .u64 0] ++ lPT ⟨0, 0, false⟩)) (cAM x3) ([Value.slice none 0 0] ++ ([Value.slice none 0 0] ++ ([Value.slice none 0 0] ++ ([Value.slice none 0 0] ++ (([] : List Value)))))) 11 43 _ _ rfl kR kR kR L2 rfl n3 o3) ?_
  have L3 : (([] : List Value) ++ ([Value.int .i64 x1]) ++ (cTG x2) ++ (cAM x3)).length = 54 := by rw [List.length_append, L2, n3]
  refine sA ?_
  refine sp rfl ?_
  refine Sy.callT (fun w hw => textM_any 6000 (by decide) w0.inn gr sl b a3 e3 ((g2, 64, ((([] : List Value)) ++ ([Value.int .i64 0] ++ (([Value.bool false] ++ (Z32 ++ lPT ⟨0, 0, false⟩)) ++ (([Value.bool false] ++ ([Value.int .u64 0] ++ lPT ⟨0, 0, false⟩)) ++ ([Value.slice none 0 0] ++ ([Value.slice none 0 0] ++ ([Value.slice none 0 0] ++ ([Value.slice none 0 0] ++ (([] : List Value)))))))))).toArray) :: (g3, 64, ((([] : List Value) ++ ([Value.int .i64 x1]) ++ (cTG x2) ++ (cAM x3)) ++ ([Value.slice none 0 0] ++ ([Value.slice none 0 0] ++ ([Value.slice none 0 0] ++ ([Value.slice none 0 0] ++ (([] : List Value))))))).toArray) :: (R ++ N2 ++ N3)) u3 v3_ hl hv w hw) (fun v4 M hM => ?_)
  obtain ⟨x4, a4, e4, N4, p4, r4, u4, v4_, rfl⟩ := hM
  refine Sy.permS (M := RB gr sl a4 e4 ((g2, 64, ((([] : List Value)) ++ ([Value.int .i64 0] ++ (([Value.bool false] ++ (Z32 ++ lPT ⟨0, 0, false⟩)) ++ (([Value.bool false] ++ ([Value.int .u64 0] ++ lPT ⟨0, 0, false⟩)) ++ ([Value.slice none 0 0] ++ ([Value.slice none 0 0] ++ ([Value.slice none 0 0] ++ ([Value.slice none 0 0] ++ (([] : List Value)))))))))).toArray) :: (g3, 64, ((([] : List Value) ++ ([Value.int .i64 x1]) ++ (cTG x2) ++ (cAM x3)) ++ ([Value.slice none 0 0] ++ ([Value.slice none 0 0] ++ ([Value.slice none 0 0] ++ ([Value.slice none 0 0] ++ (([] : List Value))))))).toArray) :: (R ++ N2 ++ N3 ++ N4))) (List.Perm.refl _) ?_
  have hc4 := r4.byt.cells
  refine sP (.pointer (some ⟨g3, 54, none⟩)) <| sw 2 rfl ((([] : List Value) ++ ([Value.int .i64 x1]) ++ (cTG x2) ++ (cAM x3) ++ ([v4])) ++ ([Value.slice none 0 0] ++ ([Value.slice none 0 0] ++ ([Value.slice none 0 0] ++ (([] : List Value)))))).toArray (by rw [show ((([] : List Value) ++ ([Value.int .i64 x1]) ++ (cTG x2) ++ (cAM x3) ++ ([v4])) ++ ([Value.slice none 0 0] ++ ([Value.slice none 0 0] ++ ([Value.slice none 0 0] ++ (([] : List Value)))))) = (([] : List Value) ++ ([Value.int .i64 x1]) ++ (cTG x2) ++ (cAM x3)) ++ ([v4] ++ ([Value.slice none 0 0] ++ ([Value.slice none 0 0] ++ ([Value.slice none 0 0] ++ (([] : List Value)))))) from List.append_assoc ..]; exact Writes.one 54 27 v4 _ _ rfl kR kR kR hc4.1 hc4.2 (by rw [List.size_toArray, List.length_append, L3]; exact Nat.lt_add_of_pos_right (Nat.succ_pos _)) (set_mid L3)) ?_
  have L4 : (([] : List Value) ++ ([Value.int .i64 x1]) ++ (cTG x2) ++ (cAM x3) ++ ([v4])).length = 55 := by rw [List.length_append, L3]; rfl
  refine sA ?_
  refine sp rfl ?_
  refine Sy.callT (fun w hw => textM_any 6000 (by decide) w0.inn gr sl b a4 e4 ((g2, 64, ((([] : List Value)) ++ ([Value.int .i64 0] ++ (([Value.bool false] ++ (Z32 ++ lPT ⟨0, 0, false⟩)) ++ (([Value.bool false] ++ ([Value.int .u64 0] ++ lPT ⟨0, 0, false⟩)) ++ ([Value.slice none 0 0] ++ ([Value.slice none 0 0] ++ ([Value.slice none 0 0] ++ ([Value.slice none 0 0] ++ (([] : List Value)))))))))).toArray) :: (g3, 64, ((([] : List Value) ++ ([Value.int .i64 x1]) ++ (cTG x2) ++ (cAM x3) ++ ([v4])) ++ ([Value.slice none 0 0] ++ ([Value.slice none 0 0] ++ ([Value.slice none 0 0] ++ (([] : List Value)))))).toArray) :: (R ++ N2 ++ N3 ++ N4)) u4 v4_ hl hv w hw) (fun v5 M hM => ?_)
  obtain ⟨x5, a5, e5, N5, p5, r5, u5, v5_, rfl⟩ := hM
  refine Sy.permS (M := RB gr sl a5 e5 ((g2, 64, ((([] : List Value)) ++ ([Value.int .i64 0] ++ (([Value.bool false] ++ (Z32 ++ lPT ⟨0, 0, false⟩)) ++ (([Value.bool false] ++ ([Value.int .u64 0] ++ lPT ⟨0, 0, false⟩)) ++ ([Value.slice none 0 0] ++ ([Value.slice none 0 0] ++ ([Value.slice none 0 0] ++ ([Value.slice none 0 0] ++ (([] : List Value)))))))))).toArray) :: (g3, 64, ((([] : List Value) ++ ([Value.int .i64 x1]) ++ (cTG x2) ++ (cAM x3) ++ ([v4])) ++ ([Value.slice none 0 0] ++ ([Value.slice none 0 0] ++ ([Value.slice none 0 0] ++ (([] : List Value)))))).toArray) :: (R ++ N2 ++ N3 ++ N4 ++ N5))) (List.Perm.refl _) ?_
  have hc5 := r5.byt.cells
  refine sP (.pointer (some ⟨g3, 55, none⟩)) <| sw 2 rfl ((([] : List Value) ++ ([Value.int .i64 x1]) ++ (cTG x2) ++ (cAM x3) ++ ([v4]) ++ ([v5])) ++ ([Value.slice none 0 0] ++ ([Value.slice none 0 0] ++ (([] : List Value))))).toArray (by rw [show ((([] : List Value) ++ ([Value.int .i64 x1]) ++ (cTG x2) ++ (cAM x3) ++ ([v4]) ++ ([v5])) ++ ([Value.slice none 0 0] ++ ([Value.slice none 0 0] ++ (([] : List Value))))) = (([] : List Value) ++ ([Value.int .i64 x1]) ++ (cTG x2) ++ (cAM x3) ++ ([v4])) ++ ([v5] ++ ([Value.slice none 0 0] ++ ([Value.slice none 0 0] ++ (([] : List Value))))) from List.append_assoc ..]; exact Writes.one 55 27 v5 _ _ rfl kR kR kR hc5.1 hc5.2 (by rw [List.size_toArray, List.length_append, L4]; exact Nat.lt_add_of_pos_right (Nat.succ_pos _)) (set_mid L4)) ?_
  have L5 : (([] : List Value) ++ ([Value.int .i64 x1]) ++ (cTG x2) ++ (cAM x3) ++ ([v4]) ++ ([v5])).length = 56 := by rw [List.length_append, L4]; rfl
  refine sA ?_
  refine sp rfl ?_
  refine Sy.callT (fun w hw => textM_any 128 (by decide) w0.inn gr sl b a5 e5 ((g2, 64, ((([] : List Value)) ++ ([Value.int .i64 0] ++ (([Value.bool false] ++ (Z32 ++ lPT ⟨0, 0, false⟩)) ++ (([Value.bool false] ++ ([Value.int .u64 0] ++ lPT ⟨0, 0, false⟩)) ++ ([Value.slice none 0 0] ++ ([Value.slice none 0 0] ++ ([Value.slice none 0 0] ++ ([Value.slice none 0 0] ++ (([] : List Value)))))))))).toArray) :: (g3, 64, ((([] : List Value) ++ ([Value.int .i64 x1]) ++ (cTG x2) ++ (cAM x3) ++ ([v4]) ++ ([v5])) ++ ([Value.slice none 0 0] ++ ([Value.slice none 0 0] ++ (([] : List Value))))).toArray) :: (R ++ N2 ++ N3 ++ N4 ++ N5)) u5 v5_ hl hv w hw) (fun v6 M hM => ?_)
  obtain ⟨x6, a6, e6, N6, p6, r6, u6, v6_, rfl⟩ := hM
  refine Sy.permS (M := RB gr sl a6 e6 ((g2, 64, ((([] : List Value)) ++ ([Value.int .i64 0] ++ (([Value.bool false] ++ (Z32 ++ lPT ⟨0, 0, false⟩)) ++ (([Value.bool false] ++ ([Value.int .u64 0] ++ lPT ⟨0, 0, false⟩)) ++ ([Value.slice none 0 0] ++ ([Value.slice none 0 0] ++ ([Value.slice none 0 0] ++ ([Value.slice none 0 0] ++ (([] : List Value)))))))))).toArray) :: (g3, 64, ((([] : List Value) ++ ([Value.int .i64 x1]) ++ (cTG x2) ++ (cAM x3) ++ ([v4]) ++ ([v5])) ++ ([Value.slice none 0 0] ++ ([Value.slice none 0 0] ++ (([] : List Value))))).toArray) :: (R ++ N2 ++ N3 ++ N4 ++ N5 ++ N6))) (List.Perm.refl _) ?_
  have hc6 := r6.byt.cells
  refine sP (.pointer (some ⟨g3, 56, none⟩)) <| sw 2 rfl ((([] : List Value) ++ ([Value.int .i64 x1]) ++ (cTG x2) ++ (cAM x3) ++ ([v4]) ++ ([v5]) ++ ([v6])) ++ ([Value.slice none 0 0] ++ (([] : List Value)))).toArray (by rw [show ((([] : List Value) ++ ([Value.int .i64 x1]) ++ (cTG x2) ++ (cAM x3) ++ ([v4]) ++ ([v5]) ++ ([v6])) ++ ([Value.slice none 0 0] ++ (([] : List Value)))) = (([] : List Value) ++ ([Value.int .i64 x1]) ++ (cTG x2) ++ (cAM x3) ++ ([v4]) ++ ([v5])) ++ ([v6] ++ ([Value.slice none 0 0] ++ (([] : List Value)))) from List.append_assoc ..]; exact Writes.one 56 27 v6 _ _ rfl kR kR kR hc6.1 hc6.2 (by rw [List.size_toArray, List.length_append, L5]; exact Nat.lt_add_of_pos_right (Nat.succ_pos _)) (set_mid L5)) ?_
  have L6 : (([] : List Value) ++ ([Value.int .i64 x1]) ++ (cTG x2) ++ (cAM x3) ++ ([v4]) ++ ([v5]) ++ ([v6])).length = 57 := by rw [List.length_append, L5]; rfl
  refine sA ?_
  refine sp rfl ?_
  refine Sy.callT (fun w hw => textM_any 256 (by decide) w0.inn gr sl b a6 e6 ((g2, 64, ((([] : List Value)) ++ ([Value.int .i64 0] ++ (([Value.bool false] ++ (Z32 ++ lPT ⟨0, 0, false⟩)) ++ (([Value.bool false] ++ ([Value.int .u64 0] ++ lPT ⟨0, 0, false⟩)) ++ ([Value.slice none 0 0] ++ ([Value.slice none 0 0] ++ ([Value.slice none 0 0] ++ ([Value.slice none 0 0] ++ (([] : List Value)))))))))).toArray) :: (g3, 64, ((([] : List Value) ++ ([Value.int .i64 x1]) ++ (cTG x2) ++ (cAM x3) ++ ([v4]) ++ ([v5]) ++ ([v6])) ++ ([Value.slice none 0 0] ++ (([] : List Value)))).toArray) :: (R ++ N2 ++ N3 ++ N4 ++ N5 ++ N6)) u6 v6_ hl hv w hw) (fun v7 M hM => ?_)
  obtain ⟨x7, a7, e7, N7, p7, r7, u7, v7_, rfl⟩ := hM
  refine Sy.permS (M := RB gr sl a7 e7 ((g2, 64, ((([] : List Value)) ++ ([Value.int .i64 0] ++ (([Value.bool false] ++ (Z32 ++ lPT ⟨0, 0, false⟩)) ++ (([Value.bool false] ++ ([Value.int .u64 0] ++ lPT ⟨0, 0, false⟩)) ++ ([Value.slice none 0 0] ++ ([Value.slice none 0 0] ++ ([Value.slice none 0 0] ++ ([Value.slice none 0 0] ++ (([] : List Value)))))))))).toArray) :: (g3, 64, ((([] : List Value) ++ ([Value.int .i64 x1]) ++ (cTG x2) ++ (cAM x3) ++ ([v4]) ++ ([v5]) ++ ([v6])) ++ ([Value.slice none 0 0] ++ (([] : List Value)))).toArray) :: (R ++ N2 ++ N3 ++ N4 ++ N5 ++ N6 ++ N7))) (List.Perm.refl _) ?_
  have hc7 := r7.byt.cells
  refine sP (.pointer (some ⟨g3, 57, none⟩)) <| sw 2 rfl ((([] : List Value) ++ ([Value.int .i64 x1]) ++ (cTG x2) ++ (cAM x3) ++ ([v4]) ++ ([v5]) ++ ([v6]) ++ ([v7])) ++ ([] : List Value)).toArray (by rw [show ((([] : List Value) ++ ([Value.int .i64 x1]) ++ (cTG x2) ++ (cAM x3) ++ ([v4]) ++ ([v5]) ++ ([v6]) ++ ([v7])) ++ ([] : List Value)) = (([] : List Value) ++ ([Value.int .i64 x1]) ++ (cTG x2) ++ (cAM x3) ++ ([v4]) ++ ([v5]) ++ ([v6])) ++ ([v7] ++ (([] : List Value))) from List.append_assoc ..]; exact Writes.one 57 27 v7 _ _ rfl kR kR kR hc7.1 hc7.2 (by rw [List.size_toArray, List.length_append, L6]; exact Nat.lt_add_of_pos_right (Nat.succ_pos _)) (set_mid L6)) ?_
  have L7 : (([] : List Value) ++ ([Value.int .i64 x1]) ++ (cTG x2) ++ (cAM x3) ++ ([v4]) ++ ([v5]) ++ ([v6]) ++ ([v7])).length = 58 := by rw [List.length_append, L6]; rfl
  have hAf : After rdOU ⟨b.drop at_, e⟩ ⟨x1, x2, x3, x4, x5, x6, x7⟩ ⟨b.drop a7, e7⟩ := by
    unfold rdOU
    rw [← sml_kind]
    exact p1.bind (p2.bind (p3.bind (p4.bind (p5.bind (p6.bind (p7.bind (After.ret _ _)))))))
  have hrp : repOU (rdB (N2 ++ (N3 ++ (N4 ++ (N5 ++ (N6 ++ N7)))))) ((([] : List Value) ++ ([Value.int .i64 x1]) ++ (cTG x2) ++ (cAM x3) ++ ([v4]) ++ ([v5]) ++ ([v6]) ++ ([v7])) ++ ([] : List Value)) ⟨x1, x2, x3, x4, x5, x6, x7⟩ := ⟨v4, v5, v6, v7, by simp only [cOU, List.append_assoc, List.append_nil, List.nil_append], b2, b3, r4.byt.le (rdB_le fun b h => by simp [h]), r5.byt.le (rdB_le fun b h => by simp [h]), r6.byt.le (rdB_le fun b h => by simp [h]), r7.byt.le (rdB_le fun b h => by simp [h])⟩
  have hln : ((([] : List Value) ++ ([Value.int .i64 x1]) ++ (cTG x2) ++ (cAM x3) ++ ([v4]) ++ ([v5]) ++ ([v6]) ++ ([v7])) ++ ([] : List Value)).length = 58 := by rw [List.length_append, L7]; rfl
  have hon : ∀ u ∈ ((([] : List Value) ++ ([Value.int .i64 x1]) ++ (cTG x2) ++ (cAM x3) ++ ([v4]) ++ ([v5]) ++ ([v6]) ++ ([v7])) ++ ([] : List Value)), u.oneCell' = true := oneOU hrp
  refine sA ?_
  refine sS (.agg ((([] : List Value) ++ ([Value.int .i64 x1]) ++ (cTG x2) ++ (cAM x3) ++ ([v4]) ++ ([v5]) ++ ([v6]) ++ ([v7])) ++ ([] : List Value)).toArray) (Quiet.mid 2 g3 0 58 64 64 ((([] : List Value) ++ ([Value.int .i64 x1]) ++ (cTG x2) ++ (cAM x3) ++ ([v4]) ++ ([v5]) ++ ([v6]) ++ ([v7])) ++ ([] : List Value)) ((([] : List Value) ++ ([Value.int .i64 x1]) ++ (cTG x2) ++ (cAM x3) ++ ([v4]) ++ ([v5]) ++ ([v6]) ++ ([v7])) ++ ([] : List Value)) _ _ rfl kR rfl Tryz.underlying64 rfl kR (by rw [List.drop_zero, List.take_of_length_le (by omega)]) (by omega)) <| sw 1 rfl ((([] : List Value) ++ ([Value.int .i64 x1]) ++ (cTG x2) ++ (cAM x3) ++ ([v4]) ++ ([v5]) ++ ([v6]) ++ ([v7])) ++ ([] : List Value)).toArray (Writes.row 64 ((([] : List Value) ++ ([Value.int .i64 x1]) ++ (cTG x2) ++ (cAM x3) ++ ([v4]) ++ ([v5]) ++ ([v6]) ++ ([v7])) ++ ([] : List Value)) 58 _ _ rfl kR kR kR hln (by kernel_rfl) hon) ?_
  refine sG ?_
  refine Sy.ret ?_
  exact Sy.retT1 (RB gr sl a7 e7 (R ++ (N2 ++ (N3 ++ (N4 ++ (N5 ++ (N6 ++ N7))))))) rfl (.inl (Sy.Res.cell (ty' := 64) g2 1 ((([] : List Value) ++ ([Value.int .i64 x1]) ++ (cTG x2) ++ (cAM x3) ++ ([v4]) ++ ([v5]) ++ ([v6]) ++ ([v7])) ++ ([] : List Value)).toArray _ (by kernel_rfl) rfl Tryz.underlying64 rfl (by rw [List.size_toArray, hln]; kernel_rfl) rfl)) (fun _ h => by
    have e : R ++ N2 ++ N3 ++ N4 ++ N5 ++ N6 ++ N7 = R ++ (N2 ++ (N3 ++ (N4 ++ (N5 ++ (N6 ++ N7))))) := by simp only [List.append_assoc]
    rw [← e]
    exact h.less ((((List.Sublist.refl _).cons _).cons _).cons_cons _)) ⟨_, a7, e7, N2 ++ (N3 ++ (N4 ++ (N5 ++ (N6 ++ N7)))), hAf, ⟨((([] : List Value) ++ ([Value.int .i64 x1]) ++ (cTG x2) ++ (cAM x3) ++ ([v4]) ++ ([v5]) ++ ([v6]) ++ ([v7])) ++ ([] : List Value)), rfl, hln, hon, hrp⟩, u7, v7_, rfl⟩
theorem readR_out {α : Type} {rep : Rdr → List Value → α → Prop} {p : Ps α} (hp : ∀ (w0 : Base) (gr : Nat) (sl : Value) (b : Byt) (at_ e : Nat) (R : Blocks), at_ ≤ b.length → e ≤ 200 → b.length ≤ 70368744177664 → BytR (rdW w0.world) sl b → ∀ w, St w0 w (RB gr sl at_ e R) → Calls Tryz.prog 68 #[ptr gr] w (Turns w0 (Rfd p (rowV 58 rep) gr sl b R at_ e))) (w : World) (v : Value) (b : Byt) (hv : BytR (rdW w) v b) (hl : b.length ≤ 70368744177664) :
    Calls Tryz.prog 29 #[v] w (GetsN w (RdE 58 ([Value.int .i64 0] ++ (([Value.bool false] ++ (Z32 ++ lPT ⟨0, 0, false⟩)) ++ (([Value.bool false] ++ ([Value.int .u64 0] ++ lPT ⟨0, 0, false⟩)) ++ ([Value.slice none 0 0] ++ ([Value.slice none 0 0] ++ ([Value.slice none 0 0] ++ ([Value.slice none 0 0]))))))) rep (allP p b))) := by
  refine Sy.enter (args := [v]) Tryz.func29 rfl kL ?_
  refine sC ?_
  refine sM 64 ([Value.int .i64 0] ++ (([Value.bool false] ++ (Z32 ++ lPT ⟨0, 0, false⟩)) ++ (([Value.bool false] ++ ([Value.int .u64 0] ++ lPT ⟨0, 0, false⟩)) ++ ([Value.slice none 0 0] ++ ([Value.slice none 0 0] ++ ([Value.slice none 0 0] ++ ([Value.slice none 0 0]))))))).toArray (fun g2 => ?_)
  refine sP (.int .i64 0) ?_
  refine sA ?_
  refine sp rfl ?_
  refine Sy.callN kR 51 #[v] kF _ (fun w' hw => beginR_any w' v b (hv.at hw)) (fun u M hM => ?_)
  obtain ⟨gr, rfl, rfl⟩ := hM
  refine sp rfl ?_
  refine sA ?_
  refine Sy.permS (M := RB gr v 0 0 [(g2, 64, ([Value.int .i64 0] ++ (([Value.bool false] ++ (Z32 ++ lPT ⟨0, 0, false⟩)) ++ (([Value.bool false] ++ ([Value.int .u64 0] ++ lPT ⟨0, 0, false⟩)) ++ ([Value.slice none 0 0] ++ ([Value.slice none 0 0] ++ ([Value.slice none 0 0] ++ ([Value.slice none 0 0]))))))).toArray)]) (Sy.perm_at [1, 0] (by kernel_rfl) (by rfl)) ?_
  refine sp rfl ?_
  refine Sy.callT (fun w' hw => hp (Base.of w) gr v b 0 0 [(g2, 64, ([Value.int .i64 0] ++ (([Value.bool false] ++ (Z32 ++ lPT ⟨0, 0, false⟩)) ++ (([Value.bool false] ++ ([Value.int .u64 0] ++ lPT ⟨0, 0, false⟩)) ++ ([Value.slice none 0 0] ++ ([Value.slice none 0 0] ++ ([Value.slice none 0 0] ++ ([Value.slice none 0 0]))))))).toArray)] (Nat.zero_le _) (Nat.zero_le _) hl hv w' hw) (fun u M hM => ?_)
  obtain ⟨x, a2, e2, N, q1, ⟨cs, rfl, q2, q3, q4⟩, q5, q6, rfl⟩ := hM
  obtain ⟨o1, o2⟩ := all_of q1
  refine sM 64 ([Value.int .i64 0] ++ (([Value.bool false] ++ (Z32 ++ lPT ⟨0, 0, false⟩)) ++ (([Value.bool false] ++ ([Value.int .u64 0] ++ lPT ⟨0, 0, false⟩)) ++ ([Value.slice none 0 0] ++ ([Value.slice none 0 0] ++ ([Value.slice none 0 0] ++ ([Value.slice none 0 0]))))))).toArray (fun g5 => ?_)
  refine Sy.movT (pre := [(gr, 186, rrC v a2 e2), (g2, 64, ([Value.int .i64 0] ++ (([Value.bool false] ++ (Z32 ++ lPT ⟨0, 0, false⟩)) ++ (([Value.bool false] ++ ([Value.int .u64 0] ++ lPT ⟨0, 0, false⟩)) ++ ([Value.slice none 0 0] ++ ([Value.slice none 0 0] ++ ([Value.slice none 0 0] ++ ([Value.slice none 0 0]))))))).toArray)]) (T := N) ?_
  refine sw 2 rfl cs.toArray (Writes.row 64 cs 58 _ _ rfl kR kR kR q2 (by kernel_rfl) q3) ?_
  refine sG ?_
  refine Sy.seq ?_
  refine sC ?_
  refine sp rfl ?_
  refine Sy.callT (fun w' hw => endedR_any (Base.of w) gr v b a2 e2 ((g2, 64, ([Value.int .i64 0] ++ (([Value.bool false] ++ (Z32 ++ lPT ⟨0, 0, false⟩)) ++ (([Value.bool false] ++ ([Value.int .u64 0] ++ lPT ⟨0, 0, false⟩)) ++ ([Value.slice none 0 0] ++ ([Value.slice none 0 0] ++ ([Value.slice none 0 0] ++ ([Value.slice none 0 0]))))))).toArray) :: (g5, 64, cs.toArray) :: N) q6 q5 hl hv w' hw) (fun u M hM => ?_)
  obtain ⟨rfl, rfl⟩ := hM
  obtain ⟨f, hf⟩ : ∃ f, f = if endN b a2 e2 ≠ 0 then 120 else 0 := ⟨_, rfl⟩
  rw [← hf]
  have hfl : f ≤ 200 := by rw [hf]; split <;> omega
  obtain ⟨b1, hb1⟩ : ∃ z : Bool, z = decide (f ≠ 0) := ⟨_, rfl⟩
  refine sS (.bool b1) (Quiet.pure (exec_int .neq _ _ _ .i64 _ _ _ rfl rfl rfl (int_neq _ _ _ _ _ (by rw [hb1]; exact decide_eq_decide.2 (by omega))))) ?_
  refine sG ?_
  cases b1
  · have l1 : f = 0 := Decidable.of_not_not (of_decide_eq_false hb1.symm)
    have l2 : endN b a2 e2 = 0 := by
      rw [hf] at l1
      by_cases h : endN b a2 e2 = 0
      · exact h
      · rw [if_pos h] at l1; cases l1
    have l3 : e2 = 0 ∧ b.drop a2 = [] := by
      unfold endN at l2
      by_cases h : e2 = 0 ∧ a2 < b.length
      · rw [if_pos h] at l2; cases l2
      · rw [if_neg h] at l2
        exact ⟨l2, List.drop_eq_nil_of_le (by omega)⟩
    refine sU ?_
    refine Sy.skip ?_
    refine sB ?_
    refine sS (.agg cs.toArray) (Quiet.mid 2 g5 0 58 64 64 cs cs _ _ rfl kR rfl Tryz.underlying64 rfl kR (by rw [List.drop_zero, List.take_of_length_le (by omega)]) (by omega)) <| sw 1 rfl cs.toArray (Writes.row 64 cs 58 _ _ rfl kR kR kR q2 (by kernel_rfl) q3) <| sP (.int .i64 0) ?_
    refine sG ?_
    refine Sy.ret ?_
    exact Sy.retGM2 N rfl (.inl (Sy.Res.cell (ty' := 64) g2 1 cs.toArray _ (by kernel_rfl) rfl Tryz.underlying64 rfl (by rw [List.size_toArray, q2]; kernel_rfl) rfl)) (.inl (show _ = _ by kernel_rfl)) (fun _ h => h.less (((List.sublist_cons_self (g5, 64, cs.toArray) N).cons (g2, 64, cs.toArray)).cons (gr, 186, rrC v a2 e2))) (.inl ⟨x, cs, o1 l3.1 l3.2, rfl, q2, q4⟩)
  · have l1 : f ≠ 0 := of_decide_eq_true hb1.symm
    have l3 : e2 ≠ 0 ∨ b.drop a2 ≠ [] := by
      by_cases h : e2 = 0 ∧ a2 < b.length
      · refine .inr (fun e => ?_)
        have := congrArg List.length e
        rw [List.length_drop] at this
        simp at this; omega
      · refine .inl (fun e => l1 ?_)
        rw [hf]; unfold endN; rw [if_neg h, e]; rfl
    refine sT ?_
    refine sC ?_
    refine sP (.agg ([Value.int .i64 0] ++ (([Value.bool false] ++ (Z32 ++ lPT ⟨0, 0, false⟩)) ++ (([Value.bool false] ++ ([Value.int .u64 0] ++ lPT ⟨0, 0, false⟩)) ++ ([Value.slice none 0 0] ++ ([Value.slice none 0 0] ++ ([Value.slice none 0 0] ++ ([Value.slice none 0 0]))))))).toArray) <| sw 1 rfl ([Value.int .i64 0] ++ (([Value.bool false] ++ (Z32 ++ lPT ⟨0, 0, false⟩)) ++ (([Value.bool false] ++ ([Value.int .u64 0] ++ lPT ⟨0, 0, false⟩)) ++ ([Value.slice none 0 0] ++ ([Value.slice none 0 0] ++ ([Value.slice none 0 0] ++ ([Value.slice none 0 0]))))))).toArray (wA rfl) <| sP (.int .i64 120) ?_
    refine sG ?_
    refine Sy.ret ?_
    refine Sy.then_ret ?_
    exact Sy.retGM2 [] rfl (.inl (Sy.Res.cell (ty' := 64) g2 1 ([Value.int .i64 0] ++ (([Value.bool false] ++ (Z32 ++ lPT ⟨0, 0, false⟩)) ++ (([Value.bool false] ++ ([Value.int .u64 0] ++ lPT ⟨0, 0, false⟩)) ++ ([Value.slice none 0 0] ++ ([Value.slice none 0 0] ++ ([Value.slice none 0 0] ++ ([Value.slice none 0 0]))))))).toArray _ (by kernel_rfl) rfl Tryz.underlying64 rfl (by kernel_rfl) rfl)) (.inl (show _ = _ by kernel_rfl)) (fun _ h => h.none) (.inr ⟨o2 l3, rfl, rfl⟩)
end Go.Proofs.YtgemfpnlnipfnaaGreat.Wr

end
section
namespace Go.Proofs.YtgemfpnlnipfnaaGreat.Wr
open Go.RowKit Go.Proofs.YtgemfpnlnipfnaaGreat Go.Proofs.YtgemfpnlnipfnaaGreat.Sy
set_option maxRecDepth 100000
set_option maxHeartbeats 4000000

theorem write_out {α : Type} {rep : Rdr → List Value → α → Prop} {ok : α → Bool} {enc : α → Byt} {wt : α → Nat} (hm : Mono rep) (hp : PutO 65 58 rep ok enc wt) (w : World) (cs : List Value) (x : α) (hx : rep (rdW w) cs x) (hl : cs.length = 58) (hwt : wt x ≤ 70368744170000) :
    Calls Tryz.prog 64 #[.agg cs.toArray, .func (.func 65) #[] #[]] w (GetsN w (BytE (ok x) (enc x))) := by
  refine Sy.enter (args := [.agg cs.toArray, .func (.func 65) #[] #[]]) Tryz.func64 rfl kL ?_
  refine sC ?_
  refine sM 64 cs.toArray (fun gx => ?_) kR (fun w => run_boxR rfl rfl (by kernel_rfl) hl w)
  refine sP (.slice none 0 0) <| sP (.int .i64 0) ?_
  refine sA ?_
  refine Sy.callN kR 89 #[] kF _ (fun w _ => new_any w) (fun v M hM => ?_)
  obtain ⟨gw, rfl, rfl⟩ := hM
  refine sP (.agg #[ptr gw, .pointer none, .bool false]) <| sM 155 #[ptr gw, .pointer none, .bool false] (fun gc => ?_)
  refine sp rfl ?_
  refine sA ?_
  refine Sy.permS (M := CWS gc gw false nilS [(gx, 64, cs.toArray)]) (Sy.perm_at [2,1,0] (by kernel_rfl) (by rfl)) ?_
  refine sp rfl <| sp rfl ?_
  refine Sy.callT (fun w' hw => hp (Base.of w) gc gw gx 0 false nilS [(gx, 64, cs.toArray)] [] cs x (hm rdW_base hx) hl (ownX (List.mem_singleton.2 rfl)) BS.nil (by show 0 + _ ≤ _; omega) w' hw) (fun v M hM => ?_)
  obtain ⟨s, bad, b, q1, q2, rfl⟩ := hM
  have hbl : b.length ≤ wt x := by have := q1.len; simpa using this
  refine sG ?_
  refine Sy.seq ?_
  refine sC ?_
  refine sp rfl <| sp rfl <| sP (.pointer (some ⟨gc, 2, none⟩)) <| sS (.bool bad) (qc 0 2 rfl rfl Tryz.underlying4) ?_
  refine sG ?_
  cases bad
  · have hok : ok x = true := by
      have e := q1.bad
      cases h : ok x with
      | true => rfl
      | false => rw [h] at e; cases e
    obtain rfl : b = enc x := by have := q1.bytes rfl; simpa using this
    refine sU ?_
    refine Sy.skip ?_
    refine sB ?_
    refine sp rfl <| sp rfl <| sP (.pointer (some ⟨gc, 0, none⟩)) <| sS (ptr gw) (qc 0 0 rfl rfl Tryz.underlying151) ?_
    refine Sy.callT (fun w' hw => bytes_any (Base.of w) gw s ((gc, 155, #[ptr gw, .pointer none, .bool false]) :: [(gx, 64, cs.toArray)]) (enc x) q2 (by omega) w' (hw.perm permCW)) (fun v M hM => ?_)
    obtain ⟨N, hN, rfl⟩ := hM
    refine sp rfl <| sP (.int .i64 0) ?_
    refine sG ?_
    refine Sy.ret ?_
    exact Sy.retGM2 N rfl (.inl (show _ = _ by kernel_rfl)) (.inl (show _ = _ by kernel_rfl)) (fun _ h => h.less (List.sublist_append_right _ _)) (.inl ⟨hok, v, rfl, hN⟩)
  · have hok : ok x = false := by
      have e := q1.bad
      cases h : ok x with
      | false => rfl
      | true => rw [h] at e; cases e
    refine sT ?_
    refine sC ?_
    refine sP (.slice none 0 0) <| sP (.int .i64 120) ?_
    refine sG ?_
    refine Sy.ret ?_
    refine Sy.then_ret ?_
    exact Sy.retGM2 [] rfl (.inl (show _ = _ by kernel_rfl)) (.inl (show _ = _ by kernel_rfl)) (fun _ h => h.none) (.inr ⟨hok, rfl, rfl⟩)

theorem ex_out {α : Type} {rep : Rdr → List Value → α → Prop} {ok : α → Bool} {enc : α → Byt} {wt : α → Nat} (hm : Mono rep) (hp : PutO 65 58 rep ok enc wt) (w : World) (cs : List Value) (x : α) (hx : rep (rdW w) cs x) (hl : cs.length = 58) (hwt : wt x ≤ 70368744170000) :
    Calls Tryz.prog 26 #[.agg cs.toArray] w (GetsN w (BytE (ok x) (enc x))) := by
  refine Sy.enter (args := [.agg cs.toArray]) Tryz.func26 rfl kL ?_
  refine sC ?_
  refine sM 64 cs.toArray (fun gx => ?_) kR (fun w => run_boxR rfl rfl (by kernel_rfl) hl w)
  refine sP (.slice none 0 0) <| sP (.int .i64 0) ?_
  refine sA ?_
  refine sS (.agg cs.toArray) (rowC (R := [(gx, 64, cs.toArray)]) (memX (List.mem_singleton.2 rfl)) (fun _ h => h) hl rfl Tryz.underlying64) ?_
  refine Sy.callN kR 64 #[.agg cs.toArray, .func (.func 65) #[] #[]] kF (BytE (ok x) (enc x)) (fun w' hw => write_out (rep := rep) hm hp w' cs x (hm (fun g o u h => rdC_world (R := []) hw (fun _ h => by cases h) g o u (.inl h)) hx) hl hwt) (fun v M hM => ?_)
  have hv : ∃ a e : Value, v = .tuple #[a, e] := by
    rcases hM with ⟨_, u, rfl, _⟩ | ⟨_, rfl, _⟩ <;> exact ⟨_, _, rfl⟩
  obtain ⟨a, e, rfl⟩ := hv
  refine sp rfl <| sp rfl <| sp rfl <| sp rfl ?_
  refine sG ?_
  refine Sy.ret ?_
  exact Sy.retGM2 M rfl (.inl (show _ = _ by kernel_rfl)) (.inl (show _ = _ by kernel_rfl)) (fun _ h => h.less (List.sublist_append_right _ _)) hM

theorem read_out {α : Type} {rep : Rdr → List Value → α → Prop} {p : Ps α} (hm : Mono rep) (hp : GetC 65 58 ([Value.int .i64 0] ++ (([Value.bool false] ++ (Z32 ++ lPT ⟨0, 0, false⟩)) ++ (([Value.bool false] ++ ([Value.int .u64 0] ++ lPT ⟨0, 0, false⟩)) ++ ([Value.slice none 0 0] ++ ([Value.slice none 0 0] ++ ([Value.slice none 0 0] ++ ([Value.slice none 0 0]))))))) rep p) (w : World) (v : Value) (b : Byt) (hv : BytR (rdW w) v b) (hl : b.length ≤ 70368744177664) :
    Calls Tryz.prog 67 #[v, .func (.func 65) #[] #[]] w (GetsN w (RdE 58 ([Value.int .i64 0] ++ (([Value.bool false] ++ (Z32 ++ lPT ⟨0, 0, false⟩)) ++ (([Value.bool false] ++ ([Value.int .u64 0] ++ lPT ⟨0, 0, false⟩)) ++ ([Value.slice none 0 0] ++ ([Value.slice none 0 0] ++ ([Value.slice none 0 0] ++ ([Value.slice none 0 0]))))))) rep (allP p b))) := by
  refine Sy.enter (args := [v, .func (.func 65) #[] #[]]) Tryz.func67 rfl kL ?_
  refine sC ?_
  refine sM 64 ([Value.int .i64 0] ++ (([Value.bool false] ++ (Z32 ++ lPT ⟨0, 0, false⟩)) ++ (([Value.bool false] ++ ([Value.int .u64 0] ++ lPT ⟨0, 0, false⟩)) ++ ([Value.slice none 0 0] ++ ([Value.slice none 0 0] ++ ([Value.slice none 0 0] ++ ([Value.slice none 0 0]))))))).toArray (fun g4 => ?_)
  refine sP (.int .i64 0) ?_
  refine sA ?_
  refine sM 64 ([Value.int .i64 0] ++ (([Value.bool false] ++ (Z32 ++ lPT ⟨0, 0, false⟩)) ++ (([Value.bool false] ++ ([Value.int .u64 0] ++ lPT ⟨0, 0, false⟩)) ++ ([Value.slice none 0 0] ++ ([Value.slice none 0 0] ++ ([Value.slice none 0 0] ++ ([Value.slice none 0 0]))))))).toArray (fun g6 => ?_)
  refine sM 64 ([Value.int .i64 0] ++ (([Value.bool false] ++ (Z32 ++ lPT ⟨0, 0, false⟩)) ++ (([Value.bool false] ++ ([Value.int .u64 0] ++ lPT ⟨0, 0, false⟩)) ++ ([Value.slice none 0 0] ++ ([Value.slice none 0 0] ++ ([Value.slice none 0 0] ++ ([Value.slice none 0 0]))))))).toArray (fun g7 => ?_)
  refine sA ?_
  refine sp rfl ?_
  refine Sy.callN kR 98 #[v] kF _ (fun w' hw => read_any w' v b (hv.at hw) hl) (fun u M hM => ?_)
  obtain ⟨gr, sl, N0, hN0, rfl, rfl⟩ := hM
  refine sP (.agg #[.pointer none, ptr gr, .bool false]) <| sM 155 #[.pointer none, ptr gr, .bool false] (fun gc => ?_)
  refine Sy.permS (M := CRS gc gr g6 64 ([] ++ (([Value.int .i64 0] ++ (([Value.bool false] ++ (Z32 ++ lPT ⟨0, 0, false⟩)) ++ (([Value.bool false] ++ ([Value.int .u64 0] ++ lPT ⟨0, 0, false⟩)) ++ ([Value.slice none 0 0] ++ ([Value.slice none 0 0] ++ ([Value.slice none 0 0] ++ ([Value.slice none 0 0]))))))) ++ [])) sl 0 ((g4, 64, ([Value.int .i64 0] ++ (([Value.bool false] ++ (Z32 ++ lPT ⟨0, 0, false⟩)) ++ (([Value.bool false] ++ ([Value.int .u64 0] ++ lPT ⟨0, 0, false⟩)) ++ ([Value.slice none 0 0] ++ ([Value.slice none 0 0] ++ ([Value.slice none 0 0] ++ ([Value.slice none 0 0]))))))).toArray) :: (g7, 64, ([Value.int .i64 0] ++ (([Value.bool false] ++ (Z32 ++ lPT ⟨0, 0, false⟩)) ++ (([Value.bool false] ++ ([Value.int .u64 0] ++ lPT ⟨0, 0, false⟩)) ++ ([Value.slice none 0 0] ++ ([Value.slice none 0 0] ++ ([Value.slice none 0 0] ++ ([Value.slice none 0 0]))))))).toArray) :: N0)) (Sy.flat_perm (ls := [[(g4, 64, ([Value.int .i64 0] ++ (([Value.bool false] ++ (Z32 ++ lPT ⟨0, 0, false⟩)) ++ (([Value.bool false] ++ ([Value.int .u64 0] ++ lPT ⟨0, 0, false⟩)) ++ ([Value.slice none 0 0] ++ ([Value.slice none 0 0] ++ ([Value.slice none 0 0] ++ ([Value.slice none 0 0]))))))).toArray)], [(g6, 64, ([Value.int .i64 0] ++ (([Value.bool false] ++ (Z32 ++ lPT ⟨0, 0, false⟩)) ++ (([Value.bool false] ++ ([Value.int .u64 0] ++ lPT ⟨0, 0, false⟩)) ++ ([Value.slice none 0 0] ++ ([Value.slice none 0 0] ++ ([Value.slice none 0 0] ++ ([Value.slice none 0 0]))))))).toArray)], [(g7, 64, ([Value.int .i64 0] ++ (([Value.bool false] ++ (Z32 ++ lPT ⟨0, 0, false⟩)) ++ (([Value.bool false] ++ ([Value.int .u64 0] ++ lPT ⟨0, 0, false⟩)) ++ ([Value.slice none 0 0] ++ ([Value.slice none 0 0] ++ ([Value.slice none 0 0] ++ ([Value.slice none 0 0]))))))).toArray)], [(gr, 275, #[sl, .int .i64 0])], N0, [(gc, 155, #[.pointer none, ptr gr, .bool false])]]) (ms := [[(gc, 155, #[.pointer none, ptr gr, .bool false])], [(g6, 64, ([Value.int .i64 0] ++ (([Value.bool false] ++ (Z32 ++ lPT ⟨0, 0, false⟩)) ++ (([Value.bool false] ++ ([Value.int .u64 0] ++ lPT ⟨0, 0, false⟩)) ++ ([Value.slice none 0 0] ++ ([Value.slice none 0 0] ++ ([Value.slice none 0 0] ++ ([Value.slice none 0 0]))))))).toArray)], [(gr, 275, #[sl, .int .i64 0])], [(g4, 64, ([Value.int .i64 0] ++ (([Value.bool false] ++ (Z32 ++ lPT ⟨0, 0, false⟩)) ++ (([Value.bool false] ++ ([Value.int .u64 0] ++ lPT ⟨0, 0, false⟩)) ++ ([Value.slice none 0 0] ++ ([Value.slice none 0 0] ++ ([Value.slice none 0 0] ++ ([Value.slice none 0 0]))))))).toArray)], [(g7, 64, ([Value.int .i64 0] ++ (([Value.bool false] ++ (Z32 ++ lPT ⟨0, 0, false⟩)) ++ (([Value.bool false] ++ ([Value.int .u64 0] ++ lPT ⟨0, 0, false⟩)) ++ ([Value.slice none 0 0] ++ ([Value.slice none 0 0] ++ ([Value.slice none 0 0] ++ ([Value.slice none 0 0]))))))).toArray)], N0]) [5, 1, 3, 0, 2, 4] (by kernel_rfl) (by rfl) (by simp) (by simp)) ?_
  refine sp rfl ?_
  refine sA ?_
  refine sp rfl <| sp rfl ?_
  refine Sy.callT (fun w' hw => hp (Base.of w) gc gr g6 0 64 [] [] sl ⟨b, 0⟩ ((g4, 64, ([Value.int .i64 0] ++ (([Value.bool false] ++ (Z32 ++ lPT ⟨0, 0, false⟩)) ++ (([Value.bool false] ++ ([Value.int .u64 0] ++ lPT ⟨0, 0, false⟩)) ++ ([Value.slice none 0 0] ++ ([Value.slice none 0 0] ++ ([Value.slice none 0 0] ++ ([Value.slice none 0 0]))))))).toArray) :: (g7, 64, ([Value.int .i64 0] ++ (([Value.bool false] ++ (Z32 ++ lPT ⟨0, 0, false⟩)) ++ (([Value.bool false] ++ ([Value.int .u64 0] ++ lPT ⟨0, 0, false⟩)) ++ ([Value.slice none 0 0] ++ ([Value.slice none 0 0] ++ ([Value.slice none 0 0] ++ ([Value.slice none 0 0]))))))).toArray) :: N0) N0 (fun x h => List.mem_cons_of_mem _ (List.mem_cons_of_mem _ h)) rfl (Nat.zero_le _) hl (hN0.byt.le rdB_base) w' hw) (fun u M hM => ?_)
  obtain ⟨x, s', sl', cs, N, q1, q2, q3, q4, q5, q6, q7, rfl⟩ := hM
  rw [List.append_nil]
  obtain ⟨o1, o2⟩ := all_of q1
  obtain ⟨e, hE⟩ : ∃ e, e = if s'.e = 0 ∧ 0 < s'.rest.length then 113 else s'.e := ⟨_, rfl⟩
  have hEl : e ≤ 200 := by rw [hE]; split <;> omega
  refine sG ?_
  refine Sy.seq ?_
  refine sC ?_
  obtain ⟨b1, hb1⟩ : ∃ z : Bool, z = decide (e ≠ 0) := ⟨_, rfl⟩
  refine sp rfl <| sp rfl <| sP (.pointer (some ⟨gc, 1, none⟩)) <| sS (ptr gr) (qc 0 1 rfl rfl Tryz.underlying153) <| sS (.int .i64 (e : Int)) (qg (fun w' hw => by rw [hE]; exact end_any (Base.of w) gr sl' s' N0 q5 q7 (List.mem_cons_of_mem _ (List.mem_cons_of_mem _ (List.mem_cons_self ..))) w' hw)) <| sS (.bool b1) (Quiet.pure (exec_int .neq _ _ _ .i64 _ _ _ rfl rfl rfl (int_neq _ _ _ _ _ (by rw [hb1]; exact decide_eq_decide.2 (by omega))))) ?_
  refine sG ?_
  cases b1
  · have l1 : e = 0 := Decidable.of_not_not (of_decide_eq_false hb1.symm)
    have l2 : s'.e = 0 ∧ s'.rest = [] := by
      by_cases h : s'.e = 0 ∧ 0 < s'.rest.length
      · rw [if_pos h] at hE; omega
      · rw [if_neg h] at hE
        exact ⟨by omega, List.eq_nil_of_length_eq_zero (by omega)⟩
    refine sU ?_
    refine Sy.skip ?_
    refine sB ?_
    refine sS (.agg cs.toArray) (Quiet.mid 1 g6 0 58 64 64 cs cs _ _ rfl kR rfl Tryz.underlying64 rfl kR (by rw [List.drop_zero, List.take_of_length_le (by omega)]) (by omega)) <| sw 3 rfl cs.toArray (Writes.row 64 cs 58 _ _ rfl kR kR kR q2 (by kernel_rfl) q3) <| sP (.int .i64 0) ?_
    refine sG ?_
    refine Sy.ret ?_
    exact Sy.retGM2 N rfl (.inl (Sy.Res.cell (ty' := 64) g4 3 cs.toArray _ (by kernel_rfl) rfl Tryz.underlying64 rfl (by rw [List.size_toArray, q2]; kernel_rfl) rfl)) (.inl (show _ = _ by kernel_rfl)) (fun _ h => h.less (List.sublist_append_right [(gc, 155, #[.pointer none, ptr gr, .bool false]), (g6, 64, cs.toArray), (gr, 275, #[sl', .int .i64 (s'.e : Int)]), (g4, 64, cs.toArray), (g7, 64, ([Value.int .i64 0] ++ (([Value.bool false] ++ (Z32 ++ lPT ⟨0, 0, false⟩)) ++ (([Value.bool false] ++ ([Value.int .u64 0] ++ lPT ⟨0, 0, false⟩)) ++ ([Value.slice none 0 0] ++ ([Value.slice none 0 0] ++ ([Value.slice none 0 0] ++ ([Value.slice none 0 0]))))))).toArray)] (N0 ++ N) |> fun h1 => (List.sublist_append_right N0 N).trans h1)) (.inl ⟨x, cs, o1 l2.1 l2.2, rfl, q2, q4⟩)
  · have l1 : e ≠ 0 := of_decide_eq_true hb1.symm
    have l2 : s'.e ≠ 0 ∨ s'.rest ≠ [] := by
      by_cases h : s'.e = 0 ∧ 0 < s'.rest.length
      · exact .inr (fun e => by rw [e] at h; exact absurd h.2 (by decide))
      · rw [if_neg h] at hE; exact .inl (by omega)
    refine sT ?_
    refine sC ?_
    refine sS (.agg ([Value.int .i64 0] ++ (([Value.bool false] ++ (Z32 ++ lPT ⟨0, 0, false⟩)) ++ (([Value.bool false] ++ ([Value.int .u64 0] ++ lPT ⟨0, 0, false⟩)) ++ ([Value.slice none 0 0] ++ ([Value.slice none 0 0] ++ ([Value.slice none 0 0] ++ ([Value.slice none 0 0]))))))).toArray) (qk 4 0 58 rfl rfl Tryz.underlying64) <| sw 3 rfl ([Value.int .i64 0] ++ (([Value.bool false] ++ (Z32 ++ lPT ⟨0, 0, false⟩)) ++ (([Value.bool false] ++ ([Value.int .u64 0] ++ lPT ⟨0, 0, false⟩)) ++ ([Value.slice none 0 0] ++ ([Value.slice none 0 0] ++ ([Value.slice none 0 0] ++ ([Value.slice none 0 0]))))))).toArray (wA rfl) <| sP (.int .i64 120) ?_
    refine sG ?_
    refine Sy.ret ?_
    refine Sy.then_ret ?_
    exact Sy.retGM2 [] rfl (.inl (Sy.Res.cell (ty' := 64) g4 3 ([Value.int .i64 0] ++ (([Value.bool false] ++ (Z32 ++ lPT ⟨0, 0, false⟩)) ++ (([Value.bool false] ++ ([Value.int .u64 0] ++ lPT ⟨0, 0, false⟩)) ++ ([Value.slice none 0 0] ++ ([Value.slice none 0 0] ++ ([Value.slice none 0 0] ++ ([Value.slice none 0 0]))))))).toArray _ (by kernel_rfl) rfl Tryz.underlying64 rfl (by kernel_rfl) rfl)) (.inl (show _ = _ by kernel_rfl)) (fun _ h => h.none) (.inr ⟨o2 l2, rfl, rfl⟩)
theorem rdx_out {α : Type} {rep : Rdr → List Value → α → Prop} {p : Ps α} (hm : Mono rep) (hone : ∀ {C : Rdr} {cs : List Value} {x : α}, rep C cs x → ∀ u ∈ cs, u.oneCell' = true) (hp : GetC 65 58 ([Value.int .i64 0] ++ (([Value.bool false] ++ (Z32 ++ lPT ⟨0, 0, false⟩)) ++ (([Value.bool false] ++ ([Value.int .u64 0] ++ lPT ⟨0, 0, false⟩)) ++ ([Value.slice none 0 0] ++ ([Value.slice none 0 0] ++ ([Value.slice none 0 0] ++ ([Value.slice none 0 0]))))))) rep p) (w : World) (v : Value) (b : Byt) (hv : BytR (rdW w) v b) (hl : b.length ≤ 70368744177664) :
    Calls Tryz.prog 28 #[v] w (GetsN w (RdE 58 ([Value.int .i64 0] ++ (([Value.bool false] ++ (Z32 ++ lPT ⟨0, 0, false⟩)) ++ (([Value.bool false] ++ ([Value.int .u64 0] ++ lPT ⟨0, 0, false⟩)) ++ ([Value.slice none 0 0] ++ ([Value.slice none 0 0] ++ ([Value.slice none 0 0] ++ ([Value.slice none 0 0]))))))) rep (allP p b))) := by
  refine Sy.enter (args := [v]) Tryz.func28 rfl kL ?_
  refine sC ?_
  refine sM 64 ([Value.int .i64 0] ++ (([Value.bool false] ++ (Z32 ++ lPT ⟨0, 0, false⟩)) ++ (([Value.bool false] ++ ([Value.int .u64 0] ++ lPT ⟨0, 0, false⟩)) ++ ([Value.slice none 0 0] ++ ([Value.slice none 0 0] ++ ([Value.slice none 0 0] ++ ([Value.slice none 0 0]))))))).toArray (fun g2 => ?_)
  refine sP (.int .i64 0) ?_
  refine sA ?_
  refine sp rfl ?_
  refine Sy.callN kR 67 #[v, .func (.func 65) #[] #[]] kF _ (fun w' hw => read_out (rep := rep) (p := p) hm hp w' v b (hv.at hw) hl) (fun u M hM => ?_)
  rcases hM with ⟨x, cs, o1, rfl, q2, q4⟩ | ⟨o1, rfl, rfl⟩
  · have q3 : ∀ u ∈ cs, u.oneCell' = true := hone q4
    refine sp rfl <| sp rfl <| sw 0 rfl cs.toArray (Writes.row 64 cs 58 _ _ rfl kR kR kR q2 (by kernel_rfl) q3) <| sp rfl ?_
    refine sG ?_
    refine Sy.ret ?_
    exact Sy.retGM2 M rfl (.inl (Sy.Res.cell (ty' := 64) g2 0 cs.toArray _ (by kernel_rfl) rfl Tryz.underlying64 rfl (by rw [List.size_toArray, q2]; kernel_rfl) rfl)) (.inl (show _ = _ by kernel_rfl)) (fun _ h => h.less (List.sublist_cons_self _ _)) (.inl ⟨x, cs, o1, rfl, q2, q4⟩)
  · refine sp rfl <| sp rfl <| sw 0 rfl ([Value.int .i64 0] ++ (([Value.bool false] ++ (Z32 ++ lPT ⟨0, 0, false⟩)) ++ (([Value.bool false] ++ ([Value.int .u64 0] ++ lPT ⟨0, 0, false⟩)) ++ ([Value.slice none 0 0] ++ ([Value.slice none 0 0] ++ ([Value.slice none 0 0] ++ ([Value.slice none 0 0]))))))).toArray (wA rfl) <| sp rfl ?_
    refine sG ?_
    refine Sy.ret ?_
    exact Sy.retGM2 [] rfl (.inl (Sy.Res.cell (ty' := 64) g2 0 ([Value.int .i64 0] ++ (([Value.bool false] ++ (Z32 ++ lPT ⟨0, 0, false⟩)) ++ (([Value.bool false] ++ ([Value.int .u64 0] ++ lPT ⟨0, 0, false⟩)) ++ ([Value.slice none 0 0] ++ ([Value.slice none 0 0] ++ ([Value.slice none 0 0] ++ ([Value.slice none 0 0]))))))).toArray _ (by kernel_rfl) rfl Tryz.underlying64 rfl (by kernel_rfl) rfl)) (.inl (show _ = _ by kernel_rfl)) (fun _ h => h.none) (.inr ⟨o1, rfl, rfl⟩)
end Go.Proofs.YtgemfpnlnipfnaaGreat.Wr

end
section
namespace Go.Proofs.YtgemfpnlnipfnaaGreat.Wr
open Go.RowKit Go.Proofs.YtgemfpnlnipfnaaGreat Go.Proofs.YtgemfpnlnipfnaaGreat.Sy
set_option maxRecDepth 100000
set_option maxHeartbeats 4000000

def zOU : MOu := ⟨0, ⟨false, z32, ⟨0, 0, false⟩⟩, ⟨false, 0, ⟨0, 0, false⟩⟩, [], [], [], []⟩
theorem zOU_rep (C : Rdr) : repOU C ([Value.int .i64 0] ++ (([Value.bool false] ++ (Z32 ++ lPT ⟨0, 0, false⟩)) ++ (([Value.bool false] ++ ([Value.int .u64 0] ++ lPT ⟨0, 0, false⟩)) ++ ([Value.slice none 0 0] ++ ([Value.slice none 0 0] ++ ([Value.slice none 0 0] ++ ([Value.slice none 0 0]))))))) zOU := ⟨.slice none 0 0, .slice none 0 0, .slice none 0 0, .slice none 0 0, rfl, ⟨rfl, (show 0 < Cu.K4 by decide), (show 0 < Cu.K4 by decide)⟩, ⟨(show (0 : Nat) < 18446744073709551616 by decide), (show 0 < Cu.K4 by decide), (show 0 < Cu.K4 by decide)⟩, BytR.nil _, BytR.nil _, BytR.nil _, BytR.nil _⟩
theorem BytR.zero {C : Rdr} {v : Value} (h : BytR C v []) : ∃ A c, v = .slice A 0 c := by
  obtain ⟨A, n, c, rfl, h2, _⟩ := h
  obtain rfl : n = 0 := by simpa using h2.symm
  exact ⟨A, c, rfl⟩
theorem lenOU {C : Rdr} {cs : List Value} {t : MOu} (h : repOU C cs t) : cs.length = 58 := by
  obtain ⟨vr, vs, vn, vc, rfl, h1, _⟩ := h
  simp only [cOU, List.length_append, cTG_len h1.1]
  rfl
theorem rd_out {raw r : Byt} {t : MOu} (h : rdOU raw = some (t, r)) : wtOU t ≤ 70368744160000 := by
  unfold rdOU at h
  obtain ⟨_, _, _, h⟩ := bind_inv h
  obtain ⟨_, _, _, h⟩ := bind_inv h
  obtain ⟨_, _, _, h⟩ := bind_inv h
  obtain ⟨_, _, _, h⟩ := bind_inv h
  obtain ⟨a, _, ha, h⟩ := bind_inv h
  obtain ⟨b, _, hb, h⟩ := bind_inv h
  obtain ⟨c, _, hc, h⟩ := bind_inv h
  obtain ⟨d, _, hd, h⟩ := bind_inv h
  cases h
  have h1 := text_le ha
  have h2 := text_le hb
  have h3 := text_le hc
  have h4 := text_le hd
  unfold wtOU
  dsimp only
  omega
theorem rd_outZ (raw : Byt) : wtOU ((allP rdOU raw).getD zOU) ≤ 70368744160000 := by
  cases h : allP rdOU raw with
  | none => exact (show wtOU zOU ≤ 70368744160000 by decide)
  | some t => exact rd_out (all_some h)
theorem law_wireouts (w : World) (cs : List Value) (t : MOu) (hx : repOU (rdW w) cs t) (v : Value) (raw : Byt) (hv : BytR (rdW w) v raw) (ha : t.range.length ≤ 1048576) (hb : t.surject.length ≤ 1048576) (hc : t.note.length ≤ 1048576) (hd : t.script.length ≤ 1048576) (hl : raw.length ≤ 1048576) :
    Calls Tryz.prog 6 #[.agg cs.toArray, v] w (Gets w (.bool true)) := by
  have hx0 := hx
  have lc := lenOU hx
  have hwt : wtOU t ≤ 70368744160000 := by unfold wtOU; omega
  obtain ⟨o1, ho1⟩ : ∃ o1, o1 = allP rdOU raw := ⟨_, rfl⟩
  obtain ⟨y, hY⟩ : ∃ y, y = o1.getD zOU := ⟨_, rfl⟩
  have hwy : wtOU y ≤ 70368744160000 := by rw [hY, ho1]; exact rd_outZ raw
  obtain ⟨e1, he1⟩ : ∃ e, e = erE (okOU t) := ⟨_, rfl⟩
  obtain ⟨b1, hb1⟩ : ∃ b, b = byE (okOU t) (encOU t) := ⟨_, rfl⟩
  obtain ⟨e3, he3⟩ : ∃ e, e = erE o1.isSome := ⟨_, rfl⟩
  obtain ⟨e5, he5⟩ : ∃ e, e = erE (okOU y) := ⟨_, rfl⟩
  obtain ⟨b5, hb5⟩ : ∃ b, b = byE (okOU y) (encOU y) := ⟨_, rfl⟩
  refine Sy.enter (args := [.agg cs.toArray, v]) Tryz.func6 rfl kL ?_
  refine sC ?_
  refine sM 64 cs.toArray (fun g3 => ?_) kR (fun w => run_boxR rfl rfl (by kernel_rfl) lc w)
  refine sP (.bool false) ?_
  refine sA ?_
  refine sS (.agg cs.toArray) (Quiet.mid 0 g3 0 58 64 64 cs cs _ _ rfl kR rfl Tryz.underlying64 rfl kR (by rw [List.drop_zero, List.take_of_length_le (by omega)]) (by omega)) ?_
  refine Sy.callN kR 26 #[.agg cs.toArray] kF (BytE (okOU t) (encOU t)) (fun w' hw => ex_out (rep := repOU) (ok := okOU) (enc := encOU) (wt := wtOU) monoOU out_w w' cs t (monoOU (fun g o u hu => rdC_world (w0 := Base.of w) (R := []) hw (fun _ h => by cases h) g o u (.inl hu)) hx0) lc (by omega)) (fun u M1 hM => ?_)
  obtain ⟨u1, rfl, k1⟩ := hM.uni
  rw [← he1]
  rw [← hb1] at k1
  refine sp rfl <| sp rfl <| sp rfl <| sp rfl <| sp rfl ?_
  refine sA ?_
  refine sS (.agg cs.toArray) (Quiet.mid 0 g3 0 58 64 64 cs cs _ _ rfl kR rfl Tryz.underlying64 rfl kR (by rw [List.drop_zero, List.take_of_length_le (by omega)]) (by omega)) ?_
  refine Sy.callN kR 27 #[.agg cs.toArray] kF (BytE (okOU t) (encOU t)) (fun w' hw => outR_w w' t cs (monoOU (fun g o u hu => rdC_world (w0 := Base.of w) (R := []) hw (fun _ h => by cases h) g o u (.inl hu)) hx0) (by omega)) (fun u M2 hM => ?_)
  obtain ⟨u2, rfl, k2⟩ := hM.uni
  rw [← he1]
  rw [← hb1] at k2
  refine sp rfl <| sp rfl <| sp rfl <| sp rfl <| sp rfl ?_
  refine sA ?_
  refine sp rfl ?_
  refine Sy.callN kR 28 #[v] kF (RdE 58 ([Value.int .i64 0] ++ (([Value.bool false] ++ (Z32 ++ lPT ⟨0, 0, false⟩)) ++ (([Value.bool false] ++ ([Value.int .u64 0] ++ lPT ⟨0, 0, false⟩)) ++ ([Value.slice none 0 0] ++ ([Value.slice none 0 0] ++ ([Value.slice none 0 0] ++ ([Value.slice none 0 0]))))))) repOU o1) (fun w' hw => by rw [ho1]; exact rdx_out (rep := repOU) (p := rdOU) monoOU (@oneOU) out_r w' v raw (hv.le (fun g o u hu => rdC_world (w0 := Base.of w) (R := []) hw (fun _ h => by cases h) g o u (.inl hu))) (by omega)) (fun u M3 hM => ?_)
  obtain ⟨cs3, rfl, l3, r3⟩ := hM.uni zOU (zOU_rep _) rfl
  rw [← he3]
  rw [← hY] at r3
  have l3a : cs3.length = 58 := l3
  refine sp rfl <| sp rfl <| sp rfl ?_
  refine sM 64 ([Value.int .i64 0] ++ (([Value.bool false] ++ (Z32 ++ lPT ⟨0, 0, false⟩)) ++ (([Value.bool false] ++ ([Value.int .u64 0] ++ lPT ⟨0, 0, false⟩)) ++ ([Value.slice none 0 0] ++ ([Value.slice none 0 0] ++ ([Value.slice none 0 0] ++ ([Value.slice none 0 0]))))))).toArray (fun g11 => ?_)
  refine Sy.permS List.perm_append_comm ?_
  refine sw 0 rfl cs3.toArray (Writes.row 64 cs3 58 _ _ rfl kR kR kR l3 (by kernel_rfl) (oneOU r3)) <| sp rfl ?_
  refine sA ?_
  refine sp rfl ?_
  refine Sy.callN kR 29 #[v] kF (RdE 58 ([Value.int .i64 0] ++ (([Value.bool false] ++ (Z32 ++ lPT ⟨0, 0, false⟩)) ++ (([Value.bool false] ++ ([Value.int .u64 0] ++ lPT ⟨0, 0, false⟩)) ++ ([Value.slice none 0 0] ++ ([Value.slice none 0 0] ++ ([Value.slice none 0 0] ++ ([Value.slice none 0 0]))))))) repOU o1) (fun w' hw => by rw [ho1]; exact readR_out (rep := repOU) (p := rdOU) outM_any w' v raw (hv.le (fun g o u hu => rdC_world (w0 := Base.of w) (R := []) hw (fun _ h => by cases h) g o u (.inl hu))) (by omega)) (fun u M4 hM => ?_)
  obtain ⟨cs4, rfl, l4, r4⟩ := hM.uni zOU (zOU_rep _) rfl
  rw [← he3]
  rw [← hY] at r4
  have l4a : cs4.length = 58 := l4
  refine sp rfl <| sp rfl <| sp rfl ?_
  refine sM 64 ([Value.int .i64 0] ++ (([Value.bool false] ++ (Z32 ++ lPT ⟨0, 0, false⟩)) ++ (([Value.bool false] ++ ([Value.int .u64 0] ++ lPT ⟨0, 0, false⟩)) ++ ([Value.slice none 0 0] ++ ([Value.slice none 0 0] ++ ([Value.slice none 0 0] ++ ([Value.slice none 0 0]))))))).toArray (fun g13 => ?_)
  refine Sy.permS List.perm_append_comm ?_
  refine sw 0 rfl cs4.toArray (Writes.row 64 cs4 58 _ _ rfl kR kR kR l4 (by kernel_rfl) (oneOU r4)) <| sp rfl ?_
  refine sG ?_
  refine Sy.seq ?_
  refine sC ?_
  obtain ⟨b9, hb9⟩ : ∃ z : Bool, z = decide (e3 ≠ 0) := ⟨_, rfl⟩
  refine sp rfl <| sS (.bool b9) (Quiet.pure (exec_int .neq _ _ _ .i64 _ _ _ rfl rfl rfl (int_neq _ _ _ _ _ (by rw [hb9])))) ?_
  refine sG ?_
  cases b9
  case' true =>
    have hno : y = zOU := by
      have h9 : e3 ≠ 0 := of_decide_eq_true hb9.symm
      rw [hY]
      cases ho : o1 with
      | none => rfl
      | some t => rw [ho] at he3; exact (h9 he3).elim
    obtain ⟨v1, v2, v3, v4, hcs, _, _, B1, B2, B3, B4⟩ := r3
    rw [hno] at hcs B1 B2 B3 B4
    obtain ⟨A1, c1, rfl⟩ := B1.zero
    obtain ⟨A2, c2, rfl⟩ := B2.zero
    obtain ⟨A3, c3, rfl⟩ := B3.zero
    obtain ⟨A4, c4, rfl⟩ := B4.zero
    subst hcs
    refine sT ?_
    refine sC ?_
    refine sS (.bool true) (qg (fun w' hw => alive12 w')) <| sp rfl <| sp rfl <| sp rfl <| sS (.bool true) (qg (fun w' hw => by have q := same_any w' u1 u2 b1 b1 (k1.le (rdB_world hw (fun b hb => by simp [hb]))) (k2.le (rdB_world hw (fun b hb => by simp [hb]))); rw [decide_eq_true rfl] at q; exact q)) <| sP (.bool true) ?_
    refine sp rfl <| sp rfl <| sp rfl <| sS (.bool true) (Quiet.pure (exec_int .eql _ _ _ .i64 _ _ _ rfl rfl rfl (int_eql _ _ _ _ _ (decide_eq_true rfl)))) <| sP (.bool true) ?_
    refine sp rfl <| sp rfl <| sp rfl <| sS (.bool true) (Quiet.pure (exec_int .eql _ _ _ .i64 _ _ _ rfl rfl rfl (int_eql _ _ _ _ _ (decide_eq_true rfl)))) <| sP (.bool true) ?_
    refine sp rfl <| sP (.pointer (some ⟨g11, 0, none⟩)) <| sS (.int .i64 0) (Quiet.cell 1 g11 0 64 3 (cOU zOU (.slice A1 0 c1) (.slice A2 0 c2) (.slice A3 0 c3) (.slice A4 0 c4)).toArray _ _ rfl kR rfl Tryz.underlying3 rfl _ kR) <| sP (.bool true) <| sP (.bool true) ?_
    refine sp rfl <| sP (.pointer (some ⟨g11, 57, none⟩)) <| sS (.slice A4 0 c4) (Quiet.cell 1 g11 57 64 27 (cOU zOU (.slice A1 0 c1) (.slice A2 0 c2) (.slice A3 0 c3) (.slice A4 0 c4)).toArray _ _ rfl kR rfl Tryz.underlying27 rfl _ kR) <| sP (.int .i64 0) <| sP (.pointer (some ⟨g11, 56, none⟩)) <| sS (.slice A3 0 c3) (Quiet.cell 1 g11 56 64 27 (cOU zOU (.slice A1 0 c1) (.slice A2 0 c2) (.slice A3 0 c3) (.slice A4 0 c4)).toArray _ _ rfl kR rfl Tryz.underlying27 rfl _ kR) <| sP (.int .i64 0) <| sP (.int .i64 0) ?_
    refine sP (.pointer (some ⟨g11, 54, none⟩)) <| sS (.slice A1 0 c1) (Quiet.cell 1 g11 54 64 27 (cOU zOU (.slice A1 0 c1) (.slice A2 0 c2) (.slice A3 0 c3) (.slice A4 0 c4)).toArray _ _ rfl kR rfl Tryz.underlying27 rfl _ kR) <| sP (.int .i64 0) <| sP (.int .i64 0) <| sP (.pointer (some ⟨g11, 55, none⟩)) <| sS (.slice A2 0 c2) (Quiet.cell 1 g11 55 64 27 (cOU zOU (.slice A1 0 c1) (.slice A2 0 c2) (.slice A3 0 c3) (.slice A4 0 c4)).toArray _ _ rfl kR rfl Tryz.underlying27 rfl _ kR) <| sP (.int .i64 0) <| sP (.int .i64 0) <| sP (.bool true) <| sP (.bool true) <| sp rfl ?_
    refine sG ?_
    refine Sy.ret ?_
    refine Sy.then_ret ?_
    exact rV (.bool true) rfl
  refine sU ?_
  refine Sy.skip ?_
  refine sB ?_
  refine sS (.agg cs3.toArray) (Quiet.mid 1 g11 0 58 64 64 cs3 cs3 _ _ rfl kR rfl Tryz.underlying64 rfl kR (by rw [List.drop_zero, List.take_of_length_le (by omega)]) (by omega)) ?_
  refine Sy.callN kR 27 #[.agg cs3.toArray] kF (BytE (okOU y) (encOU y)) (fun w' hw => outR_w w' y cs3 (monoOU (rdB_world hw (fun b hb => by simp [hb])) r3) (by omega)) (fun u M5 hM => ?_)
  obtain ⟨u5, rfl, k5⟩ := hM.uni
  rw [← he5]
  rw [← hb5] at k5
  refine sp rfl <| sp rfl <| sp rfl <| sp rfl <| sp rfl ?_
  refine sA ?_
  refine sS (.agg cs4.toArray) (Quiet.mid 0 g13 0 58 64 64 cs4 cs4 _ _ rfl kR rfl Tryz.underlying64 rfl kR (by rw [List.drop_zero, List.take_of_length_le (by omega)]) (by omega)) ?_
  refine Sy.callN kR 27 #[.agg cs4.toArray] kF (BytE (okOU y) (encOU y)) (fun w' hw => outR_w w' y cs4 (monoOU (rdB_world hw (fun b hb => by simp [hb])) r4) (by omega)) (fun u M6 hM => ?_)
  obtain ⟨u6, rfl, k6⟩ := hM.uni
  rw [← he5]
  rw [← hb5] at k6
  refine sp rfl <| sp rfl <| sp rfl <| sp rfl <| sp rfl ?_
  refine sA ?_
  refine sS (.bool true) (qg (fun w' hw => alive12 w')) <| sp rfl <| sp rfl <| sp rfl <| sS (.bool true) (qg (fun w' hw => by have q := same_any w' u1 u2 b1 b1 (k1.le (rdB_world hw (fun b hb => by simp [hb]))) (k2.le (rdB_world hw (fun b hb => by simp [hb]))); rw [decide_eq_true rfl] at q; exact q)) <| sP (.bool true) ?_
  refine sp rfl <| sp rfl <| sp rfl <| sS (.bool true) (Quiet.pure (exec_int .eql _ _ _ .i64 _ _ _ rfl rfl rfl (int_eql _ _ _ _ _ (decide_eq_true rfl)))) <| sP (.bool true) ?_
  refine sp rfl <| sp rfl <| sp rfl <| sS (.bool true) (Quiet.pure (exec_int .eql _ _ _ .i64 _ _ _ rfl rfl rfl (int_eql _ _ _ _ _ (decide_eq_true rfl)))) <| sP (.bool true) ?_
  refine sp rfl <| sp rfl <| sp rfl <| sS (.bool true) (qg (fun w' hw => by have q := same_any w' u5 u6 b5 b5 (k5.le (rdB_world hw (fun b hb => by simp [hb]))) (k6.le (rdB_world hw (fun b hb => by simp [hb]))); rw [decide_eq_true rfl] at q; exact q)) <| sP (.bool true) <| sp rfl ?_
  refine sG ?_
  refine Sy.ret ?_
  exact rV (.bool true) rfl
end Go.Proofs.YtgemfpnlnipfnaaGreat.Wr

end
