/-
  Texts of ours, put together: WirBC, WirBD, WireParamsL, WirCE, WirCF, WirCD, WirCG, WireHeadersL, CrvY, RefNumber, SymX, CrvE, CrvZ, WirDH, WirDI, WirDJ.
-/
import Derived.Test.YtgemfpnlnipfnaaGreatWO6
set_option linter.unusedVariables false
set_option linter.unusedSimpArgs false
section
namespace Go.Proofs.YtgemfpnlnipfnaaGreat.Wr
open Go.RowKit Go.Proofs.YtgemfpnlnipfnaaGreat Go.Proofs.YtgemfpnlnipfnaaGreat.Sy
set_option maxRecDepth 100000
set_option maxHeartbeats 4000000

def smlP (lo hi : Nat) : Ps Int := bindP (numP 1) fun n => bindP (mustP (decide (lo ≤ n ∧ n ≤ hi))) fun _ => retP (n : Int)
theorem failM_any (w0 : Base) (gr : Nat) (sl : Value) (at_ e : Nat) (R : Blocks) (w : World) (hw : St w0 w (RB gr sl at_ e R)) :
    Calls Tryz.prog 169 #[ptr gr] w (Turns w0 (fun _ M => M = RB gr sl at_ (if e = 0 then 120 else e) R)) := by
  refine Sy.enterT (args := [ptr gr]) hw Tryz.func169 rfl kL ?_
  refine sC ?_
  obtain ⟨b1, hb1⟩ : ∃ z : Bool, z = decide (e = 0) := ⟨_, rfl⟩
  refine sp rfl <| sp rfl <| sP (.pointer (some ⟨gr, 0, none⟩)) <| sP (.pointer (some ⟨gr, 2, none⟩)) <| sS (.int .i64 (e : Int)) (qc 0 2 rfl rfl Tryz.underlying28) <| sS (.bool b1) (Quiet.pure (exec_int .eql _ _ _ .i64 _ _ _ rfl rfl rfl (int_eql _ _ _ _ _ (by rw [hb1]; exact decide_eq_decide.2 (by omega))))) ?_
  refine sG ?_
  cases b1
  · rw [if_neg (of_decide_eq_false hb1.symm)]
    refine sU ?_
    refine Sy.skip ?_
    exact Sy.retT0 rfl (RB gr sl at_ e R) (fun _ h => h) (fun _ => by rfl)
  · rw [if_pos (of_decide_eq_true hb1.symm)]
    refine sT ?_
    refine Sy.region ?_
    refine sp rfl <| sp rfl <| sP (.pointer (some ⟨gr, 0, none⟩)) <| sP (.pointer (some ⟨gr, 2, none⟩)) <| sw 0 rfl (rrC sl at_ 120) (wO 2 28 (.int .i64 120) rfl) ?_
    refine Sy.nil ?_
    exact Sy.retT0 rfl (RB gr sl at_ 120 R) (fun _ h => h) (fun _ => by rfl)
theorem num1_any (w0 : Base) (gr : Nat) (sl : Value) (b : Byt) (at_ e : Nat) (R : Blocks) (hat : at_ ≤ b.length) (he : e ≤ 200) (hl : b.length ≤ 70368744177664) (hv : BytR (rdW w0.world) sl b) (w : World) (hw : St w0 w (RB gr sl at_ e R)) :
    Calls Tryz.prog 100 #[ptr gr, .int .i64 1] w (Turns w0 (Rfd (numP 1) (fun x v N => v = .int .u64 (x : Int) ∧ x < 256 ∧ N = []) gr sl b R at_ e)) := by
  refine Sy.enterT (args := [ptr gr, .int .i64 1]) hw Tryz.func100 rfl kL ?_
  refine sC ?_
  refine sP (.int .u64 0) ?_
  refine sA ?_
  refine sp rfl <| sp rfl ?_
  refine Sy.callT (fun w hw => rawM_any w0.inn gr sl b at_ e 1 R hat he (by omega) hl hv w hw) (fun u M hM => ?_)
  obtain ⟨x, a2, e2, N, q1, ⟨q2, q3⟩, q4, q5, rfl⟩ := hM
  have hs : said x < 256 := by
    have h1 := said_lt x
    rw [q3] at h1
    exact h1
  refine sS (.int .u64 ((said x : Nat) : Int)) (qg (fun w' hw => saidR_any w' u x (by omega) (q2.byt.le (fun g o v h => rdC_world (w0 := w0.inn) hw (R := N) (fun b hb => List.mem_cons_of_mem _ (List.mem_append_right _ hb)) g o v (.inr h))))) <| sp rfl ?_
  refine sG ?_
  refine Sy.ret ?_
  exact Sy.retT1 (RB gr sl a2 e2 (R ++ [])) rfl (.inl (show _ = _ by kernel_rfl)) (fun _ h => h.less (((List.Sublist.refl R).append (List.nil_sublist N)).cons_cons _)) ⟨_, _, _, [], q1.bind (After.ret (said x) _), ⟨rfl, hs, rfl⟩, q4, q5, rfl⟩
theorem smallM_any (lo hi : Nat) (w0 : Base) (gr : Nat) (sl : Value) (b : Byt) (at_ e : Nat) (R : Blocks) (hat : at_ ≤ b.length) (he : e ≤ 200) (hl : b.length ≤ 70368744177664) (hv : BytR (rdW w0.world) sl b) (w : World) (hw : St w0 w (RB gr sl at_ e R)) :
    Calls Tryz.prog 115 #[ptr gr, .int .i64 (lo : Int), .int .i64 (hi : Int)] w (Turns w0 (Rfd (smlP lo hi) (fun x v N => v = .int .i64 x ∧ N = []) gr sl b R at_ e)) := by
  refine Sy.enterT (args := [ptr gr, .int .i64 (lo : Int), .int .i64 (hi : Int)]) hw Tryz.func115 rfl kL ?_
  refine sC ?_
  refine sP (.int .i64 0) ?_
  refine sA ?_
  refine sp rfl ?_
  refine Sy.callT (fun w hw => num1_any w0.inn gr sl b at_ e R hat he hl hv w hw) (fun u M hM => ?_)
  obtain ⟨n, a2, e2, N, q1, ⟨rfl, q2, rfl⟩, q4, q5, rfl⟩ := hM
  rw [List.append_nil]
  refine sS (.int .i64 ((n : Nat) : Int)) (Quiet.pure (fun w => conv_6i w _ _ _ n (by omega) rfl rfl)) <| sp rfl ?_
  refine sG ?_
  refine Sy.seq ?_
  obtain ⟨bd, hbd⟩ : ∃ z : Bool, z = !decide (lo ≤ n ∧ n ≤ hi) := ⟨_, rfl⟩
  refine Sy.seq ?_
  refine cutC [(0, ptr gr), (7, .int .i64 (n : Int)), (18, .bool bd)] (RB gr sl a2 e2 R) ?_ ?_
  · refine Sy.region ?_
    obtain ⟨b1, hb1⟩ : ∃ z : Bool, z = decide (n < lo) := ⟨_, rfl⟩
    refine sp rfl <| sp rfl <| sS (.bool b1) (Quiet.pure (exec_int .lss _ _ _ .i64 _ _ _ rfl rfl rfl (int_lss _ _ _ _ _ (by rw [hb1]; exact decide_eq_decide.2 (by omega))))) <| sp rfl ?_
    cases b1
    · obtain ⟨b2, hb2⟩ : ∃ z : Bool, z = decide (hi < n) := ⟨_, rfl⟩
      have l1 : ¬ n < lo := of_decide_eq_false hb1.symm
      obtain rfl : bd = b2 := by
        rw [hbd, hb2]
        by_cases h : hi < n
        · rw [decide_eq_true h, decide_eq_false (by omega)]; rfl
        · rw [decide_eq_false h, decide_eq_true (by omega)]; rfl
      refine sp rfl <| sp rfl <| sS (.bool bd) (Quiet.pure (exec_int .gtr _ _ _ .i64 _ _ _ rfl rfl rfl (int_gtr _ _ _ _ _ (by rw [hb2]; exact decide_eq_decide.2 (by omega))))) <| sP (.bool bd) ?_
      refine Sy.nil ?_
      exact meet (all_cons kR (all_cons kR (all_cons kR all_nil))) (fun _ h => h)
    · have l1 : n < lo := of_decide_eq_true hb1.symm
      obtain rfl : bd = true := by rw [hbd, decide_eq_false (by omega)]; rfl
      refine sN <| sN <| sN <| sP (.bool true) ?_
      refine Sy.nil ?_
      exact meet (all_cons kR (all_cons kR (all_cons kR all_nil))) (fun _ h => h)
  refine Sy.then_ ?_
  cases bd
  · have l2 : decide (lo ≤ n ∧ n ≤ hi) = true := by
      cases h : decide (lo ≤ n ∧ n ≤ hi) with
      | true => rfl
      | false => rw [h] at hbd; cases hbd
    refine sU ?_
    refine Sy.skip ?_
    refine sB ?_
    refine sp rfl <| sp rfl ?_
    refine sG ?_
    refine Sy.ret ?_
    exact Sy.retT1 (RB gr sl a2 e2 (R ++ [])) rfl (.inl (show _ = _ by kernel_rfl)) (fun _ h => by rw [List.append_nil]; exact h) ⟨(n : Int), _, _, [], q1.bind (by rw [l2]; exact After.ret _ _), ⟨rfl, rfl⟩, q4, q5, rfl⟩
  · have l2 : decide (lo ≤ n ∧ n ≤ hi) = false := by
      cases h : decide (lo ≤ n ∧ n ≤ hi) with
      | false => rfl
      | true => rw [h] at hbd; cases hbd
    obtain ⟨e3, he3⟩ : ∃ e3, e3 = if e2 = 0 then 120 else e2 := ⟨_, rfl⟩
    have l3 : e3 ≠ 0 := by rw [he3]; split <;> omega
    refine sT ?_
    refine Sy.region ?_
    refine sp rfl ?_
    refine Sy.callT (fun w hw => failM_any w0.inn gr sl a2 e2 R w hw) (fun u M hM => ?_)
    subst hM
    rw [← he3]
    refine Sy.nil ?_
    refine sB ?_
    refine sp rfl <| sp rfl ?_
    refine sG ?_
    refine Sy.ret ?_
    exact Sy.retT1 (RB gr sl a2 e3 (R ++ [])) rfl (.inl (show _ = _ by kernel_rfl)) (fun _ h => by rw [List.append_nil]; exact h) ⟨(n : Int), _, _, [], q1.bind (by rw [l2]; exact After.mustN _ l3), ⟨rfl, rfl⟩, q4, by rw [he3]; split <;> omega, rfl⟩
def okS (lo hi : Nat) (z : Int) : Bool := decide ((lo : Int) ≤ z) && decide (z ≤ (hi : Int))
theorem smallW_any (w0 : Base) (gw : Nat) (bad : Bool) (s : Slc) (R : Blocks) (b : Byt) (lo hi : Nat) (z : Int) (hb : BS s b) (hl : b.length + 1 ≤ 70368744177664) (w : World) (hw : St w0 w (WB gw bad s R)) :
    Calls Tryz.prog 119 #[ptr gw, .int .i64 z, .int .i64 (lo : Int), .int .i64 (hi : Int)] w (Turns w0 (Wd gw R (okS lo hi z) [octB z] 1 bad b)) := by
  refine Sy.enterT (args := [ptr gw, .int .i64 z, .int .i64 (lo : Int), .int .i64 (hi : Int)]) hw Tryz.func119 rfl kL ?_
  obtain ⟨ok, hok⟩ : ∃ ok, ok = okS lo hi z := ⟨_, rfl⟩
  obtain ⟨b1, hb1⟩ : ∃ b1 : Bool, b1 = decide ((lo : Int) ≤ z) := ⟨_, rfl⟩
  obtain ⟨b2, hb2⟩ : ∃ b2 : Bool, b2 = decide (z ≤ (hi : Int)) := ⟨_, rfl⟩
  have e : ok = (b1 && b2) := by rw [hok, hb1, hb2]; rfl
  rw [← hok]
  refine Sy.seq ?_
  refine cutC [(0, ptr gw), (1, .int .i64 z)] (WB gw (bad || !ok) s R) ?_ ?_
  · refine Sy.region ?_
    refine sp rfl <| sp rfl <| sp rfl <| sS (.bool b1) (Quiet.pure (exec_int .geq _ _ _ .i64 _ _ _ rfl rfl rfl (int_geq _ _ _ _ _ (by rw [hb1])))) <| sp rfl ?_
    cases b1
    case' false =>
      obtain rfl : ok = false := e
      refine sN <| sN <| sN <| sP (.bool false) ?_
      refine Sy.callT (fun w hw => mustW_any w0.inn gw bad false s R w hw) (fun u M hM => ?_)
    case' true =>
      obtain rfl : ok = b2 := e
      refine sp rfl <| sp rfl <| sS (.bool ok) (Quiet.pure (exec_int .leq _ _ _ .i64 _ _ _ rfl rfl rfl (int_leq _ _ _ _ _ (by rw [hb2])))) <| sP (.bool ok) ?_
      refine Sy.callT (fun w hw => mustW_any w0.inn gw bad ok s R w hw) (fun u M hM => ?_)
    all_goals
      subst hM
      refine Sy.nil ?_
      exact meet (all_cons kR (all_cons kR all_nil)) (fun _ h => h)
  refine Sy.then_ ?_
  refine Sy.region ?_
  refine sp rfl <| sp rfl <| sS (bv (octB z)) (Quiet.pure (fun w => conv_i8 w _ _ _ z rfl rfl)) ?_
  refine Sy.make kR 5 #[bv (octB z)] (fun g => .slice (some ⟨g, 0, none⟩) 1 1) kF (fun g1 => ?_)
  refine Sy.permS (M := WB gw (bad || !ok) s (R ++ [(g1, 5, #[bv (octB z)])])) (List.Perm.of_eq (by simp only [List.append_assoc])) ?_
  refine Sy.callT (fun w hw => wrawW_any w0.inn gw (bad || !ok) s (R ++ [(g1, 5, #[bv (octB z)])]) b (.slice (some ⟨g1, 0, none⟩) 1 1) [octB z] hb ⟨_, _, _, rfl, rfl, Nat.le_refl _, by decide, fun _ => ⟨g1, 0, rfl, fun j u hj => .inr ⟨5, #[bv (octB z)], List.mem_append_right _ (List.mem_singleton.2 rfl), by
    cases j with
    | zero => cases hj; rfl
    | succ j => cases hj⟩⟩⟩ (by show _ + 1 ≤ _; omega) w hw) (fun v M hM => ?_)
  obtain ⟨r, hr, rfl⟩ := hM
  refine Sy.nil ?_
  have q := (Wrote.must ok bad b).then_ (Wrote.raw [octB z] (bad || !ok) b (k := 1) (Nat.le_refl _))
  rw [Bool.and_true] at q
  exact Sy.retT0 rfl (WB gw (bad || !ok) r R) (fun _ h => dropW h) (fun _ => ⟨r, bad || !ok, b ++ [octB z], q, hr, rfl⟩)
end Go.Proofs.YtgemfpnlnipfnaaGreat.Wr

end
section
namespace Go.Proofs.YtgemfpnlnipfnaaGreat.Wr
open Go.RowKit Go.Proofs.YtgemfpnlnipfnaaGreat Go.Proofs.YtgemfpnlnipfnaaGreat.Sy
set_option maxRecDepth 100000
set_option maxHeartbeats 4000000

end Go.Proofs.YtgemfpnlnipfnaaGreat.Wr

end
section
namespace Go.Proofs.YtgemfpnlnipfnaaGreat.Wr
open Go.RowKit Go.Proofs.YtgemfpnlnipfnaaGreat Go.Proofs.YtgemfpnlnipfnaaGreat.Sy
set_option maxRecDepth 100000
set_option maxHeartbeats 4000000

end Go.Proofs.YtgemfpnlnipfnaaGreat.Wr

end
section
namespace Go.Proofs.YtgemfpnlnipfnaaGreat.Wr
open Go.RowKit Go.Proofs.YtgemfpnlnipfnaaGreat Go.Proofs.YtgemfpnlnipfnaaGreat.Sy
set_option maxRecDepth 100000
set_option maxHeartbeats 4000000

theorem ByN.nil : ByN [] (.slice none 0 0) [] := ⟨none, 0, 0, rfl, BS.nil⟩
theorem textR_any (w : World) (v : Value) (x : Byt) (hv : BytR (rdW w) v x) (hl : x.length ≤ 70368744170000) : Calls Tryz.prog 167 #[v] w (GetsN w (ByN (varB x.length ++ x))) := by
  have hv0 := hv
  obtain ⟨A, n, cp, rfl, h2, h3, h4, h5⟩ := hv
  have hn9 := varB_len x.length
  refine Sy.enter (args := [.slice A n cp]) Tryz.func167 rfl kL ?_
  refine sC ?_
  refine sP (.slice none 0 0) ?_
  refine sA ?_
  refine sp rfl <| sP (.int .i64 (n : Int)) <| sS (.int .u64 (n : Int)) (Quiet.pure (fun w => conv_i6 w _ _ _ n (by omega) rfl rfl)) ?_
  refine Sy.callN kR 153 #[.int .u64 (n : Int)] kF _ (fun w' _ => varR_any w' n (by omega)) (fun u M hM => ?_)
  obtain ⟨A1, n1, c1, rfl, hs⟩ := hM
  refine sp rfl ?_
  refine sA ?_
  refine sp rfl <| sp rfl ?_
  refine Sy.permS (M := [] ++ (M ++ [])) (List.Perm.of_eq (by simp)) ?_
  refine Sy.appendM (pre := []) (r := ⟨.slice A1 n1 c1, M⟩) (T := []) kR 27 5 _ _ 1 1 Tryz.underlying27 Cu.info_u8 rfl rfl rfl rfl (by decide) _ _ rfl hs kR (byL_one x) (byL_oneC x) A n cp (by rw [byL_len, h2]) h3 kR (fun r => BytR.from (w0 := Base.of w) (R := []) (hv0.le rdW_base) (fun y hy => by cases hy)) (by rw [byL_len, ← h2]; omega) (by rw [byL_len, ← h2]; simp only [maxLen]; omega) (fun r hr => ?_)
  have hr' : BS r (varB x.length ++ x) := by
    show r.Is 5 1 _
    rw [byL_app, h2]
    exact hr
  refine sp rfl ?_
  refine sA ?_
  refine sp rfl <| sp rfl ?_
  refine sG ?_
  refine Sy.ret ?_
  exact Sy.retGM r.bl rfl (.inl (show _ = _ by kernel_rfl)) (fun _ h => h.less (List.sublist_append_left _ _)) hr'.as
def gtN (b : Byt) (at_ e most : Nat) : Nat × Nat × Byt := if (gvN b at_ e most).2.1 ≠ 0 then ((gvN b at_ e most).1, (gvN b at_ e most).2.1, []) else if b.length - (gvN b at_ e most).1 < (gvN b at_ e most).2.2 then (at_, 110, []) else ((gvN b at_ e most).1 + (gvN b at_ e most).2.2, 0, (b.drop (gvN b at_ e most).1).take (gvN b at_ e most).2.2)
theorem gtN_after (b : Byt) (at_ e most : Nat) (h : at_ ≤ b.length) (he : e ≤ 200) : After (textP most) ⟨b.drop at_, e⟩ (gtN b at_ e most).2.2 ⟨b.drop (gtN b at_ e most).1, (gtN b at_ e most).2.1⟩ ∧ (gtN b at_ e most).1 ≤ b.length ∧ (gtN b at_ e most).2.1 ≤ 200 := by
  obtain ⟨q1, q2, q3, q4⟩ := gvN_after b at_ e most h he
  unfold gtN
  obtain ⟨f, hf⟩ : ∃ f, f = gvN b at_ e most := ⟨_, rfl⟩
  rw [← hf] at q1 q2 q3 q4 ⊢
  by_cases h1 : f.2.1 ≠ 0
  · rw [if_pos h1]
    refine ⟨q1.bind (q := takeP) ⟨fun _ => h1, fun y r h0 _ => (h1 h0).elim, fun h0 _ => (h1 h0).elim⟩, q2, q3⟩
  · have h0 : f.2.1 = 0 := Decidable.of_not_not h1
    rw [if_neg h1]
    by_cases h2 : b.length - f.1 < f.2.2
    · rw [if_pos h2]
      refine ⟨q1.bind (q := takeP) ⟨fun _ => (show (110 : Nat) ≠ 0 by decide), fun y r _ hp => ?_, fun _ _ => (show (110 : Nat) ≠ 0 by decide)⟩, h, by show (110 : Nat) ≤ 200; decide⟩
      unfold takeP at hp
      rw [if_neg (by show ¬ f.2.2 ≤ (b.drop f.1).length; rw [List.length_drop]; omega)] at hp
      cases hp
    · rw [if_neg h2]
      refine ⟨q1.bind (q := takeP) ⟨fun h => (h h0).elim, fun y r _ hp => ?_, fun _ hp => ?_⟩, by show f.1 + f.2.2 ≤ _; omega, Nat.zero_le _⟩
      · unfold takeP at hp
        rw [if_pos (by show f.2.2 ≤ (b.drop f.1).length; rw [List.length_drop]; omega)] at hp
        cases hp
        exact ⟨rfl, by rw [List.drop_drop]⟩
      · unfold takeP at hp
        rw [if_pos (by show f.2.2 ≤ (b.drop f.1).length; rw [List.length_drop]; omega)] at hp
        cases hp
theorem getTextR_any (w : World) (sl : Value) (b : Byt) (at_ e most : Nat) (hat : at_ ≤ b.length) (he : e ≤ 200) (hmo : most < 1000000) (hl : b.length ≤ 70368744177664) (hv : BytR (rdW w) sl b) :
    Calls Tryz.prog 168 #[rrV sl at_ e, .int .i64 (most : Int)] w (GetsN w (fun v M => ∃ u, v = .tuple #[rrV sl (gtN b at_ e most).1 (gtN b at_ e most).2.1, u] ∧ ByN (gtN b at_ e most).2.2 u M)) := by
  have hv0 := hv
  obtain ⟨A, m, cp, rfl, h2, h3, h4, h5⟩ := hv
  obtain ⟨q1, q2, q3, q4⟩ := gvN_after b at_ e most hat he
  unfold gtN
  obtain ⟨f, hf⟩ : ∃ f, f = gvN b at_ e most := ⟨_, rfl⟩
  rw [← hf] at q1 q2 q3 q4 ⊢
  obtain ⟨T, hT⟩ : ∃ T, T = (if f.2.1 ≠ 0 then (f.1, f.2.1, ([] : Byt)) else if b.length - f.1 < f.2.2 then (at_, 110, []) else (f.1 + f.2.2, 0, (b.drop f.1).take f.2.2)) := ⟨_, rfl⟩
  rw [← hT]
  refine Sy.enter (args := [rrV (.slice A m cp) at_ e, .int .i64 (most : Int)]) Tryz.func168 rfl kL ?_
  refine sC ?_
  refine sM 184 (rrC (.slice A m cp) at_ e) (fun g2 => ?_)
  refine sM 184 (rrC (.slice none 0 0) 0 0) (fun g4 => ?_)
  refine sP (.slice none 0 0) ?_
  refine sA ?_
  refine sS (rrV (.slice A m cp) at_ e) (qk 0 0 3 rfl rfl Tryz.underlying184) <| sp rfl <| sS (.int .u64 (most : Int)) (Quiet.pure (fun w => conv_i6 w _ _ _ most (by omega) rfl rfl)) <| sp rfl <| sS (.bool false) (Quiet.pure (exec_int .lss _ _ _ .i64 _ _ _ rfl rfl rfl (int_lss _ _ _ _ _ (decide_eq_false (by omega))))) <| sS (.tuple #[rrV (.slice A m cp) f.1 f.2.1, .int .u64 ((f.2.2 : Nat) : Int)]) (qg (fun w' hw => by rw [hf]; exact getVarR_any (e := e) w' (.slice A m cp) b at_ most hat (by omega) hl (hv0.at hw))) <| sp rfl <| sp rfl <| sp rfl ?_
  refine sM 184 (rrC (.slice none 0 0) 0 0) (fun g6 => ?_)
  refine sw 2 rfl (rrC (.slice A m cp) f.1 f.2.1) (wA rfl) <| sp rfl ?_
  refine sG ?_
  refine Sy.seq ?_
  refine sC ?_
  obtain ⟨b1, hb1⟩ : ∃ z : Bool, z = decide (f.2.1 ≠ 0) := ⟨_, rfl⟩
  refine sP (.pointer (some ⟨g6, 2, none⟩)) <| sS (.int .i64 (f.2.1 : Int)) (qc 2 2 rfl rfl Tryz.underlying28) <| sS (.bool b1) (Quiet.pure (exec_int .neq _ _ _ .i64 _ _ _ rfl rfl rfl (int_neq _ _ _ _ _ (by rw [hb1]; exact decide_eq_decide.2 (by omega))))) ?_
  refine sG ?_
  cases b1
  case' true =>
    have l1 : f.2.1 ≠ 0 := of_decide_eq_true hb1.symm
    rw [if_pos l1] at hT
    subst hT
    refine sT ?_
    refine sC ?_
    refine sS (rrV (.slice A m cp) f.1 f.2.1) (qk 2 0 3 rfl rfl Tryz.underlying184) <| sw 1 rfl (rrC (.slice A m cp) f.1 f.2.1) (wA rfl) <| sP (.slice none 0 0) ?_
    refine sG ?_
    refine Sy.ret ?_
    refine Sy.then_ret ?_
    exact Sy.retGM2 [] rfl (.inl (Sy.Res.cell (ty' := 184) g4 1 (rrC (.slice A m cp) f.1 f.2.1) _ (by kernel_rfl) rfl Tryz.underlying184 rfl (by kernel_rfl) rfl)) (.inl (show _ = _ by kernel_rfl)) (fun _ h => h.none) ⟨_, rfl, ByN.nil⟩
  have l1 : ¬ f.2.1 ≠ 0 := of_decide_eq_false hb1.symm
  have l0 : f.2.1 = 0 := Decidable.of_not_not l1
  rw [if_neg l1] at hT
  refine sU ?_
  refine Sy.skip ?_
  refine Sy.then_ ?_
  refine Sy.seq ?_
  refine sC ?_
  obtain ⟨b2, hb2⟩ : ∃ z : Bool, z = decide (m - f.1 < f.2.2) := ⟨_, rfl⟩
  refine sp rfl <| sP (.pointer (some ⟨g6, 0, none⟩)) <| sS (.slice A m cp) (qc 2 0 rfl rfl Tryz.underlying27) <| sP (.int .i64 (m : Int)) <| sP (.pointer (some ⟨g6, 1, none⟩)) <| sS (.int .i64 (f.1 : Int)) (qc 2 1 rfl rfl Tryz.underlying3) <| sS (.int .i64 ((m - f.1 : Nat) : Int)) (Quiet.pure (exec_int .sub _ _ _ .i64 _ _ _ rfl rfl rfl (int_sub _ _ _ _ _ ((wrap_i64 (by omega) (by omega)).trans (by omega))))) <| sS (.int .u64 ((m - f.1 : Nat) : Int)) (Quiet.pure (fun w => conv_i6 w _ _ _ (m - f.1) (by omega) rfl rfl)) <| sS (.bool b2) (Quiet.pure (exec_int .gtr _ _ _ .u64 _ _ _ rfl rfl rfl (int_gtr _ _ _ _ _ (by rw [hb2]; exact decide_eq_decide.2 (by omega))))) ?_
  refine sG ?_
  cases b2
  case' true =>
    have l2 : m - f.1 < f.2.2 := of_decide_eq_true hb2.symm
    rw [if_pos (by omega)] at hT
    subst hT
    refine sT ?_
    refine sC ?_
    refine sP (.pointer (some ⟨g2, 2, none⟩)) <| sw 0 rfl (rrC (.slice A m cp) at_ 110) (wO 2 28 (.int .i64 110) rfl) ?_
    refine sA ?_
    refine sS (rrV (.slice A m cp) at_ 110) (qk 0 0 3 rfl rfl Tryz.underlying184) <| sw 1 rfl (rrC (.slice A m cp) at_ 110) (wA rfl) <| sP (.slice none 0 0) ?_
    refine sG ?_
    refine Sy.ret ?_
    refine Sy.then_ret ?_
    exact Sy.retGM2 [] rfl (.inl (Sy.Res.cell (ty' := 184) g4 1 (rrC (.slice A m cp) at_ 110) _ (by kernel_rfl) rfl Tryz.underlying184 rfl (by kernel_rfl) rfl)) (.inl (show _ = _ by kernel_rfl)) (fun _ h => h.none) ⟨_, rfl, ByN.nil⟩
  have l2 : ¬ m - f.1 < f.2.2 := of_decide_eq_false hb2.symm
  rw [if_neg (by omega)] at hT
  subst hT
  have er : rawN b f.1 f.2.1 f.2.2 = (f.1 + f.2.2, 0, (b.drop f.1).take f.2.2) := by
    unfold rawN
    rw [if_neg l1, if_neg (by omega)]
  refine sU ?_
  refine Sy.skip ?_
  refine sB ?_
  refine sS (rrV (.slice A m cp) f.1 f.2.1) (qk 2 0 3 rfl rfl Tryz.underlying184) <| sp rfl <| sS (.int .i64 ((f.2.2 : Nat) : Int)) (Quiet.pure (fun w => conv_6i w _ _ _ f.2.2 (by omega) rfl rfl)) ?_
  refine Sy.callN kR 178 #[rrV (.slice A m cp) f.1 f.2.1, .int .i64 ((f.2.2 : Nat) : Int)] kF _ (fun w' hw => rawR_any w' (.slice A m cp) b f.1 f.2.1 f.2.2 q2 (by omega) hl (hv0.at hw)) (fun u M hM => ?_)
  rw [er] at hM
  obtain ⟨u, rfl, hu⟩ := hM
  have hub := hu.byt
  obtain ⟨A2, n2, c2, rfl, _⟩ := hub
  refine sp rfl <| sp rfl <| sw 1 rfl (rrC (.slice A m cp) (f.1 + f.2.2) 0) (wA rfl) <| sp rfl ?_
  refine sG ?_
  refine Sy.ret ?_
  exact Sy.retGM2 M rfl (.inl (Sy.Res.cell (ty' := 184) g4 1 (rrC (.slice A m cp) (f.1 + f.2.2) 0) _ (by kernel_rfl) rfl Tryz.underlying184 rfl (by kernel_rfl) rfl)) (.inl (show _ = _ by kernel_rfl)) (fun _ h => h.less (List.sublist_append_right [(g2, 184, rrC (.slice A m cp) at_ e), (g4, 184, rrC (.slice A m cp) (f.1 + f.2.2) 0), (g6, 184, rrC (.slice A m cp) f.1 f.2.1)] M)) ⟨_, rfl, hu⟩
theorem textM_any (most : Nat) (hmo : most < 1000000) (w0 : Base) (gr : Nat) (sl : Value) (b : Byt) (at_ e : Nat) (R : Blocks) (hat : at_ ≤ b.length) (he : e ≤ 200) (hl : b.length ≤ 70368744177664) (hv : BytR (rdW w0.world) sl b) (w : World) (hw : St w0 w (RB gr sl at_ e R)) :
    Calls Tryz.prog 114 #[ptr gr, .int .i64 (most : Int)] w (Turns w0 (Rfd (textP most) (fun x v N => ByN x v N) gr sl b R at_ e)) := by
  obtain ⟨q1, q2, q3⟩ := gtN_after b at_ e most hat he
  have hv0 := hv
  obtain ⟨A, m, cp, rfl, h2, h3, h4, h5⟩ := hv
  obtain ⟨f, hf⟩ : ∃ f, f = gtN b at_ e most := ⟨_, rfl⟩
  rw [← hf] at q1 q2 q3
  refine Sy.enterT (args := [ptr gr, .int .i64 (most : Int)]) hw Tryz.func114 rfl kL ?_
  refine sC ?_
  refine sP (.slice none 0 0) ?_
  refine sA ?_
  refine sp rfl <| sp rfl <| sP (.pointer (some ⟨gr, 0, none⟩)) <| sS (rrV (.slice A m cp) at_ e) (qk 0 0 3 rfl rfl Tryz.underlying184) <| sp rfl ?_
  refine Sy.callN kR 168 #[rrV (.slice A m cp) at_ e, .int .i64 (most : Int)] kF _ (fun w' hw => getTextR_any w' (.slice A m cp) b at_ e most hat he hmo hl (hv0.le (fun g o u hu => rdC_world (w0 := w0.inn) (R := []) hw (fun _ h => by cases h) g o u (.inl hu)))) (fun u M hM => ?_)
  rw [← hf] at hM
  obtain ⟨u, rfl, hu⟩ := hM
  have hub := hu.byt
  obtain ⟨A2, n2, c2, rfl, k2, k3, k4, k5⟩ := hub
  refine sp rfl <| sp rfl <| sp rfl ?_
  refine sM 184 (rrC (.slice none 0 0) 0 0) (fun g5 => ?_)
  refine Sy.movT (pre := [(gr, 186, rrC (.slice A m cp) at_ e)]) (T := R ++ M) ?_
  refine sw 1 rfl (rrC (.slice A m cp) f.1 f.2.1) (wA rfl) <| sp rfl ?_
  refine sA ?_
  refine sp rfl <| sS (rrV (.slice A m cp) f.1 f.2.1) (qk 1 0 3 rfl rfl Tryz.underlying184) <| sp rfl <| sP (.pointer (some ⟨gr, 0, none⟩)) <| sw 0 rfl (rrC (.slice A m cp) f.1 f.2.1) (wA rfl) ?_
  refine sA ?_
  refine sp rfl <| sp rfl ?_
  refine sG ?_
  refine Sy.ret ?_
  exact Sy.retT1 (RB gr (.slice A m cp) f.1 f.2.1 (R ++ M)) rfl (.inl (show _ = _ by kernel_rfl)) (fun _ h => keep1 h) ⟨_, _, _, M, q1, hu, q2, q3, rfl⟩
theorem textW_any (w0 : Base) (gw : Nat) (bad : Bool) (s : Slc) (R : Blocks) (b : Byt) (v : Value) (x : Byt) (most : Nat) (hmo : most < 1000000) (hb : BS s b) (hx : BytR (rdW w0.world) v x) (hl : b.length + (9 + x.length) ≤ 70368744170000) (w : World) (hw : St w0 w (WB gw bad s R)) :
    Calls Tryz.prog 110 #[ptr gw, v, .int .i64 (most : Int)] w (Turns w0 (Wd gw R (decide (x.length ≤ most)) (varB x.length ++ x) (9 + x.length) bad b)) := by
  have hx0 := hx
  obtain ⟨A, n, cp, rfl, h2, h3, h4, h5⟩ := hx
  have hn9 := varB_len x.length
  obtain ⟨ok, hok⟩ : ∃ ok, ok = decide (x.length ≤ most) := ⟨_, rfl⟩
  rw [← hok]
  rw [h2] at hok
  refine Sy.enterT (args := [ptr gw, .slice A n cp, .int .i64 (most : Int)]) hw Tryz.func110 rfl kL ?_
  refine sC ?_
  refine sp rfl <| sp rfl <| sP (.int .i64 (n : Int)) <| sp rfl <| sS (.bool ok) (Quiet.pure (exec_int .leq _ _ _ .i64 _ _ _ rfl rfl rfl (int_leq _ _ _ _ _ (by rw [hok]; exact decide_eq_decide.2 (by omega))))) ?_
  refine Sy.callT (fun w hw => mustW_any w0.inn gw bad ok s R w hw) (fun u M hM => ?_)
  subst hM
  refine Sy.nil ?_
  refine Sy.then_ ?_
  refine Sy.region ?_
  refine sp rfl <| sp rfl ?_
  refine Sy.callN kR 167 #[.slice A n cp] kF _ (fun w' hw => textR_any w' (.slice A n cp) x (hx0.le (fun g o u hu => rdC_world (w0 := w0.inn) (R := []) hw (fun _ h => by cases h) g o u (.inl hu))) (by omega)) (fun u M hM => ?_)
  refine Sy.permS (M := WB gw (bad || !ok) s (R ++ M)) (List.Perm.of_eq (by simp only [List.append_assoc])) ?_
  refine Sy.callT (fun w hw => wrawW_any w0.inn gw (bad || !ok) s (R ++ M) b u (varB x.length ++ x) hb (hM.byt.le (fun g o v h => .inr (rdB_le (fun x hx => List.mem_append_right _ hx) g o v h))) (by rw [List.length_append]; omega) w hw) (fun v M2 hM2 => ?_)
  obtain ⟨r, hr, rfl⟩ := hM2
  refine Sy.nil ?_
  have q := (Wrote.must ok bad b).then_ (Wrote.raw (varB x.length ++ x) (bad || !ok) b (k := 9 + x.length) (by rw [List.length_append]; omega))
  rw [Bool.and_true, List.nil_append, Nat.zero_add] at q
  exact Sy.retT0 rfl (WB gw (bad || !ok) r R) (fun _ h => dropW h) (fun _ => ⟨r, bad || !ok, _, q, hr, rfl⟩)
theorem truthW_any (w0 : Base) (gw : Nat) (bad : Bool) (s : Slc) (R : Blocks) (b : Byt) (x : Bool) (hb : BS s b) (hl : b.length + 1 ≤ 70368744177664) (w : World) (hw : St w0 w (WB gw bad s R)) :
    Calls Tryz.prog 111 #[ptr gw, .bool x] w (Turns w0 (WRw gw bad b [trB x] R)) := by
  have fnd : ∀ (g1 : Nat) (u : UInt8), BytR (rdC w0.inn (R ++ [(g1, 5, #[bv u])])) (.slice (some ⟨g1, 0, none⟩) 1 1) [u] := fun g1 u => ⟨_, _, _, rfl, rfl, Nat.le_refl _, by decide, fun _ => ⟨g1, 0, rfl, fun j y hj => .inr ⟨5, #[bv u], List.mem_append_right _ (List.mem_singleton.2 rfl), by
    cases j with
    | zero => cases hj; rfl
    | succ j => cases hj⟩⟩⟩
  refine Sy.enterT (args := [ptr gw, .bool x]) hw Tryz.func111 rfl kL ?_
  refine sC ?_
  refine sp rfl ?_
  refine sG ?_
  cases x
  case' false =>
    refine sU ?_
    refine Sy.region ?_
    refine sp rfl ?_
    refine Sy.make kR 5 #[bv (trB false)] (fun g => .slice (some ⟨g, 0, none⟩) 1 1) kF (fun g1 => ?_)
    refine Sy.permS (M := WB gw bad s (R ++ [(g1, 5, #[bv (trB false)])])) (List.Perm.of_eq (by simp only [List.append_assoc])) ?_
    refine Sy.callT (fun w hw => wrawW_any w0.inn gw bad s (R ++ [(g1, 5, #[bv (trB false)])]) b (.slice (some ⟨g1, 0, none⟩) 1 1) [trB false] hb (fnd g1 (trB false)) (by show _ + 1 ≤ _; omega) w hw) (fun v M hM => ?_)
    obtain ⟨r, hr, rfl⟩ := hM
    refine Sy.nil ?_
    exact Sy.retT0 rfl (WB gw bad r R) (fun _ h => dropW h) (fun _ => ⟨r, hr, rfl⟩)
  case' true =>
    refine sT ?_
    refine Sy.region ?_
    refine sp rfl ?_
    refine Sy.make kR 5 #[bv (trB true)] (fun g => .slice (some ⟨g, 0, none⟩) 1 1) kF (fun g1 => ?_)
    refine Sy.permS (M := WB gw bad s (R ++ [(g1, 5, #[bv (trB true)])])) (List.Perm.of_eq (by simp only [List.append_assoc])) ?_
    refine Sy.callT (fun w hw => wrawW_any w0.inn gw bad s (R ++ [(g1, 5, #[bv (trB true)])]) b (.slice (some ⟨g1, 0, none⟩) 1 1) [trB true] hb (fnd g1 (trB true)) (by show _ + 1 ≤ _; omega) w hw) (fun v M hM => ?_)
    obtain ⟨r, hr, rfl⟩ := hM
    refine Sy.nil ?_
    exact Sy.retT0 rfl (WB gw bad r R) (fun _ h => dropW h) (fun _ => ⟨r, hr, rfl⟩)
end Go.Proofs.YtgemfpnlnipfnaaGreat.Wr

end
section
namespace Go.Proofs.YtgemfpnlnipfnaaGreat.Wr
open Go.RowKit Go.Proofs.YtgemfpnlnipfnaaGreat Go.Proofs.YtgemfpnlnipfnaaGreat.Sy
set_option maxRecDepth 100000
set_option maxHeartbeats 4000000

end Go.Proofs.YtgemfpnlnipfnaaGreat.Wr

end
section
namespace Go.Proofs.YtgemfpnlnipfnaaGreat.Wr
open Go.RowKit Go.Proofs.YtgemfpnlnipfnaaGreat Go.Proofs.YtgemfpnlnipfnaaGreat.Sy
set_option maxRecDepth 100000
set_option maxHeartbeats 4000000

end Go.Proofs.YtgemfpnlnipfnaaGreat.Wr

end
section
namespace Go.Proofs.YtgemfpnlnipfnaaGreat.Wr
open Go.RowKit Go.Proofs.YtgemfpnlnipfnaaGreat Go.Proofs.YtgemfpnlnipfnaaGreat.Sy
set_option maxRecDepth 100000
set_option maxHeartbeats 4000000

theorem sml_tru : bindP (smlP 0 1) (fun z => retP (decide (z = 1))) = truP := by
  funext l
  cases h : numP 1 l with
  | none =>
    have h1 : smlP 0 1 l = none := by unfold smlP; exact bind_none h
    have h2 : octP l = none := by unfold octP; exact bind_none h
    unfold truP
    rw [bind_none h1, bind_none h2]
  | some u =>
    obtain ⟨n, r⟩ := u
    have h2 : octP l = some ((n : Int), r) := by unfold octP; rw [bind_some h]; rfl
    unfold truP
    rw [bind_some h2]
    by_cases hn : n ≤ 1
    · have h1 : smlP 0 1 l = some ((n : Int), r) := by
        unfold smlP
        rw [bind_some h, decide_eq_true (show 0 ≤ n ∧ n ≤ 1 by omega)]
        rfl
      rw [bind_some h1, decide_eq_true (show (n : Int) ≤ 1 by omega)]
      rfl
    · have h1 : smlP 0 1 l = none := by
        unfold smlP
        rw [bind_some h, decide_eq_false (show ¬ (0 ≤ n ∧ n ≤ 1) by omega)]
        rfl
      rw [bind_none h1, decide_eq_false (show ¬ (n : Int) ≤ 1 by omega)]
      rfl
end Go.Proofs.YtgemfpnlnipfnaaGreat.Wr

end
section
namespace Go.Proofs.YtgemfpnlnipfnaaGreat.Wr
open Go.RowKit Go.Proofs.YtgemfpnlnipfnaaGreat Go.Proofs.YtgemfpnlnipfnaaGreat.Sy
set_option maxRecDepth 100000
set_option maxHeartbeats 4000000

theorem bind_inv {α β : Type} {p : Ps α} {q : α → Ps β} {l r : Byt} {x : β} (h : bindP p q l = some (x, r)) : ∃ y r1, p l = some (y, r1) ∧ q y r1 = some (x, r) := by
  cases hp : p l with
  | none => rw [bind_none hp] at h; cases h
  | some u =>
    obtain ⟨y, r1⟩ := u
    rw [bind_some hp] at h
    exact ⟨y, r1, rfl, h⟩
theorem text_le {most : Nat} {l r x : Byt} (h : textP most l = some (x, r)) : x.length ≤ most := by
  obtain ⟨n, r1, h1, h2⟩ := bind_inv h
  rw [(take_len h2).1]
  exact var_le h1
end Go.Proofs.YtgemfpnlnipfnaaGreat.Wr

end
section
namespace Go.Proofs.YtgemfpnlnipfnaaGreat.Cu
open Go.RowKit Go.Proofs.YtgemfpnlnipfnaaGreat Go.Proofs.YtgemfpnlnipfnaaGreat.Sy
set_option maxRecDepth 100000
set_option maxHeartbeats 4000000

section
variable {P : Program} {w0 : Base} {n : Nat} {F : Slots} {L : Blocks}
theorem retG {w1 : World} {fn : Func} {r : ResultVar} {v : Value} {R : Value → Blocks → Prop} (i : Nat) (b : Nat × TypeId × Array Value) (hr : fn.results = #[r]) (h : Has P F L r v) (hb : L[i]? = some b) (hR : R v [b]) : X (Base.of w1) n (bodyPost P fn (GetsN w1 R)) F L .ret := fun a w ha hw => by
  refine bodyPost_ret (v := v) ?_ ha.1 ⟨v, [b], rfl, hR, hw.below, fun g t cs hm => ?_, by simp⟩
  · rcases Res.run h ha hw with ⟨t, rfl, e1⟩ | ⟨t, ty, ad, rfl, e1, e2⟩ <;> simp [results, Result.andThen, *]
  · obtain rfl := List.mem_singleton.1 hm
    exact hw.blk _ _ _ (List.mem_of_getElem? hb)
end
theorem own_row {l : List UInt8} {k : Nat} {sp : List Value} (h : l.length = k) : (((l.map bv ++ sp).toArray).toList.drop 0).take k = l.map bv := by
  rw [List.drop_zero, List.take_append_of_le_length (by rw [List.length_map, h]; exact Nat.le_refl _), List.take_of_length_le (by rw [List.length_map, h]; exact Nat.le_refl _)]
theorem one_row (l : List UInt8) : ∀ u ∈ l.map bv, u.oneCell' = true := fun u hu => by
  obtain ⟨x, _, rfl⟩ := List.mem_map.1 hu
  rfl
theorem bytesN_any (w : World) (x : Nat) (hx : x < K4) : Calls Tryz.prog 241 #[fv x] w (GetsN w (fun vq Mq => ∃ (g : Nat) (sp : List Value) (cap : Nat), vq = .slice (some ⟨g, 0, none⟩) 32 cap ∧ Mq = [(g, 5, ((bytesS x).map bv ++ sp).toArray)])) := by
  refine (bytesR_any w x hx).mono ?_
  rintro e w' ⟨g, cap, rfl, ho, hl, hb⟩
  rcases ho.2 with ⟨h0, _⟩ | ⟨g', cap', cur, hv, hg, hk, _, q4, q5, q6⟩
  · cases h0
  · cases hv
    have hc : cur = ((bytesS x).map bv ++ cur.toList.drop 32).toArray := by
      rw [Nat.mul_one, bytesS_length] at q6
      rw [← q6, List.take_append_drop]
    refine ⟨_, [(g, 5, cur)], rfl, ⟨g, cur.toList.drop 32, cap, rfl, by rw [← hc]⟩, hb, fun g1 t1 cs1 hm => ?_, by simp⟩
    simp only [List.mem_singleton, Prod.mk.injEq] at hm
    obtain ⟨rfl, rfl, rfl⟩ := hm
    exact ⟨by omega, hk⟩
theorem rem2 (w : World) (F : Slots) (o : Oper) (x y : Operand) (n : Nat) {yt : TypeId} (ho : o.op = .binOp .rem 22 x y yt) (hx : evF F x = .int .u64 (n : Int)) (hy : evF F y = .int .u64 2) (hn : n < 18446744073709551616) : (execOp (evF F) o).run Tryz.prog w = .ok (.value (.int .u64 ((n % 2 : Nat) : Int))) w := by
  have h : (binOp .rem 22 (.int .u64 (n : Int)) (.int .u64 2)).run Tryz.prog w = .ok (.int .u64 ((n % 2 : Nat) : Int)) w := by
    go_simp
    exact Int.tmod_eq_emod_of_nonneg (by omega)
  have h1 : (eqGuard .rem 22 x y (.int .u64 (n : Int)) (.int .u64 2)).run Tryz.prog w = .ok () w := by go_simp
  unfold execOp
  simp only [ho, hx, hy, Sem.run_bind, h1, h, Result.andThen_ok, Sem.run_pure]
theorem encW_none (w : World) (x y : Nat) (i : Bool) (hx : x < K4) (hy : y < K4) (h : dec x y i = none) : Calls Tryz.prog 222 #[pv x y i] w (GetsN w (fun vq Mq => ∃ (g : Nat) (sp : List Value) (cap : Nat), vq = .slice (some ⟨g, 0, none⟩) 33 cap ∧ (33 ≤ cap ∧ cap ≤ 9223372036854775807) ∧ Mq = [(g, 5, ((encS none).map bv ++ sp).toArray)])) := by
  refine Sy.enter (args := [pv x y i]) Tryz.func222 rfl kL ?_
  refine sC ?_
  refine sM 58 (pcs x y i) (fun g0 => ?_)
  refine sP (.slice none 0 0) ?_
  refine sA ?_
  refine sS (pv x y i) (qL 0 g0 0 9 58 58 (pcs x y i) rfl Tryz.underlying58) <| sS (pv 0 0 true) (qF 262 #[pv x y i] (fun w => by have hrr := taken_c w x y i lK lK; rw [h] at hrr; exact hrr)) <| sW 0 g0 58 (pcs x y i) (pcs 0 0 true) (wS 0 58 (pcs 0 0 true) rfl) ?_
  refine sA ?_
  refine Sy.make kR 5 (.int .u8 0 :: .int .u8 0 :: .int .u8 0 :: [.int .u8 0, .int .u8 0, .int .u8 0, .int .u8 0, .int .u8 0, .int .u8 0, .int .u8 0, .int .u8 0, .int .u8 0, .int .u8 0, .int .u8 0, .int .u8 0, .int .u8 0, .int .u8 0, .int .u8 0, .int .u8 0, .int .u8 0, .int .u8 0, .int .u8 0, .int .u8 0, .int .u8 0, .int .u8 0, .int .u8 0, .int .u8 0, .int .u8 0, .int .u8 0, .int .u8 0, .int .u8 0, .int .u8 0, .int .u8 0]).toArray (fun g => .slice (some ⟨g, 0, none⟩) 33 33) kF (fun g1 => ?_)
  refine sP (.slice (some ⟨g1, 0, none⟩) 33 33) ?_
  refine sG ?_
  refine Sy.seq ?_
  refine sC ?_
  refine sP (.pointer (some ⟨g0, 8, none⟩)) <| sS (.bool true) (qC 0 g0 8 58 4 (pcs 0 0 true) rfl Tryz.underlying4) ?_
  refine sG ?_
  refine sT ?_
  refine sC ?_
  refine sP (.slice (some ⟨g1, 0, none⟩) 33 33) <| sP (.slice (some ⟨g1, 0, none⟩) 33 33) ?_
  refine sG ?_
  refine Sy.ret ?_
  refine Sy.then_ret ?_
  exact retG 1 (g1, 5, (.int .u8 0 :: .int .u8 0 :: .int .u8 0 :: [.int .u8 0, .int .u8 0, .int .u8 0, .int .u8 0, .int .u8 0, .int .u8 0, .int .u8 0, .int .u8 0, .int .u8 0, .int .u8 0, .int .u8 0, .int .u8 0, .int .u8 0, .int .u8 0, .int .u8 0, .int .u8 0, .int .u8 0, .int .u8 0, .int .u8 0, .int .u8 0, .int .u8 0, .int .u8 0, .int .u8 0, .int .u8 0, .int .u8 0, .int .u8 0, .int .u8 0, .int .u8 0, .int .u8 0, .int .u8 0]).toArray) rfl (v := .slice (some ⟨g1, 0, none⟩) 33 33) (.inl (show _ = _ by kernel_rfl)) kR ⟨g1, [], 33, rfl, ⟨by decide, by decide⟩, by kernel_rfl⟩
theorem encW_even (w : World) (x y : Nat) (i : Bool) (hx : x < K4) (hy : y < K4) (u v : Fp) (h : dec x y i = some (u, v)) (hv : v.val % 2 = 0) : Calls Tryz.prog 222 #[pv x y i] w (GetsN w (fun vq Mq => ∃ (g : Nat) (sp : List Value) (cap : Nat), vq = .slice (some ⟨g, 0, none⟩) 33 cap ∧ (33 ≤ cap ∧ cap ≤ 9223372036854775807) ∧ Mq = [(g, 5, ((encS (some (u, v))).map bv ++ sp).toArray)])) := by
  have hv2 : v.val % 18446744073709551616 % 2 = 0 := by omega
  refine Sy.enter (args := [pv x y i]) Tryz.func222 rfl kL ?_
  refine sC ?_
  refine sM 58 (pcs x y i) (fun g0 => ?_)
  refine sP (.slice none 0 0) ?_
  refine sA ?_
  refine sS (pv x y i) (qL 0 g0 0 9 58 58 (pcs x y i) rfl Tryz.underlying58) <| sS (pv u.val v.val false) (qF 262 #[pv x y i] (fun w => by have hrr := taken_c w x y i lK lK; rw [h] at hrr; exact hrr)) <| sW 0 g0 58 (pcs x y i) (pcs u.val v.val false) (wS 0 58 (pcs u.val v.val false) rfl) ?_
  refine sA ?_
  refine Sy.make kR 5 (.int .u8 0 :: .int .u8 0 :: .int .u8 0 :: [.int .u8 0, .int .u8 0, .int .u8 0, .int .u8 0, .int .u8 0, .int .u8 0, .int .u8 0, .int .u8 0, .int .u8 0, .int .u8 0, .int .u8 0, .int .u8 0, .int .u8 0, .int .u8 0, .int .u8 0, .int .u8 0, .int .u8 0, .int .u8 0, .int .u8 0, .int .u8 0, .int .u8 0, .int .u8 0, .int .u8 0, .int .u8 0, .int .u8 0, .int .u8 0, .int .u8 0, .int .u8 0, .int .u8 0, .int .u8 0]).toArray (fun g => .slice (some ⟨g, 0, none⟩) 33 33) kF (fun g1 => ?_)
  refine sP (.slice (some ⟨g1, 0, none⟩) 33 33) ?_
  refine sG ?_
  refine Sy.seq ?_
  refine sC ?_
  refine sP (.pointer (some ⟨g0, 8, none⟩)) <| sS (.bool false) (qC 0 g0 8 58 4 (pcs u.val v.val false) rfl Tryz.underlying4) ?_
  refine sG ?_
  refine sU ?_
  refine Sy.skip ?_
  refine sB ?_
  refine sP (.pointer (some ⟨g0, 4, none⟩)) <| sP (.pointer (some ⟨g0, 4, none⟩)) <| sS (qv (v.val % 18446744073709551616)) (qC 0 g0 4 58 22 (pcs u.val v.val false) rfl Tryz.underlying22) <| sS (.int .u64 0) (Quiet.pure (fun w => (rem2 w _ _ _ _ (v.val % 18446744073709551616) rfl rfl rfl (Nat.mod_lt _ (by decide))).trans (by rw [hv2]; rfl))) <| sP (.int .u64 2) <| sP (bv 2) ?_
  refine Sy.make kR 5 #[bv 2] (fun g => .slice (some ⟨g, 0, none⟩) 1 1) kF (fun g2 => ?_)
  refine sP (.slice (some ⟨g2, 0, none⟩) 1 1) ?_
  refine sA ?_
  refine sP (.slice (some ⟨g2, 0, none⟩) 1 1) <| sP (.pointer (some ⟨g0, 0, none⟩)) <| sS (fv u.val) (qL 0 g0 0 4 58 56 (pcs u.val v.val false) rfl Tryz.underlying56) <| sS (fv u.val) (qF 242 #[fv u.val] (fun w => refOf_any w u.val lK)) ?_
  refine Sy.callN kR 241 #[fv u.val] kF (fun vq Mq => ∃ (g : Nat) (sp : List Value) (cap : Nat), vq = .slice (some ⟨g, 0, none⟩) 32 cap ∧ Mq = [(g, 5, ((bytesS u.val).map bv ++ sp).toArray)]) (fun w _ => bytesN_any w u.val (lt4 _)) (fun vq Mq hR0 => ?_)
  obtain ⟨g9, sp9, cp9, rfl, rfl⟩ := hR0
  refine Sy.append kR 27 5 _ _ Tryz.underlying27 info_u8 rfl rfl rfl rfl _ _ rfl 2 g2 1 1 #[bv 2] [bv 2] kR kR kR rfl kR (by decide) 3 g9 0 32 cp9 5 ((bytesS u.val).map bv ++ sp9).toArray ((bytesS u.val).map bv) kR kR (own_row (bytesS_length _)) (by rw [List.length_map]; exact (bytesS_length _)) (one_row _) (by decide) (fun q1 c1 s1 e1 m1 => ?_)
  refine sP (.slice (some ⟨q1, 0, none⟩) (1 + 32) c1) ?_
  refine sG ?_
  refine Sy.ret ?_
  exact retG 2 (q1, 5, ([bv 2] ++ ((bytesS u.val).map bv ++ s1)).toArray) rfl (v := .slice (some ⟨q1, 0, none⟩) (1 + 32) c1) (.inl (show _ = _ by kernel_rfl)) kR ⟨q1, s1, c1, rfl, ⟨by omega, by simp only [maxLen] at m1; omega⟩, by rw [show encS (some (u, v)) = 2 :: bytesS u.val from by show (if v.val % 2 = 1 then (3 : UInt8) else 2) :: bytesS u.val = _; rw [if_neg (by omega)]]; rfl⟩
theorem encW_odd (w : World) (x y : Nat) (i : Bool) (hx : x < K4) (hy : y < K4) (u v : Fp) (h : dec x y i = some (u, v)) (hv : v.val % 2 = 1) : Calls Tryz.prog 222 #[pv x y i] w (GetsN w (fun vq Mq => ∃ (g : Nat) (sp : List Value) (cap : Nat), vq = .slice (some ⟨g, 0, none⟩) 33 cap ∧ (33 ≤ cap ∧ cap ≤ 9223372036854775807) ∧ Mq = [(g, 5, ((encS (some (u, v))).map bv ++ sp).toArray)])) := by
  have hv2 : v.val % 18446744073709551616 % 2 = 1 := by omega
  refine Sy.enter (args := [pv x y i]) Tryz.func222 rfl kL ?_
  refine sC ?_
  refine sM 58 (pcs x y i) (fun g0 => ?_)
  refine sP (.slice none 0 0) ?_
  refine sA ?_
  refine sS (pv x y i) (qL 0 g0 0 9 58 58 (pcs x y i) rfl Tryz.underlying58) <| sS (pv u.val v.val false) (qF 262 #[pv x y i] (fun w => by have hrr := taken_c w x y i lK lK; rw [h] at hrr; exact hrr)) <| sW 0 g0 58 (pcs x y i) (pcs u.val v.val false) (wS 0 58 (pcs u.val v.val false) rfl) ?_
  refine sA ?_
  refine Sy.make kR 5 (.int .u8 0 :: .int .u8 0 :: .int .u8 0 :: [.int .u8 0, .int .u8 0, .int .u8 0, .int .u8 0, .int .u8 0, .int .u8 0, .int .u8 0, .int .u8 0, .int .u8 0, .int .u8 0, .int .u8 0, .int .u8 0, .int .u8 0, .int .u8 0, .int .u8 0, .int .u8 0, .int .u8 0, .int .u8 0, .int .u8 0, .int .u8 0, .int .u8 0, .int .u8 0, .int .u8 0, .int .u8 0, .int .u8 0, .int .u8 0, .int .u8 0, .int .u8 0, .int .u8 0, .int .u8 0]).toArray (fun g => .slice (some ⟨g, 0, none⟩) 33 33) kF (fun g1 => ?_)
  refine sP (.slice (some ⟨g1, 0, none⟩) 33 33) ?_
  refine sG ?_
  refine Sy.seq ?_
  refine sC ?_
  refine sP (.pointer (some ⟨g0, 8, none⟩)) <| sS (.bool false) (qC 0 g0 8 58 4 (pcs u.val v.val false) rfl Tryz.underlying4) ?_
  refine sG ?_
  refine sU ?_
  refine Sy.skip ?_
  refine sB ?_
  refine sP (.pointer (some ⟨g0, 4, none⟩)) <| sP (.pointer (some ⟨g0, 4, none⟩)) <| sS (qv (v.val % 18446744073709551616)) (qC 0 g0 4 58 22 (pcs u.val v.val false) rfl Tryz.underlying22) <| sS (.int .u64 1) (Quiet.pure (fun w => (rem2 w _ _ _ _ (v.val % 18446744073709551616) rfl rfl rfl (Nat.mod_lt _ (by decide))).trans (by rw [hv2]; rfl))) <| sP (.int .u64 3) <| sP (bv 3) ?_
  refine Sy.make kR 5 #[bv 3] (fun g => .slice (some ⟨g, 0, none⟩) 1 1) kF (fun g2 => ?_)
  refine sP (.slice (some ⟨g2, 0, none⟩) 1 1) ?_
  refine sA ?_
  refine sP (.slice (some ⟨g2, 0, none⟩) 1 1) <| sP (.pointer (some ⟨g0, 0, none⟩)) <| sS (fv u.val) (qL 0 g0 0 4 58 56 (pcs u.val v.val false) rfl Tryz.underlying56) <| sS (fv u.val) (qF 242 #[fv u.val] (fun w => refOf_any w u.val lK)) ?_
  refine Sy.callN kR 241 #[fv u.val] kF (fun vq Mq => ∃ (g : Nat) (sp : List Value) (cap : Nat), vq = .slice (some ⟨g, 0, none⟩) 32 cap ∧ Mq = [(g, 5, ((bytesS u.val).map bv ++ sp).toArray)]) (fun w _ => bytesN_any w u.val (lt4 _)) (fun vq Mq hR0 => ?_)
  obtain ⟨g9, sp9, cp9, rfl, rfl⟩ := hR0
  refine Sy.append kR 27 5 _ _ Tryz.underlying27 info_u8 rfl rfl rfl rfl _ _ rfl 2 g2 1 1 #[bv 3] [bv 3] kR kR kR rfl kR (by decide) 3 g9 0 32 cp9 5 ((bytesS u.val).map bv ++ sp9).toArray ((bytesS u.val).map bv) kR kR (own_row (bytesS_length _)) (by rw [List.length_map]; exact (bytesS_length _)) (one_row _) (by decide) (fun q1 c1 s1 e1 m1 => ?_)
  refine sP (.slice (some ⟨q1, 0, none⟩) (1 + 32) c1) ?_
  refine sG ?_
  refine Sy.ret ?_
  exact retG 2 (q1, 5, ([bv 3] ++ ((bytesS u.val).map bv ++ s1)).toArray) rfl (v := .slice (some ⟨q1, 0, none⟩) (1 + 32) c1) (.inl (show _ = _ by kernel_rfl)) kR ⟨q1, s1, c1, rfl, ⟨by omega, by simp only [maxLen] at m1; omega⟩, by rw [show encS (some (u, v)) = 3 :: bytesS u.val from by show (if v.val % 2 = 1 then (3 : UInt8) else 2) :: bytesS u.val = _; rw [if_pos (by omega)]]; rfl⟩
theorem encW_any (w : World) (x y : Nat) (i : Bool) (hx : x < K4) (hy : y < K4) : Calls Tryz.prog 222 #[pv x y i] w (GetsN w (fun vq Mq => ∃ (g : Nat) (sp : List Value) (cap : Nat), vq = .slice (some ⟨g, 0, none⟩) 33 cap ∧ (33 ≤ cap ∧ cap ≤ 9223372036854775807) ∧ Mq = [(g, 5, ((encS (dec x y i)).map bv ++ sp).toArray)])) := by
  rcases h : dec x y i with _ | ⟨u, v⟩
  · exact encW_none w x y i hx hy h
  · rcases Nat.mod_two_eq_zero_or_one v.val with hv | hv
    · exact encW_even w x y i hx hy u v h hv
    · exact encW_odd w x y i hx hy u v h hv
theorem encR_any (w : World) (x y : Nat) (i : Bool) (hx : x < K4) (hy : y < K4) : Calls Tryz.prog 222 #[pv x y i] w (GetsN w (fun vq Mq => ∃ (g : Nat) (sp : List Value) (cap : Nat), vq = .slice (some ⟨g, 0, none⟩) 33 cap ∧ Mq = [(g, 5, ((encS (dec x y i)).map bv ++ sp).toArray)])) := by
  refine (encW_any w x y i hx hy).mono ?_
  rintro e w' ⟨v, M, h1, ⟨g, sp, cap, h2, _, h3⟩, h4⟩
  exact ⟨v, M, h1, ⟨g, sp, cap, h2, h3⟩, h4⟩
end Go.Proofs.YtgemfpnlnipfnaaGreat.Cu

end
section
namespace Go.Proofs.YtgemfpnlnipfnaaGreat
open Go.RowKit Go.Lib

set_option maxHeartbeats 8000000 in
set_option maxRecDepth 100000 in
theorem numberR_any (w : World) (g cap : Nat) (l : List UInt8) (hl : l.length = 32) (hg : g < w.heap.size) (hcell : ∀ j u, l[j]? = some u → w.cell? ⟨g, j, none⟩ = some (bv u)) (_ : 32 ≤ cap) (_ : cap ≤ 9223372036854775807) : Calls Tryz.prog 243 #[.slice (some ⟨g, 0, none⟩) 32 cap] w fun e w' => e = .returned (fv (valB l)) ∧ Below w.heap.size w w' := by
  have HL := Lib.hid hl
  have HG := Lib.hid hcell
  clear hl hcell
  go_enter Tryz.func243, Tryz.ntmps243
  go_wp2_with fail
  go_loopw [4] (fun i wr => ∃ k y0 y1 y2 y3 : Nat, k ≤ 32 ∧ i = .int .i64 (k : Int) ∧ Hid (y0 = wdB l k 0 ∧ y1 = wdB l k 1 ∧ y2 = wdB l k 2 ∧ y3 = wdB l k 3) ∧ Below w.heap.size w wr ∧ Blk wr (w.heap.size + 1) 374 #[.int .u64 (y3 : Int), .int .u64 (y2 : Int), .int .u64 (y1 : Int), .int .u64 (y0 : Int)] ∧ Blk wr w.heap.size 374 #[.int .u64 0, .int .u64 0, .int .u64 0, .int .u64 0]) (fun i _ => 32 - (intOf i).toNat)
  case atStart => exact ⟨0, 0, 0, 0, 0, by omega, rfl, Lib.hid ⟨(wdB_zero l 0).symm, (wdB_zero l 1).symm, (wdB_zero l 2).symm, (wdB_zero l 3).symm⟩, below_alloc2 w _ _, blk_new2 w _ _ _, (Blk.new w _ _).alloc _⟩
  case round =>
    obtain ⟨k, y0, y1, y2, y3, hk, rfl, HY, hb, hP, hR⟩ := hrel
    have q3 : wr.cell? ⟨w.heap.size + 1, 0, none⟩ = some (.int .u64 (y3 : Int)) := hP.cell 0
    have q2 : wr.cell? ⟨w.heap.size + 1, 1, none⟩ = some (.int .u64 (y2 : Int)) := hP.cell 1
    have q1 : wr.cell? ⟨w.heap.size + 1, 2, none⟩ = some (.int .u64 (y1 : Int)) := hP.cell 2
    have q0 : wr.cell? ⟨w.heap.size + 1, 3, none⟩ = some (.int .u64 (y0 : Int)) := hP.cell 3
    have ff : ∀ j, wr.frozen? ⟨w.heap.size + 1, j, none⟩ = false := fun j => hP.frozen j
    by_cases hlt : k < 32
    · obtain ⟨c, hc⟩ : ∃ c, l[k]? = some c := ⟨l[k]'(by rw [HL.out]; exact hlt), List.getElem?_eq_getElem _⟩
      have HC := Lib.hid hc
      obtain ⟨m, hm⟩ : ∃ m, m = c.toNat := ⟨_, rfl⟩
      have hm8 : m < 256 := by rw [hm]; exact c.toNat_lt
      have hI : wr.cell? ⟨g, k, none⟩ = some (.int .u8 (m : Int)) := by
        rw [hm]
        exact (hb.cell (p := ⟨g, k, none⟩) hg).trans (HG.out k c hc)
      have HM := Lib.hid hm
      have HR := Lib.hid (And.intro hb (And.intro hP hR))
      clear hb hP hR hc hk hm
      rcases (show k = 0 ∨ k = 1 ∨ k = 2 ∨ k = 3 ∨ k = 4 ∨ k = 5 ∨ k = 6 ∨ k = 7 ∨ k = 8 ∨ k = 9 ∨ k = 10 ∨ k = 11 ∨ k = 12 ∨ k = 13 ∨ k = 14 ∨ k = 15 ∨ k = 16 ∨ k = 17 ∨ k = 18 ∨ k = 19 ∨ k = 20 ∨ k = 21 ∨ k = 22 ∨ k = 23 ∨ k = 24 ∨ k = 25 ∨ k = 26 ∨ k = 27 ∨ k = 28 ∨ k = 29 ∨ k = 30 ∨ k = 31 by omega) with rfl | rfl | rfl | rfl | rfl | rfl | rfl | rfl | rfl | rfl | rfl | rfl | rfl | rfl | rfl | rfl | rfl | rfl | rfl | rfl | rfl | rfl | rfl | rfl | rfl | rfl | rfl | rfl | rfl | rfl | rfl | rfl
      all_goals
        first
        | ((have hy : y0 < 72057594037927936 := by rw [HY.out.1]; exact wdB_lt l _ 0 (by decide)); go_wp2; go_region; all_goals go_wp2; all_goals (refine ⟨⟨_, y0 * 256 + m, y1, y2, y3, by decide, rfl, Lib.hid ⟨by rw [HY.out.1, HM.out]; exact (wdB_step l _ 0 c HC.out (by decide)).symm, by rw [HY.out.2.1]; exact (wdB_same l _ 1 (by decide)).symm, by rw [HY.out.2.2.1]; exact (wdB_same l _ 2 (by decide)).symm, by rw [HY.out.2.2.2]; exact (wdB_same l _ 3 (by decide)).symm⟩, (HR.out.1.setCell (by show w.heap.size ≤ w.heap.size + 1; omega) _).drew, Blk.drew (Blk.eq_ (HR.out.2.1.set_ 3 _) (by rw [show ((y0 * 256 + m : Nat) : Int) = (y0 : Int) * 256 + (m : Int) by omega]; rfl)), Blk.drew (HR.out.2.2.far (by show w.heap.size ≠ w.heap.size + 1; omega) _)⟩, by simp [intOf]⟩))
        | ((have hy : y1 < 72057594037927936 := by rw [HY.out.2.1]; exact wdB_lt l _ 1 (by decide)); go_wp2; go_region; all_goals go_wp2; all_goals (refine ⟨⟨_, y0, y1 * 256 + m, y2, y3, by decide, rfl, Lib.hid ⟨by rw [HY.out.1]; exact (wdB_same l _ 0 (by decide)).symm, by rw [HY.out.2.1, HM.out]; exact (wdB_step l _ 1 c HC.out (by decide)).symm, by rw [HY.out.2.2.1]; exact (wdB_same l _ 2 (by decide)).symm, by rw [HY.out.2.2.2]; exact (wdB_same l _ 3 (by decide)).symm⟩, (HR.out.1.setCell (by show w.heap.size ≤ w.heap.size + 1; omega) _).drew, Blk.drew (Blk.eq_ (HR.out.2.1.set_ 2 _) (by rw [show ((y1 * 256 + m : Nat) : Int) = (y1 : Int) * 256 + (m : Int) by omega]; rfl)), Blk.drew (HR.out.2.2.far (by show w.heap.size ≠ w.heap.size + 1; omega) _)⟩, by simp [intOf]⟩))
        | ((have hy : y2 < 72057594037927936 := by rw [HY.out.2.2.1]; exact wdB_lt l _ 2 (by decide)); go_wp2; go_region; all_goals go_wp2; all_goals (refine ⟨⟨_, y0, y1, y2 * 256 + m, y3, by decide, rfl, Lib.hid ⟨by rw [HY.out.1]; exact (wdB_same l _ 0 (by decide)).symm, by rw [HY.out.2.1]; exact (wdB_same l _ 1 (by decide)).symm, by rw [HY.out.2.2.1, HM.out]; exact (wdB_step l _ 2 c HC.out (by decide)).symm, by rw [HY.out.2.2.2]; exact (wdB_same l _ 3 (by decide)).symm⟩, (HR.out.1.setCell (by show w.heap.size ≤ w.heap.size + 1; omega) _).drew, Blk.drew (Blk.eq_ (HR.out.2.1.set_ 1 _) (by rw [show ((y2 * 256 + m : Nat) : Int) = (y2 : Int) * 256 + (m : Int) by omega]; rfl)), Blk.drew (HR.out.2.2.far (by show w.heap.size ≠ w.heap.size + 1; omega) _)⟩, by simp [intOf]⟩))
        | ((have hy : y3 < 72057594037927936 := by rw [HY.out.2.2.2]; exact wdB_lt l _ 3 (by decide)); go_wp2; go_region; all_goals go_wp2; all_goals (refine ⟨⟨_, y0, y1, y2, y3 * 256 + m, by decide, rfl, Lib.hid ⟨by rw [HY.out.1]; exact (wdB_same l _ 0 (by decide)).symm, by rw [HY.out.2.1]; exact (wdB_same l _ 1 (by decide)).symm, by rw [HY.out.2.2.1]; exact (wdB_same l _ 2 (by decide)).symm, by rw [HY.out.2.2.2, HM.out]; exact (wdB_step l _ 3 c HC.out (by decide)).symm⟩, (HR.out.1.setCell (by show w.heap.size ≤ w.heap.size + 1; omega) _).drew, Blk.drew (Blk.eq_ (HR.out.2.1.set_ 0 _) (by rw [show ((y3 * 256 + m : Nat) : Int) = (y3 : Int) * 256 + (m : Int) by omega]; rfl)), Blk.drew (HR.out.2.2.far (by show w.heap.size ≠ w.heap.size + 1; omega) _)⟩, by simp [intOf]⟩))
    · have p1 : ¬ (k : Int) < 32 := by omega
      obtain rfl : k = 32 := by omega
      have b0 : y0 < 18446744073709551616 := by rw [HY.out.1]; exact wdB_lt8 l _ _
      have b1 : y1 < 18446744073709551616 := by rw [HY.out.2.1]; exact wdB_lt8 l _ _
      have b2 : y2 < 18446744073709551616 := by rw [HY.out.2.2.1]; exact wdB_lt8 l _ _
      have b3 : y3 < 18446744073709551616 := by rw [HY.out.2.2.2]; exact wdB_lt8 l _ _
      obtain ⟨z, hz⟩ : ∃ z, z = y3 + 18446744073709551616 * y2 + 340282366920938463463374607431768211456 * y1 + 6277101735386680763835789423207666416102355444464034512896 * y0 := ⟨_, rfl⟩
      have fz := fv_mk y3 y2 y1 y0 b3 b2 b1 b0
      rw [← hz] at fz
      have hzv : valB l = z := by rw [wdB_all l HL.out, hz, HY.out.1, HY.out.2.1, HY.out.2.2.1, HY.out.2.2.2]
      have HZ := Lib.hid hzv
      have FZ := Lib.hid fz.symm
      have HP := Lib.hid hP
      have HR := Lib.hid hR
      clear HY b0 b1 b2 b3 hz fz hzv q0 q1 q2 q3 ff hP hR
      go_wp2_with (first | ((with_reducible refine here_load (d := some 31) ?_); refine wpList_load_fv rfl _ _ rfl (w.heap.size + 1) rfl (z) _ _ _ (HP.out) (FZ.out) Tryz.underlying374 rfl (by kernel_rfl) ?_) | ((with_reducible refine here_store ?_); refine wpList_store_blk rfl _ _ _ rfl (w.heap.size) (fcs (z)) rfl rfl _ _ (HR.out) (by kernel_rfl) (by rfl) (fcs_one _) ?_; intro vz hLz hqz hKz))
      exact bodyPost_ret (results_cell_row rfl _ _ w.heap.size _ _ (0, 0) _ rfl hLz Tryz.underlying374 rfl (by kernel_rfl)) rfl ⟨by rw [HZ.out]; rfl, hb.trans (hqz _ (by omega))⟩
end Go.Proofs.YtgemfpnlnipfnaaGreat

end
section
namespace Go.Proofs.YtgemfpnlnipfnaaGreat.Sy
open Go.RowKit Go.Proofs.YtgemfpnlnipfnaaGreat

section
variable {P : Program} {w0 : Base} {n : Nat} {Q : Exit → Act → World → Prop} {F : Slots} {L : Blocks}
theorem loopIR {c : Code} (N : Nat) (I : Nat → Act → World → Prop) (h0 : ∀ a w, Fr w0.ds a n F → St w0 w L → I 0 a w)
    (hr : ∀ i, i ≤ N → ∀ a w, I i a w → c.wpIn w0.fence w0.room P (Exit.then (fun a w => i < N ∧ I (i + 1) a w) Q) a w) : wpR P w0 n c Q (N + 1) F L := fun a w ha hw => by
  have key : ∀ k i, i + k = N → ∀ a w, I i a w → Code.roundsIn w0.fence w0.room P c Q (k + 1) a w := by
    intro k
    induction k with
    | zero =>
      intro i hi a w h
      refine wpIn_mono (hr i (by omega) a w h) fun e a w hq => ?_
      cases e <;> first | exact hq | exact absurd hq.1 (by omega)
    | succ k ih =>
      intro i hi a w h
      refine wpIn_mono (hr i (by omega) a w h) fun e a w hq => ?_
      cases e <;> first | exact hq | exact ih (i + 1) (by omega) a w hq.2
  exact key N 0 (by omega) a w (h0 a w ha hw)
theorem loopXR {T : Type} {c : Code} (N : Nat) (FF : Nat → T → Slots) (LL : Nat → T → Blocks) (H : Nat → T → Prop) (x0 : T) (m : List Bool) (h0 : H 0 x0) (hF : ∀ p ∈ FF 0 x0, F.lookup p.1 = some p.2) (hL : sel L m = LL 0 x0)
    (hr : ∀ k x, k ≤ N → H k x → wpC P w0 n (Exit.then (NextX w0 n N FF LL H k) Q) (FF k x) (LL k x) c) : wpR P w0 n c Q (N + 1) F L :=
  loopIR N (fun k a w => ∃ x, H k x ∧ Fr w0.ds a n (FF k x) ∧ St w0 w (LL k x)) (fun _ _ ha hw => ⟨x0, h0, ha.all hF, hL ▸ hw.less (sel_sub L m)⟩)
    fun k hk a w ⟨x, hx, ha, hw⟩ => hr k x hk hx a w ha hw
end
theorem apd_take (l : List UInt8) (k : Nat) {n : Nat} (hl : l.length = n) (s : List Value) (hk : k < n) : ((l.take k).map bv ++ ([bv (l.getD k 0)] ++ s)).toArray.toList.take (k + 1) = (l.take (k + 1)).map bv := by
  have hlt : k < l.length := by omega
  have e : ((l.take k).map bv).length = k := by simp; omega
  rw [show ((l.take k).map bv ++ ([bv (l.getD k 0)] ++ s)).toArray.toList = (l.take k).map bv ++ ([bv (l.getD k 0)] ++ s) from rfl, List.take_append, e, List.take_of_length_le (by omega), Nat.add_sub_cancel_left, List.take_succ_eq_append_getElem hlt, List.map_append]
  congr 1
  simp [List.getD, hlt]
theorem apd_len (l : List UInt8) (k : Nat) {n : Nat} (hl : l.length = n) (hk : k < n) : ((l.take (k + 1)).map bv).length = k + 1 := by simp; omega
theorem apd_size (l : List UInt8) (k : Nat) {n : Nat} (hl : l.length = n) (s : List Value) {c : Nat} (hc : s.length + (k + 1) = c) (hk : k < n) : ((l.take k).map bv ++ ([bv (l.getD k 0)] ++ s)).toArray.size = c := by simp; omega
theorem apd_full (l : List UInt8) (k : Nat) (hl : l.length = k + 1) {s : List Value} : ((l.take k).map bv ++ ([bv (l.getD k 0)] ++ s)) = l.map bv ++ s := by
  have hlt : k < l.length := by omega
  have e : l = l.take k ++ [l.getD k 0] := by
    have h2 := List.take_succ_eq_append_getElem hlt
    rw [List.take_of_length_le (by omega)] at h2
    rw [List.getD_eq_getElem?_getD, List.getElem?_eq_getElem hlt]
    exact h2
  conv => rhs; rw [e, List.map_append, List.append_assoc]
  rfl
theorem key_sym {l : List UInt8} {n : Nat} (h : l.length = n) {k o : Nat} (hk : k < n) (ho : o = k) : ((l.map bv).toArray)[o]? = some (bv (l.getD k 0)) := by
  subst h ho
  rw [List.getElem?_toArray, List.getElem?_map, List.getD_eq_getElem?_getD, List.getElem?_eq_getElem hk]
  rfl
end Go.Proofs.YtgemfpnlnipfnaaGreat.Sy

end
section
namespace Go.Proofs.YtgemfpnlnipfnaaGreat.Cu
open Go.RowKit Go.Proofs.YtgemfpnlnipfnaaGreat Go.Proofs.YtgemfpnlnipfnaaGreat.Sy

theorem own_cellE {w : World} {g : Nat} {t : TypeId} {m : List UInt8} {sp : List Value} (hb : Blk w g t (m.map bv ++ sp).toArray) (j : Nat) (u : UInt8) (hj : m[j]? = some u) : w.cell? ⟨g, j, none⟩ = some (bv u) := by
  refine (hb.cell j).trans ?_
  have hl := (List.getElem?_eq_some_iff.1 hj).1
  rw [List.getElem?_toArray, List.getElem?_append_left (by rw [List.length_map]; exact hl), List.getElem?_map, hj]
  rfl
set_option maxHeartbeats 4000000 in
set_option maxRecDepth 100000 in
theorem liftR_any (w : World) (l : List UInt8) (hl : l.length = 32) : Calls Tryz.prog 263 #[.agg (l.map bv).toArray] w (Gets w (.tuple #[ptv (liftP l), .bool (liftB l)])) := by
  have hv := valB_lt32 l hl
  refine Sy.enter (args := [.agg (l.map bv).toArray]) Tryz.func263 rfl kL ?_
  refine sC ?_
  refine sM 236 (l.map bv).toArray (fun g0 => ?_)
  refine sM 58 (pcs 0 0 false) (fun g1 => ?_)
  refine sP (.bool false) ?_
  refine sA ?_
  refine sP (.slice none 0 0) ?_
  refine sG ?_
  refine Sy.seq ?_
  refine sC ?_
  refine sP (.int .i64 0) ?_
  refine sG ?_
  refine Sy.block ?_
  refine Sy.loopN (31 + 1 + 1) ?_
  refine Sy.round ?_
  refine Sy.seq ?_
  refine sC ?_
  refine sP (.int .i64 0) <| sP (.bool true) ?_
  refine sG ?_
  refine sT ?_
  refine Sy.skip ?_
  refine Sy.then_ ?_
  refine Sy.seq ?_
  refine Sy.block ?_
  refine Sy.region ?_
  refine sP (.slice none 0 0) <| sP (.int .i64 0) <| sP (.pointer (some ⟨g0, 0, none⟩)) <| sS (bv (l.getD 0 0)) (Quiet.cell 0 g0 0 236 5 (l.map bv).toArray _ _ rfl kR kR Tryz.underlying5 rfl _ (key_at l hl 0 (by decide))) ?_
  refine Sy.make kR 5 #[bv (l.getD 0 0)] (fun g => .slice (some ⟨g, 0, none⟩) 1 1) kF (fun g2 => ?_)
  refine Sy.appendNil kR 27 5 _ _ Tryz.underlying27 info_u8 rfl rfl rfl rfl _ _ rfl kR 2 g2 0 1 1 5 #[bv (l.getD 0 0)] [bv (l.getD 0 0)] kR kR kR rfl (by decide) (by intro u hu; simp only [List.mem_cons, List.not_mem_nil, or_false] at hu; subst hu; rfl) (by decide) (fun q1 c1 s1 e1 m1 => ?_)
  refine sP (.slice (some ⟨q1, 0, none⟩) 1 c1) ?_
  refine Sy.nil ?_
  refine Sy.in_ ?_
  refine Sy.then_ ?_
  refine Sy.region ?_
  refine sP (.int .i64 0) <| sP (.int .i64 1) <| sP (.int .i64 1) ?_
  refine Sy.nil ?_
  refine Sy.again ?_
  refine Sy.loopXR (T := Nat × Nat × List Value) 31 (fun k1 y1 => [(1, .pointer (some ⟨g0, 0, none⟩)), (2, .pointer (some ⟨g1, 0, none⟩)), (4, .slice (some ⟨y1.1, 0, none⟩) (k1 + 1) y1.2.1), (5, .int .i64 ((k1 + 1 : Nat) : Int))]) (fun k1 y1 => [(g0, 236, (l.map bv).toArray), (g1, 58, (pcs 0 0 false)), (y1.1, 5, ((l.take k1).map bv ++ ([bv (l.getD k1 0)] ++ y1.2.2)).toArray)]) (fun k1 y1 => y1.2.2.length + (k1 + 1) = y1.2.1 ∧ y1.2.1 ≤ maxLen) (q1, c1, s1) [true, true, false, true] ⟨e1, m1⟩ (all_cons kR (all_cons kR (all_cons kR (all_cons kR all_nil)))) kR (fun k1 y1 hk1 hh1 => ?_)
  refine Sy.seq ?_
  refine sC ?_
  refine sP (.int .i64 ((k1 + 1 : Nat) : Int)) ?_
  obtain ⟨b1, hb1⟩ : ∃ z : Bool, z = decide (k1 + 1 < 32) := ⟨_, rfl⟩
  refine sS (.bool b1) (Quiet.pure (exec_int .lss _ _ _ .i64 _ _ _ rfl rfl rfl (int_lss _ _ _ _ _ (by rw [hb1]; exact decide_eq_decide.2 (by omega))))) ?_
  refine sG ?_
  cases b1
  · have lb1 : ¬ (k1 + 1 < 32) := of_decide_eq_false hb1.symm
    refine sU ?_
    refine Sy.exit ?_
    refine Sy.then_exit ?_
    refine Sy.then_exit ?_
    obtain rfl : k1 = 31 := by omega
    have hcp : 32 ≤ y1.2.1 ∧ y1.2.1 ≤ 9223372036854775807 := by
      have q := hh1
      simp only [maxLen] at q
      exact ⟨by omega, by omega⟩
    refine Sy.in_exit ?_
    refine Sy.then_ ?_
    refine Sy.tidyC (G := [(1, .pointer (some ⟨g0, 0, none⟩)), (2, .pointer (some ⟨g1, 0, none⟩)), (4, .slice (some ⟨y1.1, 0, none⟩) 32 y1.2.1)]) (N := [(g0, 236, (l.map bv).toArray), (g1, 58, (pcs 0 0 false)), (y1.1, 5, (l.map bv ++ y1.2.2).toArray)]) [true, true, true] rfl (bcons rfl (bcons rfl (bcons (beq (congrArg List.toArray (apd_full l 31 hl))) rfl))) (all_cons kR (all_cons kR (all_cons kR all_nil))) ?_
    refine sC ?_
    refine sP (.slice (some ⟨y1.1, 0, none⟩) 32 y1.2.1) <| sS (fv (valB l)) (qG 243 #[.slice (some ⟨y1.1, 0, none⟩) 32 y1.2.1] (fun w hw => numberR_any w y1.1 y1.2.1 l hl (hw.get (i := 2) rfl).lt (own_cellE (hw.get (i := 2) rfl)) hcp.1 hcp.2)) ?_
    refine sM 374 (fcs 0) (fun g3 => ?_)
    refine sW 3 g3 374 (fcs 0) (fcs (valB l)) (wS 0 374 (fcs (valB l)) rfl) ?_
    refine sA ?_
    refine sS (fv (valB l)) (qL 3 g3 0 4 374 374 (fcs (valB l)) rfl Tryz.underlying374) ?_
    obtain ⟨z1, hz1⟩ : ∃ z : Nat, z = cubeN (valB l) := ⟨_, rfl⟩
    have lz1 : z1 < K4 := by rw [hz1]; exact cubeN_lt _
    refine sS (fv z1) (qF 261 #[fv (valB l)] (fun w => by rw [hz1]; exact cubeR_n w (valB l) lK)) ?_
    obtain ⟨r1, hr1⟩ : ∃ z : Nat, z = (sqrtS z1).1 := ⟨_, rfl⟩
    obtain ⟨k1, hk1⟩ : ∃ z : Bool, z = (sqrtS z1).2 := ⟨_, rfl⟩
    have lr1 : r1 < K4 := by rw [hr1]; exact sqrt_lt _
    refine sS (.tuple #[fv r1, .bool k1]) (qF 290 #[fv z1] (fun w => by rw [hr1, hk1, ← sqrt_is]; exact sqrtR_any w z1 lK)) <| sP (.tuple #[fv r1, .bool k1]) <| sP (fv r1) <| sP (.bool k1) ?_
    refine sM 374 (fcs 0) (fun g4 => ?_)
    refine sW 4 g4 374 (fcs 0) (fcs r1) (wS 0 374 (fcs r1) rfl) <| sP (.bool k1) ?_
    refine sH (fun j => false) ?_
    refine sD 0 rfl (.agg modcs) (qF 259 #[] (refP_any)) <| sD 1 rfl (fv (valB l)) (qL 3 g3 0 4 374 374 (fcs (valB l)) rfl Tryz.underlying374) ?_
    obtain ⟨b2, hb2⟩ : ∃ z : Bool, z = decide ((valB l) < pM) := ⟨_, rfl⟩
    refine sD 2 rfl (.bool b2) (qF 244 #[.agg modcs, fv (valB l)] (fun w => by rw [hb2]; exact rightR_any w (valB l) lK)) <| sZ 3 rfl (.bool b2) ?_
    refine sI ?_
    refine Sy.seq ?_
    refine sC ?_
    refine sP (.bool k1) ?_
    cases k1
    · refine sP (.bool true) <| sP (.bool true) ?_
      refine sN ?_
      refine sN ?_
      refine sP (.bool true) ?_
      refine sG ?_
      refine sT ?_
      refine sC ?_
      refine sS (pv 0 0 true) (qF 258 #[] (zeroR_c)) <| sW 1 g1 58 (pcs 0 0 false) (pcs 0 0 true) (wS 0 58 (pcs 0 0 true) rfl) <| sP (.bool false) ?_
      refine sG ?_
      refine Sy.ret ?_
      refine Sy.then_ret ?_
      rw [show (.tuple #[ptv (liftP l), .bool (liftB l)] : Value) = .tuple #[pv 0 0 true, .bool false] from by
        have hb : liftB l = false := by unfold liftB; rw [← hz1, ← hk1]; simp
        rw [hb, lift_no hb]; rfl]
      exact Sy.ret2 (v := pv 0 0 true) (u := .bool false) rfl (.inl (Res.cell (ty' := 58) g1 1 (pcs 0 0 true) _ kR kR Tryz.underlying58 rfl kR kR)) (.inl (show _ = _ by kernel_rfl))
    · refine sP (.bool false) <| sP (.bool false) <| sP (.bool b2) ?_
      cases b2
      · refine sP (.bool true) <| sP (.bool true) ?_
        refine sG ?_
        refine sT ?_
        refine sC ?_
        refine sS (pv 0 0 true) (qF 258 #[] (zeroR_c)) <| sW 1 g1 58 (pcs 0 0 false) (pcs 0 0 true) (wS 0 58 (pcs 0 0 true) rfl) <| sP (.bool false) ?_
        refine sG ?_
        refine Sy.ret ?_
        refine Sy.then_ret ?_
        rw [show (.tuple #[ptv (liftP l), .bool (liftB l)] : Value) = .tuple #[pv 0 0 true, .bool false] from by
          have hb : liftB l = false := by unfold liftB; rw [← hb2]; simp
          rw [hb, lift_no hb]; rfl]
        exact Sy.ret2 (v := pv 0 0 true) (u := .bool false) rfl (.inl (Res.cell (ty' := 58) g1 1 (pcs 0 0 true) _ kR kR Tryz.underlying58 rfl kR kR)) (.inl (show _ = _ by kernel_rfl))
      · refine sP (.bool false) <| sP (.bool false) ?_
        refine sG ?_
        refine sU ?_
        refine Sy.skip ?_
        refine sB ?_
        refine sS (fv (valB l)) (qL 3 g3 0 4 374 374 (fcs (valB l)) rfl Tryz.underlying374) <| sS (fv r1) (qL 4 g4 0 4 374 374 (fcs r1) rfl Tryz.underlying374) <| sS (pv (valB l) r1 false) (qF 291 #[fv (valB l), fv r1] (fun w => pointR_c w (valB l) r1 lK lK)) <| sW 1 g1 58 (pcs 0 0 false) (pcs (valB l) r1 false) (wS 0 58 (pcs (valB l) r1 false) rfl) <| sP (.bool true) ?_
        refine sG ?_
        refine Sy.ret ?_
        rw [show (.tuple #[ptv (liftP l), .bool (liftB l)] : Value) = .tuple #[pv (valB l) r1 false, .bool true] from by
          have hb : liftB l = true := by unfold liftB; rw [← hz1, ← hk1, ← hb2]; rfl
          obtain ⟨u2, y2, e1, e2, e3, _, _⟩ := lift_yes hb
          rw [hb, e3]
          unfold ptv
          simp only
          rw [e1, e2, ← hz1, ← hr1]]
        exact Sy.ret2 (v := pv (valB l) r1 false) (u := .bool true) rfl (.inl (Res.cell (ty' := 58) g1 1 (pcs (valB l) r1 false) _ kR kR Tryz.underlying58 rfl kR kR)) (.inl (show _ = _ by kernel_rfl))
  · have lb1 : k1 + 1 < 32 := of_decide_eq_true hb1.symm
    refine sT ?_
    refine Sy.skip ?_
    refine Sy.then_ ?_
    refine Sy.seq ?_
    refine Sy.block ?_
    refine Sy.region ?_
    refine sP (.slice (some ⟨y1.1, 0, none⟩) (k1 + 1) y1.2.1) <| sP (.int .i64 ((k1 + 1 : Nat) : Int)) <| sS (.pointer (some ⟨g0, 0 + (k1 + 1) * 1, none⟩)) (Quiet.pure (exec_atA 236 _ _ _ g0 0 _ (k1 + 1) 1 .i64 rfl rfl rfl Tryz.underlying236 kF (by omega))) <| sS (bv (l.getD (k1 + 1) 0)) (Quiet.cell 0 g0 (0 + (k1 + 1) * 1) 236 5 (l.map bv).toArray _ _ rfl kR kR Tryz.underlying5 rfl _ (key_sym hl (k := k1 + 1) (by omega) (by omega))) ?_
    refine Sy.make kR 5 #[bv (l.getD (k1 + 1) 0)] (fun g => .slice (some ⟨g, 0, none⟩) 1 1) kF (fun g5 => ?_)
    refine Sy.append kR 27 5 _ _ Tryz.underlying27 info_u8 rfl rfl rfl rfl _ _ rfl 2 y1.1 (k1 + 1) y1.2.1 ((l.take k1).map bv ++ ([bv (l.getD k1 0)] ++ y1.2.2)).toArray ((l.take (k1 + 1)).map bv) kR kR (apd_take l k1 hl y1.2.2 (by omega)) (apd_len l k1 hl (by omega)) (apd_size l k1 hl y1.2.2 hh1.1 (by omega)) hh1.2 3 g5 0 1 1 5 #[bv (l.getD (k1 + 1) 0)] [bv (l.getD (k1 + 1) 0)] kR kR kR rfl (by intro u hu; simp only [List.mem_cons, List.not_mem_nil, or_false] at hu; subst hu; rfl) (by omega) (fun q2 c2 s2 e2 m2 => ?_)
    refine sP (.slice (some ⟨q2, 0, none⟩) (k1 + 1 + 1) c2) ?_
    refine Sy.nil ?_
    refine Sy.in_ ?_
    refine Sy.then_ ?_
    refine Sy.region ?_
    refine sP (.int .i64 ((k1 + 1 : Nat) : Int)) <| sS (.int .i64 (((k1 + 1) + 1 : Nat) : Int)) (Quiet.pure (exec_int .add _ _ _ .i64 _ _ _ rfl rfl rfl (int_add _ _ _ _ _ ((wrap_i64 (by omega) (by omega)).trans (by omega))))) <| sP (.int .i64 (((k1 + 1) + 1 : Nat) : Int)) ?_
    refine Sy.nil ?_
    exact Sy.againX ((q2, c2, s2)) [true, true, true, false] (by omega) (⟨e2, m2⟩) (all_cons kR (all_cons kR (all_cons kR (all_cons kR all_nil)))) kR
end Go.Proofs.YtgemfpnlnipfnaaGreat.Cu

end
section
namespace Go.Proofs.YtgemfpnlnipfnaaGreat.Cu
open Go.RowKit Go.Proofs.YtgemfpnlnipfnaaGreat Go.Proofs.YtgemfpnlnipfnaaGreat.Sy
set_option maxRecDepth 100000
set_option maxHeartbeats 4000000

def pwr (x y : Nat) (i : Bool) : List Value := fws x ++ (fws y ++ [Value.bool i])
section
variable {P : Program} {w0 : Base} {F : Slots} {L : Blocks} {o : Oper}
theorem Quiet.read {v : Value} (h : ∀ w, St w0 w L → (execOp (evF F) o).run P w = .ok (.value v) w) : Quiet P w0 F L o v := fun w hw => by
  unfold Gives; rw [h w hw]; exact ⟨rfl, Gr.refl _⟩
end
theorem str_of {w : World} {A : Option Addr} {m : List UInt8} {c : Nat} (h : Src w A m) (hm : m ≠ []) :
    (convert 27 9 (.slice A m.length c)).run Tryz.prog w = .ok (.string ⟨m.toArray⟩) w := by
  obtain ⟨b, o, rfl, _, hc⟩ := h hm
  refine run_convert_bytes_back w 27 9 5 _ c m Tryz.underlying27 Tryz.underlying5 Tryz.underlying9 (fun j hj => ?_)
  rw [addr_off]
  exact hc j _ (List.getElem?_eq_getElem hj)
theorem str_src {w0 : Base} {F : Slots} {L : Blocks} {o : Oper} (A : Option Addr) (m : List UInt8) (k c : Nat) (x : Operand) (ho : o.op = .convert 27 9 x) (hx : evF F x = .slice A k c) (hm : m.length = k) (hk : k ≠ 0) (hs : Src w0.world A m) : Quiet Tryz.prog w0 F L o (.string ⟨m.toArray⟩) := Quiet.read fun w hw => by
  have h := str_of (c := c) (hs.below hw.below) (by intro e; rw [e] at hm; exact hk hm.symm)
  rw [hm] at h
  unfold execOp
  simp only [ho, hx, Sem.run_bind, h, Result.andThen_ok, Sem.run_pure]
theorem str_own {w0 : Base} {F : Slots} {L : Blocks} {o : Oper} (i g : Nat) (t : TypeId) (m : List UInt8) (sp : List Value) (k c : Nat) (x : Operand) (ho : o.op = .convert 27 9 x) (hx : evF F x = .slice (some ⟨g, 0, none⟩) k c) (hL : L[i]? = some (g, t, (m.map bv ++ sp).toArray)) (hm : m.length = k) (hk : k ≠ 0) : Quiet Tryz.prog w0 F L o (.string ⟨m.toArray⟩) := Quiet.read fun w hw => by
  have hb := hw.get hL
  have hs : Src w (some ⟨g, 0, none⟩) m := fun _ => ⟨g, 0, rfl, hb.lt, fun j u hj => by
    rw [Nat.zero_add]
    refine (hb.cell j).trans ?_
    have hl := (List.getElem?_eq_some_iff.1 hj).1
    rw [List.getElem?_toArray, List.getElem?_append_left (by rw [List.length_map]; exact hl), List.getElem?_map, hj]
    rfl⟩
  have h := str_of (c := c) hs (by intro e; rw [e] at hm; exact hk hm.symm)
  rw [hm] at h
  unfold execOp
  simp only [ho, hx, Sem.run_bind, h, Result.andThen_ok, Sem.run_pure]
theorem eql_str (w : World) (F : Slots) (o : Oper) (x y : Operand) (a b : List UInt8) {yt : TypeId} (ho : o.op = .binOp .eql 9 x y yt) (hx : evF F x = .string ⟨a.toArray⟩) (hy : evF F y = .string ⟨b.toArray⟩) : (execOp (evF F) o).run Tryz.prog w = .ok (.value (.bool (decide (a = b)))) w := by
  have h1 : (eqGuard .eql 9 x y (.string ⟨a.toArray⟩) (.string ⟨b.toArray⟩)).run Tryz.prog w = .ok () w := by go_simp
  have h2 : (binOp .eql 9 (.string ⟨a.toArray⟩) (.string ⟨b.toArray⟩)).run Tryz.prog w = .ok (.bool (decide (a = b))) w := by
    by_cases e : a = b <;> simp [go_sem, ByteArray.toList_eq, e]
  unfold execOp
  simp only [ho, hx, hy, Sem.run_bind, h1, h2, Result.andThen_ok, Sem.run_pure]
theorem cand_or (b : UInt8) (t : List UInt8) : candS (b :: t) = Ec.neg (liftP t) ∨ candS (b :: t) = liftP t := by
  unfold candS
  split
  · exact .inl rfl
  · exact .inr rfl
theorem decR_len (w : World) (A : Option Addr) (n c : Nat) (hn : n ≠ 33) : Calls Tryz.prog 223 #[.slice A n c] w (Gets w (.tuple #[pv 0 0 true, .bool false])) := by
  refine Sy.enter (args := [.slice A n c]) Tryz.func223 rfl kL ?_
  refine sC ?_
  refine sM 58 (pcs 0 0 false) (fun g0 => ?_)
  refine sP (.bool false) ?_
  refine sG ?_
  refine Sy.seq ?_
  refine sC ?_
  refine sP (.slice A n c) <| sP (.int .i64 (n : Int)) <| sS (.bool true) (Quiet.pure (fun w => neq_len w _ _ _ _ n hn rfl rfl rfl)) ?_
  refine sG ?_
  refine sT ?_
  refine sC ?_
  refine sS (pv 0 0 true) (qF 258 #[] (zeroR_c)) <| sW 0 g0 58 (pcs 0 0 false) (pcs 0 0 true) (wS 0 58 (pcs 0 0 true) rfl) <| sP (.bool false) ?_
  refine sG ?_
  refine Sy.ret ?_
  refine Sy.then_ret ?_
  exact Sy.ret2 (v := pv 0 0 true) (u := .bool false) rfl (.inl (Res.cell (ty' := 58) g0 0 (pcs 0 0 true) _ kR kR Tryz.underlying58 rfl kR kR)) (.inl (show _ = _ by kernel_rfl))
theorem decR_33 (w : World) (ga oa cb : Nat) (o0 o1 o2 o3 o4 o5 o6 o7 o8 o9 o10 o11 o12 o13 o14 o15 o16 o17 o18 o19 o20 o21 o22 o23 o24 o25 o26 o27 o28 o29 o30 o31 o32 : UInt8) (hs : SrcL w ga oa (o0 :: o1 :: o2 :: [o3, o4, o5, o6, o7, o8, o9, o10, o11, o12, o13, o14, o15, o16, o17, o18, o19, o20, o21, o22, o23, o24, o25, o26, o27, o28, o29, o30, o31, o32])) (hsr : Src w (some ⟨ga, oa, none⟩) (o0 :: o1 :: o2 :: [o3, o4, o5, o6, o7, o8, o9, o10, o11, o12, o13, o14, o15, o16, o17, o18, o19, o20, o21, o22, o23, o24, o25, o26, o27, o28, o29, o30, o31, o32])) (hcap : 33 ≤ cb) : Calls Tryz.prog 223 #[.slice (some ⟨ga, oa, none⟩) 33 cb] w (Gets w (.tuple #[ptv (decP (o0 :: o1 :: o2 :: [o3, o4, o5, o6, o7, o8, o9, o10, o11, o12, o13, o14, o15, o16, o17, o18, o19, o20, o21, o22, o23, o24, o25, o26, o27, o28, o29, o30, o31, o32])), .bool (decOk (o0 :: o1 :: o2 :: [o3, o4, o5, o6, o7, o8, o9, o10, o11, o12, o13, o14, o15, o16, o17, o18, o19, o20, o21, o22, o23, o24, o25, o26, o27, o28, o29, o30, o31, o32]))])) := by
  have hl : List.length ((o1 :: o2 :: [o3, o4, o5, o6, o7, o8, o9, o10, o11, o12, o13, o14, o15, o16, o17, o18, o19, o20, o21, o22, o23, o24, o25, o26, o27, o28, o29, o30, o31, o32]) : List UInt8) = 32 := rfl
  obtain ⟨tl, htl⟩ : ∃ t : List UInt8, t = (o1 :: o2 :: [o3, o4, o5, o6, o7, o8, o9, o10, o11, o12, o13, o14, o15, o16, o17, o18, o19, o20, o21, o22, o23, o24, o25, o26, o27, o28, o29, o30, o31, o32]) := ⟨_, rfl⟩
  obtain ⟨px, py, pi, lpx, lpy, ep, dp, rp⟩ := ptv_raw (liftP tl) (liftP_on tl)
  obtain ⟨nx, ny, ni, lnx, lny, en, dn, rn⟩ := ptv_raw (Ec.neg (liftP tl)) (Ec.On.neg (liftP_on tl))
  obtain ⟨kb, hkb⟩ : ∃ k, k = liftB tl := ⟨_, rfl⟩
  have cL : ∀ w, Calls Tryz.prog 263 #[.agg ((o1 :: o2 :: [o3, o4, o5, o6, o7, o8, o9, o10, o11, o12, o13, o14, o15, o16, o17, o18, o19, o20, o21, o22, o23, o24, o25, o26, o27, o28, o29, o30, o31, o32]).map bv).toArray] w (Gets w (.tuple #[pv px py pi, .bool kb])) := fun w => by
    have h := liftR_any w _ hl
    rw [← htl, ep, ← hkb] at h
    rw [← htl]
    exact h
  have cN : ∀ w, Calls Tryz.prog 264 #[pv px py pi] w (Gets w (pv nx ny ni)) := fun w => by
    have h := negRe_any w px py pi lpx lpy
    rw [dp, en] at h
    exact h
  have cE0 : ∀ w, Calls Tryz.prog 222 #[pv 0 0 true] w (GetsN w (fun vq Mq => ∃ (g : Nat) (sp : List Value) (cap : Nat), vq = .slice (some ⟨g, 0, none⟩) 33 cap ∧ Mq = [(g, 5, ((encS none).map bv ++ sp).toArray)])) := fun w => by
    have h := encR_any w 0 0 true (by decide) (by decide)
    rw [dec_zero] at h
    exact h
  have cE1 : ∀ w, Calls Tryz.prog 222 #[pv px py pi] w (GetsN w (fun vq Mq => ∃ (g : Nat) (sp : List Value) (cap : Nat), vq = .slice (some ⟨g, 0, none⟩) 33 cap ∧ Mq = [(g, 5, ((encS (liftP tl)).map bv ++ sp).toArray)])) := fun w => by
    have h := encR_any w px py pi lpx lpy
    rw [dp] at h
    exact h
  have cE2 : ∀ w, Calls Tryz.prog 222 #[pv nx ny ni] w (GetsN w (fun vq Mq => ∃ (g : Nat) (sp : List Value) (cap : Nat), vq = .slice (some ⟨g, 0, none⟩) 33 cap ∧ Mq = [(g, 5, ((encS (Ec.neg (liftP tl))).map bv ++ sp).toArray)])) := fun w => by
    have h := encR_any w nx ny ni lnx lny
    rw [dn] at h
    exact h
  refine Sy.enter (args := [.slice (some ⟨ga, oa, none⟩) 33 cb]) Tryz.func223 rfl kL ?_
  refine sC ?_
  refine sM 58 (pcs 0 0 false) (fun g0 => ?_)
  refine sP (.bool false) ?_
  refine sG ?_
  refine Sy.seq ?_
  refine sC ?_
  refine sP (.slice (some ⟨ga, oa, none⟩) 33 cb) <| sP (.int .i64 33) <| sP (.bool false) ?_
  refine sG ?_
  refine sU ?_
  refine Sy.skip ?_
  refine sB ?_
  refine sM 236 (.int .u8 0 :: .int .u8 0 :: [.int .u8 0, .int .u8 0, .int .u8 0, .int .u8 0, .int .u8 0, .int .u8 0, .int .u8 0, .int .u8 0, .int .u8 0, .int .u8 0, .int .u8 0, .int .u8 0, .int .u8 0, .int .u8 0, .int .u8 0, .int .u8 0, .int .u8 0, .int .u8 0, .int .u8 0, .int .u8 0, .int .u8 0, .int .u8 0, .int .u8 0, .int .u8 0, .int .u8 0, .int .u8 0, .int .u8 0, .int .u8 0, .int .u8 0, .int .u8 0]).toArray (fun g1 => ?_)
  refine sG ?_
  refine Sy.seq ?_
  refine sC ?_
  refine sP (.int .i64 0) ?_
  refine sG ?_
  refine Sy.block ?_
  refine Sy.loopN 33 ?_
  refine Sy.tidyR (G := [(0, .slice (some ⟨ga, oa, none⟩) 33 cb), (2, .pointer (some ⟨g0, 0, none⟩)), (4, .pointer (some ⟨g1, 0, none⟩)), (5, .int .i64 0)]) (M := [(g0, 58, (pcs 0 0 false)), (g1, 236, (.int .u8 0 :: .int .u8 0 :: [.int .u8 0, .int .u8 0, .int .u8 0, .int .u8 0, .int .u8 0, .int .u8 0, .int .u8 0, .int .u8 0, .int .u8 0, .int .u8 0, .int .u8 0, .int .u8 0, .int .u8 0, .int .u8 0, .int .u8 0, .int .u8 0, .int .u8 0, .int .u8 0, .int .u8 0, .int .u8 0, .int .u8 0, .int .u8 0, .int .u8 0, .int .u8 0, .int .u8 0, .int .u8 0, .int .u8 0, .int .u8 0, .int .u8 0, .int .u8 0]).toArray)]) [true, true] kR (all_cons kR (all_cons kR (all_cons kR (all_cons kR all_nil)))) ?_
  refine Sy.round ?_
  refine Sy.seq ?_
  refine sC ?_
  refine sP (.int .i64 0) <| sP (.bool true) ?_
  refine sG ?_
  refine sT ?_
  refine Sy.skip ?_
  refine Sy.then_ ?_
  refine Sy.seq ?_
  refine Sy.block ?_
  refine Sy.region ?_
  refine sP (.int .i64 0) <| sP (.slice (some ⟨ga, oa, none⟩) 33 cb) <| sP (.int .i64 0) <| sP (.int .i64 1) <| sS (.pointer (some ⟨ga, oa + 1, none⟩)) (Quiet.pure (fun w => exec_index 27 _ _ ga (oa) 33 (cb) 1 rfl kR kR kR kF (by decide) w)) <| sS (bv o1) (Quiet.thereOne ga (oa + 1) 5 _ _ rfl kR hs.1 _ (src_one hs 1 _ kR) Tryz.underlying5 rfl) <| sP (.pointer (some ⟨g1, 0, none⟩)) <| sW 1 g1 236 (.int .u8 0 :: .int .u8 0 :: [.int .u8 0, .int .u8 0, .int .u8 0, .int .u8 0, .int .u8 0, .int .u8 0, .int .u8 0, .int .u8 0, .int .u8 0, .int .u8 0, .int .u8 0, .int .u8 0, .int .u8 0, .int .u8 0, .int .u8 0, .int .u8 0, .int .u8 0, .int .u8 0, .int .u8 0, .int .u8 0, .int .u8 0, .int .u8 0, .int .u8 0, .int .u8 0, .int .u8 0, .int .u8 0, .int .u8 0, .int .u8 0, .int .u8 0, .int .u8 0]).toArray (bv o1 :: .int .u8 0 :: [.int .u8 0, .int .u8 0, .int .u8 0, .int .u8 0, .int .u8 0, .int .u8 0, .int .u8 0, .int .u8 0, .int .u8 0, .int .u8 0, .int .u8 0, .int .u8 0, .int .u8 0, .int .u8 0, .int .u8 0, .int .u8 0, .int .u8 0, .int .u8 0, .int .u8 0, .int .u8 0, .int .u8 0, .int .u8 0, .int .u8 0, .int .u8 0, .int .u8 0, .int .u8 0, .int .u8 0, .int .u8 0, .int .u8 0, .int .u8 0]).toArray (wO 0 5 (bv o1) rfl) ?_
  refine Sy.nil ?_
  refine Sy.in_ ?_
  refine Sy.then_ ?_
  refine Sy.region ?_
  refine sP (.int .i64 0) <| sP (.int .i64 1) <| sP (.int .i64 1) ?_
  refine Sy.nil ?_
  refine Sy.again ?_
  refine Sy.tidyR (G := [(0, .slice (some ⟨ga, oa, none⟩) 33 cb), (2, .pointer (some ⟨g0, 0, none⟩)), (4, .pointer (some ⟨g1, 0, none⟩)), (5, .int .i64 1)]) (M := [(g0, 58, (pcs 0 0 false)), (g1, 236, (bv o1 :: .int .u8 0 :: [.int .u8 0, .int .u8 0, .int .u8 0, .int .u8 0, .int .u8 0, .int .u8 0, .int .u8 0, .int .u8 0, .int .u8 0, .int .u8 0, .int .u8 0, .int .u8 0, .int .u8 0, .int .u8 0, .int .u8 0, .int .u8 0, .int .u8 0, .int .u8 0, .int .u8 0, .int .u8 0, .int .u8 0, .int .u8 0, .int .u8 0, .int .u8 0, .int .u8 0, .int .u8 0, .int .u8 0, .int .u8 0, .int .u8 0, .int .u8 0]).toArray)]) [true, true] kR (all_cons kR (all_cons kR (all_cons kR (all_cons kR all_nil)))) ?_
  refine Sy.round ?_
  refine Sy.seq ?_
  refine sC ?_
  refine sP (.int .i64 1) <| sP (.bool true) ?_
  refine sG ?_
  refine sT ?_
  refine Sy.skip ?_
  refine Sy.then_ ?_
  refine Sy.seq ?_
  refine Sy.block ?_
  refine Sy.region ?_
  refine sP (.int .i64 1) <| sP (.slice (some ⟨ga, oa, none⟩) 33 cb) <| sP (.int .i64 1) <| sP (.int .i64 2) <| sS (.pointer (some ⟨ga, oa + 2, none⟩)) (Quiet.pure (fun w => exec_index 27 _ _ ga (oa) 33 (cb) 2 rfl kR kR kR kF (by decide) w)) <| sS (bv o2) (Quiet.thereOne ga (oa + 2) 5 _ _ rfl kR hs.1 _ (src_one hs 2 _ kR) Tryz.underlying5 rfl) <| sP (.pointer (some ⟨g1, 1, none⟩)) <| sW 1 g1 236 (bv o1 :: .int .u8 0 :: [.int .u8 0, .int .u8 0, .int .u8 0, .int .u8 0, .int .u8 0, .int .u8 0, .int .u8 0, .int .u8 0, .int .u8 0, .int .u8 0, .int .u8 0, .int .u8 0, .int .u8 0, .int .u8 0, .int .u8 0, .int .u8 0, .int .u8 0, .int .u8 0, .int .u8 0, .int .u8 0, .int .u8 0, .int .u8 0, .int .u8 0, .int .u8 0, .int .u8 0, .int .u8 0, .int .u8 0, .int .u8 0, .int .u8 0, .int .u8 0]).toArray (bv o1 :: bv o2 :: [.int .u8 0, .int .u8 0, .int .u8 0, .int .u8 0, .int .u8 0, .int .u8 0, .int .u8 0, .int .u8 0, .int .u8 0, .int .u8 0, .int .u8 0, .int .u8 0, .int .u8 0, .int .u8 0, .int .u8 0, .int .u8 0, .int .u8 0, .int .u8 0, .int .u8 0, .int .u8 0, .int .u8 0, .int .u8 0, .int .u8 0, .int .u8 0, .int .u8 0, .int .u8 0, .int .u8 0, .int .u8 0, .int .u8 0, .int .u8 0]).toArray (wO 1 5 (bv o2) rfl) ?_
  refine Sy.nil ?_
  refine Sy.in_ ?_
  refine Sy.then_ ?_
  refine Sy.region ?_
  refine sP (.int .i64 1) <| sP (.int .i64 2) <| sP (.int .i64 2) ?_
  refine Sy.nil ?_
  refine Sy.again ?_
  refine Sy.tidyR (G := [(0, .slice (some ⟨ga, oa, none⟩) 33 cb), (2, .pointer (some ⟨g0, 0, none⟩)), (4, .pointer (some ⟨g1, 0, none⟩)), (5, .int .i64 2)]) (M := [(g0, 58, (pcs 0 0 false)), (g1, 236, (bv o1 :: bv o2 :: [.int .u8 0, .int .u8 0, .int .u8 0, .int .u8 0, .int .u8 0, .int .u8 0, .int .u8 0, .int .u8 0, .int .u8 0, .int .u8 0, .int .u8 0, .int .u8 0, .int .u8 0, .int .u8 0, .int .u8 0, .int .u8 0, .int .u8 0, .int .u8 0, .int .u8 0, .int .u8 0, .int .u8 0, .int .u8 0, .int .u8 0, .int .u8 0, .int .u8 0, .int .u8 0, .int .u8 0, .int .u8 0, .int .u8 0, .int .u8 0]).toArray)]) [true, true] kR (all_cons kR (all_cons kR (all_cons kR (all_cons kR all_nil)))) ?_
  refine Sy.round ?_
  refine Sy.seq ?_
  refine sC ?_
  refine sP (.int .i64 2) <| sP (.bool true) ?_
  refine sG ?_
  refine sT ?_
  refine Sy.skip ?_
  refine Sy.then_ ?_
  refine Sy.seq ?_
  refine Sy.block ?_
  refine Sy.region ?_
  refine sP (.int .i64 2) <| sP (.slice (some ⟨ga, oa, none⟩) 33 cb) <| sP (.int .i64 2) <| sP (.int .i64 3) <| sS (.pointer (some ⟨ga, oa + 3, none⟩)) (Quiet.pure (fun w => exec_index 27 _ _ ga (oa) 33 (cb) 3 rfl kR kR kR kF (by decide) w)) <| sS (bv o3) (Quiet.thereOne ga (oa + 3) 5 _ _ rfl kR hs.1 _ (src_one hs 3 _ kR) Tryz.underlying5 rfl) <| sP (.pointer (some ⟨g1, 2, none⟩)) <| sW 1 g1 236 (bv o1 :: bv o2 :: [.int .u8 0, .int .u8 0, .int .u8 0, .int .u8 0, .int .u8 0, .int .u8 0, .int .u8 0, .int .u8 0, .int .u8 0, .int .u8 0, .int .u8 0, .int .u8 0, .int .u8 0, .int .u8 0, .int .u8 0, .int .u8 0, .int .u8 0, .int .u8 0, .int .u8 0, .int .u8 0, .int .u8 0, .int .u8 0, .int .u8 0, .int .u8 0, .int .u8 0, .int .u8 0, .int .u8 0, .int .u8 0, .int .u8 0, .int .u8 0]).toArray (bv o1 :: bv o2 :: [bv o3, .int .u8 0, .int .u8 0, .int .u8 0, .int .u8 0, .int .u8 0, .int .u8 0, .int .u8 0, .int .u8 0, .int .u8 0, .int .u8 0, .int .u8 0, .int .u8 0, .int .u8 0, .int .u8 0, .int .u8 0, .int .u8 0, .int .u8 0, .int .u8 0, .int .u8 0, .int .u8 0, .int .u8 0, .int .u8 0, .int .u8 0, .int .u8 0, .int .u8 0, .int .u8 0, .int .u8 0, .int .u8 0, .int .u8 0]).toArray (wO 2 5 (bv o3) rfl) ?_
  refine Sy.nil ?_
  refine Sy.in_ ?_
  refine Sy.then_ ?_
  refine Sy.region ?_
  refine sP (.int .i64 2) <| sP (.int .i64 3) <| sP (.int .i64 3) ?_
  refine Sy.nil ?_
  refine Sy.again ?_
  refine Sy.tidyR (G := [(0, .slice (some ⟨ga, oa, none⟩) 33 cb), (2, .pointer (some ⟨g0, 0, none⟩)), (4, .pointer (some ⟨g1, 0, none⟩)), (5, .int .i64 3)]) (M := [(g0, 58, (pcs 0 0 false)), (g1, 236, (bv o1 :: bv o2 :: [bv o3, .int .u8 0, .int .u8 0, .int .u8 0, .int .u8 0, .int .u8 0, .int .u8 0, .int .u8 0, .int .u8 0, .int .u8 0, .int .u8 0, .int .u8 0, .int .u8 0, .int .u8 0, .int .u8 0, .int .u8 0, .int .u8 0, .int .u8 0, .int .u8 0, .int .u8 0, .int .u8 0, .int .u8 0, .int .u8 0, .int .u8 0, .int .u8 0, .int .u8 0, .int .u8 0, .int .u8 0, .int .u8 0, .int .u8 0]).toArray)]) [true, true] kR (all_cons kR (all_cons kR (all_cons kR (all_cons kR all_nil)))) ?_
  refine Sy.round ?_
  refine Sy.seq ?_
  refine sC ?_
  refine sP (.int .i64 3) <| sP (.bool true) ?_
  refine sG ?_
  refine sT ?_
  refine Sy.skip ?_
  refine Sy.then_ ?_
  refine Sy.seq ?_
  refine Sy.block ?_
  refine Sy.region ?_
  refine sP (.int .i64 3) <| sP (.slice (some ⟨ga, oa, none⟩) 33 cb) <| sP (.int .i64 3) <| sP (.int .i64 4) <| sS (.pointer (some ⟨ga, oa + 4, none⟩)) (Quiet.pure (fun w => exec_index 27 _ _ ga (oa) 33 (cb) 4 rfl kR kR kR kF (by decide) w)) <| sS (bv o4) (Quiet.thereOne ga (oa + 4) 5 _ _ rfl kR hs.1 _ (src_one hs 4 _ kR) Tryz.underlying5 rfl) <| sP (.pointer (some ⟨g1, 3, none⟩)) <| sW 1 g1 236 (bv o1 :: bv o2 :: [bv o3, .int .u8 0, .int .u8 0, .int .u8 0, .int .u8 0, .int .u8 0, .int .u8 0, .int .u8 0, .int .u8 0, .int .u8 0, .int .u8 0, .int .u8 0, .int .u8 0, .int .u8 0, .int .u8 0, .int .u8 0, .int .u8 0, .int .u8 0, .int .u8 0, .int .u8 0, .int .u8 0, .int .u8 0, .int .u8 0, .int .u8 0, .int .u8 0, .int .u8 0, .int .u8 0, .int .u8 0, .int .u8 0, .int .u8 0]).toArray (bv o1 :: bv o2 :: [bv o3, bv o4, .int .u8 0, .int .u8 0, .int .u8 0, .int .u8 0, .int .u8 0, .int .u8 0, .int .u8 0, .int .u8 0, .int .u8 0, .int .u8 0, .int .u8 0, .int .u8 0, .int .u8 0, .int .u8 0, .int .u8 0, .int .u8 0, .int .u8 0, .int .u8 0, .int .u8 0, .int .u8 0, .int .u8 0, .int .u8 0, .int .u8 0, .int .u8 0, .int .u8 0, .int .u8 0, .int .u8 0, .int .u8 0]).toArray (wO 3 5 (bv o4) rfl) ?_
  refine Sy.nil ?_
  refine Sy.in_ ?_
  refine Sy.then_ ?_
  refine Sy.region ?_
  refine sP (.int .i64 3) <| sP (.int .i64 4) <| sP (.int .i64 4) ?_
  refine Sy.nil ?_
  refine Sy.again ?_
  refine Sy.tidyR (G := [(0, .slice (some ⟨ga, oa, none⟩) 33 cb), (2, .pointer (some ⟨g0, 0, none⟩)), (4, .pointer (some ⟨g1, 0, none⟩)), (5, .int .i64 4)]) (M := [(g0, 58, (pcs 0 0 false)), (g1, 236, (bv o1 :: bv o2 :: [bv o3, bv o4, .int .u8 0, .int .u8 0, .int .u8 0, .int .u8 0, .int .u8 0, .int .u8 0, .int .u8 0, .int .u8 0, .int .u8 0, .int .u8 0, .int .u8 0, .int .u8 0, .int .u8 0, .int .u8 0, .int .u8 0, .int .u8 0, .int .u8 0, .int .u8 0, .int .u8 0, .int .u8 0, .int .u8 0, .int .u8 0, .int .u8 0, .int .u8 0, .int .u8 0, .int .u8 0, .int .u8 0, .int .u8 0]).toArray)]) [true, true] kR (all_cons kR (all_cons kR (all_cons kR (all_cons kR all_nil)))) ?_
  refine Sy.round ?_
  refine Sy.seq ?_
  refine sC ?_
  refine sP (.int .i64 4) <| sP (.bool true) ?_
  refine sG ?_
  refine sT ?_
  refine Sy.skip ?_
  refine Sy.then_ ?_
  refine Sy.seq ?_
  refine Sy.block ?_
  refine Sy.region ?_
  refine sP (.int .i64 4) <| sP (.slice (some ⟨ga, oa, none⟩) 33 cb) <| sP (.int .i64 4) <| sP (.int .i64 5) <| sS (.pointer (some ⟨ga, oa + 5, none⟩)) (Quiet.pure (fun w => exec_index 27 _ _ ga (oa) 33 (cb) 5 rfl kR kR kR kF (by decide) w)) <| sS (bv o5) (Quiet.thereOne ga (oa + 5) 5 _ _ rfl kR hs.1 _ (src_one hs 5 _ kR) Tryz.underlying5 rfl) <| sP (.pointer (some ⟨g1, 4, none⟩)) <| sW 1 g1 236 (bv o1 :: bv o2 :: [bv o3, bv o4, .int .u8 0, .int .u8 0, .int .u8 0, .int .u8 0, .int .u8 0, .int .u8 0, .int .u8 0, .int .u8 0, .int .u8 0, .int .u8 0, .int .u8 0, .int .u8 0, .int .u8 0, .int .u8 0, .int .u8 0, .int .u8 0, .int .u8 0, .int .u8 0, .int .u8 0, .int .u8 0, .int .u8 0, .int .u8 0, .int .u8 0, .int .u8 0, .int .u8 0, .int .u8 0, .int .u8 0, .int .u8 0]).toArray (bv o1 :: bv o2 :: [bv o3, bv o4, bv o5, .int .u8 0, .int .u8 0, .int .u8 0, .int .u8 0, .int .u8 0, .int .u8 0, .int .u8 0, .int .u8 0, .int .u8 0, .int .u8 0, .int .u8 0, .int .u8 0, .int .u8 0, .int .u8 0, .int .u8 0, .int .u8 0, .int .u8 0, .int .u8 0, .int .u8 0, .int .u8 0, .int .u8 0, .int .u8 0, .int .u8 0, .int .u8 0, .int .u8 0, .int .u8 0, .int .u8 0]).toArray (wO 4 5 (bv o5) rfl) ?_
  refine Sy.nil ?_
  refine Sy.in_ ?_
  refine Sy.then_ ?_
  refine Sy.region ?_
  refine sP (.int .i64 4) <| sP (.int .i64 5) <| sP (.int .i64 5) ?_
  refine Sy.nil ?_
  refine Sy.again ?_
  refine Sy.tidyR (G := [(0, .slice (some ⟨ga, oa, none⟩) 33 cb), (2, .pointer (some ⟨g0, 0, none⟩)), (4, .pointer (some ⟨g1, 0, none⟩)), (5, .int .i64 5)]) (M := [(g0, 58, (pcs 0 0 false)), (g1, 236, (bv o1 :: bv o2 :: [bv o3, bv o4, bv o5, .int .u8 0, .int .u8 0, .int .u8 0, .int .u8 0, .int .u8 0, .int .u8 0, .int .u8 0, .int .u8 0, .int .u8 0, .int .u8 0, .int .u8 0, .int .u8 0, .int .u8 0, .int .u8 0, .int .u8 0, .int .u8 0, .int .u8 0, .int .u8 0, .int .u8 0, .int .u8 0, .int .u8 0, .int .u8 0, .int .u8 0, .int .u8 0, .int .u8 0, .int .u8 0, .int .u8 0]).toArray)]) [true, true] kR (all_cons kR (all_cons kR (all_cons kR (all_cons kR all_nil)))) ?_
  refine Sy.round ?_
  refine Sy.seq ?_
  refine sC ?_
  refine sP (.int .i64 5) <| sP (.bool true) ?_
  refine sG ?_
  refine sT ?_
  refine Sy.skip ?_
  refine Sy.then_ ?_
  refine Sy.seq ?_
  refine Sy.block ?_
  refine Sy.region ?_
  refine sP (.int .i64 5) <| sP (.slice (some ⟨ga, oa, none⟩) 33 cb) <| sP (.int .i64 5) <| sP (.int .i64 6) <| sS (.pointer (some ⟨ga, oa + 6, none⟩)) (Quiet.pure (fun w => exec_index 27 _ _ ga (oa) 33 (cb) 6 rfl kR kR kR kF (by decide) w)) <| sS (bv o6) (Quiet.thereOne ga (oa + 6) 5 _ _ rfl kR hs.1 _ (src_one hs 6 _ kR) Tryz.underlying5 rfl) <| sP (.pointer (some ⟨g1, 5, none⟩)) <| sW 1 g1 236 (bv o1 :: bv o2 :: [bv o3, bv o4, bv o5, .int .u8 0, .int .u8 0, .int .u8 0, .int .u8 0, .int .u8 0, .int .u8 0, .int .u8 0, .int .u8 0, .int .u8 0, .int .u8 0, .int .u8 0, .int .u8 0, .int .u8 0, .int .u8 0, .int .u8 0, .int .u8 0, .int .u8 0, .int .u8 0, .int .u8 0, .int .u8 0, .int .u8 0, .int .u8 0, .int .u8 0, .int .u8 0, .int .u8 0, .int .u8 0, .int .u8 0]).toArray (bv o1 :: bv o2 :: [bv o3, bv o4, bv o5, bv o6, .int .u8 0, .int .u8 0, .int .u8 0, .int .u8 0, .int .u8 0, .int .u8 0, .int .u8 0, .int .u8 0, .int .u8 0, .int .u8 0, .int .u8 0, .int .u8 0, .int .u8 0, .int .u8 0, .int .u8 0, .int .u8 0, .int .u8 0, .int .u8 0, .int .u8 0, .int .u8 0, .int .u8 0, .int .u8 0, .int .u8 0, .int .u8 0, .int .u8 0, .int .u8 0]).toArray (wO 5 5 (bv o6) rfl) ?_
  refine Sy.nil ?_
  refine Sy.in_ ?_
  refine Sy.then_ ?_
  refine Sy.region ?_
  refine sP (.int .i64 5) <| sP (.int .i64 6) <| sP (.int .i64 6) ?_
  refine Sy.nil ?_
  refine Sy.again ?_
  refine Sy.tidyR (G := [(0, .slice (some ⟨ga, oa, none⟩) 33 cb), (2, .pointer (some ⟨g0, 0, none⟩)), (4, .pointer (some ⟨g1, 0, none⟩)), (5, .int .i64 6)]) (M := [(g0, 58, (pcs 0 0 false)), (g1, 236, (bv o1 :: bv o2 :: [bv o3, bv o4, bv o5, bv o6, .int .u8 0, .int .u8 0, .int .u8 0, .int .u8 0, .int .u8 0, .int .u8 0, .int .u8 0, .int .u8 0, .int .u8 0, .int .u8 0, .int .u8 0, .int .u8 0, .int .u8 0, .int .u8 0, .int .u8 0, .int .u8 0, .int .u8 0, .int .u8 0, .int .u8 0, .int .u8 0, .int .u8 0, .int .u8 0, .int .u8 0, .int .u8 0, .int .u8 0, .int .u8 0]).toArray)]) [true, true] kR (all_cons kR (all_cons kR (all_cons kR (all_cons kR all_nil)))) ?_
  refine Sy.round ?_
  refine Sy.seq ?_
  refine sC ?_
  refine sP (.int .i64 6) <| sP (.bool true) ?_
  refine sG ?_
  refine sT ?_
  refine Sy.skip ?_
  refine Sy.then_ ?_
  refine Sy.seq ?_
  refine Sy.block ?_
  refine Sy.region ?_
  refine sP (.int .i64 6) <| sP (.slice (some ⟨ga, oa, none⟩) 33 cb) <| sP (.int .i64 6) <| sP (.int .i64 7) <| sS (.pointer (some ⟨ga, oa + 7, none⟩)) (Quiet.pure (fun w => exec_index 27 _ _ ga (oa) 33 (cb) 7 rfl kR kR kR kF (by decide) w)) <| sS (bv o7) (Quiet.thereOne ga (oa + 7) 5 _ _ rfl kR hs.1 _ (src_one hs 7 _ kR) Tryz.underlying5 rfl) <| sP (.pointer (some ⟨g1, 6, none⟩)) <| sW 1 g1 236 (bv o1 :: bv o2 :: [bv o3, bv o4, bv o5, bv o6, .int .u8 0, .int .u8 0, .int .u8 0, .int .u8 0, .int .u8 0, .int .u8 0, .int .u8 0, .int .u8 0, .int .u8 0, .int .u8 0, .int .u8 0, .int .u8 0, .int .u8 0, .int .u8 0, .int .u8 0, .int .u8 0, .int .u8 0, .int .u8 0, .int .u8 0, .int .u8 0, .int .u8 0, .int .u8 0, .int .u8 0, .int .u8 0, .int .u8 0, .int .u8 0]).toArray (bv o1 :: bv o2 :: [bv o3, bv o4, bv o5, bv o6, bv o7, .int .u8 0, .int .u8 0, .int .u8 0, .int .u8 0, .int .u8 0, .int .u8 0, .int .u8 0, .int .u8 0, .int .u8 0, .int .u8 0, .int .u8 0, .int .u8 0, .int .u8 0, .int .u8 0, .int .u8 0, .int .u8 0, .int .u8 0, .int .u8 0, .int .u8 0, .int .u8 0, .int .u8 0, .int .u8 0, .int .u8 0, .int .u8 0, .int .u8 0]).toArray (wO 6 5 (bv o7) rfl) ?_
  refine Sy.nil ?_
  refine Sy.in_ ?_
  refine Sy.then_ ?_
  refine Sy.region ?_
  refine sP (.int .i64 6) <| sP (.int .i64 7) <| sP (.int .i64 7) ?_
  refine Sy.nil ?_
  refine Sy.again ?_
  refine Sy.tidyR (G := [(0, .slice (some ⟨ga, oa, none⟩) 33 cb), (2, .pointer (some ⟨g0, 0, none⟩)), (4, .pointer (some ⟨g1, 0, none⟩)), (5, .int .i64 7)]) (M := [(g0, 58, (pcs 0 0 false)), (g1, 236, (bv o1 :: bv o2 :: [bv o3, bv o4, bv o5, bv o6, bv o7, .int .u8 0, .int .u8 0, .int .u8 0, .int .u8 0, .int .u8 0, .int .u8 0, .int .u8 0, .int .u8 0, .int .u8 0, .int .u8 0, .int .u8 0, .int .u8 0, .int .u8 0, .int .u8 0, .int .u8 0, .int .u8 0, .int .u8 0, .int .u8 0, .int .u8 0, .int .u8 0, .int .u8 0, .int .u8 0, .int .u8 0, .int .u8 0, .int .u8 0]).toArray)]) [true, true] kR (all_cons kR (all_cons kR (all_cons kR (all_cons kR all_nil)))) ?_
  refine Sy.round ?_
  refine Sy.seq ?_
  refine sC ?_
  refine sP (.int .i64 7) <| sP (.bool true) ?_
  refine sG ?_
  refine sT ?_
  refine Sy.skip ?_
  refine Sy.then_ ?_
  refine Sy.seq ?_
  refine Sy.block ?_
  refine Sy.region ?_
  refine sP (.int .i64 7) <| sP (.slice (some ⟨ga, oa, none⟩) 33 cb) <| sP (.int .i64 7) <| sP (.int .i64 8) <| sS (.pointer (some ⟨ga, oa + 8, none⟩)) (Quiet.pure (fun w => exec_index 27 _ _ ga (oa) 33 (cb) 8 rfl kR kR kR kF (by decide) w)) <| sS (bv o8) (Quiet.thereOne ga (oa + 8) 5 _ _ rfl kR hs.1 _ (src_one hs 8 _ kR) Tryz.underlying5 rfl) <| sP (.pointer (some ⟨g1, 7, none⟩)) <| sW 1 g1 236 (bv o1 :: bv o2 :: [bv o3, bv o4, bv o5, bv o6, bv o7, .int .u8 0, .int .u8 0, .int .u8 0, .int .u8 0, .int .u8 0, .int .u8 0, .int .u8 0, .int .u8 0, .int .u8 0, .int .u8 0, .int .u8 0, .int .u8 0, .int .u8 0, .int .u8 0, .int .u8 0, .int .u8 0, .int .u8 0, .int .u8 0, .int .u8 0, .int .u8 0, .int .u8 0, .int .u8 0, .int .u8 0, .int .u8 0, .int .u8 0]).toArray (bv o1 :: bv o2 :: [bv o3, bv o4, bv o5, bv o6, bv o7, bv o8, .int .u8 0, .int .u8 0, .int .u8 0, .int .u8 0, .int .u8 0, .int .u8 0, .int .u8 0, .int .u8 0, .int .u8 0, .int .u8 0, .int .u8 0, .int .u8 0, .int .u8 0, .int .u8 0, .int .u8 0, .int .u8 0, .int .u8 0, .int .u8 0, .int .u8 0, .int .u8 0, .int .u8 0, .int .u8 0, .int .u8 0, .int .u8 0]).toArray (wO 7 5 (bv o8) rfl) ?_
  refine Sy.nil ?_
  refine Sy.in_ ?_
  refine Sy.then_ ?_
  refine Sy.region ?_
  refine sP (.int .i64 7) <| sP (.int .i64 8) <| sP (.int .i64 8) ?_
  refine Sy.nil ?_
  refine Sy.again ?_
  refine Sy.tidyR (G := [(0, .slice (some ⟨ga, oa, none⟩) 33 cb), (2, .pointer (some ⟨g0, 0, none⟩)), (4, .pointer (some ⟨g1, 0, none⟩)), (5, .int .i64 8)]) (M := [(g0, 58, (pcs 0 0 false)), (g1, 236, (bv o1 :: bv o2 :: [bv o3, bv o4, bv o5, bv o6, bv o7, bv o8, .int .u8 0, .int .u8 0, .int .u8 0, .int .u8 0, .int .u8 0, .int .u8 0, .int .u8 0, .int .u8 0, .int .u8 0, .int .u8 0, .int .u8 0, .int .u8 0, .int .u8 0, .int .u8 0, .int .u8 0, .int .u8 0, .int .u8 0, .int .u8 0, .int .u8 0, .int .u8 0, .int .u8 0, .int .u8 0, .int .u8 0, .int .u8 0]).toArray)]) [true, true] kR (all_cons kR (all_cons kR (all_cons kR (all_cons kR all_nil)))) ?_
  refine Sy.round ?_
  refine Sy.seq ?_
  refine sC ?_
  refine sP (.int .i64 8) <| sP (.bool true) ?_
  refine sG ?_
  refine sT ?_
  refine Sy.skip ?_
  refine Sy.then_ ?_
  refine Sy.seq ?_
  refine Sy.block ?_
  refine Sy.region ?_
  refine sP (.int .i64 8) <| sP (.slice (some ⟨ga, oa, none⟩) 33 cb) <| sP (.int .i64 8) <| sP (.int .i64 9) <| sS (.pointer (some ⟨ga, oa + 9, none⟩)) (Quiet.pure (fun w => exec_index 27 _ _ ga (oa) 33 (cb) 9 rfl kR kR kR kF (by decide) w)) <| sS (bv o9) (Quiet.thereOne ga (oa + 9) 5 _ _ rfl kR hs.1 _ (src_one hs 9 _ kR) Tryz.underlying5 rfl) <| sP (.pointer (some ⟨g1, 8, none⟩)) <| sW 1 g1 236 (bv o1 :: bv o2 :: [bv o3, bv o4, bv o5, bv o6, bv o7, bv o8, .int .u8 0, .int .u8 0, .int .u8 0, .int .u8 0, .int .u8 0, .int .u8 0, .int .u8 0, .int .u8 0, .int .u8 0, .int .u8 0, .int .u8 0, .int .u8 0, .int .u8 0, .int .u8 0, .int .u8 0, .int .u8 0, .int .u8 0, .int .u8 0, .int .u8 0, .int .u8 0, .int .u8 0, .int .u8 0, .int .u8 0, .int .u8 0]).toArray (bv o1 :: bv o2 :: [bv o3, bv o4, bv o5, bv o6, bv o7, bv o8, bv o9, .int .u8 0, .int .u8 0, .int .u8 0, .int .u8 0, .int .u8 0, .int .u8 0, .int .u8 0, .int .u8 0, .int .u8 0, .int .u8 0, .int .u8 0, .int .u8 0, .int .u8 0, .int .u8 0, .int .u8 0, .int .u8 0, .int .u8 0, .int .u8 0, .int .u8 0, .int .u8 0, .int .u8 0, .int .u8 0, .int .u8 0]).toArray (wO 8 5 (bv o9) rfl) ?_
  refine Sy.nil ?_
  refine Sy.in_ ?_
  refine Sy.then_ ?_
  refine Sy.region ?_
  refine sP (.int .i64 8) <| sP (.int .i64 9) <| sP (.int .i64 9) ?_
  refine Sy.nil ?_
  refine Sy.again ?_
  refine Sy.tidyR (G := [(0, .slice (some ⟨ga, oa, none⟩) 33 cb), (2, .pointer (some ⟨g0, 0, none⟩)), (4, .pointer (some ⟨g1, 0, none⟩)), (5, .int .i64 9)]) (M := [(g0, 58, (pcs 0 0 false)), (g1, 236, (bv o1 :: bv o2 :: [bv o3, bv o4, bv o5, bv o6, bv o7, bv o8, bv o9, .int .u8 0, .int .u8 0, .int .u8 0, .int .u8 0, .int .u8 0, .int .u8 0, .int .u8 0, .int .u8 0, .int .u8 0, .int .u8 0, .int .u8 0, .int .u8 0, .int .u8 0, .int .u8 0, .int .u8 0, .int .u8 0, .int .u8 0, .int .u8 0, .int .u8 0, .int .u8 0, .int .u8 0, .int .u8 0, .int .u8 0]).toArray)]) [true, true] kR (all_cons kR (all_cons kR (all_cons kR (all_cons kR all_nil)))) ?_
  refine Sy.round ?_
  refine Sy.seq ?_
  refine sC ?_
  refine sP (.int .i64 9) <| sP (.bool true) ?_
  refine sG ?_
  refine sT ?_
  refine Sy.skip ?_
  refine Sy.then_ ?_
  refine Sy.seq ?_
  refine Sy.block ?_
  refine Sy.region ?_
  refine sP (.int .i64 9) <| sP (.slice (some ⟨ga, oa, none⟩) 33 cb) <| sP (.int .i64 9) <| sP (.int .i64 10) <| sS (.pointer (some ⟨ga, oa + 10, none⟩)) (Quiet.pure (fun w => exec_index 27 _ _ ga (oa) 33 (cb) 10 rfl kR kR kR kF (by decide) w)) <| sS (bv o10) (Quiet.thereOne ga (oa + 10) 5 _ _ rfl kR hs.1 _ (src_one hs 10 _ kR) Tryz.underlying5 rfl) <| sP (.pointer (some ⟨g1, 9, none⟩)) <| sW 1 g1 236 (bv o1 :: bv o2 :: [bv o3, bv o4, bv o5, bv o6, bv o7, bv o8, bv o9, .int .u8 0, .int .u8 0, .int .u8 0, .int .u8 0, .int .u8 0, .int .u8 0, .int .u8 0, .int .u8 0, .int .u8 0, .int .u8 0, .int .u8 0, .int .u8 0, .int .u8 0, .int .u8 0, .int .u8 0, .int .u8 0, .int .u8 0, .int .u8 0, .int .u8 0, .int .u8 0, .int .u8 0, .int .u8 0, .int .u8 0]).toArray (bv o1 :: bv o2 :: [bv o3, bv o4, bv o5, bv o6, bv o7, bv o8, bv o9, bv o10, .int .u8 0, .int .u8 0, .int .u8 0, .int .u8 0, .int .u8 0, .int .u8 0, .int .u8 0, .int .u8 0, .int .u8 0, .int .u8 0, .int .u8 0, .int .u8 0, .int .u8 0, .int .u8 0, .int .u8 0, .int .u8 0, .int .u8 0, .int .u8 0, .int .u8 0, .int .u8 0, .int .u8 0, .int .u8 0]).toArray (wO 9 5 (bv o10) rfl) ?_
  refine Sy.nil ?_
  refine Sy.in_ ?_
  refine Sy.then_ ?_
  refine Sy.region ?_
  refine sP (.int .i64 9) <| sP (.int .i64 10) <| sP (.int .i64 10) ?_
  refine Sy.nil ?_
  refine Sy.again ?_
  refine Sy.tidyR (G := [(0, .slice (some ⟨ga, oa, none⟩) 33 cb), (2, .pointer (some ⟨g0, 0, none⟩)), (4, .pointer (some ⟨g1, 0, none⟩)), (5, .int .i64 10)]) (M := [(g0, 58, (pcs 0 0 false)), (g1, 236, (bv o1 :: bv o2 :: [bv o3, bv o4, bv o5, bv o6, bv o7, bv o8, bv o9, bv o10, .int .u8 0, .int .u8 0, .int .u8 0, .int .u8 0, .int .u8 0, .int .u8 0, .int .u8 0, .int .u8 0, .int .u8 0, .int .u8 0, .int .u8 0, .int .u8 0, .int .u8 0, .int .u8 0, .int .u8 0, .int .u8 0, .int .u8 0, .int .u8 0, .int .u8 0, .int .u8 0, .int .u8 0, .int .u8 0]).toArray)]) [true, true] kR (all_cons kR (all_cons kR (all_cons kR (all_cons kR all_nil)))) ?_
  refine Sy.round ?_
  refine Sy.seq ?_
  refine sC ?_
  refine sP (.int .i64 10) <| sP (.bool true) ?_
  refine sG ?_
  refine sT ?_
  refine Sy.skip ?_
  refine Sy.then_ ?_
  refine Sy.seq ?_
  refine Sy.block ?_
  refine Sy.region ?_
  refine sP (.int .i64 10) <| sP (.slice (some ⟨ga, oa, none⟩) 33 cb) <| sP (.int .i64 10) <| sP (.int .i64 11) <| sS (.pointer (some ⟨ga, oa + 11, none⟩)) (Quiet.pure (fun w => exec_index 27 _ _ ga (oa) 33 (cb) 11 rfl kR kR kR kF (by decide) w)) <| sS (bv o11) (Quiet.thereOne ga (oa + 11) 5 _ _ rfl kR hs.1 _ (src_one hs 11 _ kR) Tryz.underlying5 rfl) <| sP (.pointer (some ⟨g1, 10, none⟩)) <| sW 1 g1 236 (bv o1 :: bv o2 :: [bv o3, bv o4, bv o5, bv o6, bv o7, bv o8, bv o9, bv o10, .int .u8 0, .int .u8 0, .int .u8 0, .int .u8 0, .int .u8 0, .int .u8 0, .int .u8 0, .int .u8 0, .int .u8 0, .int .u8 0, .int .u8 0, .int .u8 0, .int .u8 0, .int .u8 0, .int .u8 0, .int .u8 0, .int .u8 0, .int .u8 0, .int .u8 0, .int .u8 0, .int .u8 0, .int .u8 0]).toArray (bv o1 :: bv o2 :: [bv o3, bv o4, bv o5, bv o6, bv o7, bv o8, bv o9, bv o10, bv o11, .int .u8 0, .int .u8 0, .int .u8 0, .int .u8 0, .int .u8 0, .int .u8 0, .int .u8 0, .int .u8 0, .int .u8 0, .int .u8 0, .int .u8 0, .int .u8 0, .int .u8 0, .int .u8 0, .int .u8 0, .int .u8 0, .int .u8 0, .int .u8 0, .int .u8 0, .int .u8 0, .int .u8 0]).toArray (wO 10 5 (bv o11) rfl) ?_
  refine Sy.nil ?_
  refine Sy.in_ ?_
  refine Sy.then_ ?_
  refine Sy.region ?_
  refine sP (.int .i64 10) <| sP (.int .i64 11) <| sP (.int .i64 11) ?_
  refine Sy.nil ?_
  refine Sy.again ?_
  refine Sy.tidyR (G := [(0, .slice (some ⟨ga, oa, none⟩) 33 cb), (2, .pointer (some ⟨g0, 0, none⟩)), (4, .pointer (some ⟨g1, 0, none⟩)), (5, .int .i64 11)]) (M := [(g0, 58, (pcs 0 0 false)), (g1, 236, (bv o1 :: bv o2 :: [bv o3, bv o4, bv o5, bv o6, bv o7, bv o8, bv o9, bv o10, bv o11, .int .u8 0, .int .u8 0, .int .u8 0, .int .u8 0, .int .u8 0, .int .u8 0, .int .u8 0, .int .u8 0, .int .u8 0, .int .u8 0, .int .u8 0, .int .u8 0, .int .u8 0, .int .u8 0, .int .u8 0, .int .u8 0, .int .u8 0, .int .u8 0, .int .u8 0, .int .u8 0, .int .u8 0]).toArray)]) [true, true] kR (all_cons kR (all_cons kR (all_cons kR (all_cons kR all_nil)))) ?_
  refine Sy.round ?_
  refine Sy.seq ?_
  refine sC ?_
  refine sP (.int .i64 11) <| sP (.bool true) ?_
  refine sG ?_
  refine sT ?_
  refine Sy.skip ?_
  refine Sy.then_ ?_
  refine Sy.seq ?_
  refine Sy.block ?_
  refine Sy.region ?_
  refine sP (.int .i64 11) <| sP (.slice (some ⟨ga, oa, none⟩) 33 cb) <| sP (.int .i64 11) <| sP (.int .i64 12) <| sS (.pointer (some ⟨ga, oa + 12, none⟩)) (Quiet.pure (fun w => exec_index 27 _ _ ga (oa) 33 (cb) 12 rfl kR kR kR kF (by decide) w)) <| sS (bv o12) (Quiet.thereOne ga (oa + 12) 5 _ _ rfl kR hs.1 _ (src_one hs 12 _ kR) Tryz.underlying5 rfl) <| sP (.pointer (some ⟨g1, 11, none⟩)) <| sW 1 g1 236 (bv o1 :: bv o2 :: [bv o3, bv o4, bv o5, bv o6, bv o7, bv o8, bv o9, bv o10, bv o11, .int .u8 0, .int .u8 0, .int .u8 0, .int .u8 0, .int .u8 0, .int .u8 0, .int .u8 0, .int .u8 0, .int .u8 0, .int .u8 0, .int .u8 0, .int .u8 0, .int .u8 0, .int .u8 0, .int .u8 0, .int .u8 0, .int .u8 0, .int .u8 0, .int .u8 0, .int .u8 0, .int .u8 0]).toArray (bv o1 :: bv o2 :: [bv o3, bv o4, bv o5, bv o6, bv o7, bv o8, bv o9, bv o10, bv o11, bv o12, .int .u8 0, .int .u8 0, .int .u8 0, .int .u8 0, .int .u8 0, .int .u8 0, .int .u8 0, .int .u8 0, .int .u8 0, .int .u8 0, .int .u8 0, .int .u8 0, .int .u8 0, .int .u8 0, .int .u8 0, .int .u8 0, .int .u8 0, .int .u8 0, .int .u8 0, .int .u8 0]).toArray (wO 11 5 (bv o12) rfl) ?_
  refine Sy.nil ?_
  refine Sy.in_ ?_
  refine Sy.then_ ?_
  refine Sy.region ?_
  refine sP (.int .i64 11) <| sP (.int .i64 12) <| sP (.int .i64 12) ?_
  refine Sy.nil ?_
  refine Sy.again ?_
  refine Sy.tidyR (G := [(0, .slice (some ⟨ga, oa, none⟩) 33 cb), (2, .pointer (some ⟨g0, 0, none⟩)), (4, .pointer (some ⟨g1, 0, none⟩)), (5, .int .i64 12)]) (M := [(g0, 58, (pcs 0 0 false)), (g1, 236, (bv o1 :: bv o2 :: [bv o3, bv o4, bv o5, bv o6, bv o7, bv o8, bv o9, bv o10, bv o11, bv o12, .int .u8 0, .int .u8 0, .int .u8 0, .int .u8 0, .int .u8 0, .int .u8 0, .int .u8 0, .int .u8 0, .int .u8 0, .int .u8 0, .int .u8 0, .int .u8 0, .int .u8 0, .int .u8 0, .int .u8 0, .int .u8 0, .int .u8 0, .int .u8 0, .int .u8 0, .int .u8 0]).toArray)]) [true, true] kR (all_cons kR (all_cons kR (all_cons kR (all_cons kR all_nil)))) ?_
  refine Sy.round ?_
  refine Sy.seq ?_
  refine sC ?_
  refine sP (.int .i64 12) <| sP (.bool true) ?_
  refine sG ?_
  refine sT ?_
  refine Sy.skip ?_
  refine Sy.then_ ?_
  refine Sy.seq ?_
  refine Sy.block ?_
  refine Sy.region ?_
  refine sP (.int .i64 12) <| sP (.slice (some ⟨ga, oa, none⟩) 33 cb) <| sP (.int .i64 12) <| sP (.int .i64 13) <| sS (.pointer (some ⟨ga, oa + 13, none⟩)) (Quiet.pure (fun w => exec_index 27 _ _ ga (oa) 33 (cb) 13 rfl kR kR kR kF (by decide) w)) <| sS (bv o13) (Quiet.thereOne ga (oa + 13) 5 _ _ rfl kR hs.1 _ (src_one hs 13 _ kR) Tryz.underlying5 rfl) <| sP (.pointer (some ⟨g1, 12, none⟩)) <| sW 1 g1 236 (bv o1 :: bv o2 :: [bv o3, bv o4, bv o5, bv o6, bv o7, bv o8, bv o9, bv o10, bv o11, bv o12, .int .u8 0, .int .u8 0, .int .u8 0, .int .u8 0, .int .u8 0, .int .u8 0, .int .u8 0, .int .u8 0, .int .u8 0, .int .u8 0, .int .u8 0, .int .u8 0, .int .u8 0, .int .u8 0, .int .u8 0, .int .u8 0, .int .u8 0, .int .u8 0, .int .u8 0, .int .u8 0]).toArray (bv o1 :: bv o2 :: [bv o3, bv o4, bv o5, bv o6, bv o7, bv o8, bv o9, bv o10, bv o11, bv o12, bv o13, .int .u8 0, .int .u8 0, .int .u8 0, .int .u8 0, .int .u8 0, .int .u8 0, .int .u8 0, .int .u8 0, .int .u8 0, .int .u8 0, .int .u8 0, .int .u8 0, .int .u8 0, .int .u8 0, .int .u8 0, .int .u8 0, .int .u8 0, .int .u8 0, .int .u8 0]).toArray (wO 12 5 (bv o13) rfl) ?_
  refine Sy.nil ?_
  refine Sy.in_ ?_
  refine Sy.then_ ?_
  refine Sy.region ?_
  refine sP (.int .i64 12) <| sP (.int .i64 13) <| sP (.int .i64 13) ?_
  refine Sy.nil ?_
  refine Sy.again ?_
  refine Sy.tidyR (G := [(0, .slice (some ⟨ga, oa, none⟩) 33 cb), (2, .pointer (some ⟨g0, 0, none⟩)), (4, .pointer (some ⟨g1, 0, none⟩)), (5, .int .i64 13)]) (M := [(g0, 58, (pcs 0 0 false)), (g1, 236, (bv o1 :: bv o2 :: [bv o3, bv o4, bv o5, bv o6, bv o7, bv o8, bv o9, bv o10, bv o11, bv o12, bv o13, .int .u8 0, .int .u8 0, .int .u8 0, .int .u8 0, .int .u8 0, .int .u8 0, .int .u8 0, .int .u8 0, .int .u8 0, .int .u8 0, .int .u8 0, .int .u8 0, .int .u8 0, .int .u8 0, .int .u8 0, .int .u8 0, .int .u8 0, .int .u8 0, .int .u8 0]).toArray)]) [true, true] kR (all_cons kR (all_cons kR (all_cons kR (all_cons kR all_nil)))) ?_
  refine Sy.round ?_
  refine Sy.seq ?_
  refine sC ?_
  refine sP (.int .i64 13) <| sP (.bool true) ?_
  refine sG ?_
  refine sT ?_
  refine Sy.skip ?_
  refine Sy.then_ ?_
  refine Sy.seq ?_
  refine Sy.block ?_
  refine Sy.region ?_
  refine sP (.int .i64 13) <| sP (.slice (some ⟨ga, oa, none⟩) 33 cb) <| sP (.int .i64 13) <| sP (.int .i64 14) <| sS (.pointer (some ⟨ga, oa + 14, none⟩)) (Quiet.pure (fun w => exec_index 27 _ _ ga (oa) 33 (cb) 14 rfl kR kR kR kF (by decide) w)) <| sS (bv o14) (Quiet.thereOne ga (oa + 14) 5 _ _ rfl kR hs.1 _ (src_one hs 14 _ kR) Tryz.underlying5 rfl) <| sP (.pointer (some ⟨g1, 13, none⟩)) <| sW 1 g1 236 (bv o1 :: bv o2 :: [bv o3, bv o4, bv o5, bv o6, bv o7, bv o8, bv o9, bv o10, bv o11, bv o12, bv o13, .int .u8 0, .int .u8 0, .int .u8 0, .int .u8 0, .int .u8 0, .int .u8 0, .int .u8 0, .int .u8 0, .int .u8 0, .int .u8 0, .int .u8 0, .int .u8 0, .int .u8 0, .int .u8 0, .int .u8 0, .int .u8 0, .int .u8 0, .int .u8 0, .int .u8 0]).toArray (bv o1 :: bv o2 :: [bv o3, bv o4, bv o5, bv o6, bv o7, bv o8, bv o9, bv o10, bv o11, bv o12, bv o13, bv o14, .int .u8 0, .int .u8 0, .int .u8 0, .int .u8 0, .int .u8 0, .int .u8 0, .int .u8 0, .int .u8 0, .int .u8 0, .int .u8 0, .int .u8 0, .int .u8 0, .int .u8 0, .int .u8 0, .int .u8 0, .int .u8 0, .int .u8 0, .int .u8 0]).toArray (wO 13 5 (bv o14) rfl) ?_
  refine Sy.nil ?_
  refine Sy.in_ ?_
  refine Sy.then_ ?_
  refine Sy.region ?_
  refine sP (.int .i64 13) <| sP (.int .i64 14) <| sP (.int .i64 14) ?_
  refine Sy.nil ?_
  refine Sy.again ?_
  refine Sy.tidyR (G := [(0, .slice (some ⟨ga, oa, none⟩) 33 cb), (2, .pointer (some ⟨g0, 0, none⟩)), (4, .pointer (some ⟨g1, 0, none⟩)), (5, .int .i64 14)]) (M := [(g0, 58, (pcs 0 0 false)), (g1, 236, (bv o1 :: bv o2 :: [bv o3, bv o4, bv o5, bv o6, bv o7, bv o8, bv o9, bv o10, bv o11, bv o12, bv o13, bv o14, .int .u8 0, .int .u8 0, .int .u8 0, .int .u8 0, .int .u8 0, .int .u8 0, .int .u8 0, .int .u8 0, .int .u8 0, .int .u8 0, .int .u8 0, .int .u8 0, .int .u8 0, .int .u8 0, .int .u8 0, .int .u8 0, .int .u8 0, .int .u8 0]).toArray)]) [true, true] kR (all_cons kR (all_cons kR (all_cons kR (all_cons kR all_nil)))) ?_
  refine Sy.round ?_
  refine Sy.seq ?_
  refine sC ?_
  refine sP (.int .i64 14) <| sP (.bool true) ?_
  refine sG ?_
  refine sT ?_
  refine Sy.skip ?_
  refine Sy.then_ ?_
  refine Sy.seq ?_
  refine Sy.block ?_
  refine Sy.region ?_
  refine sP (.int .i64 14) <| sP (.slice (some ⟨ga, oa, none⟩) 33 cb) <| sP (.int .i64 14) <| sP (.int .i64 15) <| sS (.pointer (some ⟨ga, oa + 15, none⟩)) (Quiet.pure (fun w => exec_index 27 _ _ ga (oa) 33 (cb) 15 rfl kR kR kR kF (by decide) w)) <| sS (bv o15) (Quiet.thereOne ga (oa + 15) 5 _ _ rfl kR hs.1 _ (src_one hs 15 _ kR) Tryz.underlying5 rfl) <| sP (.pointer (some ⟨g1, 14, none⟩)) <| sW 1 g1 236 (bv o1 :: bv o2 :: [bv o3, bv o4, bv o5, bv o6, bv o7, bv o8, bv o9, bv o10, bv o11, bv o12, bv o13, bv o14, .int .u8 0, .int .u8 0, .int .u8 0, .int .u8 0, .int .u8 0, .int .u8 0, .int .u8 0, .int .u8 0, .int .u8 0, .int .u8 0, .int .u8 0, .int .u8 0, .int .u8 0, .int .u8 0, .int .u8 0, .int .u8 0, .int .u8 0, .int .u8 0]).toArray (bv o1 :: bv o2 :: [bv o3, bv o4, bv o5, bv o6, bv o7, bv o8, bv o9, bv o10, bv o11, bv o12, bv o13, bv o14, bv o15, .int .u8 0, .int .u8 0, .int .u8 0, .int .u8 0, .int .u8 0, .int .u8 0, .int .u8 0, .int .u8 0, .int .u8 0, .int .u8 0, .int .u8 0, .int .u8 0, .int .u8 0, .int .u8 0, .int .u8 0, .int .u8 0, .int .u8 0]).toArray (wO 14 5 (bv o15) rfl) ?_
  refine Sy.nil ?_
  refine Sy.in_ ?_
  refine Sy.then_ ?_
  refine Sy.region ?_
  refine sP (.int .i64 14) <| sP (.int .i64 15) <| sP (.int .i64 15) ?_
  refine Sy.nil ?_
  refine Sy.again ?_
  refine Sy.tidyR (G := [(0, .slice (some ⟨ga, oa, none⟩) 33 cb), (2, .pointer (some ⟨g0, 0, none⟩)), (4, .pointer (some ⟨g1, 0, none⟩)), (5, .int .i64 15)]) (M := [(g0, 58, (pcs 0 0 false)), (g1, 236, (bv o1 :: bv o2 :: [bv o3, bv o4, bv o5, bv o6, bv o7, bv o8, bv o9, bv o10, bv o11, bv o12, bv o13, bv o14, bv o15, .int .u8 0, .int .u8 0, .int .u8 0, .int .u8 0, .int .u8 0, .int .u8 0, .int .u8 0, .int .u8 0, .int .u8 0, .int .u8 0, .int .u8 0, .int .u8 0, .int .u8 0, .int .u8 0, .int .u8 0, .int .u8 0, .int .u8 0]).toArray)]) [true, true] kR (all_cons kR (all_cons kR (all_cons kR (all_cons kR all_nil)))) ?_
  refine Sy.round ?_
  refine Sy.seq ?_
  refine sC ?_
  refine sP (.int .i64 15) <| sP (.bool true) ?_
  refine sG ?_
  refine sT ?_
  refine Sy.skip ?_
  refine Sy.then_ ?_
  refine Sy.seq ?_
  refine Sy.block ?_
  refine Sy.region ?_
  refine sP (.int .i64 15) <| sP (.slice (some ⟨ga, oa, none⟩) 33 cb) <| sP (.int .i64 15) <| sP (.int .i64 16) <| sS (.pointer (some ⟨ga, oa + 16, none⟩)) (Quiet.pure (fun w => exec_index 27 _ _ ga (oa) 33 (cb) 16 rfl kR kR kR kF (by decide) w)) <| sS (bv o16) (Quiet.thereOne ga (oa + 16) 5 _ _ rfl kR hs.1 _ (src_one hs 16 _ kR) Tryz.underlying5 rfl) <| sP (.pointer (some ⟨g1, 15, none⟩)) <| sW 1 g1 236 (bv o1 :: bv o2 :: [bv o3, bv o4, bv o5, bv o6, bv o7, bv o8, bv o9, bv o10, bv o11, bv o12, bv o13, bv o14, bv o15, .int .u8 0, .int .u8 0, .int .u8 0, .int .u8 0, .int .u8 0, .int .u8 0, .int .u8 0, .int .u8 0, .int .u8 0, .int .u8 0, .int .u8 0, .int .u8 0, .int .u8 0, .int .u8 0, .int .u8 0, .int .u8 0, .int .u8 0]).toArray (bv o1 :: bv o2 :: [bv o3, bv o4, bv o5, bv o6, bv o7, bv o8, bv o9, bv o10, bv o11, bv o12, bv o13, bv o14, bv o15, bv o16, .int .u8 0, .int .u8 0, .int .u8 0, .int .u8 0, .int .u8 0, .int .u8 0, .int .u8 0, .int .u8 0, .int .u8 0, .int .u8 0, .int .u8 0, .int .u8 0, .int .u8 0, .int .u8 0, .int .u8 0, .int .u8 0]).toArray (wO 15 5 (bv o16) rfl) ?_
  refine Sy.nil ?_
  refine Sy.in_ ?_
  refine Sy.then_ ?_
  refine Sy.region ?_
  refine sP (.int .i64 15) <| sP (.int .i64 16) <| sP (.int .i64 16) ?_
  refine Sy.nil ?_
  refine Sy.again ?_
  refine Sy.tidyR (G := [(0, .slice (some ⟨ga, oa, none⟩) 33 cb), (2, .pointer (some ⟨g0, 0, none⟩)), (4, .pointer (some ⟨g1, 0, none⟩)), (5, .int .i64 16)]) (M := [(g0, 58, (pcs 0 0 false)), (g1, 236, (bv o1 :: bv o2 :: [bv o3, bv o4, bv o5, bv o6, bv o7, bv o8, bv o9, bv o10, bv o11, bv o12, bv o13, bv o14, bv o15, bv o16, .int .u8 0, .int .u8 0, .int .u8 0, .int .u8 0, .int .u8 0, .int .u8 0, .int .u8 0, .int .u8 0, .int .u8 0, .int .u8 0, .int .u8 0, .int .u8 0, .int .u8 0, .int .u8 0, .int .u8 0, .int .u8 0]).toArray)]) [true, true] kR (all_cons kR (all_cons kR (all_cons kR (all_cons kR all_nil)))) ?_
  refine Sy.round ?_
  refine Sy.seq ?_
  refine sC ?_
  refine sP (.int .i64 16) <| sP (.bool true) ?_
  refine sG ?_
  refine sT ?_
  refine Sy.skip ?_
  refine Sy.then_ ?_
  refine Sy.seq ?_
  refine Sy.block ?_
  refine Sy.region ?_
  refine sP (.int .i64 16) <| sP (.slice (some ⟨ga, oa, none⟩) 33 cb) <| sP (.int .i64 16) <| sP (.int .i64 17) <| sS (.pointer (some ⟨ga, oa + 17, none⟩)) (Quiet.pure (fun w => exec_index 27 _ _ ga (oa) 33 (cb) 17 rfl kR kR kR kF (by decide) w)) <| sS (bv o17) (Quiet.thereOne ga (oa + 17) 5 _ _ rfl kR hs.1 _ (src_one hs 17 _ kR) Tryz.underlying5 rfl) <| sP (.pointer (some ⟨g1, 16, none⟩)) <| sW 1 g1 236 (bv o1 :: bv o2 :: [bv o3, bv o4, bv o5, bv o6, bv o7, bv o8, bv o9, bv o10, bv o11, bv o12, bv o13, bv o14, bv o15, bv o16, .int .u8 0, .int .u8 0, .int .u8 0, .int .u8 0, .int .u8 0, .int .u8 0, .int .u8 0, .int .u8 0, .int .u8 0, .int .u8 0, .int .u8 0, .int .u8 0, .int .u8 0, .int .u8 0, .int .u8 0, .int .u8 0]).toArray (bv o1 :: bv o2 :: [bv o3, bv o4, bv o5, bv o6, bv o7, bv o8, bv o9, bv o10, bv o11, bv o12, bv o13, bv o14, bv o15, bv o16, bv o17, .int .u8 0, .int .u8 0, .int .u8 0, .int .u8 0, .int .u8 0, .int .u8 0, .int .u8 0, .int .u8 0, .int .u8 0, .int .u8 0, .int .u8 0, .int .u8 0, .int .u8 0, .int .u8 0, .int .u8 0]).toArray (wO 16 5 (bv o17) rfl) ?_
  refine Sy.nil ?_
  refine Sy.in_ ?_
  refine Sy.then_ ?_
  refine Sy.region ?_
  refine sP (.int .i64 16) <| sP (.int .i64 17) <| sP (.int .i64 17) ?_
  refine Sy.nil ?_
  refine Sy.again ?_
  refine Sy.tidyR (G := [(0, .slice (some ⟨ga, oa, none⟩) 33 cb), (2, .pointer (some ⟨g0, 0, none⟩)), (4, .pointer (some ⟨g1, 0, none⟩)), (5, .int .i64 17)]) (M := [(g0, 58, (pcs 0 0 false)), (g1, 236, (bv o1 :: bv o2 :: [bv o3, bv o4, bv o5, bv o6, bv o7, bv o8, bv o9, bv o10, bv o11, bv o12, bv o13, bv o14, bv o15, bv o16, bv o17, .int .u8 0, .int .u8 0, .int .u8 0, .int .u8 0, .int .u8 0, .int .u8 0, .int .u8 0, .int .u8 0, .int .u8 0, .int .u8 0, .int .u8 0, .int .u8 0, .int .u8 0, .int .u8 0, .int .u8 0]).toArray)]) [true, true] kR (all_cons kR (all_cons kR (all_cons kR (all_cons kR all_nil)))) ?_
  refine Sy.round ?_
  refine Sy.seq ?_
  refine sC ?_
  refine sP (.int .i64 17) <| sP (.bool true) ?_
  refine sG ?_
  refine sT ?_
  refine Sy.skip ?_
  refine Sy.then_ ?_
  refine Sy.seq ?_
  refine Sy.block ?_
  refine Sy.region ?_
  refine sP (.int .i64 17) <| sP (.slice (some ⟨ga, oa, none⟩) 33 cb) <| sP (.int .i64 17) <| sP (.int .i64 18) <| sS (.pointer (some ⟨ga, oa + 18, none⟩)) (Quiet.pure (fun w => exec_index 27 _ _ ga (oa) 33 (cb) 18 rfl kR kR kR kF (by decide) w)) <| sS (bv o18) (Quiet.thereOne ga (oa + 18) 5 _ _ rfl kR hs.1 _ (src_one hs 18 _ kR) Tryz.underlying5 rfl) <| sP (.pointer (some ⟨g1, 17, none⟩)) <| sW 1 g1 236 (bv o1 :: bv o2 :: [bv o3, bv o4, bv o5, bv o6, bv o7, bv o8, bv o9, bv o10, bv o11, bv o12, bv o13, bv o14, bv o15, bv o16, bv o17, .int .u8 0, .int .u8 0, .int .u8 0, .int .u8 0, .int .u8 0, .int .u8 0, .int .u8 0, .int .u8 0, .int .u8 0, .int .u8 0, .int .u8 0, .int .u8 0, .int .u8 0, .int .u8 0, .int .u8 0]).toArray (bv o1 :: bv o2 :: [bv o3, bv o4, bv o5, bv o6, bv o7, bv o8, bv o9, bv o10, bv o11, bv o12, bv o13, bv o14, bv o15, bv o16, bv o17, bv o18, .int .u8 0, .int .u8 0, .int .u8 0, .int .u8 0, .int .u8 0, .int .u8 0, .int .u8 0, .int .u8 0, .int .u8 0, .int .u8 0, .int .u8 0, .int .u8 0, .int .u8 0, .int .u8 0]).toArray (wO 17 5 (bv o18) rfl) ?_
  refine Sy.nil ?_
  refine Sy.in_ ?_
  refine Sy.then_ ?_
  refine Sy.region ?_
  refine sP (.int .i64 17) <| sP (.int .i64 18) <| sP (.int .i64 18) ?_
  refine Sy.nil ?_
  refine Sy.again ?_
  refine Sy.tidyR (G := [(0, .slice (some ⟨ga, oa, none⟩) 33 cb), (2, .pointer (some ⟨g0, 0, none⟩)), (4, .pointer (some ⟨g1, 0, none⟩)), (5, .int .i64 18)]) (M := [(g0, 58, (pcs 0 0 false)), (g1, 236, (bv o1 :: bv o2 :: [bv o3, bv o4, bv o5, bv o6, bv o7, bv o8, bv o9, bv o10, bv o11, bv o12, bv o13, bv o14, bv o15, bv o16, bv o17, bv o18, .int .u8 0, .int .u8 0, .int .u8 0, .int .u8 0, .int .u8 0, .int .u8 0, .int .u8 0, .int .u8 0, .int .u8 0, .int .u8 0, .int .u8 0, .int .u8 0, .int .u8 0, .int .u8 0]).toArray)]) [true, true] kR (all_cons kR (all_cons kR (all_cons kR (all_cons kR all_nil)))) ?_
  refine Sy.round ?_
  refine Sy.seq ?_
  refine sC ?_
  refine sP (.int .i64 18) <| sP (.bool true) ?_
  refine sG ?_
  refine sT ?_
  refine Sy.skip ?_
  refine Sy.then_ ?_
  refine Sy.seq ?_
  refine Sy.block ?_
  refine Sy.region ?_
  refine sP (.int .i64 18) <| sP (.slice (some ⟨ga, oa, none⟩) 33 cb) <| sP (.int .i64 18) <| sP (.int .i64 19) <| sS (.pointer (some ⟨ga, oa + 19, none⟩)) (Quiet.pure (fun w => exec_index 27 _ _ ga (oa) 33 (cb) 19 rfl kR kR kR kF (by decide) w)) <| sS (bv o19) (Quiet.thereOne ga (oa + 19) 5 _ _ rfl kR hs.1 _ (src_one hs 19 _ kR) Tryz.underlying5 rfl) <| sP (.pointer (some ⟨g1, 18, none⟩)) <| sW 1 g1 236 (bv o1 :: bv o2 :: [bv o3, bv o4, bv o5, bv o6, bv o7, bv o8, bv o9, bv o10, bv o11, bv o12, bv o13, bv o14, bv o15, bv o16, bv o17, bv o18, .int .u8 0, .int .u8 0, .int .u8 0, .int .u8 0, .int .u8 0, .int .u8 0, .int .u8 0, .int .u8 0, .int .u8 0, .int .u8 0, .int .u8 0, .int .u8 0, .int .u8 0, .int .u8 0]).toArray (bv o1 :: bv o2 :: [bv o3, bv o4, bv o5, bv o6, bv o7, bv o8, bv o9, bv o10, bv o11, bv o12, bv o13, bv o14, bv o15, bv o16, bv o17, bv o18, bv o19, .int .u8 0, .int .u8 0, .int .u8 0, .int .u8 0, .int .u8 0, .int .u8 0, .int .u8 0, .int .u8 0, .int .u8 0, .int .u8 0, .int .u8 0, .int .u8 0, .int .u8 0]).toArray (wO 18 5 (bv o19) rfl) ?_
  refine Sy.nil ?_
  refine Sy.in_ ?_
  refine Sy.then_ ?_
  refine Sy.region ?_
  refine sP (.int .i64 18) <| sP (.int .i64 19) <| sP (.int .i64 19) ?_
  refine Sy.nil ?_
  refine Sy.again ?_
  refine Sy.tidyR (G := [(0, .slice (some ⟨ga, oa, none⟩) 33 cb), (2, .pointer (some ⟨g0, 0, none⟩)), (4, .pointer (some ⟨g1, 0, none⟩)), (5, .int .i64 19)]) (M := [(g0, 58, (pcs 0 0 false)), (g1, 236, (bv o1 :: bv o2 :: [bv o3, bv o4, bv o5, bv o6, bv o7, bv o8, bv o9, bv o10, bv o11, bv o12, bv o13, bv o14, bv o15, bv o16, bv o17, bv o18, bv o19, .int .u8 0, .int .u8 0, .int .u8 0, .int .u8 0, .int .u8 0, .int .u8 0, .int .u8 0, .int .u8 0, .int .u8 0, .int .u8 0, .int .u8 0, .int .u8 0, .int .u8 0]).toArray)]) [true, true] kR (all_cons kR (all_cons kR (all_cons kR (all_cons kR all_nil)))) ?_
  refine Sy.round ?_
  refine Sy.seq ?_
  refine sC ?_
  refine sP (.int .i64 19) <| sP (.bool true) ?_
  refine sG ?_
  refine sT ?_
  refine Sy.skip ?_
  refine Sy.then_ ?_
  refine Sy.seq ?_
  refine Sy.block ?_
  refine Sy.region ?_
  refine sP (.int .i64 19) <| sP (.slice (some ⟨ga, oa, none⟩) 33 cb) <| sP (.int .i64 19) <| sP (.int .i64 20) <| sS (.pointer (some ⟨ga, oa + 20, none⟩)) (Quiet.pure (fun w => exec_index 27 _ _ ga (oa) 33 (cb) 20 rfl kR kR kR kF (by decide) w)) <| sS (bv o20) (Quiet.thereOne ga (oa + 20) 5 _ _ rfl kR hs.1 _ (src_one hs 20 _ kR) Tryz.underlying5 rfl) <| sP (.pointer (some ⟨g1, 19, none⟩)) <| sW 1 g1 236 (bv o1 :: bv o2 :: [bv o3, bv o4, bv o5, bv o6, bv o7, bv o8, bv o9, bv o10, bv o11, bv o12, bv o13, bv o14, bv o15, bv o16, bv o17, bv o18, bv o19, .int .u8 0, .int .u8 0, .int .u8 0, .int .u8 0, .int .u8 0, .int .u8 0, .int .u8 0, .int .u8 0, .int .u8 0, .int .u8 0, .int .u8 0, .int .u8 0, .int .u8 0]).toArray (bv o1 :: bv o2 :: [bv o3, bv o4, bv o5, bv o6, bv o7, bv o8, bv o9, bv o10, bv o11, bv o12, bv o13, bv o14, bv o15, bv o16, bv o17, bv o18, bv o19, bv o20, .int .u8 0, .int .u8 0, .int .u8 0, .int .u8 0, .int .u8 0, .int .u8 0, .int .u8 0, .int .u8 0, .int .u8 0, .int .u8 0, .int .u8 0, .int .u8 0]).toArray (wO 19 5 (bv o20) rfl) ?_
  refine Sy.nil ?_
  refine Sy.in_ ?_
  refine Sy.then_ ?_
  refine Sy.region ?_
  refine sP (.int .i64 19) <| sP (.int .i64 20) <| sP (.int .i64 20) ?_
  refine Sy.nil ?_
  refine Sy.again ?_
  refine Sy.tidyR (G := [(0, .slice (some ⟨ga, oa, none⟩) 33 cb), (2, .pointer (some ⟨g0, 0, none⟩)), (4, .pointer (some ⟨g1, 0, none⟩)), (5, .int .i64 20)]) (M := [(g0, 58, (pcs 0 0 false)), (g1, 236, (bv o1 :: bv o2 :: [bv o3, bv o4, bv o5, bv o6, bv o7, bv o8, bv o9, bv o10, bv o11, bv o12, bv o13, bv o14, bv o15, bv o16, bv o17, bv o18, bv o19, bv o20, .int .u8 0, .int .u8 0, .int .u8 0, .int .u8 0, .int .u8 0, .int .u8 0, .int .u8 0, .int .u8 0, .int .u8 0, .int .u8 0, .int .u8 0, .int .u8 0]).toArray)]) [true, true] kR (all_cons kR (all_cons kR (all_cons kR (all_cons kR all_nil)))) ?_
  refine Sy.round ?_
  refine Sy.seq ?_
  refine sC ?_
  refine sP (.int .i64 20) <| sP (.bool true) ?_
  refine sG ?_
  refine sT ?_
  refine Sy.skip ?_
  refine Sy.then_ ?_
  refine Sy.seq ?_
  refine Sy.block ?_
  refine Sy.region ?_
  refine sP (.int .i64 20) <| sP (.slice (some ⟨ga, oa, none⟩) 33 cb) <| sP (.int .i64 20) <| sP (.int .i64 21) <| sS (.pointer (some ⟨ga, oa + 21, none⟩)) (Quiet.pure (fun w => exec_index 27 _ _ ga (oa) 33 (cb) 21 rfl kR kR kR kF (by decide) w)) <| sS (bv o21) (Quiet.thereOne ga (oa + 21) 5 _ _ rfl kR hs.1 _ (src_one hs 21 _ kR) Tryz.underlying5 rfl) <| sP (.pointer (some ⟨g1, 20, none⟩)) <| sW 1 g1 236 (bv o1 :: bv o2 :: [bv o3, bv o4, bv o5, bv o6, bv o7, bv o8, bv o9, bv o10, bv o11, bv o12, bv o13, bv o14, bv o15, bv o16, bv o17, bv o18, bv o19, bv o20, .int .u8 0, .int .u8 0, .int .u8 0, .int .u8 0, .int .u8 0, .int .u8 0, .int .u8 0, .int .u8 0, .int .u8 0, .int .u8 0, .int .u8 0, .int .u8 0]).toArray (bv o1 :: bv o2 :: [bv o3, bv o4, bv o5, bv o6, bv o7, bv o8, bv o9, bv o10, bv o11, bv o12, bv o13, bv o14, bv o15, bv o16, bv o17, bv o18, bv o19, bv o20, bv o21, .int .u8 0, .int .u8 0, .int .u8 0, .int .u8 0, .int .u8 0, .int .u8 0, .int .u8 0, .int .u8 0, .int .u8 0, .int .u8 0, .int .u8 0]).toArray (wO 20 5 (bv o21) rfl) ?_
  refine Sy.nil ?_
  refine Sy.in_ ?_
  refine Sy.then_ ?_
  refine Sy.region ?_
  refine sP (.int .i64 20) <| sP (.int .i64 21) <| sP (.int .i64 21) ?_
  refine Sy.nil ?_
  refine Sy.again ?_
  refine Sy.tidyR (G := [(0, .slice (some ⟨ga, oa, none⟩) 33 cb), (2, .pointer (some ⟨g0, 0, none⟩)), (4, .pointer (some ⟨g1, 0, none⟩)), (5, .int .i64 21)]) (M := [(g0, 58, (pcs 0 0 false)), (g1, 236, (bv o1 :: bv o2 :: [bv o3, bv o4, bv o5, bv o6, bv o7, bv o8, bv o9, bv o10, bv o11, bv o12, bv o13, bv o14, bv o15, bv o16, bv o17, bv o18, bv o19, bv o20, bv o21, .int .u8 0, .int .u8 0, .int .u8 0, .int .u8 0, .int .u8 0, .int .u8 0, .int .u8 0, .int .u8 0, .int .u8 0, .int .u8 0, .int .u8 0]).toArray)]) [true, true] kR (all_cons kR (all_cons kR (all_cons kR (all_cons kR all_nil)))) ?_
  refine Sy.round ?_
  refine Sy.seq ?_
  refine sC ?_
  refine sP (.int .i64 21) <| sP (.bool true) ?_
  refine sG ?_
  refine sT ?_
  refine Sy.skip ?_
  refine Sy.then_ ?_
  refine Sy.seq ?_
  refine Sy.block ?_
  refine Sy.region ?_
  refine sP (.int .i64 21) <| sP (.slice (some ⟨ga, oa, none⟩) 33 cb) <| sP (.int .i64 21) <| sP (.int .i64 22) <| sS (.pointer (some ⟨ga, oa + 22, none⟩)) (Quiet.pure (fun w => exec_index 27 _ _ ga (oa) 33 (cb) 22 rfl kR kR kR kF (by decide) w)) <| sS (bv o22) (Quiet.thereOne ga (oa + 22) 5 _ _ rfl kR hs.1 _ (src_one hs 22 _ kR) Tryz.underlying5 rfl) <| sP (.pointer (some ⟨g1, 21, none⟩)) <| sW 1 g1 236 (bv o1 :: bv o2 :: [bv o3, bv o4, bv o5, bv o6, bv o7, bv o8, bv o9, bv o10, bv o11, bv o12, bv o13, bv o14, bv o15, bv o16, bv o17, bv o18, bv o19, bv o20, bv o21, .int .u8 0, .int .u8 0, .int .u8 0, .int .u8 0, .int .u8 0, .int .u8 0, .int .u8 0, .int .u8 0, .int .u8 0, .int .u8 0, .int .u8 0]).toArray (bv o1 :: bv o2 :: [bv o3, bv o4, bv o5, bv o6, bv o7, bv o8, bv o9, bv o10, bv o11, bv o12, bv o13, bv o14, bv o15, bv o16, bv o17, bv o18, bv o19, bv o20, bv o21, bv o22, .int .u8 0, .int .u8 0, .int .u8 0, .int .u8 0, .int .u8 0, .int .u8 0, .int .u8 0, .int .u8 0, .int .u8 0, .int .u8 0]).toArray (wO 21 5 (bv o22) rfl) ?_
  refine Sy.nil ?_
  refine Sy.in_ ?_
  refine Sy.then_ ?_
  refine Sy.region ?_
  refine sP (.int .i64 21) <| sP (.int .i64 22) <| sP (.int .i64 22) ?_
  refine Sy.nil ?_
  refine Sy.again ?_
  refine Sy.tidyR (G := [(0, .slice (some ⟨ga, oa, none⟩) 33 cb), (2, .pointer (some ⟨g0, 0, none⟩)), (4, .pointer (some ⟨g1, 0, none⟩)), (5, .int .i64 22)]) (M := [(g0, 58, (pcs 0 0 false)), (g1, 236, (bv o1 :: bv o2 :: [bv o3, bv o4, bv o5, bv o6, bv o7, bv o8, bv o9, bv o10, bv o11, bv o12, bv o13, bv o14, bv o15, bv o16, bv o17, bv o18, bv o19, bv o20, bv o21, bv o22, .int .u8 0, .int .u8 0, .int .u8 0, .int .u8 0, .int .u8 0, .int .u8 0, .int .u8 0, .int .u8 0, .int .u8 0, .int .u8 0]).toArray)]) [true, true] kR (all_cons kR (all_cons kR (all_cons kR (all_cons kR all_nil)))) ?_
  refine Sy.round ?_
  refine Sy.seq ?_
  refine sC ?_
  refine sP (.int .i64 22) <| sP (.bool true) ?_
  refine sG ?_
  refine sT ?_
  refine Sy.skip ?_
  refine Sy.then_ ?_
  refine Sy.seq ?_
  refine Sy.block ?_
  refine Sy.region ?_
  refine sP (.int .i64 22) <| sP (.slice (some ⟨ga, oa, none⟩) 33 cb) <| sP (.int .i64 22) <| sP (.int .i64 23) <| sS (.pointer (some ⟨ga, oa + 23, none⟩)) (Quiet.pure (fun w => exec_index 27 _ _ ga (oa) 33 (cb) 23 rfl kR kR kR kF (by decide) w)) <| sS (bv o23) (Quiet.thereOne ga (oa + 23) 5 _ _ rfl kR hs.1 _ (src_one hs 23 _ kR) Tryz.underlying5 rfl) <| sP (.pointer (some ⟨g1, 22, none⟩)) <| sW 1 g1 236 (bv o1 :: bv o2 :: [bv o3, bv o4, bv o5, bv o6, bv o7, bv o8, bv o9, bv o10, bv o11, bv o12, bv o13, bv o14, bv o15, bv o16, bv o17, bv o18, bv o19, bv o20, bv o21, bv o22, .int .u8 0, .int .u8 0, .int .u8 0, .int .u8 0, .int .u8 0, .int .u8 0, .int .u8 0, .int .u8 0, .int .u8 0, .int .u8 0]).toArray (bv o1 :: bv o2 :: [bv o3, bv o4, bv o5, bv o6, bv o7, bv o8, bv o9, bv o10, bv o11, bv o12, bv o13, bv o14, bv o15, bv o16, bv o17, bv o18, bv o19, bv o20, bv o21, bv o22, bv o23, .int .u8 0, .int .u8 0, .int .u8 0, .int .u8 0, .int .u8 0, .int .u8 0, .int .u8 0, .int .u8 0, .int .u8 0]).toArray (wO 22 5 (bv o23) rfl) ?_
  refine Sy.nil ?_
  refine Sy.in_ ?_
  refine Sy.then_ ?_
  refine Sy.region ?_
  refine sP (.int .i64 22) <| sP (.int .i64 23) <| sP (.int .i64 23) ?_
  refine Sy.nil ?_
  refine Sy.again ?_
  refine Sy.tidyR (G := [(0, .slice (some ⟨ga, oa, none⟩) 33 cb), (2, .pointer (some ⟨g0, 0, none⟩)), (4, .pointer (some ⟨g1, 0, none⟩)), (5, .int .i64 23)]) (M := [(g0, 58, (pcs 0 0 false)), (g1, 236, (bv o1 :: bv o2 :: [bv o3, bv o4, bv o5, bv o6, bv o7, bv o8, bv o9, bv o10, bv o11, bv o12, bv o13, bv o14, bv o15, bv o16, bv o17, bv o18, bv o19, bv o20, bv o21, bv o22, bv o23, .int .u8 0, .int .u8 0, .int .u8 0, .int .u8 0, .int .u8 0, .int .u8 0, .int .u8 0, .int .u8 0, .int .u8 0]).toArray)]) [true, true] kR (all_cons kR (all_cons kR (all_cons kR (all_cons kR all_nil)))) ?_
  refine Sy.round ?_
  refine Sy.seq ?_
  refine sC ?_
  refine sP (.int .i64 23) <| sP (.bool true) ?_
  refine sG ?_
  refine sT ?_
  refine Sy.skip ?_
  refine Sy.then_ ?_
  refine Sy.seq ?_
  refine Sy.block ?_
  refine Sy.region ?_
  refine sP (.int .i64 23) <| sP (.slice (some ⟨ga, oa, none⟩) 33 cb) <| sP (.int .i64 23) <| sP (.int .i64 24) <| sS (.pointer (some ⟨ga, oa + 24, none⟩)) (Quiet.pure (fun w => exec_index 27 _ _ ga (oa) 33 (cb) 24 rfl kR kR kR kF (by decide) w)) <| sS (bv o24) (Quiet.thereOne ga (oa + 24) 5 _ _ rfl kR hs.1 _ (src_one hs 24 _ kR) Tryz.underlying5 rfl) <| sP (.pointer (some ⟨g1, 23, none⟩)) <| sW 1 g1 236 (bv o1 :: bv o2 :: [bv o3, bv o4, bv o5, bv o6, bv o7, bv o8, bv o9, bv o10, bv o11, bv o12, bv o13, bv o14, bv o15, bv o16, bv o17, bv o18, bv o19, bv o20, bv o21, bv o22, bv o23, .int .u8 0, .int .u8 0, .int .u8 0, .int .u8 0, .int .u8 0, .int .u8 0, .int .u8 0, .int .u8 0, .int .u8 0]).toArray (bv o1 :: bv o2 :: [bv o3, bv o4, bv o5, bv o6, bv o7, bv o8, bv o9, bv o10, bv o11, bv o12, bv o13, bv o14, bv o15, bv o16, bv o17, bv o18, bv o19, bv o20, bv o21, bv o22, bv o23, bv o24, .int .u8 0, .int .u8 0, .int .u8 0, .int .u8 0, .int .u8 0, .int .u8 0, .int .u8 0, .int .u8 0]).toArray (wO 23 5 (bv o24) rfl) ?_
  refine Sy.nil ?_
  refine Sy.in_ ?_
  refine Sy.then_ ?_
  refine Sy.region ?_
  refine sP (.int .i64 23) <| sP (.int .i64 24) <| sP (.int .i64 24) ?_
  refine Sy.nil ?_
  refine Sy.again ?_
  refine Sy.tidyR (G := [(0, .slice (some ⟨ga, oa, none⟩) 33 cb), (2, .pointer (some ⟨g0, 0, none⟩)), (4, .pointer (some ⟨g1, 0, none⟩)), (5, .int .i64 24)]) (M := [(g0, 58, (pcs 0 0 false)), (g1, 236, (bv o1 :: bv o2 :: [bv o3, bv o4, bv o5, bv o6, bv o7, bv o8, bv o9, bv o10, bv o11, bv o12, bv o13, bv o14, bv o15, bv o16, bv o17, bv o18, bv o19, bv o20, bv o21, bv o22, bv o23, bv o24, .int .u8 0, .int .u8 0, .int .u8 0, .int .u8 0, .int .u8 0, .int .u8 0, .int .u8 0, .int .u8 0]).toArray)]) [true, true] kR (all_cons kR (all_cons kR (all_cons kR (all_cons kR all_nil)))) ?_
  refine Sy.round ?_
  refine Sy.seq ?_
  refine sC ?_
  refine sP (.int .i64 24) <| sP (.bool true) ?_
  refine sG ?_
  refine sT ?_
  refine Sy.skip ?_
  refine Sy.then_ ?_
  refine Sy.seq ?_
  refine Sy.block ?_
  refine Sy.region ?_
  refine sP (.int .i64 24) <| sP (.slice (some ⟨ga, oa, none⟩) 33 cb) <| sP (.int .i64 24) <| sP (.int .i64 25) <| sS (.pointer (some ⟨ga, oa + 25, none⟩)) (Quiet.pure (fun w => exec_index 27 _ _ ga (oa) 33 (cb) 25 rfl kR kR kR kF (by decide) w)) <| sS (bv o25) (Quiet.thereOne ga (oa + 25) 5 _ _ rfl kR hs.1 _ (src_one hs 25 _ kR) Tryz.underlying5 rfl) <| sP (.pointer (some ⟨g1, 24, none⟩)) <| sW 1 g1 236 (bv o1 :: bv o2 :: [bv o3, bv o4, bv o5, bv o6, bv o7, bv o8, bv o9, bv o10, bv o11, bv o12, bv o13, bv o14, bv o15, bv o16, bv o17, bv o18, bv o19, bv o20, bv o21, bv o22, bv o23, bv o24, .int .u8 0, .int .u8 0, .int .u8 0, .int .u8 0, .int .u8 0, .int .u8 0, .int .u8 0, .int .u8 0]).toArray (bv o1 :: bv o2 :: [bv o3, bv o4, bv o5, bv o6, bv o7, bv o8, bv o9, bv o10, bv o11, bv o12, bv o13, bv o14, bv o15, bv o16, bv o17, bv o18, bv o19, bv o20, bv o21, bv o22, bv o23, bv o24, bv o25, .int .u8 0, .int .u8 0, .int .u8 0, .int .u8 0, .int .u8 0, .int .u8 0, .int .u8 0]).toArray (wO 24 5 (bv o25) rfl) ?_
  refine Sy.nil ?_
  refine Sy.in_ ?_
  refine Sy.then_ ?_
  refine Sy.region ?_
  refine sP (.int .i64 24) <| sP (.int .i64 25) <| sP (.int .i64 25) ?_
  refine Sy.nil ?_
  refine Sy.again ?_
  refine Sy.tidyR (G := [(0, .slice (some ⟨ga, oa, none⟩) 33 cb), (2, .pointer (some ⟨g0, 0, none⟩)), (4, .pointer (some ⟨g1, 0, none⟩)), (5, .int .i64 25)]) (M := [(g0, 58, (pcs 0 0 false)), (g1, 236, (bv o1 :: bv o2 :: [bv o3, bv o4, bv o5, bv o6, bv o7, bv o8, bv o9, bv o10, bv o11, bv o12, bv o13, bv o14, bv o15, bv o16, bv o17, bv o18, bv o19, bv o20, bv o21, bv o22, bv o23, bv o24, bv o25, .int .u8 0, .int .u8 0, .int .u8 0, .int .u8 0, .int .u8 0, .int .u8 0, .int .u8 0]).toArray)]) [true, true] kR (all_cons kR (all_cons kR (all_cons kR (all_cons kR all_nil)))) ?_
  refine Sy.round ?_
  refine Sy.seq ?_
  refine sC ?_
  refine sP (.int .i64 25) <| sP (.bool true) ?_
  refine sG ?_
  refine sT ?_
  refine Sy.skip ?_
  refine Sy.then_ ?_
  refine Sy.seq ?_
  refine Sy.block ?_
  refine Sy.region ?_
  refine sP (.int .i64 25) <| sP (.slice (some ⟨ga, oa, none⟩) 33 cb) <| sP (.int .i64 25) <| sP (.int .i64 26) <| sS (.pointer (some ⟨ga, oa + 26, none⟩)) (Quiet.pure (fun w => exec_index 27 _ _ ga (oa) 33 (cb) 26 rfl kR kR kR kF (by decide) w)) <| sS (bv o26) (Quiet.thereOne ga (oa + 26) 5 _ _ rfl kR hs.1 _ (src_one hs 26 _ kR) Tryz.underlying5 rfl) <| sP (.pointer (some ⟨g1, 25, none⟩)) <| sW 1 g1 236 (bv o1 :: bv o2 :: [bv o3, bv o4, bv o5, bv o6, bv o7, bv o8, bv o9, bv o10, bv o11, bv o12, bv o13, bv o14, bv o15, bv o16, bv o17, bv o18, bv o19, bv o20, bv o21, bv o22, bv o23, bv o24, bv o25, .int .u8 0, .int .u8 0, .int .u8 0, .int .u8 0, .int .u8 0, .int .u8 0, .int .u8 0]).toArray (bv o1 :: bv o2 :: [bv o3, bv o4, bv o5, bv o6, bv o7, bv o8, bv o9, bv o10, bv o11, bv o12, bv o13, bv o14, bv o15, bv o16, bv o17, bv o18, bv o19, bv o20, bv o21, bv o22, bv o23, bv o24, bv o25, bv o26, .int .u8 0, .int .u8 0, .int .u8 0, .int .u8 0, .int .u8 0, .int .u8 0]).toArray (wO 25 5 (bv o26) rfl) ?_
  refine Sy.nil ?_
  refine Sy.in_ ?_
  refine Sy.then_ ?_
  refine Sy.region ?_
  refine sP (.int .i64 25) <| sP (.int .i64 26) <| sP (.int .i64 26) ?_
  refine Sy.nil ?_
  refine Sy.again ?_
  refine Sy.tidyR (G := [(0, .slice (some ⟨ga, oa, none⟩) 33 cb), (2, .pointer (some ⟨g0, 0, none⟩)), (4, .pointer (some ⟨g1, 0, none⟩)), (5, .int .i64 26)]) (M := [(g0, 58, (pcs 0 0 false)), (g1, 236, (bv o1 :: bv o2 :: [bv o3, bv o4, bv o5, bv o6, bv o7, bv o8, bv o9, bv o10, bv o11, bv o12, bv o13, bv o14, bv o15, bv o16, bv o17, bv o18, bv o19, bv o20, bv o21, bv o22, bv o23, bv o24, bv o25, bv o26, .int .u8 0, .int .u8 0, .int .u8 0, .int .u8 0, .int .u8 0, .int .u8 0]).toArray)]) [true, true] kR (all_cons kR (all_cons kR (all_cons kR (all_cons kR all_nil)))) ?_
  refine Sy.round ?_
  refine Sy.seq ?_
  refine sC ?_
  refine sP (.int .i64 26) <| sP (.bool true) ?_
  refine sG ?_
  refine sT ?_
  refine Sy.skip ?_
  refine Sy.then_ ?_
  refine Sy.seq ?_
  refine Sy.block ?_
  refine Sy.region ?_
  refine sP (.int .i64 26) <| sP (.slice (some ⟨ga, oa, none⟩) 33 cb) <| sP (.int .i64 26) <| sP (.int .i64 27) <| sS (.pointer (some ⟨ga, oa + 27, none⟩)) (Quiet.pure (fun w => exec_index 27 _ _ ga (oa) 33 (cb) 27 rfl kR kR kR kF (by decide) w)) <| sS (bv o27) (Quiet.thereOne ga (oa + 27) 5 _ _ rfl kR hs.1 _ (src_one hs 27 _ kR) Tryz.underlying5 rfl) <| sP (.pointer (some ⟨g1, 26, none⟩)) <| sW 1 g1 236 (bv o1 :: bv o2 :: [bv o3, bv o4, bv o5, bv o6, bv o7, bv o8, bv o9, bv o10, bv o11, bv o12, bv o13, bv o14, bv o15, bv o16, bv o17, bv o18, bv o19, bv o20, bv o21, bv o22, bv o23, bv o24, bv o25, bv o26, .int .u8 0, .int .u8 0, .int .u8 0, .int .u8 0, .int .u8 0, .int .u8 0]).toArray (bv o1 :: bv o2 :: [bv o3, bv o4, bv o5, bv o6, bv o7, bv o8, bv o9, bv o10, bv o11, bv o12, bv o13, bv o14, bv o15, bv o16, bv o17, bv o18, bv o19, bv o20, bv o21, bv o22, bv o23, bv o24, bv o25, bv o26, bv o27, .int .u8 0, .int .u8 0, .int .u8 0, .int .u8 0, .int .u8 0]).toArray (wO 26 5 (bv o27) rfl) ?_
  refine Sy.nil ?_
  refine Sy.in_ ?_
  refine Sy.then_ ?_
  refine Sy.region ?_
  refine sP (.int .i64 26) <| sP (.int .i64 27) <| sP (.int .i64 27) ?_
  refine Sy.nil ?_
  refine Sy.again ?_
  refine Sy.tidyR (G := [(0, .slice (some ⟨ga, oa, none⟩) 33 cb), (2, .pointer (some ⟨g0, 0, none⟩)), (4, .pointer (some ⟨g1, 0, none⟩)), (5, .int .i64 27)]) (M := [(g0, 58, (pcs 0 0 false)), (g1, 236, (bv o1 :: bv o2 :: [bv o3, bv o4, bv o5, bv o6, bv o7, bv o8, bv o9, bv o10, bv o11, bv o12, bv o13, bv o14, bv o15, bv o16, bv o17, bv o18, bv o19, bv o20, bv o21, bv o22, bv o23, bv o24, bv o25, bv o26, bv o27, .int .u8 0, .int .u8 0, .int .u8 0, .int .u8 0, .int .u8 0]).toArray)]) [true, true] kR (all_cons kR (all_cons kR (all_cons kR (all_cons kR all_nil)))) ?_
  refine Sy.round ?_
  refine Sy.seq ?_
  refine sC ?_
  refine sP (.int .i64 27) <| sP (.bool true) ?_
  refine sG ?_
  refine sT ?_
  refine Sy.skip ?_
  refine Sy.then_ ?_
  refine Sy.seq ?_
  refine Sy.block ?_
  refine Sy.region ?_
  refine sP (.int .i64 27) <| sP (.slice (some ⟨ga, oa, none⟩) 33 cb) <| sP (.int .i64 27) <| sP (.int .i64 28) <| sS (.pointer (some ⟨ga, oa + 28, none⟩)) (Quiet.pure (fun w => exec_index 27 _ _ ga (oa) 33 (cb) 28 rfl kR kR kR kF (by decide) w)) <| sS (bv o28) (Quiet.thereOne ga (oa + 28) 5 _ _ rfl kR hs.1 _ (src_one hs 28 _ kR) Tryz.underlying5 rfl) <| sP (.pointer (some ⟨g1, 27, none⟩)) <| sW 1 g1 236 (bv o1 :: bv o2 :: [bv o3, bv o4, bv o5, bv o6, bv o7, bv o8, bv o9, bv o10, bv o11, bv o12, bv o13, bv o14, bv o15, bv o16, bv o17, bv o18, bv o19, bv o20, bv o21, bv o22, bv o23, bv o24, bv o25, bv o26, bv o27, .int .u8 0, .int .u8 0, .int .u8 0, .int .u8 0, .int .u8 0]).toArray (bv o1 :: bv o2 :: [bv o3, bv o4, bv o5, bv o6, bv o7, bv o8, bv o9, bv o10, bv o11, bv o12, bv o13, bv o14, bv o15, bv o16, bv o17, bv o18, bv o19, bv o20, bv o21, bv o22, bv o23, bv o24, bv o25, bv o26, bv o27, bv o28, .int .u8 0, .int .u8 0, .int .u8 0, .int .u8 0]).toArray (wO 27 5 (bv o28) rfl) ?_
  refine Sy.nil ?_
  refine Sy.in_ ?_
  refine Sy.then_ ?_
  refine Sy.region ?_
  refine sP (.int .i64 27) <| sP (.int .i64 28) <| sP (.int .i64 28) ?_
  refine Sy.nil ?_
  refine Sy.again ?_
  refine Sy.tidyR (G := [(0, .slice (some ⟨ga, oa, none⟩) 33 cb), (2, .pointer (some ⟨g0, 0, none⟩)), (4, .pointer (some ⟨g1, 0, none⟩)), (5, .int .i64 28)]) (M := [(g0, 58, (pcs 0 0 false)), (g1, 236, (bv o1 :: bv o2 :: [bv o3, bv o4, bv o5, bv o6, bv o7, bv o8, bv o9, bv o10, bv o11, bv o12, bv o13, bv o14, bv o15, bv o16, bv o17, bv o18, bv o19, bv o20, bv o21, bv o22, bv o23, bv o24, bv o25, bv o26, bv o27, bv o28, .int .u8 0, .int .u8 0, .int .u8 0, .int .u8 0]).toArray)]) [true, true] kR (all_cons kR (all_cons kR (all_cons kR (all_cons kR all_nil)))) ?_
  refine Sy.round ?_
  refine Sy.seq ?_
  refine sC ?_
  refine sP (.int .i64 28) <| sP (.bool true) ?_
  refine sG ?_
  refine sT ?_
  refine Sy.skip ?_
  refine Sy.then_ ?_
  refine Sy.seq ?_
  refine Sy.block ?_
  refine Sy.region ?_
  refine sP (.int .i64 28) <| sP (.slice (some ⟨ga, oa, none⟩) 33 cb) <| sP (.int .i64 28) <| sP (.int .i64 29) <| sS (.pointer (some ⟨ga, oa + 29, none⟩)) (Quiet.pure (fun w => exec_index 27 _ _ ga (oa) 33 (cb) 29 rfl kR kR kR kF (by decide) w)) <| sS (bv o29) (Quiet.thereOne ga (oa + 29) 5 _ _ rfl kR hs.1 _ (src_one hs 29 _ kR) Tryz.underlying5 rfl) <| sP (.pointer (some ⟨g1, 28, none⟩)) <| sW 1 g1 236 (bv o1 :: bv o2 :: [bv o3, bv o4, bv o5, bv o6, bv o7, bv o8, bv o9, bv o10, bv o11, bv o12, bv o13, bv o14, bv o15, bv o16, bv o17, bv o18, bv o19, bv o20, bv o21, bv o22, bv o23, bv o24, bv o25, bv o26, bv o27, bv o28, .int .u8 0, .int .u8 0, .int .u8 0, .int .u8 0]).toArray (bv o1 :: bv o2 :: [bv o3, bv o4, bv o5, bv o6, bv o7, bv o8, bv o9, bv o10, bv o11, bv o12, bv o13, bv o14, bv o15, bv o16, bv o17, bv o18, bv o19, bv o20, bv o21, bv o22, bv o23, bv o24, bv o25, bv o26, bv o27, bv o28, bv o29, .int .u8 0, .int .u8 0, .int .u8 0]).toArray (wO 28 5 (bv o29) rfl) ?_
  refine Sy.nil ?_
  refine Sy.in_ ?_
  refine Sy.then_ ?_
  refine Sy.region ?_
  refine sP (.int .i64 28) <| sP (.int .i64 29) <| sP (.int .i64 29) ?_
  refine Sy.nil ?_
  refine Sy.again ?_
  refine Sy.tidyR (G := [(0, .slice (some ⟨ga, oa, none⟩) 33 cb), (2, .pointer (some ⟨g0, 0, none⟩)), (4, .pointer (some ⟨g1, 0, none⟩)), (5, .int .i64 29)]) (M := [(g0, 58, (pcs 0 0 false)), (g1, 236, (bv o1 :: bv o2 :: [bv o3, bv o4, bv o5, bv o6, bv o7, bv o8, bv o9, bv o10, bv o11, bv o12, bv o13, bv o14, bv o15, bv o16, bv o17, bv o18, bv o19, bv o20, bv o21, bv o22, bv o23, bv o24, bv o25, bv o26, bv o27, bv o28, bv o29, .int .u8 0, .int .u8 0, .int .u8 0]).toArray)]) [true, true] kR (all_cons kR (all_cons kR (all_cons kR (all_cons kR all_nil)))) ?_
  refine Sy.round ?_
  refine Sy.seq ?_
  refine sC ?_
  refine sP (.int .i64 29) <| sP (.bool true) ?_
  refine sG ?_
  refine sT ?_
  refine Sy.skip ?_
  refine Sy.then_ ?_
  refine Sy.seq ?_
  refine Sy.block ?_
  refine Sy.region ?_
  refine sP (.int .i64 29) <| sP (.slice (some ⟨ga, oa, none⟩) 33 cb) <| sP (.int .i64 29) <| sP (.int .i64 30) <| sS (.pointer (some ⟨ga, oa + 30, none⟩)) (Quiet.pure (fun w => exec_index 27 _ _ ga (oa) 33 (cb) 30 rfl kR kR kR kF (by decide) w)) <| sS (bv o30) (Quiet.thereOne ga (oa + 30) 5 _ _ rfl kR hs.1 _ (src_one hs 30 _ kR) Tryz.underlying5 rfl) <| sP (.pointer (some ⟨g1, 29, none⟩)) <| sW 1 g1 236 (bv o1 :: bv o2 :: [bv o3, bv o4, bv o5, bv o6, bv o7, bv o8, bv o9, bv o10, bv o11, bv o12, bv o13, bv o14, bv o15, bv o16, bv o17, bv o18, bv o19, bv o20, bv o21, bv o22, bv o23, bv o24, bv o25, bv o26, bv o27, bv o28, bv o29, .int .u8 0, .int .u8 0, .int .u8 0]).toArray (bv o1 :: bv o2 :: [bv o3, bv o4, bv o5, bv o6, bv o7, bv o8, bv o9, bv o10, bv o11, bv o12, bv o13, bv o14, bv o15, bv o16, bv o17, bv o18, bv o19, bv o20, bv o21, bv o22, bv o23, bv o24, bv o25, bv o26, bv o27, bv o28, bv o29, bv o30, .int .u8 0, .int .u8 0]).toArray (wO 29 5 (bv o30) rfl) ?_
  refine Sy.nil ?_
  refine Sy.in_ ?_
  refine Sy.then_ ?_
  refine Sy.region ?_
  refine sP (.int .i64 29) <| sP (.int .i64 30) <| sP (.int .i64 30) ?_
  refine Sy.nil ?_
  refine Sy.again ?_
  refine Sy.tidyR (G := [(0, .slice (some ⟨ga, oa, none⟩) 33 cb), (2, .pointer (some ⟨g0, 0, none⟩)), (4, .pointer (some ⟨g1, 0, none⟩)), (5, .int .i64 30)]) (M := [(g0, 58, (pcs 0 0 false)), (g1, 236, (bv o1 :: bv o2 :: [bv o3, bv o4, bv o5, bv o6, bv o7, bv o8, bv o9, bv o10, bv o11, bv o12, bv o13, bv o14, bv o15, bv o16, bv o17, bv o18, bv o19, bv o20, bv o21, bv o22, bv o23, bv o24, bv o25, bv o26, bv o27, bv o28, bv o29, bv o30, .int .u8 0, .int .u8 0]).toArray)]) [true, true] kR (all_cons kR (all_cons kR (all_cons kR (all_cons kR all_nil)))) ?_
  refine Sy.round ?_
  refine Sy.seq ?_
  refine sC ?_
  refine sP (.int .i64 30) <| sP (.bool true) ?_
  refine sG ?_
  refine sT ?_
  refine Sy.skip ?_
  refine Sy.then_ ?_
  refine Sy.seq ?_
  refine Sy.block ?_
  refine Sy.region ?_
  refine sP (.int .i64 30) <| sP (.slice (some ⟨ga, oa, none⟩) 33 cb) <| sP (.int .i64 30) <| sP (.int .i64 31) <| sS (.pointer (some ⟨ga, oa + 31, none⟩)) (Quiet.pure (fun w => exec_index 27 _ _ ga (oa) 33 (cb) 31 rfl kR kR kR kF (by decide) w)) <| sS (bv o31) (Quiet.thereOne ga (oa + 31) 5 _ _ rfl kR hs.1 _ (src_one hs 31 _ kR) Tryz.underlying5 rfl) <| sP (.pointer (some ⟨g1, 30, none⟩)) <| sW 1 g1 236 (bv o1 :: bv o2 :: [bv o3, bv o4, bv o5, bv o6, bv o7, bv o8, bv o9, bv o10, bv o11, bv o12, bv o13, bv o14, bv o15, bv o16, bv o17, bv o18, bv o19, bv o20, bv o21, bv o22, bv o23, bv o24, bv o25, bv o26, bv o27, bv o28, bv o29, bv o30, .int .u8 0, .int .u8 0]).toArray (bv o1 :: bv o2 :: [bv o3, bv o4, bv o5, bv o6, bv o7, bv o8, bv o9, bv o10, bv o11, bv o12, bv o13, bv o14, bv o15, bv o16, bv o17, bv o18, bv o19, bv o20, bv o21, bv o22, bv o23, bv o24, bv o25, bv o26, bv o27, bv o28, bv o29, bv o30, bv o31, .int .u8 0]).toArray (wO 30 5 (bv o31) rfl) ?_
  refine Sy.nil ?_
  refine Sy.in_ ?_
  refine Sy.then_ ?_
  refine Sy.region ?_
  refine sP (.int .i64 30) <| sP (.int .i64 31) <| sP (.int .i64 31) ?_
  refine Sy.nil ?_
  refine Sy.again ?_
  refine Sy.tidyR (G := [(0, .slice (some ⟨ga, oa, none⟩) 33 cb), (2, .pointer (some ⟨g0, 0, none⟩)), (4, .pointer (some ⟨g1, 0, none⟩)), (5, .int .i64 31)]) (M := [(g0, 58, (pcs 0 0 false)), (g1, 236, (bv o1 :: bv o2 :: [bv o3, bv o4, bv o5, bv o6, bv o7, bv o8, bv o9, bv o10, bv o11, bv o12, bv o13, bv o14, bv o15, bv o16, bv o17, bv o18, bv o19, bv o20, bv o21, bv o22, bv o23, bv o24, bv o25, bv o26, bv o27, bv o28, bv o29, bv o30, bv o31, .int .u8 0]).toArray)]) [true, true] kR (all_cons kR (all_cons kR (all_cons kR (all_cons kR all_nil)))) ?_
  refine Sy.round ?_
  refine Sy.seq ?_
  refine sC ?_
  refine sP (.int .i64 31) <| sP (.bool true) ?_
  refine sG ?_
  refine sT ?_
  refine Sy.skip ?_
  refine Sy.then_ ?_
  refine Sy.seq ?_
  refine Sy.block ?_
  refine Sy.region ?_
  refine sP (.int .i64 31) <| sP (.slice (some ⟨ga, oa, none⟩) 33 cb) <| sP (.int .i64 31) <| sP (.int .i64 32) <| sS (.pointer (some ⟨ga, oa + 32, none⟩)) (Quiet.pure (fun w => exec_index 27 _ _ ga (oa) 33 (cb) 32 rfl kR kR kR kF (by decide) w)) <| sS (bv o32) (Quiet.thereOne ga (oa + 32) 5 _ _ rfl kR hs.1 _ (src_one hs 32 _ kR) Tryz.underlying5 rfl) <| sP (.pointer (some ⟨g1, 31, none⟩)) <| sW 1 g1 236 (bv o1 :: bv o2 :: [bv o3, bv o4, bv o5, bv o6, bv o7, bv o8, bv o9, bv o10, bv o11, bv o12, bv o13, bv o14, bv o15, bv o16, bv o17, bv o18, bv o19, bv o20, bv o21, bv o22, bv o23, bv o24, bv o25, bv o26, bv o27, bv o28, bv o29, bv o30, bv o31, .int .u8 0]).toArray (bv o1 :: bv o2 :: [bv o3, bv o4, bv o5, bv o6, bv o7, bv o8, bv o9, bv o10, bv o11, bv o12, bv o13, bv o14, bv o15, bv o16, bv o17, bv o18, bv o19, bv o20, bv o21, bv o22, bv o23, bv o24, bv o25, bv o26, bv o27, bv o28, bv o29, bv o30, bv o31, bv o32]).toArray (wO 31 5 (bv o32) rfl) ?_
  refine Sy.nil ?_
  refine Sy.in_ ?_
  refine Sy.then_ ?_
  refine Sy.region ?_
  refine sP (.int .i64 31) <| sP (.int .i64 32) <| sP (.int .i64 32) ?_
  refine Sy.nil ?_
  refine Sy.again ?_
  refine Sy.tidyR (G := [(0, .slice (some ⟨ga, oa, none⟩) 33 cb), (2, .pointer (some ⟨g0, 0, none⟩)), (4, .pointer (some ⟨g1, 0, none⟩)), (5, .int .i64 32)]) (M := [(g0, 58, (pcs 0 0 false)), (g1, 236, (bv o1 :: bv o2 :: [bv o3, bv o4, bv o5, bv o6, bv o7, bv o8, bv o9, bv o10, bv o11, bv o12, bv o13, bv o14, bv o15, bv o16, bv o17, bv o18, bv o19, bv o20, bv o21, bv o22, bv o23, bv o24, bv o25, bv o26, bv o27, bv o28, bv o29, bv o30, bv o31, bv o32]).toArray)]) [true, true] kR (all_cons kR (all_cons kR (all_cons kR (all_cons kR all_nil)))) ?_
  refine Sy.round ?_
  refine Sy.seq ?_
  refine sC ?_
  refine sP (.int .i64 32) <| sP (.bool false) ?_
  refine sG ?_
  refine sU ?_
  refine Sy.exit ?_
  refine Sy.then_exit ?_
  refine Sy.then_exit ?_
  refine Sy.in_exit ?_
  refine sB ?_
  refine sS (.agg ((bv o1 :: bv o2 :: [bv o3, bv o4, bv o5, bv o6, bv o7, bv o8, bv o9, bv o10, bv o11, bv o12, bv o13, bv o14, bv o15, bv o16, bv o17, bv o18, bv o19, bv o20, bv o21, bv o22, bv o23, bv o24, bv o25, bv o26, bv o27, bv o28, bv o29, bv o30, bv o31, bv o32]) : List Value).toArray) (qL 1 g1 0 32 236 236 (bv o1 :: bv o2 :: [bv o3, bv o4, bv o5, bv o6, bv o7, bv o8, bv o9, bv o10, bv o11, bv o12, bv o13, bv o14, bv o15, bv o16, bv o17, bv o18, bv o19, bv o20, bv o21, bv o22, bv o23, bv o24, bv o25, bv o26, bv o27, bv o28, bv o29, bv o30, bv o31, bv o32]).toArray rfl Tryz.underlying236) <| sS (.tuple #[pv px py pi, .bool kb]) (qF 263 #[.agg ((bv o1 :: bv o2 :: [bv o3, bv o4, bv o5, bv o6, bv o7, bv o8, bv o9, bv o10, bv o11, bv o12, bv o13, bv o14, bv o15, bv o16, bv o17, bv o18, bv o19, bv o20, bv o21, bv o22, bv o23, bv o24, bv o25, bv o26, bv o27, bv o28, bv o29, bv o30, bv o31, bv o32]) : List Value).toArray] (cL)) <| sP (.tuple #[pv px py pi, .bool kb]) <| sP (pv px py pi) <| sP (.bool kb) ?_
  refine sM 58 (pcs 0 0 false) (fun g2 => ?_)
  refine sW 2 g2 58 (pcs 0 0 false) (pcs px py pi) (wS 0 58 (pcs px py pi) rfl) <| sP (.bool kb) ?_
  refine sH (fun j => false) ?_
  refine sD 0 rfl (pv 0 0 true) (qF 258 #[] (zeroR_c)) <| sD 1 rfl (pv px py pi) (qL 2 g2 0 9 58 58 (pcs px py pi) rfl Tryz.underlying58) <| sD 2 rfl (pv px py pi) (qL 2 g2 0 9 58 58 (pcs px py pi) rfl Tryz.underlying58) <| sD 3 rfl (pv nx ny ni) (qF 264 #[pv px py pi] (cN)) ?_
  refine Sy.makeD 4 rfl kR kR 58 (pwr 0 0 true ++ (pwr px py pi ++ (pwr nx ny ni))).toArray (fun g => .slice (some ⟨g, 0, none⟩) 3 3) kF (fun g3 => ?_)
  refine sZ 5 rfl (.slice (some ⟨g3, 0, none⟩) 3 3) ?_
  refine sI ?_
  refine Sy.seq ?_
  refine sC ?_
  refine sP (.int .i64 0) ?_
  refine sG ?_
  refine Sy.block ?_
  refine Sy.loopN 4 ?_
  refine Sy.tidyR (G := [(0, .slice (some ⟨ga, oa, none⟩) 33 cb), (2, .pointer (some ⟨g0, 0, none⟩)), (8, .slice (some ⟨g3, 0, none⟩) 3 3), (9, .int .i64 0)]) (M := [(g0, 58, (pcs 0 0 false)), (g3, 58, (pwr 0 0 true ++ (pwr px py pi ++ (pwr nx ny ni))).toArray)]) [true, false, false, true] kR (all_cons kR (all_cons kR (all_cons kR (all_cons kR all_nil)))) ?_
  refine Sy.round ?_
  refine Sy.seq ?_
  refine sC ?_
  refine sP (.int .i64 0) <| sP (.bool true) ?_
  refine sG ?_
  refine sT ?_
  refine Sy.skip ?_
  refine Sy.then_ ?_
  refine Sy.seq ?_
  refine Sy.block ?_
  refine Sy.seq ?_
  refine Sy.regionD (fun j => false) kR ?_
  refine sZ 0 rfl (.slice (some ⟨g3, 0, none⟩) 3 3) <| sZ 1 rfl (.int .i64 0) <| sZ 2 rfl (.pointer (some ⟨g3, 0, none⟩)) <| sD 3 rfl (pv 0 0 true) (qL 1 g3 0 9 58 58 (pwr 0 0 true ++ (pwr px py pi ++ (pwr nx ny ni))).toArray rfl Tryz.underlying58) <| sZ 6 rfl (.slice (some ⟨ga, oa, none⟩) 33 cb) <| sD 7 rfl (.string ⟨((o0 :: o1 :: o2 :: [o3, o4, o5, o6, o7, o8, o9, o10, o11, o12, o13, o14, o15, o16, o17, o18, o19, o20, o21, o22, o23, o24, o25, o26, o27, o28, o29, o30, o31, o32])).toArray⟩) (str_src (some ⟨ga, oa, none⟩) (o0 :: o1 :: o2 :: [o3, o4, o5, o6, o7, o8, o9, o10, o11, o12, o13, o14, o15, o16, o17, o18, o19, o20, o21, o22, o23, o24, o25, o26, o27, o28, o29, o30, o31, o32]) 33 cb _ rfl rfl rfl (by decide) hsr) ?_
  refine Sy.callND 4 rfl kR kR 222 #[pv 0 0 true] kF (fun vq Mq => ∃ (g : Nat) (sp : List Value) (cap : Nat), vq = .slice (some ⟨g, 0, none⟩) 33 cap ∧ Mq = [(g, 5, ((encS none).map bv ++ sp).toArray)]) (fun w _ => cE0 w) (fun vq Mq hR0 => ?_)
  obtain ⟨gq1, spq1, cpq1, rfl, rfl⟩ := hR0
  refine sD 5 rfl (.string ⟨((encS none)).toArray⟩) (str_own 2 gq1 5 (encS none) spq1 33 cpq1 _ rfl rfl kR (encS_length _) (by decide)) ?_
  obtain ⟨b1, hb1⟩ : ∃ z : Bool, z = decide ((encS none) = (o0 :: o1 :: o2 :: [o3, o4, o5, o6, o7, o8, o9, o10, o11, o12, o13, o14, o15, o16, o17, o18, o19, o20, o21, o22, o23, o24, o25, o26, o27, o28, o29, o30, o31, o32])) := ⟨_, rfl⟩
  refine sD 8 rfl (.bool b1) (Quiet.pure (fun w => by rw [hb1]; exact eql_str w _ _ _ _ _ _ rfl rfl rfl)) ?_
  refine sI ?_
  cases b1
  · refine sU ?_
    refine Sy.skip ?_
    refine Sy.in_ ?_
    refine Sy.then_ ?_
    refine Sy.region ?_
    refine sP (.int .i64 0) <| sP (.int .i64 1) <| sP (.int .i64 1) ?_
    refine Sy.nil ?_
    refine Sy.again ?_
    refine Sy.tidyR (G := [(0, .slice (some ⟨ga, oa, none⟩) 33 cb), (2, .pointer (some ⟨g0, 0, none⟩)), (8, .slice (some ⟨g3, 0, none⟩) 3 3), (9, .int .i64 1)]) (M := [(g0, 58, (pcs 0 0 false)), (g3, 58, (pwr 0 0 true ++ (pwr px py pi ++ (pwr nx ny ni))).toArray)]) [true, true, false] kR (all_cons kR (all_cons kR (all_cons kR (all_cons kR all_nil)))) ?_
    refine Sy.round ?_
    refine Sy.seq ?_
    refine sC ?_
    refine sP (.int .i64 1) <| sP (.bool true) ?_
    refine sG ?_
    refine sT ?_
    refine Sy.skip ?_
    refine Sy.then_ ?_
    refine Sy.seq ?_
    refine Sy.block ?_
    refine Sy.seq ?_
    refine Sy.regionD (fun j => false) kR ?_
    refine sZ 0 rfl (.slice (some ⟨g3, 0, none⟩) 3 3) <| sZ 1 rfl (.int .i64 1) <| sZ 2 rfl (.pointer (some ⟨g3, 9, none⟩)) <| sD 3 rfl (pv px py pi) (qL 1 g3 9 9 58 58 (pwr 0 0 true ++ (pwr px py pi ++ (pwr nx ny ni))).toArray rfl Tryz.underlying58) <| sZ 6 rfl (.slice (some ⟨ga, oa, none⟩) 33 cb) <| sD 7 rfl (.string ⟨((o0 :: o1 :: o2 :: [o3, o4, o5, o6, o7, o8, o9, o10, o11, o12, o13, o14, o15, o16, o17, o18, o19, o20, o21, o22, o23, o24, o25, o26, o27, o28, o29, o30, o31, o32])).toArray⟩) (str_src (some ⟨ga, oa, none⟩) (o0 :: o1 :: o2 :: [o3, o4, o5, o6, o7, o8, o9, o10, o11, o12, o13, o14, o15, o16, o17, o18, o19, o20, o21, o22, o23, o24, o25, o26, o27, o28, o29, o30, o31, o32]) 33 cb _ rfl rfl rfl (by decide) hsr) ?_
    refine Sy.callND 4 rfl kR kR 222 #[pv px py pi] kF (fun vq Mq => ∃ (g : Nat) (sp : List Value) (cap : Nat), vq = .slice (some ⟨g, 0, none⟩) 33 cap ∧ Mq = [(g, 5, ((encS (liftP tl)).map bv ++ sp).toArray)]) (fun w _ => cE1 w) (fun vq Mq hR0 => ?_)
    obtain ⟨gq2, spq2, cpq2, rfl, rfl⟩ := hR0
    refine sD 5 rfl (.string ⟨((encS (liftP tl))).toArray⟩) (str_own 2 gq2 5 (encS (liftP tl)) spq2 33 cpq2 _ rfl rfl kR (encS_length _) (by decide)) ?_
    obtain ⟨b2, hb2⟩ : ∃ z : Bool, z = decide ((encS (liftP tl)) = (o0 :: o1 :: o2 :: [o3, o4, o5, o6, o7, o8, o9, o10, o11, o12, o13, o14, o15, o16, o17, o18, o19, o20, o21, o22, o23, o24, o25, o26, o27, o28, o29, o30, o31, o32])) := ⟨_, rfl⟩
    refine sD 8 rfl (.bool b2) (Quiet.pure (fun w => by rw [hb2]; exact eql_str w _ _ _ _ _ _ rfl rfl rfl)) ?_
    refine sI ?_
    cases b2
    · refine sU ?_
      refine Sy.skip ?_
      refine Sy.in_ ?_
      refine Sy.then_ ?_
      refine Sy.region ?_
      refine sP (.int .i64 1) <| sP (.int .i64 2) <| sP (.int .i64 2) ?_
      refine Sy.nil ?_
      refine Sy.again ?_
      refine Sy.tidyR (G := [(0, .slice (some ⟨ga, oa, none⟩) 33 cb), (2, .pointer (some ⟨g0, 0, none⟩)), (8, .slice (some ⟨g3, 0, none⟩) 3 3), (9, .int .i64 2)]) (M := [(g0, 58, (pcs 0 0 false)), (g3, 58, (pwr 0 0 true ++ (pwr px py pi ++ (pwr nx ny ni))).toArray)]) [true, true, false] kR (all_cons kR (all_cons kR (all_cons kR (all_cons kR all_nil)))) ?_
      refine Sy.round ?_
      refine Sy.seq ?_
      refine sC ?_
      refine sP (.int .i64 2) <| sP (.bool true) ?_
      refine sG ?_
      refine sT ?_
      refine Sy.skip ?_
      refine Sy.then_ ?_
      refine Sy.seq ?_
      refine Sy.block ?_
      refine Sy.seq ?_
      refine Sy.regionD (fun j => false) kR ?_
      refine sZ 0 rfl (.slice (some ⟨g3, 0, none⟩) 3 3) <| sZ 1 rfl (.int .i64 2) <| sZ 2 rfl (.pointer (some ⟨g3, 18, none⟩)) <| sD 3 rfl (pv nx ny ni) (qL 1 g3 18 9 58 58 (pwr 0 0 true ++ (pwr px py pi ++ (pwr nx ny ni))).toArray rfl Tryz.underlying58) <| sZ 6 rfl (.slice (some ⟨ga, oa, none⟩) 33 cb) <| sD 7 rfl (.string ⟨((o0 :: o1 :: o2 :: [o3, o4, o5, o6, o7, o8, o9, o10, o11, o12, o13, o14, o15, o16, o17, o18, o19, o20, o21, o22, o23, o24, o25, o26, o27, o28, o29, o30, o31, o32])).toArray⟩) (str_src (some ⟨ga, oa, none⟩) (o0 :: o1 :: o2 :: [o3, o4, o5, o6, o7, o8, o9, o10, o11, o12, o13, o14, o15, o16, o17, o18, o19, o20, o21, o22, o23, o24, o25, o26, o27, o28, o29, o30, o31, o32]) 33 cb _ rfl rfl rfl (by decide) hsr) ?_
      refine Sy.callND 4 rfl kR kR 222 #[pv nx ny ni] kF (fun vq Mq => ∃ (g : Nat) (sp : List Value) (cap : Nat), vq = .slice (some ⟨g, 0, none⟩) 33 cap ∧ Mq = [(g, 5, ((encS (Ec.neg (liftP tl))).map bv ++ sp).toArray)]) (fun w _ => cE2 w) (fun vq Mq hR0 => ?_)
      obtain ⟨gq3, spq3, cpq3, rfl, rfl⟩ := hR0
      refine sD 5 rfl (.string ⟨((encS (Ec.neg (liftP tl)))).toArray⟩) (str_own 2 gq3 5 (encS (Ec.neg (liftP tl))) spq3 33 cpq3 _ rfl rfl kR (encS_length _) (by decide)) ?_
      obtain ⟨b3, hb3⟩ : ∃ z : Bool, z = decide ((encS (Ec.neg (liftP tl))) = (o0 :: o1 :: o2 :: [o3, o4, o5, o6, o7, o8, o9, o10, o11, o12, o13, o14, o15, o16, o17, o18, o19, o20, o21, o22, o23, o24, o25, o26, o27, o28, o29, o30, o31, o32])) := ⟨_, rfl⟩
      refine sD 8 rfl (.bool b3) (Quiet.pure (fun w => by rw [hb3]; exact eql_str w _ _ _ _ _ _ rfl rfl rfl)) ?_
      refine sI ?_
      cases b3
      · refine sU ?_
        refine Sy.skip ?_
        refine Sy.in_ ?_
        refine Sy.then_ ?_
        refine Sy.region ?_
        refine sP (.int .i64 2) <| sP (.int .i64 3) <| sP (.int .i64 3) ?_
        refine Sy.nil ?_
        refine Sy.again ?_
        refine Sy.tidyR (G := [(0, .slice (some ⟨ga, oa, none⟩) 33 cb), (2, .pointer (some ⟨g0, 0, none⟩)), (8, .slice (some ⟨g3, 0, none⟩) 3 3), (9, .int .i64 3)]) (M := [(g0, 58, (pcs 0 0 false)), (g3, 58, (pwr 0 0 true ++ (pwr px py pi ++ (pwr nx ny ni))).toArray)]) [true, true, false] kR (all_cons kR (all_cons kR (all_cons kR (all_cons kR all_nil)))) ?_
        refine Sy.round ?_
        refine Sy.seq ?_
        refine sC ?_
        refine sP (.int .i64 3) <| sP (.bool false) ?_
        refine sG ?_
        refine sU ?_
        refine Sy.exit ?_
        refine Sy.then_exit ?_
        refine Sy.then_exit ?_
        refine Sy.in_exit ?_
        refine sB ?_
        refine sS (pv 0 0 true) (qF 258 #[] (zeroR_c)) <| sW 0 g0 58 (pcs 0 0 false) (pcs 0 0 true) (wS 0 58 (pcs 0 0 true) rfl) <| sP (.bool false) ?_
        refine sG ?_
        refine Sy.ret ?_
        rw [show (.tuple #[ptv (decP (o0 :: o1 :: o2 :: [o3, o4, o5, o6, o7, o8, o9, o10, o11, o12, o13, o14, o15, o16, o17, o18, o19, o20, o21, o22, o23, o24, o25, o26, o27, o28, o29, o30, o31, o32])), .bool (decOk (o0 :: o1 :: o2 :: [o3, o4, o5, o6, o7, o8, o9, o10, o11, o12, o13, o14, o15, o16, o17, o18, o19, o20, o21, o22, o23, o24, o25, o26, o27, o28, o29, o30, o31, o32]))] : Value) = .tuple #[pv 0 0 true, .bool false] from by
          have hd : decOk (o0 :: o1 :: o2 :: [o3, o4, o5, o6, o7, o8, o9, o10, o11, o12, o13, o14, o15, o16, o17, o18, o19, o20, o21, o22, o23, o24, o25, o26, o27, o28, o29, o30, o31, o32]) = false := by
            unfold decOk
            refine decide_eq_false (fun k => ?_)
            rcases cand_or o0 (o1 :: o2 :: [o3, o4, o5, o6, o7, o8, o9, o10, o11, o12, o13, o14, o15, o16, o17, o18, o19, o20, o21, o22, o23, o24, o25, o26, o27, o28, o29, o30, o31, o32]) with hc | hc
            · rw [hc, ← htl] at k
              exact of_decide_eq_false hb3.symm (k.2.trans (by rw [htl]))
            · rw [hc, ← htl] at k
              exact of_decide_eq_false hb2.symm (k.2.trans (by rw [htl]))
          rw [hd, decP_no hd]; rfl]
        exact Sy.ret2 (v := pv 0 0 true) (u := .bool false) rfl (.inl (Res.cell (ty' := 58) g0 0 (pcs 0 0 true) _ kR kR Tryz.underlying58 rfl kR kR)) (.inl (show _ = _ by kernel_rfl))
      · refine sT ?_
        refine sC ?_
        refine sP (.slice (some ⟨g3, 0, none⟩) 3 3) <| sP (.int .i64 2) <| sP (.pointer (some ⟨g3, 18, none⟩)) <| sS (pv nx ny ni) (qL 1 g3 18 9 58 58 (pwr 0 0 true ++ (pwr px py pi ++ (pwr nx ny ni))).toArray rfl Tryz.underlying58) <| sW 0 g0 58 (pcs 0 0 false) (pcs nx ny ni) (wS 0 58 (pcs nx ny ni) rfl) <| sP (.bool true) ?_
        refine sG ?_
        refine Sy.ret ?_
        refine Sy.in_ret ?_
        refine Sy.then_ret ?_
        refine Sy.then_ret ?_
        refine Sy.in_ret ?_
        refine Sy.then_ret ?_
        rw [show (.tuple #[ptv (decP (o0 :: o1 :: o2 :: [o3, o4, o5, o6, o7, o8, o9, o10, o11, o12, o13, o14, o15, o16, o17, o18, o19, o20, o21, o22, o23, o24, o25, o26, o27, o28, o29, o30, o31, o32])), .bool (decOk (o0 :: o1 :: o2 :: [o3, o4, o5, o6, o7, o8, o9, o10, o11, o12, o13, o14, o15, o16, o17, o18, o19, o20, o21, o22, o23, o24, o25, o26, o27, o28, o29, o30, o31, o32]))] : Value) = .tuple #[pv nx ny ni, .bool true] from by
          have hd := dec_enc (P := (Ec.neg (liftP tl))) (Ec.On.neg (liftP_on tl))
          rw [of_decide_eq_true hb3.symm] at hd
          rw [hd.1, hd.2, en]]
        exact Sy.ret2 (v := pv nx ny ni) (u := .bool true) rfl (.inl (Res.cell (ty' := 58) g0 0 (pcs nx ny ni) _ kR kR Tryz.underlying58 rfl kR kR)) (.inl (show _ = _ by kernel_rfl))
    · refine sT ?_
      refine sC ?_
      refine sP (.slice (some ⟨g3, 0, none⟩) 3 3) <| sP (.int .i64 1) <| sP (.pointer (some ⟨g3, 9, none⟩)) <| sS (pv px py pi) (qL 1 g3 9 9 58 58 (pwr 0 0 true ++ (pwr px py pi ++ (pwr nx ny ni))).toArray rfl Tryz.underlying58) <| sW 0 g0 58 (pcs 0 0 false) (pcs px py pi) (wS 0 58 (pcs px py pi) rfl) <| sP (.bool true) ?_
      refine sG ?_
      refine Sy.ret ?_
      refine Sy.in_ret ?_
      refine Sy.then_ret ?_
      refine Sy.then_ret ?_
      refine Sy.in_ret ?_
      refine Sy.then_ret ?_
      rw [show (.tuple #[ptv (decP (o0 :: o1 :: o2 :: [o3, o4, o5, o6, o7, o8, o9, o10, o11, o12, o13, o14, o15, o16, o17, o18, o19, o20, o21, o22, o23, o24, o25, o26, o27, o28, o29, o30, o31, o32])), .bool (decOk (o0 :: o1 :: o2 :: [o3, o4, o5, o6, o7, o8, o9, o10, o11, o12, o13, o14, o15, o16, o17, o18, o19, o20, o21, o22, o23, o24, o25, o26, o27, o28, o29, o30, o31, o32]))] : Value) = .tuple #[pv px py pi, .bool true] from by
        have hd := dec_enc (P := (liftP tl)) (liftP_on tl)
        rw [of_decide_eq_true hb2.symm] at hd
        rw [hd.1, hd.2, ep]]
      exact Sy.ret2 (v := pv px py pi) (u := .bool true) rfl (.inl (Res.cell (ty' := 58) g0 0 (pcs px py pi) _ kR kR Tryz.underlying58 rfl kR kR)) (.inl (show _ = _ by kernel_rfl))
  · refine sT ?_
    refine sC ?_
    refine sP (.slice (some ⟨g3, 0, none⟩) 3 3) <| sP (.int .i64 0) <| sP (.pointer (some ⟨g3, 0, none⟩)) <| sS (pv 0 0 true) (qL 1 g3 0 9 58 58 (pwr 0 0 true ++ (pwr px py pi ++ (pwr nx ny ni))).toArray rfl Tryz.underlying58) <| sW 0 g0 58 (pcs 0 0 false) (pcs 0 0 true) (wS 0 58 (pcs 0 0 true) rfl) <| sP (.bool true) ?_
    refine sG ?_
    refine Sy.ret ?_
    refine Sy.in_ret ?_
    refine Sy.then_ret ?_
    refine Sy.then_ret ?_
    refine Sy.in_ret ?_
    refine Sy.then_ret ?_
    rw [show (.tuple #[ptv (decP (o0 :: o1 :: o2 :: [o3, o4, o5, o6, o7, o8, o9, o10, o11, o12, o13, o14, o15, o16, o17, o18, o19, o20, o21, o22, o23, o24, o25, o26, o27, o28, o29, o30, o31, o32])), .bool (decOk (o0 :: o1 :: o2 :: [o3, o4, o5, o6, o7, o8, o9, o10, o11, o12, o13, o14, o15, o16, o17, o18, o19, o20, o21, o22, o23, o24, o25, o26, o27, o28, o29, o30, o31, o32]))] : Value) = .tuple #[pv 0 0 true, .bool true] from by
      have hd := dec_enc (P := none) (show Ec.On none from trivial)
      rw [of_decide_eq_true hb1.symm] at hd
      rw [hd.1, hd.2]; rfl]
    exact Sy.ret2 (v := pv 0 0 true) (u := .bool true) rfl (.inl (Res.cell (ty' := 58) g0 0 (pcs 0 0 true) _ kR kR Tryz.underlying58 rfl kR kR)) (.inl (show _ = _ by kernel_rfl))
theorem decodeR_any (w : World) (A : Option Addr) (b : List UInt8) (n c : Nat) (hn : b.length = n) (hs : Src w A b) (hc : n ≤ c) : Calls Tryz.prog 223 #[.slice A n c] w (Gets w (.tuple #[ptv (decP b), .bool (decOk b)])) := by
  by_cases h : n = 33
  · subst h
    have hs' := hs
    obtain ⟨ga, oa, rfl, hl, hcell⟩ := hs (by intro e; rw [e] at hn; cases hn)
    obtain ⟨o0, o1, o2, o3, o4, o5, o6, o7, o8, o9, o10, o11, o12, o13, o14, o15, o16, o17, o18, o19, o20, o21, o22, o23, o24, o25, o26, o27, o28, o29, o30, o31, o32, rfl⟩ := list33 b hn
    exact decR_33 w ga oa c o0 o1 o2 o3 o4 o5 o6 o7 o8 o9 o10 o11 o12 o13 o14 o15 o16 o17 o18 o19 o20 o21 o22 o23 o24 o25 o26 o27 o28 o29 o30 o31 o32 (SrcL.of hl hcell) hs' hc
  · have hd : decOk b = false := by unfold decOk; exact decide_eq_false (fun k => h (hn ▸ k.1))
    rw [hd, decP_no hd]
    exact decR_len w A n c h
end Go.Proofs.YtgemfpnlnipfnaaGreat.Cu

end
section
namespace Go.Proofs.YtgemfpnlnipfnaaGreat.Wr
open Go.RowKit Go.Proofs.YtgemfpnlnipfnaaGreat Go.Proofs.YtgemfpnlnipfnaaGreat.Sy
set_option maxRecDepth 100000
set_option maxHeartbeats 4000000

theorem wr_must (ok bad : Bool) (b x : Byt) (k : Nat) (h : x.length ≤ k) : Wrote ok x k bad b (bad || !ok) (b ++ x) := by
  have q := (Wrote.must ok bad b).then_ (Wrote.raw x (bad || !ok) b h)
  rw [Bool.and_true, List.nil_append, Nat.zero_add] at q
  exact q

theorem pointW_any (w0 : Base) (gw : Nat) (bad : Bool) (s : Slc) (R : Blocks) (b : Byt) (p : MPt) (h1 : p.x < Cu.K4) (h2 : p.y < Cu.K4) (hb : BS s b) (hl : b.length + 33 ≤ 70368744177000) (w : World) (hw : St w0 w (WB gw bad s R)) :
    Calls Tryz.prog 182 #[ptr gw, .agg (lPT p).toArray] w (Turns w0 (Wd gw R (okPT p) (encPT p) 33 bad b)) := by
  refine Sy.enterT (args := [ptr gw, .agg (lPT p).toArray]) hw Tryz.func182 rfl kL ?_
  refine sC ?_
  refine sM 58 (lPT p).toArray (fun g3 => ?_) kR (fun w => run_boxR rfl rfl (by kernel_rfl) (lPT_len p) w)
  refine Sy.permS (M := WB gw bad s (R ++ [(g3, 58, (lPT p).toArray)])) (List.Perm.of_eq (by simp only [List.append_assoc])) ?_
  have X0 : XAt (rdC w0.inn [(g3, 58, (lPT p).toArray)]) g3 0 ((lPT p)) := fun i u hu => .inr ⟨_, _, List.mem_singleton.2 rfl, by rw [Nat.zero_add, List.getElem?_toArray]; exact hu⟩
  have X8 : XAt (rdC w0.inn [(g3, 58, (lPT p).toArray)]) g3 8 [.bool p.i] := (X0.right (n := 4) rfl).right (n := 4) rfl
  obtain ⟨b1, hb1⟩ : ∃ z, z = Cu.rightB p.x p.y p.i := ⟨_, rfl⟩
  obtain ⟨ok, hok⟩ : ∃ z, z = okPT p := ⟨_, rfl⟩
  have e : ok = (b1 && !p.i) := by rw [hok, hb1]; rfl
  refine sA ?_
  refine sp rfl <| sS (.agg (lPT p).toArray) (rowC (R := [(g3, 58, (lPT p).toArray)]) (g := g3) (f := 0) (k := 9) (cs := lPT p) X0 (fun y hy => inWB (List.mem_append_right R hy)) (lPT_len p) rfl Tryz.underlying58) <| sS (.bool b1) (qG 221 #[Cu.pv p.x p.y p.i] (fun w hw => by rw [hb1]; exact Cu.rightR_b w _ _ _ h1 h2)) <| sp rfl ?_
  rw [← hok]
  cases b1
  case' false =>
    obtain rfl : ok = false := e
    refine sN <| sN <| sN <| sP (.bool false) ?_
    refine Sy.callT (fun w hw => mustW_any w0.inn gw bad false s (R ++ [(g3, 58, (lPT p).toArray)]) w hw) (fun u M hM => ?_)
  case' true =>
    obtain rfl : ok = !p.i := e
    refine sP (.pointer (some ⟨g3, 8, none⟩)) <| sS (.bool p.i) (cellC (R := [(g3, 58, (lPT p).toArray)]) (g := g3) (f := 8) X8.one (fun y hy => inWB (List.mem_append_right R hy)) rfl Tryz.underlying4) <| sP (.bool (!p.i)) <| sP (.bool (!p.i)) ?_
    refine Sy.callT (fun w hw => mustW_any w0.inn gw bad (!p.i) s (R ++ [(g3, 58, (lPT p).toArray)]) w hw) (fun u M hM => ?_)
  all_goals
    subst hM
    refine Sy.nil ?_
    refine Sy.then_ ?_
    refine Sy.region ?_
    refine sp rfl <| sS (.agg (lPT p).toArray) (rowC (R := [(g3, 58, (lPT p).toArray)]) (g := g3) (f := 0) (k := 9) (cs := lPT p) X0 (fun y hy => inWB (List.mem_append_right R hy)) (lPT_len p) rfl Tryz.underlying58) ?_
    refine Sy.callN kR 222 #[Cu.pv p.x p.y p.i] kF _ (fun w' _ => Cu.encW_any w' p.x p.y p.i h1 h2) (fun u M hM => ?_)
    obtain ⟨g, sq, cap, rfl, ⟨hc1, hc2⟩, rfl⟩ := hM
  · have hB : BytR (rdC w0.inn ((R ++ [(g3, 58, (lPT p).toArray)]) ++ [(g, 5, ((encPT p).map bv ++ sq).toArray)])) (.slice (some ⟨g, 0, none⟩) 33 cap) (encPT p) := ⟨_, _, _, rfl, by first | exact encPT_len p | exact (encPT_len p).symm, hc1, hc2, fun _ => ⟨g, 0, rfl, fun j y hj => .inr ⟨5, _, List.mem_append_right _ (List.mem_singleton.2 rfl), by rw [Nat.zero_add, List.getElem?_toArray, List.getElem?_append_left (by rw [List.length_map]; exact (List.getElem?_eq_some_iff.1 hj).1), List.getElem?_map, hj]; rfl⟩⟩⟩
    refine Sy.permS (M := WB gw (bad || !(!p.i)) s ((R ++ [(g3, 58, (lPT p).toArray)]) ++ [(g, 5, ((encPT p).map bv ++ sq).toArray)])) (List.Perm.of_eq (by simp only [List.append_assoc]; rfl)) ?_
    refine Sy.callT (fun w hw => wrawW_any w0.inn gw (bad || !(!p.i)) s ((R ++ [(g3, 58, (lPT p).toArray)]) ++ [(g, 5, ((encPT p).map bv ++ sq).toArray)]) b _ (encPT p) hb hB (by rw [encPT_len]; omega) w hw) (fun v M hM => ?_)
    obtain ⟨r, hr, rfl⟩ := hM
    refine Sy.nil ?_
    exact Sy.retT0 rfl (WB gw (bad || !(!p.i)) r R) (fun _ h => dropW (by simpa only [List.append_assoc] using h)) (fun _ => ⟨r, bad || !(!p.i), b ++ encPT p, wr_must (!p.i) bad b (encPT p) 33 (by rw [encPT_len]; exact Nat.le_refl _), hr, rfl⟩)
  · have hB : BytR (rdC w0.inn ((R ++ [(g3, 58, (lPT p).toArray)]) ++ [(g, 5, ((encPT p).map bv ++ sq).toArray)])) (.slice (some ⟨g, 0, none⟩) 33 cap) (encPT p) := ⟨_, _, _, rfl, by first | exact encPT_len p | exact (encPT_len p).symm, hc1, hc2, fun _ => ⟨g, 0, rfl, fun j y hj => .inr ⟨5, _, List.mem_append_right _ (List.mem_singleton.2 rfl), by rw [Nat.zero_add, List.getElem?_toArray, List.getElem?_append_left (by rw [List.length_map]; exact (List.getElem?_eq_some_iff.1 hj).1), List.getElem?_map, hj]; rfl⟩⟩⟩
    refine Sy.permS (M := WB gw (bad || !(false)) s ((R ++ [(g3, 58, (lPT p).toArray)]) ++ [(g, 5, ((encPT p).map bv ++ sq).toArray)])) (List.Perm.of_eq (by simp only [List.append_assoc]; rfl)) ?_
    refine Sy.callT (fun w hw => wrawW_any w0.inn gw (bad || !(false)) s ((R ++ [(g3, 58, (lPT p).toArray)]) ++ [(g, 5, ((encPT p).map bv ++ sq).toArray)]) b _ (encPT p) hb hB (by rw [encPT_len]; omega) w hw) (fun v M hM => ?_)
    obtain ⟨r, hr, rfl⟩ := hM
    refine Sy.nil ?_
    exact Sy.retT0 rfl (WB gw (bad || !(false)) r R) (fun _ h => dropW (by simpa only [List.append_assoc] using h)) (fun _ => ⟨r, bad || !(false), b ++ encPT p, wr_must (false) bad b (encPT p) 33 (by rw [encPT_len]; exact Nat.le_refl _), hr, rfl⟩)

theorem tagW_any (w0 : Base) (gw : Nat) (bad : Bool) (s : Slc) (R : Blocks) (b : Byt) (t : MTag) (h1 : t.id.length = 32) (h2 : t.pt.x < Cu.K4) (h3 : t.pt.y < Cu.K4) (hb : BS s b) (hl : b.length + 34 ≤ 70368744177000) (w : World) (hw : St w0 w (WB gw bad s R)) :
    Calls Tryz.prog 125 #[ptr gw, .agg (cTG t).toArray] w (Turns w0 (Wd gw R (okTG t) (encTG t) 34 bad b)) := by
  obtain ⟨bl, id, p⟩ := t
  dsimp only at h1 h2 h3
  have e1 : (id.map bv).length = 32 := by rw [List.length_map, h1]
  have hlen : (cTG ⟨bl, id, p⟩).length = 42 := cTG_len h1
  refine Sy.enterT (args := [ptr gw, .agg (cTG ⟨bl, id, p⟩).toArray]) hw Tryz.func125 rfl kL ?_
  refine sC ?_
  refine sM 60 (cTG ⟨bl, id, p⟩).toArray (fun g3 => ?_) kR (fun w => run_boxR rfl rfl (by kernel_rfl) hlen w)
  refine Sy.permS (M := WB gw bad s (R ++ [(g3, 60, (cTG ⟨bl, id, p⟩).toArray)])) (List.Perm.of_eq (by simp only [List.append_assoc])) ?_
  have X0 : XAt (rdC w0.inn [(g3, 60, (cTG ⟨bl, id, p⟩).toArray)]) g3 0 ((cTG ⟨bl, id, p⟩)) := fun i u hu => .inr ⟨_, _, List.mem_singleton.2 rfl, by rw [Nat.zero_add, List.getElem?_toArray]; exact hu⟩
  have Y1 : XAt (rdC w0.inn [(g3, 60, (cTG ⟨bl, id, p⟩).toArray)]) g3 1 (id.map bv ++ lPT p) := X0.right (n := 1) rfl
  have X1 := Y1.left
  have X2 : XAt (rdC w0.inn [(g3, 60, (cTG ⟨bl, id, p⟩).toArray)]) g3 33 (lPT p) := Y1.right e1
  have q0 := Wrote.raw [trB bl] bad b (k := 1) (Nat.le_refl _)
  have l0 : (b ++ [trB bl]).length = b.length + 1 := by rw [List.length_append]; rfl
  refine sA ?_
  refine sp rfl <| sP (.pointer (some ⟨g3, 0, none⟩)) <| sS (.bool bl) (cellC (R := [(g3, 60, (cTG ⟨bl, id, p⟩).toArray)]) (g := g3) (f := 0) X0.one (fun y hy => inWB (List.mem_append_right R hy)) rfl Tryz.underlying4) ?_
  refine Sy.callT (fun w hw => truthW_any w0.inn gw bad s (R ++ [(g3, 60, (cTG ⟨bl, id, p⟩).toArray)]) b bl hb (by omega) w hw) (fun v M hM => ?_)
  obtain ⟨r, k1, rfl⟩ := hM
  refine sG ?_
  refine Sy.seq ?_
  refine sC ?_
  refine sP (.pointer (some ⟨g3, 0, none⟩)) <| sS (.bool bl) (cellC (R := [(g3, 60, (cTG ⟨bl, id, p⟩).toArray)]) (g := g3) (f := 0) X0.one (fun y hy => inWB (List.mem_append_right R hy)) rfl Tryz.underlying4) ?_
  refine sG ?_
  cases bl
  case' true =>
    refine sT ?_
    refine sC ?_
    obtain ⟨ok, hok⟩ : ∃ z : Bool, z = decide (id = z32) := ⟨_, rfl⟩
    refine sp rfl <| sP (.pointer (some ⟨g3, 1, none⟩)) <| sS (.agg (id.map bv).toArray) (rowC (R := [(g3, 60, (cTG ⟨true, id, p⟩).toArray)]) (g := g3) (f := 1) (k := 32) (cs := id.map bv) X1 (fun y hy => inWB (List.mem_append_right R hy)) e1 rfl Tryz.underlying37) <| sP (.agg (z32.map bv).toArray) <| sS (.bool ok) (Quiet.pure (fun w => by rw [hok]; exact eql_dgs w _ _ _ _ id z32 h1 rfl rfl rfl rfl)) ?_
    refine Sy.callT (fun w hw => mustW_any w0.inn gw bad ok r (R ++ [(g3, 60, (cTG ⟨true, id, p⟩).toArray)]) w hw) (fun u M hM => ?_)
    subst hM
    refine sA ?_
    refine sp rfl <| sP (.pointer (some ⟨g3, 33, none⟩)) <| sS (.agg (lPT p).toArray) (rowC (R := [(g3, 60, (cTG ⟨true, id, p⟩).toArray)]) (g := g3) (f := 33) (k := 9) (cs := lPT p) X2 (fun y hy => inWB (List.mem_append_right R hy)) (lPT_len p) rfl Tryz.underlying58) ?_
    refine Sy.callT (fun w hw => pointW_any w0.inn gw (bad || !ok) r (R ++ [(g3, 60, (cTG ⟨true, id, p⟩).toArray)]) (b ++ [trB true]) p h2 h3 k1 (by omega) w hw) (fun u M hM => ?_)
    obtain ⟨r2, bad2, b2, q2, k2, rfl⟩ := hM
    have q := q0.then_ ((Wrote.must ok bad (b ++ [trB true])).then_ q2)
    rw [Bool.true_and, List.nil_append, Nat.zero_add, Bool.and_comm, hok] at q
    refine sG ?_
    refine Sy.ret ?_
    refine Sy.then_ret ?_
    exact Sy.retT0 rfl (WB gw bad2 r2 R) (fun _ h => dropW h) (fun _ => ⟨r2, bad2, b2, q, k2, rfl⟩)
  refine sU ?_
  refine Sy.skip ?_
  refine sB ?_
  obtain ⟨ok, hok⟩ : ∃ z : Bool, z = nulPT p := ⟨_, rfl⟩
  refine sp rfl <| sP (.pointer (some ⟨g3, 33, none⟩)) <| sS (Cu.pv p.x p.y p.i) (rowC (R := [(g3, 60, (cTG ⟨false, id, p⟩).toArray)]) (g := g3) (f := 33) (k := 9) (cs := lPT p) X2 (fun y hy => inWB (List.mem_append_right R hy)) (lPT_len p) rfl Tryz.underlying58) <| sP (Cu.pv 0 0 false) <| sS (.bool ok) (Quiet.pure (fun w => by rw [hok]; exact Cu.eql_pt w _ _ _ _ p.x p.y p.i 0 0 false rfl rfl rfl h2 h3 (by decide) (by decide))) ?_
  refine Sy.callT (fun w hw => mustW_any w0.inn gw bad ok r (R ++ [(g3, 60, (cTG ⟨false, id, p⟩).toArray)]) w hw) (fun u M hM => ?_)
  subst hM
  refine Sy.nil ?_
  refine Sy.then_ ?_
  refine Sy.region ?_
  refine sp rfl <| sP (.pointer (some ⟨g3, 1, none⟩)) <| sS (.agg (id.map bv).toArray) (rowC (R := [(g3, 60, (cTG ⟨false, id, p⟩).toArray)]) (g := g3) (f := 1) (k := 32) (cs := id.map bv) X1 (fun y hy => inWB (List.mem_append_right R hy)) e1 rfl Tryz.underlying37) ?_
  refine Sy.callT (fun w hw => digW_any w0.inn gw (bad || !ok) r (R ++ [(g3, 60, (cTG ⟨false, id, p⟩).toArray)]) (b ++ [trB false]) id h1 k1 (by omega) w hw) (fun u M hM => ?_)
  obtain ⟨r2, k2, rfl⟩ := hM
  refine Sy.nil ?_
  have q2 := Wrote.raw id (bad || !ok) (b ++ [trB false]) (k := 33) (by omega)
  have q := q0.then_ ((Wrote.must ok bad (b ++ [trB false])).then_ q2)
  rw [Bool.true_and, Bool.and_true, List.nil_append, Nat.zero_add, hok] at q
  exact Sy.retT0 rfl (WB gw (bad || !ok) r2 R) (fun _ h => dropW h) (fun _ => ⟨r2, bad || !ok, _, by rw [hok]; exact q, k2, rfl⟩)

theorem amountW_any (w0 : Base) (gw : Nat) (bad : Bool) (s : Slc) (R : Blocks) (b : Byt) (t : MAmt) (h1 : t.value < 18446744073709551616) (h2 : t.pt.x < Cu.K4) (h3 : t.pt.y < Cu.K4) (hb : BS s b) (hl : b.length + 34 ≤ 70368744177000) (w : World) (hw : St w0 w (WB gw bad s R)) :
    Calls Tryz.prog 126 #[ptr gw, .agg (cAM t).toArray] w (Turns w0 (Wd gw R (okAM t) (encAM t) 34 bad b)) := by
  obtain ⟨bl, id, p⟩ := t
  dsimp only at h1 h2 h3
  have hlen : (cAM ⟨bl, id, p⟩).length = 11 := rfl
  refine Sy.enterT (args := [ptr gw, .agg (cAM ⟨bl, id, p⟩).toArray]) hw Tryz.func126 rfl kL ?_
  refine sC ?_
  refine sM 62 (cAM ⟨bl, id, p⟩).toArray (fun g3 => ?_) kR (fun w => run_boxR rfl rfl (by kernel_rfl) hlen w)
  refine Sy.permS (M := WB gw bad s (R ++ [(g3, 62, (cAM ⟨bl, id, p⟩).toArray)])) (List.Perm.of_eq (by simp only [List.append_assoc])) ?_
  have X0 : XAt (rdC w0.inn [(g3, 62, (cAM ⟨bl, id, p⟩).toArray)]) g3 0 ((cAM ⟨bl, id, p⟩)) := fun i u hu => .inr ⟨_, _, List.mem_singleton.2 rfl, by rw [Nat.zero_add, List.getElem?_toArray]; exact hu⟩
  have X1 : XAt (rdC w0.inn [(g3, 62, (cAM ⟨bl, id, p⟩).toArray)]) g3 1 ([.int .u64 (id : Int)] ++ lPT p) := X0.right (n := 1) rfl
  have X2 : XAt (rdC w0.inn [(g3, 62, (cAM ⟨bl, id, p⟩).toArray)]) g3 2 (lPT p) := X1.right (n := 1) rfl
  have q0 := Wrote.raw [trB bl] bad b (k := 1) (Nat.le_refl _)
  have l0 : (b ++ [trB bl]).length = b.length + 1 := by rw [List.length_append]; rfl
  refine sA ?_
  refine sp rfl <| sP (.pointer (some ⟨g3, 0, none⟩)) <| sS (.bool bl) (cellC (R := [(g3, 62, (cAM ⟨bl, id, p⟩).toArray)]) (g := g3) (f := 0) X0.one (fun y hy => inWB (List.mem_append_right R hy)) rfl Tryz.underlying4) ?_
  refine Sy.callT (fun w hw => truthW_any w0.inn gw bad s (R ++ [(g3, 62, (cAM ⟨bl, id, p⟩).toArray)]) b bl hb (by omega) w hw) (fun v M hM => ?_)
  obtain ⟨r, k1, rfl⟩ := hM
  refine sG ?_
  refine Sy.seq ?_
  refine sC ?_
  refine sP (.pointer (some ⟨g3, 0, none⟩)) <| sS (.bool bl) (cellC (R := [(g3, 62, (cAM ⟨bl, id, p⟩).toArray)]) (g := g3) (f := 0) X0.one (fun y hy => inWB (List.mem_append_right R hy)) rfl Tryz.underlying4) ?_
  refine sG ?_
  cases bl
  case' true =>
    refine sT ?_
    refine sC ?_
    obtain ⟨ok, hok⟩ : ∃ z : Bool, z = decide (id = 0) := ⟨_, rfl⟩
    refine sp rfl <| sP (.pointer (some ⟨g3, 1, none⟩)) <| sS (.int .u64 (id : Int)) (cellC (R := [(g3, 62, (cAM ⟨true, id, p⟩).toArray)]) (g := g3) (f := 1) X1.one (fun y hy => inWB (List.mem_append_right R hy)) rfl Tryz.underlying22) <| sS (.bool ok) (Quiet.pure (exec_int .eql _ _ _ .u64 _ _ _ rfl rfl rfl (int_eql _ _ _ _ _ (by rw [hok]; exact decide_eq_decide.2 (by omega))))) ?_
    refine Sy.callT (fun w hw => mustW_any w0.inn gw bad ok r (R ++ [(g3, 62, (cAM ⟨true, id, p⟩).toArray)]) w hw) (fun u M hM => ?_)
    subst hM
    refine sA ?_
    refine sp rfl <| sP (.pointer (some ⟨g3, 2, none⟩)) <| sS (.agg (lPT p).toArray) (rowC (R := [(g3, 62, (cAM ⟨true, id, p⟩).toArray)]) (g := g3) (f := 2) (k := 9) (cs := lPT p) X2 (fun y hy => inWB (List.mem_append_right R hy)) (lPT_len p) rfl Tryz.underlying58) ?_
    refine Sy.callT (fun w hw => pointW_any w0.inn gw (bad || !ok) r (R ++ [(g3, 62, (cAM ⟨true, id, p⟩).toArray)]) (b ++ [trB true]) p h2 h3 k1 (by omega) w hw) (fun u M hM => ?_)
    obtain ⟨r2, bad2, b2, q2, k2, rfl⟩ := hM
    have q := q0.then_ ((Wrote.must ok bad (b ++ [trB true])).then_ q2)
    rw [Bool.true_and, List.nil_append, Nat.zero_add, Bool.and_comm, hok] at q
    refine sG ?_
    refine Sy.ret ?_
    refine Sy.then_ret ?_
    exact Sy.retT0 rfl (WB gw bad2 r2 R) (fun _ h => dropW h) (fun _ => ⟨r2, bad2, b2, q, k2, rfl⟩)
  refine sU ?_
  refine Sy.skip ?_
  refine sB ?_
  obtain ⟨ok, hok⟩ : ∃ z : Bool, z = nulPT p := ⟨_, rfl⟩
  refine sp rfl <| sP (.pointer (some ⟨g3, 2, none⟩)) <| sS (Cu.pv p.x p.y p.i) (rowC (R := [(g3, 62, (cAM ⟨false, id, p⟩).toArray)]) (g := g3) (f := 2) (k := 9) (cs := lPT p) X2 (fun y hy => inWB (List.mem_append_right R hy)) (lPT_len p) rfl Tryz.underlying58) <| sP (Cu.pv 0 0 false) <| sS (.bool ok) (Quiet.pure (fun w => by rw [hok]; exact Cu.eql_pt w _ _ _ _ p.x p.y p.i 0 0 false rfl rfl rfl h2 h3 (by decide) (by decide))) ?_
  refine Sy.callT (fun w hw => mustW_any w0.inn gw bad ok r (R ++ [(g3, 62, (cAM ⟨false, id, p⟩).toArray)]) w hw) (fun u M hM => ?_)
  subst hM
  refine Sy.nil ?_
  refine Sy.then_ ?_
  refine Sy.region ?_
  refine sp rfl <| sP (.pointer (some ⟨g3, 1, none⟩)) <| sS (.int .u64 (id : Int)) (cellC (R := [(g3, 62, (cAM ⟨false, id, p⟩).toArray)]) (g := g3) (f := 1) X1.one (fun y hy => inWB (List.mem_append_right R hy)) rfl Tryz.underlying22) ?_
  refine Sy.callT (fun w hw => numW_any w0.inn gw (bad || !ok) r (R ++ [(g3, 62, (cAM ⟨false, id, p⟩).toArray)]) (b ++ [trB false]) id 8 h1 (by decide) k1 (by omega) w hw) (fun u M hM => ?_)
  obtain ⟨r2, k2, rfl⟩ := hM
  refine Sy.nil ?_
  have q2 := Wrote.raw (nb 8 id) (bad || !ok) (b ++ [trB false]) (k := 33) (by rw [nb_len]; decide)
  have q := q0.then_ ((Wrote.must ok bad (b ++ [trB false])).then_ q2)
  rw [Bool.true_and, Bool.and_true, List.nil_append, Nat.zero_add, hok] at q
  exact Sy.retT0 rfl (WB gw (bad || !ok) r2 R) (fun _ h => dropW h) (fun _ => ⟨r2, bad || !ok, _, by rw [hok]; exact q, k2, rfl⟩)
end Go.Proofs.YtgemfpnlnipfnaaGreat.Wr

end
section
namespace Go.Proofs.YtgemfpnlnipfnaaGreat.Wr
open Go.RowKit Go.Proofs.YtgemfpnlnipfnaaGreat Go.Proofs.YtgemfpnlnipfnaaGreat.Sy
set_option maxRecDepth 100000
set_option maxHeartbeats 4000000

theorem outW_any (w0 : Base) (gw : Nat) (bad : Bool) (s : Slc) (R : Blocks) (b : Byt) (x : MOu) (cs : List Value) (hx : repOU (rdW w0.world) cs x) (hb : BS s b) (hl : b.length + wtOU x ≤ 70368744160000) (w : World) (hw : St w0 w (WB gw bad s R)) :
    Calls Tryz.prog 66 #[ptr gw, .agg cs.toArray] w (Turns w0 (Wd gw R (okOU x) (encOU x) (wtOU x) bad b)) := by
  obtain ⟨z, ta, am, rg, su, nt, sc⟩ := x
  obtain ⟨vr, vs, vn, vc, hcs, h1, h2, h3, h4, h5, h6⟩ := hx
  dsimp only at h1 h2 h3 h4 h5 h6
  unfold wtOU at hl
  dsimp only at hl
  have hlen : cs.length = 58 := by rw [hcs]; simp only [cOU, List.length_append, cTG_len h1.1]; rfl
  refine Sy.enterT (args := [ptr gw, .agg cs.toArray]) hw Tryz.func66 rfl kL ?_
  refine sC ?_
  refine sM 64 cs.toArray (fun g3 => ?_) kR (fun w => run_boxR rfl rfl (by kernel_rfl) hlen w)
  refine Sy.permS (M := WB gw bad s (R ++ [(g3, 64, cs.toArray)])) (List.Perm.of_eq (by simp only [List.append_assoc])) ?_
  have hX : ∀ l, l = cs → XAt (rdC w0.inn [(g3, 64, cs.toArray)]) g3 0 l := fun l e i u hu => .inr ⟨_, _, List.mem_singleton.2 rfl, by rw [Nat.zero_add, List.getElem?_toArray, ← e]; exact hu⟩
  have X0 : XAt (rdC w0.inn [(g3, 64, cs.toArray)]) g3 0 ([.int .i64 z] ++ (cTG ta ++ (cAM am ++ ([vr] ++ ([vs] ++ ([vn] ++ ([vc]))))))) := hX _ hcs.symm
  have X1 : XAt (rdC w0.inn [(g3, 64, cs.toArray)]) g3 1 (cTG ta ++ (cAM am ++ ([vr] ++ ([vs] ++ ([vn] ++ ([vc])))))) := X0.right (n := 1) rfl
  have X2 : XAt (rdC w0.inn [(g3, 64, cs.toArray)]) g3 43 (cAM am ++ ([vr] ++ ([vs] ++ ([vn] ++ ([vc]))))) := X1.right (cTG_len h1.1)
  have X3 : XAt (rdC w0.inn [(g3, 64, cs.toArray)]) g3 54 ([vr] ++ ([vs] ++ ([vn] ++ ([vc])))) := X2.right (n := 11) rfl
  have X4 : XAt (rdC w0.inn [(g3, 64, cs.toArray)]) g3 55 ([vs] ++ ([vn] ++ ([vc]))) := X3.right (n := 1) rfl
  have X5 : XAt (rdC w0.inn [(g3, 64, cs.toArray)]) g3 56 ([vn] ++ ([vc])) := X4.right (n := 1) rfl
  have X6 : XAt (rdC w0.inn [(g3, 64, cs.toArray)]) g3 57 ([vc]) := X5.right (n := 1) rfl
  refine sA ?_
  refine sp rfl <| sP (.pointer (some ⟨g3, 0, none⟩)) <| sS (.int .i64 z) (cellC (R := [(g3, 64, cs.toArray)]) (g := g3) (f := 0) X0.one (fun y hy => inWB (List.mem_append_right R hy)) rfl Tryz.underlying3) ?_
  refine Sy.callT (fun w hw => smallW_any w0.inn gw bad s (R ++ [(g3, 64, cs.toArray)]) b 1 4 z hb (by omega) w hw) (fun u M hM => ?_)
  obtain ⟨s1, bad1, b1, q1, p1, rfl⟩ := hM
  have l1 : b1.length ≤ b.length + 1 := q1.len
  refine sA ?_
  refine sp rfl <| sP (.pointer (some ⟨g3, 1, none⟩)) <| sS (.agg (cTG ta).toArray) (rowC (R := [(g3, 64, cs.toArray)]) (g := g3) (f := 1) (k := 42) (cs := cTG ta) X1.left (fun y hy => inWB (List.mem_append_right R hy)) (cTG_len h1.1) rfl Tryz.underlying60) ?_
  refine Sy.callT (fun w hw => tagW_any w0.inn gw bad1 s1 (R ++ [(g3, 64, cs.toArray)]) b1 ta h1.1 h1.2.1 h1.2.2 p1 (by omega) w hw) (fun u M hM => ?_)
  obtain ⟨s2, bad2, b2, q2, p2, rfl⟩ := hM
  have l2 : b2.length ≤ b1.length + 34 := q2.len
  refine sA ?_
  refine sp rfl <| sP (.pointer (some ⟨g3, 43, none⟩)) <| sS (.agg (cAM am).toArray) (rowC (R := [(g3, 64, cs.toArray)]) (g := g3) (f := 43) (k := 11) (cs := cAM am) X2.left (fun y hy => inWB (List.mem_append_right R hy)) rfl rfl Tryz.underlying62) ?_
  refine Sy.callT (fun w hw => amountW_any w0.inn gw bad2 s2 (R ++ [(g3, 64, cs.toArray)]) b2 am h2.1 h2.2.1 h2.2.2 p2 (by omega) w hw) (fun u M hM => ?_)
  obtain ⟨s3, bad3, b3, q3, p3, rfl⟩ := hM
  have l3 : b3.length ≤ b2.length + 34 := q3.len
  refine sA ?_
  refine sp rfl <| sP (.pointer (some ⟨g3, 54, none⟩)) <| sS vr (cellC (R := [(g3, 64, cs.toArray)]) (g := g3) (f := 54) X3.one (fun y hy => inWB (List.mem_append_right R hy)) rfl Tryz.underlying27) ?_
  refine Sy.callT (fun w hw => textW_any w0.inn gw bad3 s3 (R ++ [(g3, 64, cs.toArray)]) b3 vr rg 6000 (by decide) p3 h3 (by omega) w hw) (fun u M hM => ?_)
  obtain ⟨s4, bad4, b4, q4, p4, rfl⟩ := hM
  have l4 : b4.length ≤ b3.length + (9 + rg.length) := q4.len
  refine sA ?_
  refine sp rfl <| sP (.pointer (some ⟨g3, 55, none⟩)) <| sS vs (cellC (R := [(g3, 64, cs.toArray)]) (g := g3) (f := 55) X4.one (fun y hy => inWB (List.mem_append_right R hy)) rfl Tryz.underlying27) ?_
  refine Sy.callT (fun w hw => textW_any w0.inn gw bad4 s4 (R ++ [(g3, 64, cs.toArray)]) b4 vs su 6000 (by decide) p4 h4 (by omega) w hw) (fun u M hM => ?_)
  obtain ⟨s5, bad5, b5, q5, p5, rfl⟩ := hM
  have l5 : b5.length ≤ b4.length + (9 + su.length) := q5.len
  refine sA ?_
  refine sp rfl <| sP (.pointer (some ⟨g3, 56, none⟩)) <| sS vn (cellC (R := [(g3, 64, cs.toArray)]) (g := g3) (f := 56) X5.one (fun y hy => inWB (List.mem_append_right R hy)) rfl Tryz.underlying27) ?_
  refine Sy.callT (fun w hw => textW_any w0.inn gw bad5 s5 (R ++ [(g3, 64, cs.toArray)]) b5 vn nt 128 (by decide) p5 h5 (by omega) w hw) (fun u M hM => ?_)
  obtain ⟨s6, bad6, b6, q6, p6, rfl⟩ := hM
  have l6 : b6.length ≤ b5.length + (9 + nt.length) := q6.len
  refine Sy.nil ?_
  refine Sy.then_ ?_
  refine Sy.region ?_
  refine sp rfl <| sP (.pointer (some ⟨g3, 57, none⟩)) <| sS vc (cellC (R := [(g3, 64, cs.toArray)]) (g := g3) (f := 57) X6.one (fun y hy => inWB (List.mem_append_right R hy)) rfl Tryz.underlying27) ?_
  refine Sy.callT (fun w hw => textW_any w0.inn gw bad6 s6 (R ++ [(g3, 64, cs.toArray)]) b6 vc sc 256 (by decide) p6 h6 (by omega) w hw) (fun u M hM => ?_)
  obtain ⟨s7, bad7, b7, q7, p7, rfl⟩ := hM
  have l7 : b7.length ≤ b6.length + (9 + sc.length) := q7.len
  refine Sy.nil ?_
  have q := q1.then_ (q2.then_ (q3.then_ (q4.then_ (q5.then_ (q6.then_ q7)))))
  exact Sy.retT0 rfl (WB gw bad7 s7 R) (fun _ h => dropW h) (fun _ => ⟨s7, bad7, b7, q, p7, rfl⟩)
theorem outR_w (w : World) (x : MOu) (cs : List Value) (hx : repOU (rdW w) cs x) (hwt : wtOU x ≤ 70368744160000) :
    Calls Tryz.prog 27 #[.agg cs.toArray] w (GetsN w (BytE (okOU x) (encOU x))) := by
  have hlen : cs.length = 58 := by
    obtain ⟨vr, vs, vn, vc, hcs, h1, _⟩ := hx
    rw [hcs]; simp only [cOU, List.length_append, cTG_len h1.1]; rfl
  refine Sy.enter (args := [.agg cs.toArray]) Tryz.func27 rfl kL ?_
  refine sC ?_
  refine sM 64 cs.toArray (fun g1 => ?_) kR (fun w => run_boxR rfl rfl (by kernel_rfl) hlen w)
  refine sP (.slice none 0 0) <| sP (.int .i64 0) ?_
  refine sA ?_
  refine sP (.agg #[.slice none 0 0, .bool false]) <| sM 99 #[.slice none 0 0, .bool false] (fun gw => ?_)
  refine sp rfl ?_
  refine sA ?_
  refine Sy.permS (M := WB gw false nilS [(g1, 64, cs.toArray)]) (Sy.perm_at [1, 0] (by kernel_rfl) (by rfl)) ?_
  refine sp rfl <| sS (.agg cs.toArray) (Quiet.mid 1 g1 0 58 64 64 cs cs _ _ rfl kR rfl Tryz.underlying64 rfl kR (by rw [List.drop_zero, List.take_of_length_le (by omega)]) (by omega)) ?_
  refine Sy.callT (fun w' hw => outW_any (Base.of w) gw false nilS [(g1, 64, cs.toArray)] [] x cs hx BS.nil (by show 0 + _ ≤ _; omega) w' hw) (fun u M hM => ?_)
  obtain ⟨s', bad, b', q1, q2, rfl⟩ := hM
  have qb := q1.bad
  refine sA ?_
  refine sp rfl ?_
  refine Sy.callT (fun w' hw => doneW_any (Base.of w) gw bad s' [(g1, 64, cs.toArray)] w' hw) (fun u M hM => ?_)
  obtain ⟨rfl, rfl⟩ := hM
  cases bad
  · have hok : okOU x = true := by
      cases h : okOU x with
      | true => rfl
      | false => rw [h] at qb; cases qb
    have hbb : b' = encOU x := q1.bytes rfl
    rw [if_neg (by decide)]
    refine sp rfl <| sp rfl <| sp rfl <| sp rfl ?_
    refine sG ?_
    refine Sy.ret ?_
    exact Sy.retGM2 s'.bl rfl (.inl (show _ = _ by kernel_rfl)) (.inl (show _ = _ by kernel_rfl)) (fun _ h => h.less ((List.sublist_append_left _ _).trans (List.sublist_append_right _ _))) (.inl ⟨hok, _, rfl, by rw [← hbb]; exact q2.as⟩)
  · have hok : okOU x = false := by
      cases h : okOU x with
      | false => rfl
      | true => rw [h] at qb; cases qb
    rw [if_pos rfl]
    refine sp rfl <| sp rfl <| sp rfl <| sp rfl ?_
    refine sG ?_
    refine Sy.ret ?_
    exact Sy.retGM2 [] rfl (.inl (show _ = _ by kernel_rfl)) (.inl (show _ = _ by kernel_rfl)) (fun _ h => h.none) (.inr ⟨hok, rfl, rfl⟩)
end Go.Proofs.YtgemfpnlnipfnaaGreat.Wr

end
section
namespace Go.Proofs.YtgemfpnlnipfnaaGreat.Wr
open Go.RowKit Go.Proofs.YtgemfpnlnipfnaaGreat Go.Proofs.YtgemfpnlnipfnaaGreat.Sy
set_option maxRecDepth 100000
set_option maxHeartbeats 4000000

theorem pointM_any (w0 : Base) (gr : Nat) (sl : Value) (b : Byt) (at_ e : Nat) (R : Blocks) (hat : at_ ≤ b.length) (he : e ≤ 200) (hl : b.length ≤ 70368744177664) (hv : BytR (rdW w0.world) sl b) (w : World) (hw : St w0 w (RB gr sl at_ e R)) :
    Calls Tryz.prog 183 #[ptr gr] w (Turns w0 (Rfd ptP (fun x v N => v = .agg (lPT x).toArray ∧ N = [] ∧ x.x < Cu.K4 ∧ x.y < Cu.K4) gr sl b R at_ e)) := by
  refine Sy.enterT (args := [ptr gr]) hw Tryz.func183 rfl kL ?_
  refine sC ?_
  refine sM 58 (lPT ⟨0, 0, false⟩).toArray (fun g2 => ?_)
  refine Sy.movT (pre := [(gr, 186, rrC sl at_ e)]) (T := R) ?_
  refine sA ?_
  refine sp rfl ?_
  refine Sy.callT (fun w hw => rawM_any w0.inn gr sl b at_ e 33 ((g2, 58, (lPT ⟨0, 0, false⟩).toArray) :: R) hat he (by decide) hl hv w hw) (fun u M hM => ?_)
  obtain ⟨x, a2, e2, N, q1, ⟨q2, q3⟩, q4, q5, rfl⟩ := hM
  obtain ⟨A, n, cp, rfl, k2, k3, k4, k5⟩ := q2.byt
  obtain ⟨gb, ob, rfl, hq⟩ := k5 (by intro h; rw [h] at q3; cases q3)
  obtain ⟨m, hm⟩ : ∃ m, m = mPt (Cu.decP x) := ⟨_, rfl⟩
  obtain ⟨hx, hy⟩ := mPt_lt (Cu.decP x)
  rw [← hm] at hx hy
  obtain ⟨ok, hok⟩ : ∃ z, z = Cu.decOk x := ⟨_, rfl⟩
  have hz : ok = false → m.i = true := fun h => by
    rw [hm]; unfold Cu.decP; rw [← hok, h]; rfl
  obtain ⟨mx, my, mi⟩ := m
  dsimp only at hx hy hz
  refine sS (.tuple #[.agg (lPT ⟨mx, my, mi⟩).toArray, .bool ok]) (qG 223 #[.slice (some ⟨gb, ob, none⟩) n cp] (fun w' hw' => by
    rw [hm, ← mPt_val, hok]
    refine Cu.decodeR_any w' (some ⟨gb, ob, none⟩) x n cp (by omega) (fun _ => ?_) k3
    have hf := rdB_world hw' (R := N) (fun y hy => by simp [hy])
    have hc : ∀ j u, x[j]? = some u → gb < w'.heap.size ∧ w'.cell? ⟨gb, ob + j, none⟩ = some (bv u) := fun j u hu => hf _ _ _ (hq j u hu)
    exact ⟨gb, ob, rfl, (hc 0 _ (List.getElem?_eq_getElem (by omega))).1, fun j u hu => (hc j u hu).2⟩)) <| sp rfl <| sp rfl <| sp rfl ?_
  refine sM 58 (lPT ⟨0, 0, false⟩).toArray (fun g3 => ?_)
  refine Sy.movT (pre := [(gr, 186, rrC sl a2 e2), (g2, 58, (lPT ⟨0, 0, false⟩).toArray)]) (T := R ++ N) ?_
  refine sw 2 rfl (lPT ⟨mx, my, mi⟩).toArray (Writes.row 58 (lPT ⟨mx, my, mi⟩) 9 _ _ rfl kR kR kR rfl (by kernel_rfl) (lPT_one _)) <| sp rfl ?_
  refine sG ?_
  refine Sy.seq ?_
  refine sC ?_
  refine sp rfl <| sP (.bool (!ok)) <| sP (.bool (!ok)) ?_
  cases ok
  case' false =>
    obtain rfl : mi = true := hz rfl
    refine sN <| sN <| sP (.bool true) ?_
    refine sG ?_
    refine sT ?_
    refine Sy.region ?_
    refine sp rfl ?_
    refine Sy.callT (fun w hw => failM_any w0.inn gr sl a2 e2 ((g2, 58, (lPT ⟨0, 0, false⟩).toArray) :: (g3, 58, (lPT ⟨mx, my, true⟩).toArray) :: (R ++ N)) w hw) (fun u M hM => ?_)
    subst hM
    refine Sy.nil ?_
    refine sB ?_
    refine sS (.agg (lPT ⟨mx, my, true⟩).toArray) (Quiet.mid 2 g3 0 9 58 58 (lPT ⟨mx, my, true⟩) (lPT ⟨mx, my, true⟩) _ _ rfl kR rfl Tryz.underlying58 rfl kR (by rw [List.drop_zero]; exact List.take_of_length_le (Nat.le_refl 9)) (Nat.le_refl 9)) <| sw 1 rfl (lPT ⟨mx, my, true⟩).toArray (Writes.row 58 (lPT ⟨mx, my, true⟩) 9 _ _ rfl kR kR kR rfl (by kernel_rfl) (lPT_one _)) ?_
    refine sG ?_
    refine Sy.ret ?_
    have hAf : After ptP ⟨b.drop at_, e⟩ ⟨mx, my, true⟩ ⟨b.drop a2, (if e2 = 0 then 120 else e2)⟩ := q1.bind (by rw [← hm]; exact After.mustN _ (by show (if e2 = 0 then 120 else e2) ≠ 0; split <;> omega))
    exact Sy.retT1 (RB gr sl a2 (if e2 = 0 then 120 else e2) (R ++ [])) rfl (.inl (Sy.Res.cell (ty' := 58) g2 1 (lPT ⟨mx, my, true⟩).toArray _ (by kernel_rfl) rfl Tryz.underlying58 rfl (by kernel_rfl) rfl)) (fun _ h => by rw [List.append_nil]; exact h.less ((((List.sublist_append_left R N).cons _).cons _).cons_cons _)) ⟨_, a2, (if e2 = 0 then 120 else e2), [], hAf, ⟨rfl, rfl, hx, hy⟩, q4, (by split <;> omega), rfl⟩
  refine sP (.pointer (some ⟨g3, 8, none⟩)) <| sS (.bool mi) (Quiet.cell 2 g3 8 58 4 (lPT ⟨mx, my, mi⟩).toArray _ _ rfl kR rfl Tryz.underlying4 rfl _ kR) <| sP (.bool mi) ?_
  refine sG ?_
  cases mi
  · refine sU ?_
    refine Sy.skip ?_
    refine sB ?_
    refine sS (.agg (lPT ⟨mx, my, false⟩).toArray) (Quiet.mid 2 g3 0 9 58 58 (lPT ⟨mx, my, false⟩) (lPT ⟨mx, my, false⟩) _ _ rfl kR rfl Tryz.underlying58 rfl kR (by rw [List.drop_zero]; exact List.take_of_length_le (Nat.le_refl 9)) (Nat.le_refl 9)) <| sw 1 rfl (lPT ⟨mx, my, false⟩).toArray (Writes.row 58 (lPT ⟨mx, my, false⟩) 9 _ _ rfl kR kR kR rfl (by kernel_rfl) (lPT_one _)) ?_
    refine sG ?_
    refine Sy.ret ?_
    have hAf : After ptP ⟨b.drop at_, e⟩ ⟨mx, my, false⟩ ⟨b.drop a2, e2⟩ := q1.bind (by rw [← hm]; exact After.ret _ _)
    exact Sy.retT1 (RB gr sl a2 e2 (R ++ [])) rfl (.inl (Sy.Res.cell (ty' := 58) g2 1 (lPT ⟨mx, my, false⟩).toArray _ (by kernel_rfl) rfl Tryz.underlying58 rfl (by kernel_rfl) rfl)) (fun _ h => by rw [List.append_nil]; exact h.less ((((List.sublist_append_left R N).cons _).cons _).cons_cons _)) ⟨_, a2, e2, [], hAf, ⟨rfl, rfl, hx, hy⟩, q4, q5, rfl⟩
  · refine sT ?_
    refine Sy.region ?_
    refine sp rfl ?_
    refine Sy.callT (fun w hw => failM_any w0.inn gr sl a2 e2 ((g2, 58, (lPT ⟨0, 0, false⟩).toArray) :: (g3, 58, (lPT ⟨mx, my, true⟩).toArray) :: (R ++ N)) w hw) (fun u M hM => ?_)
    subst hM
    refine Sy.nil ?_
    refine sB ?_
    refine sS (.agg (lPT ⟨mx, my, true⟩).toArray) (Quiet.mid 2 g3 0 9 58 58 (lPT ⟨mx, my, true⟩) (lPT ⟨mx, my, true⟩) _ _ rfl kR rfl Tryz.underlying58 rfl kR (by rw [List.drop_zero]; exact List.take_of_length_le (Nat.le_refl 9)) (Nat.le_refl 9)) <| sw 1 rfl (lPT ⟨mx, my, true⟩).toArray (Writes.row 58 (lPT ⟨mx, my, true⟩) 9 _ _ rfl kR kR kR rfl (by kernel_rfl) (lPT_one _)) ?_
    refine sG ?_
    refine Sy.ret ?_
    have hAf : After ptP ⟨b.drop at_, e⟩ ⟨mx, my, true⟩ ⟨b.drop a2, (if e2 = 0 then 120 else e2)⟩ := q1.bind (by rw [← hm]; exact After.mustN _ (by show (if e2 = 0 then 120 else e2) ≠ 0; split <;> omega))
    exact Sy.retT1 (RB gr sl a2 (if e2 = 0 then 120 else e2) (R ++ [])) rfl (.inl (Sy.Res.cell (ty' := 58) g2 1 (lPT ⟨mx, my, true⟩).toArray _ (by kernel_rfl) rfl Tryz.underlying58 rfl (by kernel_rfl) rfl)) (fun _ h => by rw [List.append_nil]; exact h.less ((((List.sublist_append_left R N).cons _).cons _).cons_cons _)) ⟨_, a2, (if e2 = 0 then 120 else e2), [], hAf, ⟨rfl, rfl, hx, hy⟩, q4, (by split <;> omega), rfl⟩
end Go.Proofs.YtgemfpnlnipfnaaGreat.Wr

end
