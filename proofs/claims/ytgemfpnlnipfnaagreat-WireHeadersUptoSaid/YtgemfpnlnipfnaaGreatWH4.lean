/-
  Texts of ours, put together: WirBC, WirBD, WireParamsL, WirCE, WirCF, WirCD, WirCG, WireHeadersL.
-/
import Derived.Test.YtgemfpnlnipfnaaGreatWH3
set_option linter.unusedVariables false
set_option linter.unusedSimpArgs false
section
namespace Go.Proofs.YtgemfpnlnipfnaaGreat.Wr
open Go.RowKit Go.Proofs.YtgemfpnlnipfnaaGreat Go.Proofs.YtgemfpnlnipfnaaGreat.Sy
set_option maxRecDepth 100000
set_option maxHeartbeats 4000000

theorem oneE {P : Program} {w0 : Base} {n : Nat} {Q : Exit → Act → World → Prop} {F : Slots} {L : Blocks} {ops : Array Oper} {ex : Nat → Bool} {fuel : Nat} {listed : Array Bool} {k : Nat} {oi : Oper} (hi0 : ops.toList[k]? = some oi) (hg : wantedF ops F oi = some true) (hex : ex k = true) (h : ∀ Q', (∀ F' L', wpD P w0 n ops Q ex F' L' fuel (listed.setIfInBounds k true) → wpS P w0 n ops Q' F' L' []) → wpS P w0 n ops Q' F L [oi]) : wpO P w0 n ops Q ex F L fuel listed k :=
  ⟨oi, by simpa using hi0, hg, fun a w ha hw w1 h1 K hK => by
    have q := h (onlyQ Q K) (fun F' L' hd a' w' ha' hw' => wpList_nil (hK _ _ (fun e => by rw [hex] at e; cases e) (hd a' w' ha' hw'))) a w1 ha (hw.gr h1)
    unfold wpList at q
    rw [if_pos (ha.wanted hg)] at q
    rcases q with q | ⟨_, a', w', q⟩
    · exact wp_only (K' := K) q
    · exact q.elim⟩
theorem leafE {P : Program} {w0 : Base} {n : Nat} {Q : Exit → Act → World → Prop} {F : Slots} {L : Blocks} {ops : Array Oper} {ex : Nat → Bool} {fuel : Nat} {listed : Array Bool} {T : Type} {FF : T → Slots} {LL : T → Blocks} {H : T → Prop} {li : Array Bool} (h : ∀ x, H x → wpD P w0 n ops Q ex (FF x) (LL x) fuel li) (x : T) (hx : H x) (hl : listed = li) (hF : ∀ p ∈ FF x, F.lookup p.1 = some p.2) (p : L.Perm (LL x)) : wpD P w0 n ops Q ex F L fuel listed := fun a w ha hw => by
  subst hl
  exact h x hx a w (ha.all hF) (hw.perm p)
def smlP (lo hi : Nat) : Ps Int := bindP (numP 1) fun n => bindP (mustP (decide (lo ≤ n ∧ n ≤ hi))) fun _ => retP (n : Int)
theorem sml_oct : smlP 0 255 = octP := by
  funext l
  unfold smlP octP
  cases h : numP 1 l with
  | none => rw [bind_none h, bind_none h]
  | some u =>
    obtain ⟨n, r⟩ := u
    have hn : n < 256 := num_lt h
    rw [bind_some h, bind_some h, decide_eq_true (show 0 ≤ n ∧ n ≤ 255 by omega)]
    rfl
theorem failM_any (w0 : Base) (gr : Nat) (sl : Value) (at_ e : Nat) (R : Blocks) (w : World) (hw : St w0 w (RB gr sl at_ e R)) :
    Calls Tryz.prog 169 #[ptr gr] w (Turns w0 (fun _ M => M = RB gr sl at_ (if e = 0 then 120 else e) R)) := by
  refine Sy.enterT (args := [ptr gr]) hw Tryz.func169 rfl kL ?_
  refine sC ?_
  obtain ⟨b1, hb1⟩ : ∃ z : Bool, z = decide (e = 0) := ⟨_, rfl⟩
  refine sp rfl <| sp rfl <| sP (.pointer (some ⟨gr, 0, none⟩)) <| sP (.pointer (some ⟨gr, 2, none⟩)) <| sS (.int .i64 (e : Int)) (qc 0 2 rfl rfl Tryz.underlying28) <| sS (.bool b1) (Quiet.pure (exec_int .eql _ _ _ .i64 _ _ _ rfl rfl rfl (int_eql _ _ _ _ _ (by rw [hb1]; exact decide_eq_decide.2 (by omega))))) ?_
  refine sG ?_
  cases b1
  · rw [if_neg (of_decide_eq_false hb1.symm)]
    refine sU ?_
    refine Sy.skip ?_
    exact Sy.retT0 rfl (RB gr sl at_ e R) (fun _ h => h) (fun _ => by rfl)
  · rw [if_pos (of_decide_eq_true hb1.symm)]
    refine sT ?_
    refine Sy.region ?_
    refine sp rfl <| sp rfl <| sP (.pointer (some ⟨gr, 0, none⟩)) <| sP (.pointer (some ⟨gr, 2, none⟩)) <| sw 0 rfl (rrC sl at_ 120) (wO 2 28 (.int .i64 120) rfl) ?_
    refine Sy.nil ?_
    exact Sy.retT0 rfl (RB gr sl at_ 120 R) (fun _ h => h) (fun _ => by rfl)
theorem num1_any (w0 : Base) (gr : Nat) (sl : Value) (b : Byt) (at_ e : Nat) (R : Blocks) (hat : at_ ≤ b.length) (he : e ≤ 200) (hl : b.length ≤ 70368744177664) (hv : BytR (rdW w0.world) sl b) (w : World) (hw : St w0 w (RB gr sl at_ e R)) :
    Calls Tryz.prog 100 #[ptr gr, .int .i64 1] w (Turns w0 (Rfd (numP 1) (fun x v N => v = .int .u64 (x : Int) ∧ x < 256 ∧ N = []) gr sl b R at_ e)) := by
  refine Sy.enterT (args := [ptr gr, .int .i64 1]) hw Tryz.func100 rfl kL ?_
  refine sC ?_
  refine sP (.int .u64 0) ?_
  refine sA ?_
  refine sp rfl <| sp rfl ?_
  refine Sy.callT (fun w hw => rawM_any w0.inn gr sl b at_ e 1 R hat he (by omega) hl hv w hw) (fun u M hM => ?_)
  obtain ⟨x, a2, e2, N, q1, ⟨q2, q3⟩, q4, q5, rfl⟩ := hM
  have hs : said x < 256 := by
    have h1 := said_lt x
    rw [q3] at h1
    exact h1
  refine sS (.int .u64 ((said x : Nat) : Int)) (qg (fun w' hw => saidR_any w' u x (by omega) (q2.byt.le (fun g o v h => rdC_world (w0 := w0.inn) hw (R := N) (fun b hb => List.mem_cons_of_mem _ (List.mem_append_right _ hb)) g o v (.inr h))))) <| sp rfl ?_
  refine sG ?_
  refine Sy.ret ?_
  exact Sy.retT1 (RB gr sl a2 e2 (R ++ [])) rfl (.inl (show _ = _ by kernel_rfl)) (fun _ h => h.less (((List.Sublist.refl R).append (List.nil_sublist N)).cons_cons _)) ⟨_, _, _, [], q1.bind (After.ret (said x) _), ⟨rfl, hs, rfl⟩, q4, q5, rfl⟩
theorem smallM_any (lo hi : Nat) (w0 : Base) (gr : Nat) (sl : Value) (b : Byt) (at_ e : Nat) (R : Blocks) (hat : at_ ≤ b.length) (he : e ≤ 200) (hl : b.length ≤ 70368744177664) (hv : BytR (rdW w0.world) sl b) (w : World) (hw : St w0 w (RB gr sl at_ e R)) :
    Calls Tryz.prog 115 #[ptr gr, .int .i64 (lo : Int), .int .i64 (hi : Int)] w (Turns w0 (Rfd (smlP lo hi) (fun x v N => v = .int .i64 x ∧ N = []) gr sl b R at_ e)) := by
  refine Sy.enterT (args := [ptr gr, .int .i64 (lo : Int), .int .i64 (hi : Int)]) hw Tryz.func115 rfl kL ?_
  refine sC ?_
  refine sP (.int .i64 0) ?_
  refine sA ?_
  refine sp rfl ?_
  refine Sy.callT (fun w hw => num1_any w0.inn gr sl b at_ e R hat he hl hv w hw) (fun u M hM => ?_)
  obtain ⟨n, a2, e2, N, q1, ⟨rfl, q2, rfl⟩, q4, q5, rfl⟩ := hM
  rw [List.append_nil]
  refine sS (.int .i64 ((n : Nat) : Int)) (Quiet.pure (fun w => conv_6i w _ _ _ n (by omega) rfl rfl)) <| sp rfl ?_
  refine sG ?_
  refine Sy.seq ?_
  obtain ⟨bd, hbd⟩ : ∃ z : Bool, z = !decide (lo ≤ n ∧ n ≤ hi) := ⟨_, rfl⟩
  refine Sy.seq ?_
  refine cutC [(0, ptr gr), (7, .int .i64 (n : Int)), (18, .bool bd)] (RB gr sl a2 e2 R) ?_ ?_
  · refine Sy.region ?_
    obtain ⟨b1, hb1⟩ : ∃ z : Bool, z = decide (n < lo) := ⟨_, rfl⟩
    refine sp rfl <| sp rfl <| sS (.bool b1) (Quiet.pure (exec_int .lss _ _ _ .i64 _ _ _ rfl rfl rfl (int_lss _ _ _ _ _ (by rw [hb1]; exact decide_eq_decide.2 (by omega))))) <| sp rfl ?_
    cases b1
    · obtain ⟨b2, hb2⟩ : ∃ z : Bool, z = decide (hi < n) := ⟨_, rfl⟩
      have l1 : ¬ n < lo := of_decide_eq_false hb1.symm
      obtain rfl : bd = b2 := by
        rw [hbd, hb2]
        by_cases h : hi < n
        · rw [decide_eq_true h, decide_eq_false (by omega)]; rfl
        · rw [decide_eq_false h, decide_eq_true (by omega)]; rfl
      refine sp rfl <| sp rfl <| sS (.bool bd) (Quiet.pure (exec_int .gtr _ _ _ .i64 _ _ _ rfl rfl rfl (int_gtr _ _ _ _ _ (by rw [hb2]; exact decide_eq_decide.2 (by omega))))) <| sP (.bool bd) ?_
      refine Sy.nil ?_
      exact meet (all_cons kR (all_cons kR (all_cons kR all_nil))) (fun _ h => h)
    · have l1 : n < lo := of_decide_eq_true hb1.symm
      obtain rfl : bd = true := by rw [hbd, decide_eq_false (by omega)]; rfl
      refine sN <| sN <| sN <| sP (.bool true) ?_
      refine Sy.nil ?_
      exact meet (all_cons kR (all_cons kR (all_cons kR all_nil))) (fun _ h => h)
  refine Sy.then_ ?_
  cases bd
  · have l2 : decide (lo ≤ n ∧ n ≤ hi) = true := by
      cases h : decide (lo ≤ n ∧ n ≤ hi) with
      | true => rfl
      | false => rw [h] at hbd; cases hbd
    refine sU ?_
    refine Sy.skip ?_
    refine sB ?_
    refine sp rfl <| sp rfl ?_
    refine sG ?_
    refine Sy.ret ?_
    exact Sy.retT1 (RB gr sl a2 e2 (R ++ [])) rfl (.inl (show _ = _ by kernel_rfl)) (fun _ h => by rw [List.append_nil]; exact h) ⟨(n : Int), _, _, [], q1.bind (by rw [l2]; exact After.ret _ _), ⟨rfl, rfl⟩, q4, q5, rfl⟩
  · have l2 : decide (lo ≤ n ∧ n ≤ hi) = false := by
      cases h : decide (lo ≤ n ∧ n ≤ hi) with
      | false => rfl
      | true => rw [h] at hbd; cases hbd
    obtain ⟨e3, he3⟩ : ∃ e3, e3 = if e2 = 0 then 120 else e2 := ⟨_, rfl⟩
    have l3 : e3 ≠ 0 := by rw [he3]; split <;> omega
    refine sT ?_
    refine Sy.region ?_
    refine sp rfl ?_
    refine Sy.callT (fun w hw => failM_any w0.inn gr sl a2 e2 R w hw) (fun u M hM => ?_)
    subst hM
    rw [← he3]
    refine Sy.nil ?_
    refine sB ?_
    refine sp rfl <| sp rfl ?_
    refine sG ?_
    refine Sy.ret ?_
    exact Sy.retT1 (RB gr sl a2 e3 (R ++ [])) rfl (.inl (show _ = _ by kernel_rfl)) (fun _ h => by rw [List.append_nil]; exact h) ⟨(n : Int), _, _, [], q1.bind (by rw [l2]; exact After.mustN _ l3), ⟨rfl, rfl⟩, q4, by rw [he3]; split <;> omega, rfl⟩
def okS (lo hi : Nat) (z : Int) : Bool := decide ((lo : Int) ≤ z) && decide (z ≤ (hi : Int))
theorem smallW_any (w0 : Base) (gw : Nat) (bad : Bool) (s : Slc) (R : Blocks) (b : Byt) (lo hi : Nat) (z : Int) (hb : BS s b) (hl : b.length + 1 ≤ 70368744177664) (w : World) (hw : St w0 w (WB gw bad s R)) :
    Calls Tryz.prog 119 #[ptr gw, .int .i64 z, .int .i64 (lo : Int), .int .i64 (hi : Int)] w (Turns w0 (Wd gw R (okS lo hi z) [octB z] 1 bad b)) := by
  refine Sy.enterT (args := [ptr gw, .int .i64 z, .int .i64 (lo : Int), .int .i64 (hi : Int)]) hw Tryz.func119 rfl kL ?_
  obtain ⟨ok, hok⟩ : ∃ ok, ok = okS lo hi z := ⟨_, rfl⟩
  obtain ⟨b1, hb1⟩ : ∃ b1 : Bool, b1 = decide ((lo : Int) ≤ z) := ⟨_, rfl⟩
  obtain ⟨b2, hb2⟩ : ∃ b2 : Bool, b2 = decide (z ≤ (hi : Int)) := ⟨_, rfl⟩
  have e : ok = (b1 && b2) := by rw [hok, hb1, hb2]; rfl
  rw [← hok]
  refine Sy.seq ?_
  refine cutC [(0, ptr gw), (1, .int .i64 z)] (WB gw (bad || !ok) s R) ?_ ?_
  · refine Sy.region ?_
    refine sp rfl <| sp rfl <| sp rfl <| sS (.bool b1) (Quiet.pure (exec_int .geq _ _ _ .i64 _ _ _ rfl rfl rfl (int_geq _ _ _ _ _ (by rw [hb1])))) <| sp rfl ?_
    cases b1
    case' false =>
      obtain rfl : ok = false := e
      refine sN <| sN <| sN <| sP (.bool false) ?_
      refine Sy.callT (fun w hw => mustW_any w0.inn gw bad false s R w hw) (fun u M hM => ?_)
    case' true =>
      obtain rfl : ok = b2 := e
      refine sp rfl <| sp rfl <| sS (.bool ok) (Quiet.pure (exec_int .leq _ _ _ .i64 _ _ _ rfl rfl rfl (int_leq _ _ _ _ _ (by rw [hb2])))) <| sP (.bool ok) ?_
      refine Sy.callT (fun w hw => mustW_any w0.inn gw bad ok s R w hw) (fun u M hM => ?_)
    all_goals
      subst hM
      refine Sy.nil ?_
      exact meet (all_cons kR (all_cons kR all_nil)) (fun _ h => h)
  refine Sy.then_ ?_
  refine Sy.region ?_
  refine sp rfl <| sp rfl <| sS (bv (octB z)) (Quiet.pure (fun w => conv_i8 w _ _ _ z rfl rfl)) ?_
  refine Sy.make kR 5 #[bv (octB z)] (fun g => .slice (some ⟨g, 0, none⟩) 1 1) kF (fun g1 => ?_)
  refine Sy.permS (M := WB gw (bad || !ok) s (R ++ [(g1, 5, #[bv (octB z)])])) (List.Perm.of_eq (by simp only [List.append_assoc])) ?_
  refine Sy.callT (fun w hw => wrawW_any w0.inn gw (bad || !ok) s (R ++ [(g1, 5, #[bv (octB z)])]) b (.slice (some ⟨g1, 0, none⟩) 1 1) [octB z] hb ⟨_, _, _, rfl, rfl, Nat.le_refl _, by decide, fun _ => ⟨g1, 0, rfl, fun j u hj => .inr ⟨5, #[bv (octB z)], List.mem_append_right _ (List.mem_singleton.2 rfl), by
    cases j with
    | zero => cases hj; rfl
    | succ j => cases hj⟩⟩⟩ (by show _ + 1 ≤ _; omega) w hw) (fun v M hM => ?_)
  obtain ⟨r, hr, rfl⟩ := hM
  refine Sy.nil ?_
  have q := (Wrote.must ok bad b).then_ (Wrote.raw [octB z] (bad || !ok) b (k := 1) (Nat.le_refl _))
  rw [Bool.and_true] at q
  exact Sy.retT0 rfl (WB gw (bad || !ok) r R) (fun _ h => dropW h) (fun _ => ⟨r, bad || !ok, b ++ [octB z], q, hr, rfl⟩)
end Go.Proofs.YtgemfpnlnipfnaaGreat.Wr

end
section
namespace Go.Proofs.YtgemfpnlnipfnaaGreat.Wr
open Go.RowKit Go.Proofs.YtgemfpnlnipfnaaGreat Go.Proofs.YtgemfpnlnipfnaaGreat.Sy
set_option maxRecDepth 100000
set_option maxHeartbeats 4000000

theorem flat_key {l : List Byt} (h : ∀ o ∈ l, o.length = 32) : (l.flatMap fun k => k).length = 32 * l.length := by
  induction l with
  | nil => rfl
  | cons o l ih => rw [List.flatMap_cons, List.length_append, h o (List.mem_cons_self ..), ih (fun x hx => h x (List.mem_cons_of_mem _ hx)), List.length_cons]; omega
theorem sum_32 (l : List Byt) : (l.map fun _ => 32).sum = 32 * l.length := by
  induction l with
  | nil => rfl
  | cons o l ih => rw [List.map_cons, List.sum_cons, ih, List.length_cons]; omega
theorem parW_any (w0 : Base) (gw : Nat) (bad : Bool) (s : Slc) (R : Blocks) (b : Byt) (t : MPa) (v : Value) (h2 : LstR (rdW w0.world) 32 repDG v t.keys) (hb : BS s b) (hlo : t.keys.length ≤ 1000000000000) (hl : b.length + wtPA t ≤ 70368744170000) (w : World) (hw : St w0 w (WB gw bad s R)) :
    Calls Tryz.prog 81 #[ptr gw, .agg #[.int .i64 t.t, v]] w (Turns w0 (Wd gw R (okPA t) (encPA t) (wtPA t) bad b)) := by
  have hcl : ∀ o ∈ t.keys, o.length = 32 := lst_all (q := fun o : Byt => o.length = 32) h2 (fun cs x h => h.2)
  obtain ⟨A, n, cp, rfl, k2, k3, k4, k5⟩ := h2
  have hwt : wtPA t = 1 + (9 + 32 * t.keys.length) := by unfold wtPA; rw [sum_32]
  rw [hwt] at hl
  refine Sy.enterT (args := [ptr gw, .agg #[.int .i64 t.t, .slice A n cp]]) hw Tryz.func81 rfl kL ?_
  refine sC ?_
  refine sM 40 #[.int .i64 t.t, .slice A n cp] (fun g3 => ?_)
  refine Sy.permS (M := WB gw bad s (R ++ [(g3, 40, #[.int .i64 t.t, .slice A n cp])])) (List.Perm.of_eq (by simp only [List.append_assoc])) ?_
  have c0 : rdC w0.inn [(g3, 40, #[.int .i64 t.t, .slice A n cp])] g3 0 (.int .i64 t.t) := .inr ⟨_, _, List.mem_singleton.2 rfl, rfl⟩
  have c1 : rdC w0.inn [(g3, 40, #[.int .i64 t.t, .slice A n cp])] g3 1 (.slice A n cp) := .inr ⟨_, _, List.mem_singleton.2 rfl, rfl⟩
  refine sA ?_
  refine sp rfl <| sP (.pointer (some ⟨g3, 0, none⟩)) <| sS (.int .i64 t.t) (cellC (R := [(g3, 40, #[.int .i64 t.t, .slice A n cp])]) c0 (fun y hy => inWB (List.mem_append_right R hy)) rfl Tryz.underlying3) ?_
  refine Sy.callT (fun w hw => smallW_any w0.inn gw bad s (R ++ [(g3, 40, #[.int .i64 t.t, .slice A n cp])]) b 0 255 t.t hb (by omega) w hw) (fun v M hM => ?_)
  obtain ⟨r1, bad1, b1, q1, q2, rfl⟩ := hM
  have hl1 := q1.len
  refine sA ?_
  refine sp rfl <| sP (.pointer (some ⟨g3, 1, none⟩)) <| sS (.slice A n cp) (cellC (R := [(g3, 40, #[.int .i64 t.t, .slice A n cp])]) c1 (fun y hy => inWB (List.mem_append_right R hy)) rfl Tryz.underlying38) <| sP (.int .i64 (n : Int)) ?_
  refine Sy.callT (fun w hw => manyW_any w0.inn gw bad1 r1 (R ++ [(g3, 40, #[.int .i64 t.t, .slice A n cp])]) b1 n 16 (by omega) (by decide) q2 (by omega) w hw) (fun v M hM => ?_)
  obtain ⟨s2, bad2, b2, q3, q4, rfl⟩ := hM
  have hl2 := q3.len
  refine sA ?_
  refine sP (.int .i64 0) ?_
  refine sG ?_
  refine Sy.block ?_
  refine Sy.loopT (Y := Slc) n (fun i _ => [(0, ptr gw), (3, ptr g3), (4, .int .i64 (i : Int))]) (fun _ y => WB gw bad2 y (R ++ [(g3, 40, #[.int .i64 t.t, .slice A n cp])])) (fun i y => BS y (b2 ++ (t.keys.take i).flatMap fun k => k)) s2 (by show BS s2 (b2 ++ []); rw [List.append_nil]; exact q4) (all_cons kR (all_cons kR (all_cons kR all_nil))) (fun _ h => h) (fun i y hi hy => ?_)
  refine Sy.seq ?_
  refine sC ?_
  obtain ⟨b3, hb3⟩ : ∃ z : Bool, z = decide (i < n) := ⟨_, rfl⟩
  refine sp rfl <| sP (.pointer (some ⟨g3, 1, none⟩)) <| sS (.slice A n cp) (cellC (R := [(g3, 40, #[.int .i64 t.t, .slice A n cp])]) c1 (fun y hy => inWB (List.mem_append_right R hy)) rfl Tryz.underlying38) <| sP (.int .i64 (n : Int)) <| sS (.bool b3) (Quiet.pure (exec_int .lss _ _ _ .i64 _ _ _ rfl rfl rfl (int_lss _ _ _ _ _ (by rw [hb3]; exact decide_eq_decide.2 (by omega))))) ?_
  refine sG ?_
  have htl : ((t.keys.take i).flatMap fun k => k).length ≤ 32 * i := by
    rw [flat_key (fun o ho => hcl o (List.mem_of_mem_take ho)), List.length_take]; omega
  cases b3
  case' false =>
    have l3 : ¬ i < n := of_decide_eq_false hb3.symm
    obtain rfl : i = n := by omega
    rw [List.take_of_length_le (by omega)] at hy
    refine sU ?_
    refine Sy.exit ?_
    refine Sy.then_exit ?_
    refine Sy.then_exit ?_
    refine Sy.in_exit ?_
    have q := q1.then_ (q3.then_ (Wrote.raw (t.keys.flatMap fun k => k) bad2 b2 (k := 32 * t.keys.length) (by rw [flat_key hcl]; exact Nat.le_refl _)))
    rw [Bool.and_true, ← k2] at q
    rw [hwt]
    exact Sy.retT0 rfl (WB gw bad2 y R) (fun _ h => dropW h) (fun _ => ⟨y, bad2, _, q, hy, rfl⟩)
  have l3 : i < n := of_decide_eq_true hb3.symm
  obtain ⟨x, hx⟩ : ∃ x, t.keys[i]? = some x := ⟨_, List.getElem?_eq_getElem (by omega)⟩
  obtain ⟨g, o, hA, hq⟩ := k5 (by intro e; rw [e] at hx; cases hx)
  obtain ⟨cs, _, _, ⟨rfl, x3⟩, hX⟩ := hq i x hx
  have d1 : XAt (rdC w0.inn []) g (o + i * 32) (x.map bv) := fun j u hu => .inl (hX j u hu)
  have m1 : (x.map bv).length = 32 := by rw [List.length_map, x3]
  have hyl : (b2 ++ (t.keys.take i).flatMap fun k => k).length ≤ b2.length + 32 * i := by rw [List.length_append]; omega
  refine sT ?_
  refine Sy.skip ?_
  refine Sy.then_ ?_
  refine Sy.seq ?_
  refine Sy.block ?_
  refine Sy.region ?_
  refine sp rfl <| sP (.pointer (some ⟨g3, 1, none⟩)) <| sS (.slice A n cp) (cellC (R := [(g3, 40, #[.int .i64 t.t, .slice A n cp])]) c1 (fun y hy => inWB (List.mem_append_right R hy)) rfl Tryz.underlying38) <| sp rfl <| sS (.pointer (some ⟨g, o + i * 32, none⟩)) (Quiet.pure (exec_atO 38 _ _ _ A g o n cp i 32 .i64 hA rfl rfl rfl Tryz.underlying38 kF l3)) <| sS (.agg (x.map bv).toArray) (rowC (R := []) d1 (fun y hy => by cases hy) m1 rfl Tryz.underlying236) ?_
  refine Sy.callT (fun w hw => digW_any w0.inn gw bad2 y (R ++ [(g3, 40, #[.int .i64 t.t, .slice A n cp])]) _ x x3 hy (by omega) w hw) (fun v M hM => ?_)
  obtain ⟨r5, hr5, rfl⟩ := hM
  refine Sy.nil ?_
  refine Sy.in_ ?_
  refine Sy.then_ ?_
  refine Sy.region ?_
  refine sp rfl <| sS (.int .i64 ((i + 1 : Nat) : Int)) (Quiet.pure (exec_int .add _ _ _ .i64 _ _ _ rfl rfl rfl (int_add _ _ _ _ _ ((wrap_i64 (by omega) (by omega)).trans (by omega))))) <| sp rfl ?_
  refine Sy.nil ?_
  have e : b2 ++ ((t.keys.take (i + 1)).flatMap fun k => k) = b2 ++ ((t.keys.take i).flatMap fun k => k) ++ x := by
    rw [List.take_add_one, hx, List.flatMap_append]
    show b2 ++ (((t.keys.take i).flatMap fun k => k) ++ (x ++ [])) = _
    simp only [List.append_assoc, List.append_nil]
  exact Sy.againT r5 l3 (by show BS r5 (b2 ++ ((t.keys.take (i + 1)).flatMap fun k => k)); rw [e]; exact hr5) (all_cons kR (all_cons kR (all_cons kR all_nil))) (fun w h => h)
theorem parM_any (w0 : Base) (gr : Nat) (sl : Value) (b : Byt) (at_ e : Nat) (R : Blocks) (hat : at_ ≤ b.length) (he : e ≤ 200) (hl : b.length ≤ 70368744177664) (hv : BytR (rdW w0.world) sl b) (w : World) (hw : St w0 w (RB gr sl at_ e R)) :
    Calls Tryz.prog 83 #[ptr gr] w (Turns w0 (Rfd rdPA (rowV 2 repPA) gr sl b R at_ e)) := by
  refine Sy.enterT (args := [ptr gr]) hw Tryz.func83 rfl kL ?_
  refine sC ?_
  refine sM 40 #[.int .i64 0, .slice none 0 0] (fun g2 => ?_)
  refine Sy.movT (pre := [(gr, 186, rrC sl at_ e)]) (T := R) ?_
  refine sA ?_
  refine sM 40 #[.int .i64 0, .slice none 0 0] (fun g3 => ?_)
  refine Sy.movT (pre := [(gr, 186, rrC sl at_ e), (g2, 40, #[.int .i64 0, .slice none 0 0])]) (T := R) ?_
  refine sA ?_
  refine sp rfl ?_
  refine Sy.callT (fun w hw => smallM_any 0 255 w0.inn gr sl b at_ e ((g2, 40, #[.int .i64 0, .slice none 0 0]) :: (g3, 40, #[.int .i64 0, .slice none 0 0]) :: R) hat he hl hv w hw) (fun u M hM => ?_)
  obtain ⟨x0, a1, e1, N1, p1, ⟨rfl, rfl⟩, p3, p4, rfl⟩ := hM
  rw [sml_oct] at p1
  rw [List.append_nil]
  refine sP (.pointer (some ⟨g3, 0, none⟩)) <| sw 2 rfl #[.int .i64 x0, .slice none 0 0] (wO 0 3 (.int .i64 x0) rfl) ?_
  refine sA ?_
  refine sp rfl ?_
  refine Sy.callT (fun w hw => manyM_any w0.inn gr sl b a1 e1 16 ((g2, 40, #[.int .i64 0, .slice none 0 0]) :: (g3, 40, #[.int .i64 x0, .slice none 0 0]) :: R) p3 p4 (by decide) hl hv w hw) (fun u M hM => ?_)
  obtain ⟨n, a2, e2, N2, q1, ⟨rfl, q2, rfl⟩, q3, q4, rfl⟩ := hM
  rw [List.append_nil]
  refine sp rfl ?_
  refine sG ?_
  refine Sy.seq ?_
  refine sC ?_
  refine sP (.int .i64 0) ?_
  refine sG ?_
  refine Sy.block ?_
  refine Sy.loopT (Y := RLst Byt) n (fun i _ => [(0, ptr gr), (2, ptr g2), (3, ptr g3), (4, .int .i64 (n : Int)), (5, .int .i64 (i : Int))]) (fun _ y => [(gr, 186, rrC sl y.at_ y.e), (g2, 40, #[.int .i64 0, .slice none 0 0]), (g3, 40, #[.int .i64 x0, y.r.v])] ++ (y.r.bl ++ R)) (fun i y => After (repP (takeP 32) i) ⟨b.drop a2, e2⟩ y.xs ⟨b.drop y.at_, y.e⟩ ∧ y.at_ ≤ b.length ∧ y.e ≤ 200 ∧ y.xs.length = i ∧ RowsOk 236 32 repDG y.r [] y.xs) ⟨a2, e2, [], nilS⟩ ⟨After.ret [] _, q3, q4, rfl, RowsOk.nil⟩ (all_cons kR (all_cons kR (all_cons kR (all_cons kR (all_cons kR all_nil))))) (fun _ h => h) (fun i y hi hy => ?_)
  obtain ⟨a, f, xs, r⟩ := y
  obtain ⟨y1, y2, y3, y4, y5⟩ := hy
  dsimp only at y1 y2 y3 y4 y5 ⊢
  obtain ⟨b3, hb3⟩ : ∃ z : Bool, z = decide (i < n ∧ f = 0) := ⟨_, rfl⟩
  refine Sy.seq ?_
  refine Sy.seq ?_
  refine cutC [(0, ptr gr), (2, ptr g2), (3, ptr g3), (4, .int .i64 (n : Int)), (5, .int .i64 (i : Int)), (17, .bool b3)] ([(gr, 186, rrC sl a f), (g2, 40, #[.int .i64 0, .slice none 0 0]), (g3, 40, #[.int .i64 x0, r.v])] ++ (r.bl ++ R)) ?_ ?_
  · refine Sy.region ?_
    obtain ⟨b1, hb1⟩ : ∃ z : Bool, z = decide (i < n) := ⟨_, rfl⟩
    refine sp rfl <| sp rfl <| sS (.bool b1) (Quiet.pure (exec_int .lss _ _ _ .i64 _ _ _ rfl rfl rfl (int_lss _ _ _ _ _ (by rw [hb1]; exact decide_eq_decide.2 (by omega))))) <| sp rfl ?_
    cases b1
    · obtain rfl : b3 = false := by rw [hb3]; exact decide_eq_false (fun h => of_decide_eq_false hb1.symm h.1)
      refine sN <| sN <| sP (.bool false) ?_
      refine Sy.nil ?_
      exact meet (all_cons kR (all_cons kR (all_cons kR (all_cons kR (all_cons kR (all_cons kR all_nil)))))) (fun _ h => h)
    · obtain ⟨b2, hb2⟩ : ∃ z : Bool, z = decide (f = 0) := ⟨_, rfl⟩
      obtain rfl : b3 = b2 := by rw [hb3, hb2]; exact decide_eq_decide.2 ⟨fun h => h.2, fun h => ⟨of_decide_eq_true hb1.symm, h⟩⟩
      refine sp rfl <| sS (.bool b3) (qg (fun w hw => by rw [hb2]; exact okM_any w0.inn gr sl a f (List.mem_cons_self ..) w hw)) <| sP (.bool b3) ?_
      refine Sy.nil ?_
      exact meet (all_cons kR (all_cons kR (all_cons kR (all_cons kR (all_cons kR (all_cons kR all_nil)))))) (fun _ h => h)
  refine Sy.then_ ?_
  cases b3
  case' false =>
    have l3 : ¬ (i < n ∧ f = 0) := of_decide_eq_false hb3.symm
    have hA : After (repP (takeP 32) n) ⟨b.drop a2, e2⟩ xs ⟨b.drop a, f⟩ := by
      by_cases h : i < n
      · exact y1.stop (fun h0 => l3 ⟨h, h0⟩) hi
      · obtain rfl : i = n := by omega
        exact y1
    have hrc : r.v.oneCell' = true := by obtain ⟨ys, h1, _⟩ := y5; exact h1.cells.2
    have hon : ∀ u ∈ [Value.int .i64 x0, r.v], u.oneCell' = true := fun u hu => by
      rcases List.mem_cons.1 hu with rfl | hu
      · rfl
      · rw [List.mem_singleton.1 hu]; exact hrc
    refine sU ?_
    refine Sy.exit ?_
    refine Sy.then_exit ?_
    refine Sy.then_exit ?_
    refine Sy.in_exit ?_
    refine Sy.then_ ?_
    refine sC ?_
    refine sS (.agg #[.int .i64 x0, r.v]) (qk 2 0 2 rfl rfl Tryz.underlying40) <| sw 1 rfl #[.int .i64 x0, r.v] (Writes.row 40 [.int .i64 x0, r.v] 2 _ _ rfl kR kR kR rfl (by kernel_rfl) hon) ?_
    refine sG ?_
    refine Sy.ret ?_
    exact Sy.retT1 (RB gr sl a f (R ++ r.bl)) rfl (.inl (Sy.Res.cell (ty' := 40) g2 1 #[.int .i64 x0, r.v] _ (by kernel_rfl) rfl Tryz.underlying40 rfl (by kernel_rfl) rfl)) (fun _ h => Sy.St.parts (L := [(gr, 186, rrC sl a f), (g2, 40, #[.int .i64 x0, r.v]), (g3, 40, #[.int .i64 x0, r.v])] ++ (r.bl ++ R)) (ls := [[(gr, 186, rrC sl a f)], [(g2, 40, #[.int .i64 x0, r.v])], [(g3, 40, #[.int .i64 x0, r.v])], r.bl, R]) (ms := [[(gr, 186, rrC sl a f)], R, r.bl]) [[(g2, 40, #[.int .i64 x0, r.v])], [(g3, 40, #[.int .i64 x0, r.v])]] [0, 4, 3, 1, 2] (by kernel_rfl) (by rfl) (by simp) (by simp) h) ⟨⟨x0, xs⟩, a, f, r.bl, p1.bind ((q1.bind hA).bind (After.ret _ _)), ⟨_, rfl, rfl, hon, ⟨r.v, rfl, RowsOk.lst (rep := repDG) (N := []) monoDG y5⟩⟩, y2, y3, rfl⟩
  obtain ⟨l1, l2⟩ : i < n ∧ f = 0 := of_decide_eq_true hb3.symm
  obtain ⟨ys, t1, t2, t3⟩ := y5
  refine sT ?_
  refine Sy.skip ?_
  refine Sy.then_ ?_
  refine Sy.seq ?_
  refine Sy.block ?_
  refine Sy.regionD (fun j => j == 3 || j == 5 || j == 7) kR ?_
  refine sb 0 rfl (.pointer (some ⟨g3, 1, none⟩)) <| sa 2 rfl rfl ?_
  refine Sy.joinG (T := Byt × Nat × Nat × Nat) (fun y => [(0, ptr gr), (2, ptr g2), (3, ptr g3), (4, .int .i64 (n : Int)), (5, .int .i64 (i : Int)), (21, r.v), (23, .agg (y.1.map bv).toArray), (24, .slice (some ⟨y.2.2.2, 0, none⟩) 1 1)]) (fun y => [(gr, 186, rrC sl y.2.1 y.2.2.1), (g2, 40, #[.int .i64 0, .slice none 0 0]), (g3, 40, #[.int .i64 x0, r.v]), (y.2.2.2, 236, (y.1.map bv).toArray)] ++ (r.bl ++ R)) (fun y => After (takeP 32) ⟨b.drop a, f⟩ y.1 ⟨b.drop y.2.1, y.2.2.1⟩ ∧ y.1.length = 32 ∧ y.2.1 ≤ b.length ∧ y.2.2.1 ≤ 200) 3 #[true, true, true, true, true, false, false, false] (fun y hy => ?_) (fun k => ?_)
  case refine_2 =>
    refine Sy.anyOf [1, 3] (by kernel_rfl) (by decide) (Sy.each2 ?_ ?_)
    · refine Sy.oneQuiet rfl (by kernel_rfl) r.v (qc 2 1 rfl rfl Tryz.underlying38) ?_
      refine Sy.soleD 3 rfl (fun Q2 hq2 => ?_)
      refine Sy.callT (fun w hw => digM_any w0.inn gr sl b a f ((g2, 40, #[.int .i64 0, .slice none 0 0]) :: (g3, 40, #[.int .i64 x0, r.v]) :: (r.bl ++ R)) y2 y3 hl hv w hw) (fun u M hM => ?_)
      obtain ⟨x2, a4, e4, N4, s1, ⟨rfl, s2, rfl⟩, s3, s4, rfl⟩ := hM
      rw [List.append_nil ((g2, 40, #[.int .i64 0, .slice none 0 0]) :: (g3, 40, #[.int .i64 x0, r.v]) :: (r.bl ++ R))]
      refine hq2 _ _ ?_
      refine Sy.makeD 4 rfl kR kR 236 (x2.map bv).toArray (fun g => .slice (some ⟨g, 0, none⟩) 1 1) (Makes.one 38 236 _ _ 32 _ (x2.map bv) rfl kR Tryz.underlying38 info_key rfl rfl (by rw [List.length_map, s2]) (by decide) (by decide)) (fun g7 => ?_)
      exact leafE k (x2, a4, e4, g7) ⟨s1, s2, s3, s4⟩ rfl (all_cons kR (all_cons kR (all_cons kR (all_cons kR (all_cons kR (all_cons kR (all_cons kR (all_cons kR all_nil)))))))) (Sy.mov_perm (pre := [(gr, 186, rrC sl a4 e4), (g2, 40, #[.int .i64 0, .slice none 0 0]), (g3, 40, #[.int .i64 x0, r.v])]) (T := r.bl ++ R))
    · refine oneE rfl (by kernel_rfl) rfl (fun Q2 hq2 => ?_)
      refine Sy.callT (fun w hw => digM_any w0.inn gr sl b a f ((g2, 40, #[.int .i64 0, .slice none 0 0]) :: (g3, 40, #[.int .i64 x0, r.v]) :: (r.bl ++ R)) y2 y3 hl hv w hw) (fun u M hM => ?_)
      obtain ⟨x2, a4, e4, N4, s1, ⟨rfl, s2, rfl⟩, s3, s4, rfl⟩ := hM
      rw [List.append_nil ((g2, 40, #[.int .i64 0, .slice none 0 0]) :: (g3, 40, #[.int .i64 x0, r.v]) :: (r.bl ++ R))]
      refine hq2 _ _ ?_
      refine Sy.anyOf [1, 4] (by kernel_rfl) (by decide) (Sy.each2 ?_ ?_)
      · refine Sy.oneQuiet rfl (by kernel_rfl) r.v (qc 2 1 rfl rfl Tryz.underlying38) ?_
        refine Sy.makeD 4 rfl kR kR 236 (x2.map bv).toArray (fun g => .slice (some ⟨g, 0, none⟩) 1 1) (Makes.one 38 236 _ _ 32 _ (x2.map bv) rfl kR Tryz.underlying38 info_key rfl rfl (by rw [List.length_map, s2]) (by decide) (by decide)) (fun g7 => ?_)
        exact leafE k (x2, a4, e4, g7) ⟨s1, s2, s3, s4⟩ rfl (all_cons kR (all_cons kR (all_cons kR (all_cons kR (all_cons kR (all_cons kR (all_cons kR (all_cons kR all_nil)))))))) (Sy.mov_perm (pre := [(gr, 186, rrC sl a4 e4), (g2, 40, #[.int .i64 0, .slice none 0 0]), (g3, 40, #[.int .i64 x0, r.v])]) (T := r.bl ++ R))
      · refine Sy.oneMake rfl (by kernel_rfl) 236 (x2.map bv).toArray (fun g => .slice (some ⟨g, 0, none⟩) 1 1) (Makes.one 38 236 _ _ 32 _ (x2.map bv) rfl kR Tryz.underlying38 info_key rfl rfl (by rw [List.length_map, s2]) (by decide) (by decide)) (fun g7 => ?_)
        refine Sy.anyOf [1] (by kernel_rfl) (by decide) (Sy.each1 ?_)
        refine Sy.oneQuiet rfl (by kernel_rfl) r.v (qc 2 1 rfl rfl Tryz.underlying38) ?_
        exact leafE k (x2, a4, e4, g7) ⟨s1, s2, s3, s4⟩ rfl (all_cons kR (all_cons kR (all_cons kR (all_cons kR (all_cons kR (all_cons kR (all_cons kR (all_cons kR all_nil)))))))) (Sy.mov_perm (pre := [(gr, 186, rrC sl a4 e4), (g2, 40, #[.int .i64 0, .slice none 0 0]), (g3, 40, #[.int .i64 x0, r.v])]) (T := r.bl ++ R))
  obtain ⟨x2, a4, e4, g7⟩ := y
  obtain ⟨s1, s2, s3, s4⟩ := hy
  dsimp only at s1 s2 s3 s4 ⊢
  have m2 : (x2.map bv).length = 32 := by rw [List.length_map, s2]
  refine Sy.soleD 5 rfl (fun Q2 hq2 => ?_)
  refine Sy.appendR (pre := [(gr, 186, rrC sl a4 e4), (g2, 40, #[.int .i64 0, .slice none 0 0]), (g3, 40, #[.int .i64 x0, r.v]), (g7, 236, (x2.map bv).toArray)]) (T := R) kR 38 236 _ _ 32 32 Tryz.underlying38 info_key rfl rfl rfl rfl (by decide) _ _ rfl t1 kR (x2.map bv) m2 (ones_bv x2) 3 g7 236 kR kR (by omega) (by simp only [maxLen]; omega) (fun r' hr' => ?_)
  refine hq2 _ _ ?_
  refine sb 6 rfl (.pointer (some ⟨g3, 1, none⟩)) <| sx 7 rfl 2 rfl #[.int .i64 x0, r'.v] (Writes.one 1 38 r'.v _ _ rfl kR kR kR hr'.cells.1 hr'.cells.2 (Nat.lt_succ_self 1) kR) ?_
  refine sE ?_
  refine Sy.in_ ?_
  refine Sy.then_ ?_
  refine Sy.region ?_
  refine sp rfl <| sS (.int .i64 ((i + 1 : Nat) : Int)) (Quiet.pure (exec_int .add _ _ _ .i64 _ _ _ rfl rfl rfl (int_add _ _ _ _ _ ((wrap_i64 (by omega) (by omega)).trans (by omega))))) <| sp rfl ?_
  refine Sy.nil ?_
  exact Sy.againT ⟨a4, e4, xs ++ [x2], r'⟩ l1 ⟨y1.snoc s1, s3, s4, by show (xs ++ [_]).length = _; rw [List.length_append, y4]; rfl, RowsOk.add (rep := repDG) t2 t3 hr' ⟨rfl, s2⟩⟩ (all_cons kR (all_cons kR (all_cons kR (all_cons kR (all_cons kR all_nil))))) (fun w h => Sy.St.parts (L := [(gr, 186, rrC sl a4 e4), (g2, 40, #[.int .i64 0, .slice none 0 0]), (g3, 40, #[.int .i64 x0, r'.v]), (g7, 236, (x2.map bv).toArray)] ++ (r'.bl ++ R)) (ls := [[(gr, 186, rrC sl a4 e4), (g2, 40, #[.int .i64 0, .slice none 0 0]), (g3, 40, #[.int .i64 x0, r'.v])], [(g7, 236, (x2.map bv).toArray)], r'.bl ++ R]) (ms := [[(gr, 186, rrC sl a4 e4), (g2, 40, #[.int .i64 0, .slice none 0 0]), (g3, 40, #[.int .i64 x0, r'.v])], r'.bl ++ R]) [[(g7, 236, (x2.map bv).toArray)]] [0, 2, 1] (by kernel_rfl) (by rfl) (by simp) (by simp) h)

end Go.Proofs.YtgemfpnlnipfnaaGreat.Wr

end
section
namespace Go.Proofs.YtgemfpnlnipfnaaGreat.Wr
open Go.RowKit Go.Proofs.YtgemfpnlnipfnaaGreat Go.Proofs.YtgemfpnlnipfnaaGreat.Sy
set_option maxRecDepth 100000
set_option maxHeartbeats 4000000

theorem rd_keys {raw r : Byt} {t : MPa} (h : rdPA raw = some (t, r)) : t.keys.length ≤ 16 := by
  unfold rdPA at h
  cases hp : octP raw with
  | none => rw [bind_none hp] at h; cases h
  | some u =>
    obtain ⟨n, r⟩ := u
    rw [bind_some hp] at h
    cases hq : listP 16 (takeP 32) r with
    | none => rw [bind_none hq] at h; cases h
    | some u =>
      obtain ⟨xs, r2⟩ := u
      rw [bind_some hq] at h
      have := lst_le hq
      cases h
      exact this
end Go.Proofs.YtgemfpnlnipfnaaGreat.Wr

end
section
namespace Go.Proofs.YtgemfpnlnipfnaaGreat.Wr
open Go.RowKit Go.Proofs.YtgemfpnlnipfnaaGreat Go.Proofs.YtgemfpnlnipfnaaGreat.Sy
set_option maxRecDepth 100000
set_option maxHeartbeats 4000000

theorem ByN.nil : ByN [] (.slice none 0 0) [] := ⟨none, 0, 0, rfl, BS.nil⟩
theorem textR_any (w : World) (v : Value) (x : Byt) (hv : BytR (rdW w) v x) (hl : x.length ≤ 70368744170000) : Calls Tryz.prog 167 #[v] w (GetsN w (ByN (varB x.length ++ x))) := by
  have hv0 := hv
  obtain ⟨A, n, cp, rfl, h2, h3, h4, h5⟩ := hv
  have hn9 := varB_len x.length
  refine Sy.enter (args := [.slice A n cp]) Tryz.func167 rfl kL ?_
  refine sC ?_
  refine sP (.slice none 0 0) ?_
  refine sA ?_
  refine sp rfl <| sP (.int .i64 (n : Int)) <| sS (.int .u64 (n : Int)) (Quiet.pure (fun w => conv_i6 w _ _ _ n (by omega) rfl rfl)) ?_
  refine Sy.callN kR 153 #[.int .u64 (n : Int)] kF _ (fun w' _ => varR_any w' n (by omega)) (fun u M hM => ?_)
  obtain ⟨A1, n1, c1, rfl, hs⟩ := hM
  refine sp rfl ?_
  refine sA ?_
  refine sp rfl <| sp rfl ?_
  refine Sy.permS (M := [] ++ (M ++ [])) (List.Perm.of_eq (by simp)) ?_
  refine Sy.appendM (pre := []) (r := ⟨.slice A1 n1 c1, M⟩) (T := []) kR 27 5 _ _ 1 1 Tryz.underlying27 Cu.info_u8 rfl rfl rfl rfl (by decide) _ _ rfl hs kR (byL_one x) (byL_oneC x) A n cp (by rw [byL_len, h2]) h3 kR (fun r => BytR.from (w0 := Base.of w) (R := []) (hv0.le rdW_base) (fun y hy => by cases hy)) (by rw [byL_len, ← h2]; omega) (by rw [byL_len, ← h2]; simp only [maxLen]; omega) (fun r hr => ?_)
  have hr' : BS r (varB x.length ++ x) := by
    show r.Is 5 1 _
    rw [byL_app, h2]
    exact hr
  refine sp rfl ?_
  refine sA ?_
  refine sp rfl <| sp rfl ?_
  refine sG ?_
  refine Sy.ret ?_
  exact Sy.retGM r.bl rfl (.inl (show _ = _ by kernel_rfl)) (fun _ h => h.less (List.sublist_append_left _ _)) hr'.as
def gtN (b : Byt) (at_ e most : Nat) : Nat × Nat × Byt := if (gvN b at_ e most).2.1 ≠ 0 then ((gvN b at_ e most).1, (gvN b at_ e most).2.1, []) else if b.length - (gvN b at_ e most).1 < (gvN b at_ e most).2.2 then (at_, 110, []) else ((gvN b at_ e most).1 + (gvN b at_ e most).2.2, 0, (b.drop (gvN b at_ e most).1).take (gvN b at_ e most).2.2)
theorem gtN_after (b : Byt) (at_ e most : Nat) (h : at_ ≤ b.length) (he : e ≤ 200) : After (textP most) ⟨b.drop at_, e⟩ (gtN b at_ e most).2.2 ⟨b.drop (gtN b at_ e most).1, (gtN b at_ e most).2.1⟩ ∧ (gtN b at_ e most).1 ≤ b.length ∧ (gtN b at_ e most).2.1 ≤ 200 := by
  obtain ⟨q1, q2, q3, q4⟩ := gvN_after b at_ e most h he
  unfold gtN
  obtain ⟨f, hf⟩ : ∃ f, f = gvN b at_ e most := ⟨_, rfl⟩
  rw [← hf] at q1 q2 q3 q4 ⊢
  by_cases h1 : f.2.1 ≠ 0
  · rw [if_pos h1]
    refine ⟨q1.bind (q := takeP) ⟨fun _ => h1, fun y r h0 _ => (h1 h0).elim, fun h0 _ => (h1 h0).elim⟩, q2, q3⟩
  · have h0 : f.2.1 = 0 := Decidable.of_not_not h1
    rw [if_neg h1]
    by_cases h2 : b.length - f.1 < f.2.2
    · rw [if_pos h2]
      refine ⟨q1.bind (q := takeP) ⟨fun _ => (show (110 : Nat) ≠ 0 by decide), fun y r _ hp => ?_, fun _ _ => (show (110 : Nat) ≠ 0 by decide)⟩, h, by show (110 : Nat) ≤ 200; decide⟩
      unfold takeP at hp
      rw [if_neg (by show ¬ f.2.2 ≤ (b.drop f.1).length; rw [List.length_drop]; omega)] at hp
      cases hp
    · rw [if_neg h2]
      refine ⟨q1.bind (q := takeP) ⟨fun h => (h h0).elim, fun y r _ hp => ?_, fun _ hp => ?_⟩, by show f.1 + f.2.2 ≤ _; omega, Nat.zero_le _⟩
      · unfold takeP at hp
        rw [if_pos (by show f.2.2 ≤ (b.drop f.1).length; rw [List.length_drop]; omega)] at hp
        cases hp
        exact ⟨rfl, by rw [List.drop_drop]⟩
      · unfold takeP at hp
        rw [if_pos (by show f.2.2 ≤ (b.drop f.1).length; rw [List.length_drop]; omega)] at hp
        cases hp
theorem getTextR_any (w : World) (sl : Value) (b : Byt) (at_ e most : Nat) (hat : at_ ≤ b.length) (he : e ≤ 200) (hmo : most < 1000000) (hl : b.length ≤ 70368744177664) (hv : BytR (rdW w) sl b) :
    Calls Tryz.prog 168 #[rrV sl at_ e, .int .i64 (most : Int)] w (GetsN w (fun v M => ∃ u, v = .tuple #[rrV sl (gtN b at_ e most).1 (gtN b at_ e most).2.1, u] ∧ ByN (gtN b at_ e most).2.2 u M)) := by
  have hv0 := hv
  obtain ⟨A, m, cp, rfl, h2, h3, h4, h5⟩ := hv
  obtain ⟨q1, q2, q3, q4⟩ := gvN_after b at_ e most hat he
  unfold gtN
  obtain ⟨f, hf⟩ : ∃ f, f = gvN b at_ e most := ⟨_, rfl⟩
  rw [← hf] at q1 q2 q3 q4 ⊢
  obtain ⟨T, hT⟩ : ∃ T, T = (if f.2.1 ≠ 0 then (f.1, f.2.1, ([] : Byt)) else if b.length - f.1 < f.2.2 then (at_, 110, []) else (f.1 + f.2.2, 0, (b.drop f.1).take f.2.2)) := ⟨_, rfl⟩
  rw [← hT]
  refine Sy.enter (args := [rrV (.slice A m cp) at_ e, .int .i64 (most : Int)]) Tryz.func168 rfl kL ?_
  refine sC ?_
  refine sM 184 (rrC (.slice A m cp) at_ e) (fun g2 => ?_)
  refine sM 184 (rrC (.slice none 0 0) 0 0) (fun g4 => ?_)
  refine sP (.slice none 0 0) ?_
  refine sA ?_
  refine sS (rrV (.slice A m cp) at_ e) (qk 0 0 3 rfl rfl Tryz.underlying184) <| sp rfl <| sS (.int .u64 (most : Int)) (Quiet.pure (fun w => conv_i6 w _ _ _ most (by omega) rfl rfl)) <| sp rfl <| sS (.bool false) (Quiet.pure (exec_int .lss _ _ _ .i64 _ _ _ rfl rfl rfl (int_lss _ _ _ _ _ (decide_eq_false (by omega))))) <| sS (.tuple #[rrV (.slice A m cp) f.1 f.2.1, .int .u64 ((f.2.2 : Nat) : Int)]) (qg (fun w' hw => by rw [hf]; exact getVarR_any (e := e) w' (.slice A m cp) b at_ most hat (by omega) hl (hv0.at hw))) <| sp rfl <| sp rfl <| sp rfl ?_
  refine sM 184 (rrC (.slice none 0 0) 0 0) (fun g6 => ?_)
  refine sw 2 rfl (rrC (.slice A m cp) f.1 f.2.1) (wA rfl) <| sp rfl ?_
  refine sG ?_
  refine Sy.seq ?_
  refine sC ?_
  obtain ⟨b1, hb1⟩ : ∃ z : Bool, z = decide (f.2.1 ≠ 0) := ⟨_, rfl⟩
  refine sP (.pointer (some ⟨g6, 2, none⟩)) <| sS (.int .i64 (f.2.1 : Int)) (qc 2 2 rfl rfl Tryz.underlying28) <| sS (.bool b1) (Quiet.pure (exec_int .neq _ _ _ .i64 _ _ _ rfl rfl rfl (int_neq _ _ _ _ _ (by rw [hb1]; exact decide_eq_decide.2 (by omega))))) ?_
  refine sG ?_
  cases b1
  case' true =>
    have l1 : f.2.1 ≠ 0 := of_decide_eq_true hb1.symm
    rw [if_pos l1] at hT
    subst hT
    refine sT ?_
    refine sC ?_
    refine sS (rrV (.slice A m cp) f.1 f.2.1) (qk 2 0 3 rfl rfl Tryz.underlying184) <| sw 1 rfl (rrC (.slice A m cp) f.1 f.2.1) (wA rfl) <| sP (.slice none 0 0) ?_
    refine sG ?_
    refine Sy.ret ?_
    refine Sy.then_ret ?_
    exact Sy.retGM2 [] rfl (.inl (Sy.Res.cell (ty' := 184) g4 1 (rrC (.slice A m cp) f.1 f.2.1) _ (by kernel_rfl) rfl Tryz.underlying184 rfl (by kernel_rfl) rfl)) (.inl (show _ = _ by kernel_rfl)) (fun _ h => h.none) ⟨_, rfl, ByN.nil⟩
  have l1 : ¬ f.2.1 ≠ 0 := of_decide_eq_false hb1.symm
  have l0 : f.2.1 = 0 := Decidable.of_not_not l1
  rw [if_neg l1] at hT
  refine sU ?_
  refine Sy.skip ?_
  refine Sy.then_ ?_
  refine Sy.seq ?_
  refine sC ?_
  obtain ⟨b2, hb2⟩ : ∃ z : Bool, z = decide (m - f.1 < f.2.2) := ⟨_, rfl⟩
  refine sp rfl <| sP (.pointer (some ⟨g6, 0, none⟩)) <| sS (.slice A m cp) (qc 2 0 rfl rfl Tryz.underlying27) <| sP (.int .i64 (m : Int)) <| sP (.pointer (some ⟨g6, 1, none⟩)) <| sS (.int .i64 (f.1 : Int)) (qc 2 1 rfl rfl Tryz.underlying3) <| sS (.int .i64 ((m - f.1 : Nat) : Int)) (Quiet.pure (exec_int .sub _ _ _ .i64 _ _ _ rfl rfl rfl (int_sub _ _ _ _ _ ((wrap_i64 (by omega) (by omega)).trans (by omega))))) <| sS (.int .u64 ((m - f.1 : Nat) : Int)) (Quiet.pure (fun w => conv_i6 w _ _ _ (m - f.1) (by omega) rfl rfl)) <| sS (.bool b2) (Quiet.pure (exec_int .gtr _ _ _ .u64 _ _ _ rfl rfl rfl (int_gtr _ _ _ _ _ (by rw [hb2]; exact decide_eq_decide.2 (by omega))))) ?_
  refine sG ?_
  cases b2
  case' true =>
    have l2 : m - f.1 < f.2.2 := of_decide_eq_true hb2.symm
    rw [if_pos (by omega)] at hT
    subst hT
    refine sT ?_
    refine sC ?_
    refine sP (.pointer (some ⟨g2, 2, none⟩)) <| sw 0 rfl (rrC (.slice A m cp) at_ 110) (wO 2 28 (.int .i64 110) rfl) ?_
    refine sA ?_
    refine sS (rrV (.slice A m cp) at_ 110) (qk 0 0 3 rfl rfl Tryz.underlying184) <| sw 1 rfl (rrC (.slice A m cp) at_ 110) (wA rfl) <| sP (.slice none 0 0) ?_
    refine sG ?_
    refine Sy.ret ?_
    refine Sy.then_ret ?_
    exact Sy.retGM2 [] rfl (.inl (Sy.Res.cell (ty' := 184) g4 1 (rrC (.slice A m cp) at_ 110) _ (by kernel_rfl) rfl Tryz.underlying184 rfl (by kernel_rfl) rfl)) (.inl (show _ = _ by kernel_rfl)) (fun _ h => h.none) ⟨_, rfl, ByN.nil⟩
  have l2 : ¬ m - f.1 < f.2.2 := of_decide_eq_false hb2.symm
  rw [if_neg (by omega)] at hT
  subst hT
  have er : rawN b f.1 f.2.1 f.2.2 = (f.1 + f.2.2, 0, (b.drop f.1).take f.2.2) := by
    unfold rawN
    rw [if_neg l1, if_neg (by omega)]
  refine sU ?_
  refine Sy.skip ?_
  refine sB ?_
  refine sS (rrV (.slice A m cp) f.1 f.2.1) (qk 2 0 3 rfl rfl Tryz.underlying184) <| sp rfl <| sS (.int .i64 ((f.2.2 : Nat) : Int)) (Quiet.pure (fun w => conv_6i w _ _ _ f.2.2 (by omega) rfl rfl)) ?_
  refine Sy.callN kR 178 #[rrV (.slice A m cp) f.1 f.2.1, .int .i64 ((f.2.2 : Nat) : Int)] kF _ (fun w' hw => rawR_any w' (.slice A m cp) b f.1 f.2.1 f.2.2 q2 (by omega) hl (hv0.at hw)) (fun u M hM => ?_)
  rw [er] at hM
  obtain ⟨u, rfl, hu⟩ := hM
  have hub := hu.byt
  obtain ⟨A2, n2, c2, rfl, _⟩ := hub
  refine sp rfl <| sp rfl <| sw 1 rfl (rrC (.slice A m cp) (f.1 + f.2.2) 0) (wA rfl) <| sp rfl ?_
  refine sG ?_
  refine Sy.ret ?_
  exact Sy.retGM2 M rfl (.inl (Sy.Res.cell (ty' := 184) g4 1 (rrC (.slice A m cp) (f.1 + f.2.2) 0) _ (by kernel_rfl) rfl Tryz.underlying184 rfl (by kernel_rfl) rfl)) (.inl (show _ = _ by kernel_rfl)) (fun _ h => h.less (List.sublist_append_right [(g2, 184, rrC (.slice A m cp) at_ e), (g4, 184, rrC (.slice A m cp) (f.1 + f.2.2) 0), (g6, 184, rrC (.slice A m cp) f.1 f.2.1)] M)) ⟨_, rfl, hu⟩
theorem textM_any (most : Nat) (hmo : most < 1000000) (w0 : Base) (gr : Nat) (sl : Value) (b : Byt) (at_ e : Nat) (R : Blocks) (hat : at_ ≤ b.length) (he : e ≤ 200) (hl : b.length ≤ 70368744177664) (hv : BytR (rdW w0.world) sl b) (w : World) (hw : St w0 w (RB gr sl at_ e R)) :
    Calls Tryz.prog 114 #[ptr gr, .int .i64 (most : Int)] w (Turns w0 (Rfd (textP most) (fun x v N => ByN x v N) gr sl b R at_ e)) := by
  obtain ⟨q1, q2, q3⟩ := gtN_after b at_ e most hat he
  have hv0 := hv
  obtain ⟨A, m, cp, rfl, h2, h3, h4, h5⟩ := hv
  obtain ⟨f, hf⟩ : ∃ f, f = gtN b at_ e most := ⟨_, rfl⟩
  rw [← hf] at q1 q2 q3
  refine Sy.enterT (args := [ptr gr, .int .i64 (most : Int)]) hw Tryz.func114 rfl kL ?_
  refine sC ?_
  refine sP (.slice none 0 0) ?_
  refine sA ?_
  refine sp rfl <| sp rfl <| sP (.pointer (some ⟨gr, 0, none⟩)) <| sS (rrV (.slice A m cp) at_ e) (qk 0 0 3 rfl rfl Tryz.underlying184) <| sp rfl ?_
  refine Sy.callN kR 168 #[rrV (.slice A m cp) at_ e, .int .i64 (most : Int)] kF _ (fun w' hw => getTextR_any w' (.slice A m cp) b at_ e most hat he hmo hl (hv0.le (fun g o u hu => rdC_world (w0 := w0.inn) (R := []) hw (fun _ h => by cases h) g o u (.inl hu)))) (fun u M hM => ?_)
  rw [← hf] at hM
  obtain ⟨u, rfl, hu⟩ := hM
  have hub := hu.byt
  obtain ⟨A2, n2, c2, rfl, k2, k3, k4, k5⟩ := hub
  refine sp rfl <| sp rfl <| sp rfl ?_
  refine sM 184 (rrC (.slice none 0 0) 0 0) (fun g5 => ?_)
  refine Sy.movT (pre := [(gr, 186, rrC (.slice A m cp) at_ e)]) (T := R ++ M) ?_
  refine sw 1 rfl (rrC (.slice A m cp) f.1 f.2.1) (wA rfl) <| sp rfl ?_
  refine sA ?_
  refine sp rfl <| sS (rrV (.slice A m cp) f.1 f.2.1) (qk 1 0 3 rfl rfl Tryz.underlying184) <| sp rfl <| sP (.pointer (some ⟨gr, 0, none⟩)) <| sw 0 rfl (rrC (.slice A m cp) f.1 f.2.1) (wA rfl) ?_
  refine sA ?_
  refine sp rfl <| sp rfl ?_
  refine sG ?_
  refine Sy.ret ?_
  exact Sy.retT1 (RB gr (.slice A m cp) f.1 f.2.1 (R ++ M)) rfl (.inl (show _ = _ by kernel_rfl)) (fun _ h => keep1 h) ⟨_, _, _, M, q1, hu, q2, q3, rfl⟩
theorem textW_any (w0 : Base) (gw : Nat) (bad : Bool) (s : Slc) (R : Blocks) (b : Byt) (v : Value) (x : Byt) (most : Nat) (hmo : most < 1000000) (hb : BS s b) (hx : BytR (rdW w0.world) v x) (hl : b.length + (9 + x.length) ≤ 70368744170000) (w : World) (hw : St w0 w (WB gw bad s R)) :
    Calls Tryz.prog 110 #[ptr gw, v, .int .i64 (most : Int)] w (Turns w0 (Wd gw R (decide (x.length ≤ most)) (varB x.length ++ x) (9 + x.length) bad b)) := by
  have hx0 := hx
  obtain ⟨A, n, cp, rfl, h2, h3, h4, h5⟩ := hx
  have hn9 := varB_len x.length
  obtain ⟨ok, hok⟩ : ∃ ok, ok = decide (x.length ≤ most) := ⟨_, rfl⟩
  rw [← hok]
  rw [h2] at hok
  refine Sy.enterT (args := [ptr gw, .slice A n cp, .int .i64 (most : Int)]) hw Tryz.func110 rfl kL ?_
  refine sC ?_
  refine sp rfl <| sp rfl <| sP (.int .i64 (n : Int)) <| sp rfl <| sS (.bool ok) (Quiet.pure (exec_int .leq _ _ _ .i64 _ _ _ rfl rfl rfl (int_leq _ _ _ _ _ (by rw [hok]; exact decide_eq_decide.2 (by omega))))) ?_
  refine Sy.callT (fun w hw => mustW_any w0.inn gw bad ok s R w hw) (fun u M hM => ?_)
  subst hM
  refine Sy.nil ?_
  refine Sy.then_ ?_
  refine Sy.region ?_
  refine sp rfl <| sp rfl ?_
  refine Sy.callN kR 167 #[.slice A n cp] kF _ (fun w' hw => textR_any w' (.slice A n cp) x (hx0.le (fun g o u hu => rdC_world (w0 := w0.inn) (R := []) hw (fun _ h => by cases h) g o u (.inl hu))) (by omega)) (fun u M hM => ?_)
  refine Sy.permS (M := WB gw (bad || !ok) s (R ++ M)) (List.Perm.of_eq (by simp only [List.append_assoc])) ?_
  refine Sy.callT (fun w hw => wrawW_any w0.inn gw (bad || !ok) s (R ++ M) b u (varB x.length ++ x) hb (hM.byt.le (fun g o v h => .inr (rdB_le (fun x hx => List.mem_append_right _ hx) g o v h))) (by rw [List.length_append]; omega) w hw) (fun v M2 hM2 => ?_)
  obtain ⟨r, hr, rfl⟩ := hM2
  refine Sy.nil ?_
  have q := (Wrote.must ok bad b).then_ (Wrote.raw (varB x.length ++ x) (bad || !ok) b (k := 9 + x.length) (by rw [List.length_append]; omega))
  rw [Bool.and_true, List.nil_append, Nat.zero_add] at q
  exact Sy.retT0 rfl (WB gw (bad || !ok) r R) (fun _ h => dropW h) (fun _ => ⟨r, bad || !ok, _, q, hr, rfl⟩)
theorem truthW_any (w0 : Base) (gw : Nat) (bad : Bool) (s : Slc) (R : Blocks) (b : Byt) (x : Bool) (hb : BS s b) (hl : b.length + 1 ≤ 70368744177664) (w : World) (hw : St w0 w (WB gw bad s R)) :
    Calls Tryz.prog 111 #[ptr gw, .bool x] w (Turns w0 (WRw gw bad b [trB x] R)) := by
  have fnd : ∀ (g1 : Nat) (u : UInt8), BytR (rdC w0.inn (R ++ [(g1, 5, #[bv u])])) (.slice (some ⟨g1, 0, none⟩) 1 1) [u] := fun g1 u => ⟨_, _, _, rfl, rfl, Nat.le_refl _, by decide, fun _ => ⟨g1, 0, rfl, fun j y hj => .inr ⟨5, #[bv u], List.mem_append_right _ (List.mem_singleton.2 rfl), by
    cases j with
    | zero => cases hj; rfl
    | succ j => cases hj⟩⟩⟩
  refine Sy.enterT (args := [ptr gw, .bool x]) hw Tryz.func111 rfl kL ?_
  refine sC ?_
  refine sp rfl ?_
  refine sG ?_
  cases x
  case' false =>
    refine sU ?_
    refine Sy.region ?_
    refine sp rfl ?_
    refine Sy.make kR 5 #[bv (trB false)] (fun g => .slice (some ⟨g, 0, none⟩) 1 1) kF (fun g1 => ?_)
    refine Sy.permS (M := WB gw bad s (R ++ [(g1, 5, #[bv (trB false)])])) (List.Perm.of_eq (by simp only [List.append_assoc])) ?_
    refine Sy.callT (fun w hw => wrawW_any w0.inn gw bad s (R ++ [(g1, 5, #[bv (trB false)])]) b (.slice (some ⟨g1, 0, none⟩) 1 1) [trB false] hb (fnd g1 (trB false)) (by show _ + 1 ≤ _; omega) w hw) (fun v M hM => ?_)
    obtain ⟨r, hr, rfl⟩ := hM
    refine Sy.nil ?_
    exact Sy.retT0 rfl (WB gw bad r R) (fun _ h => dropW h) (fun _ => ⟨r, hr, rfl⟩)
  case' true =>
    refine sT ?_
    refine Sy.region ?_
    refine sp rfl ?_
    refine Sy.make kR 5 #[bv (trB true)] (fun g => .slice (some ⟨g, 0, none⟩) 1 1) kF (fun g1 => ?_)
    refine Sy.permS (M := WB gw bad s (R ++ [(g1, 5, #[bv (trB true)])])) (List.Perm.of_eq (by simp only [List.append_assoc])) ?_
    refine Sy.callT (fun w hw => wrawW_any w0.inn gw bad s (R ++ [(g1, 5, #[bv (trB true)])]) b (.slice (some ⟨g1, 0, none⟩) 1 1) [trB true] hb (fnd g1 (trB true)) (by show _ + 1 ≤ _; omega) w hw) (fun v M hM => ?_)
    obtain ⟨r, hr, rfl⟩ := hM
    refine Sy.nil ?_
    exact Sy.retT0 rfl (WB gw bad r R) (fun _ h => dropW h) (fun _ => ⟨r, hr, rfl⟩)
end Go.Proofs.YtgemfpnlnipfnaaGreat.Wr

end
section
namespace Go.Proofs.YtgemfpnlnipfnaaGreat.Wr
open Go.RowKit Go.Proofs.YtgemfpnlnipfnaaGreat Go.Proofs.YtgemfpnlnipfnaaGreat.Sy
set_option maxRecDepth 100000
set_option maxHeartbeats 4000000

theorem hedW_any (w0 : Base) (gw : Nat) (bad : Bool) (s : Slc) (R : Blocks) (b : Byt) (x : MHe) (cs : List Value) (hx : repHE (rdW w0.world) cs x) (hb : BS s b) (hlo : x.next.keys.length ≤ 1000000000000) (hl : b.length + wtHE x ≤ 70368744160000) (w : World) (hw : St w0 w (WB gw bad s R)) :
    Calls Tryz.prog 56 #[ptr gw, .agg cs.toArray] w (Turns w0 (Wd gw R (okHE x) (encHE x) (wtHE x) bad b)) := by
  obtain ⟨pv, hi, ti, rt, mn, rd, ch, nx⟩ := x
  obtain ⟨vr, vk, hcs, h1, h2, h3, h4, h5, h6, h7⟩ := hx
  dsimp only at h1 h2 h3 h4 h5 h6 h7 hlo
  unfold wtHE at hl
  dsimp only at hl
  have e1 : (pv.map bv).length = 32 := by rw [List.length_map, h1]
  have e2 : (rt.map bv).length = 32 := by rw [List.length_map, h2]
  have e3 : (mn.map bv).length = 32 := by rw [List.length_map, h3]
  have hlen : cs.length = 102 := by rw [hcs]; simp only [cHE, List.length_append, e1, e2, e3]; rfl
  refine Sy.enterT (args := [ptr gw, .agg cs.toArray]) hw Tryz.func56 rfl kL ?_
  refine sC ?_
  refine sM 42 cs.toArray (fun g3 => ?_) kR (fun w => run_boxR rfl rfl (by kernel_rfl) hlen w)
  refine Sy.permS (M := WB gw bad s (R ++ [(g3, 42, cs.toArray)])) (List.Perm.of_eq (by simp only [List.append_assoc])) ?_
  have hX : ∀ l, l = cs → XAt (rdC w0.inn [(g3, 42, cs.toArray)]) g3 0 l := fun l e i u hu => .inr ⟨_, _, List.mem_singleton.2 rfl, by rw [Nat.zero_add, List.getElem?_toArray, ← e]; exact hu⟩
  have X0 : XAt (rdC w0.inn [(g3, 42, cs.toArray)]) g3 0 (pv.map bv ++ ([.int .u64 (hi : Int)] ++ ([.int .u64 (ti : Int)] ++ (rt.map bv ++ (mn.map bv ++ ([vr] ++ ([.bool ch] ++ ([.int .i64 nx.t] ++ [vk])))))))) := hX _ hcs.symm
  have X1 : XAt (rdC w0.inn [(g3, 42, cs.toArray)]) g3 32 ([.int .u64 (hi : Int)] ++ ([.int .u64 (ti : Int)] ++ (rt.map bv ++ (mn.map bv ++ ([vr] ++ ([.bool ch] ++ ([.int .i64 nx.t] ++ [vk]))))))) := X0.right e1
  have X2 : XAt (rdC w0.inn [(g3, 42, cs.toArray)]) g3 33 ([.int .u64 (ti : Int)] ++ (rt.map bv ++ (mn.map bv ++ ([vr] ++ ([.bool ch] ++ ([.int .i64 nx.t] ++ [vk])))))) := X1.right (n := 1) rfl
  have X3 : XAt (rdC w0.inn [(g3, 42, cs.toArray)]) g3 34 (rt.map bv ++ (mn.map bv ++ ([vr] ++ ([.bool ch] ++ ([.int .i64 nx.t] ++ [vk]))))) := X2.right (n := 1) rfl
  have X4 : XAt (rdC w0.inn [(g3, 42, cs.toArray)]) g3 66 (mn.map bv ++ ([vr] ++ ([.bool ch] ++ ([.int .i64 nx.t] ++ [vk])))) := X3.right e2
  have X5 : XAt (rdC w0.inn [(g3, 42, cs.toArray)]) g3 98 ([vr] ++ ([.bool ch] ++ ([.int .i64 nx.t] ++ [vk]))) := X4.right e3
  have X6 : XAt (rdC w0.inn [(g3, 42, cs.toArray)]) g3 99 ([.bool ch] ++ ([.int .i64 nx.t] ++ [vk])) := X5.right (n := 1) rfl
  have X7 : XAt (rdC w0.inn [(g3, 42, cs.toArray)]) g3 100 ([.int .i64 nx.t, vk]) := X6.right (n := 1) rfl
  obtain ⟨r0, hr0⟩ : ∃ r, r = s := ⟨_, rfl⟩
  have k0 : BS r0 b := by rw [hr0]; exact hb
  rw [← hr0]
  obtain ⟨c0, hc0⟩ : ∃ c : Byt, c = b := ⟨_, rfl⟩
  have LL0 : c0.length = b.length + 0 := by rw [hc0]; rfl
  obtain ⟨c1, hc1⟩ : ∃ c : Byt, c = (b ++ pv) := ⟨_, rfl⟩
  have LL1 : c1.length = b.length + 32 := by rw [hc1]; simp only [List.length_append, h1]
  obtain ⟨c2, hc2⟩ : ∃ c : Byt, c = (b ++ pv ++ nb 8 hi) := ⟨_, rfl⟩
  have LL2 : c2.length = b.length + 40 := by rw [hc2]; simp only [List.length_append, nb_len, h1]
  obtain ⟨c3, hc3⟩ : ∃ c : Byt, c = (b ++ pv ++ nb 8 hi ++ nb 8 ti) := ⟨_, rfl⟩
  have LL3 : c3.length = b.length + 48 := by rw [hc3]; simp only [List.length_append, nb_len, h1]
  obtain ⟨c4, hc4⟩ : ∃ c : Byt, c = (b ++ pv ++ nb 8 hi ++ nb 8 ti ++ rt) := ⟨_, rfl⟩
  have LL4 : c4.length = b.length + 80 := by rw [hc4]; simp only [List.length_append, nb_len, h1, h2]
  obtain ⟨c5, hc5⟩ : ∃ c : Byt, c = (b ++ pv ++ nb 8 hi ++ nb 8 ti ++ rt ++ mn) := ⟨_, rfl⟩
  have LL5 : c5.length = b.length + 112 := by rw [hc5]; simp only [List.length_append, nb_len, h1, h2, h3]
  have t1 : c0 ++ pv = c1 := by rw [hc0, hc1]
  have t2 : c1 ++ nb 8 hi = c2 := by rw [hc1, hc2]
  have t3 : c2 ++ nb 8 ti = c3 := by rw [hc2, hc3]
  have t4 : c3 ++ rt = c4 := by rw [hc3, hc4]
  have t5 : c4 ++ mn = c5 := by rw [hc4, hc5]
  rw [← hc0] at k0
  refine sA ?_
  refine sp rfl <| sP (.pointer (some ⟨g3, 0, none⟩)) <| sS (.agg (pv.map bv).toArray) (rowC (R := [(g3, 42, cs.toArray)]) (g := g3) (f := 0) (k := 32) (cs := pv.map bv) X0.left (fun y hy => inWB (List.mem_append_right R hy)) e1 rfl Tryz.underlying37) ?_
  refine Sy.callT (fun w hw => digW_any w0.inn gw bad r0 (R ++ [(g3, 42, cs.toArray)]) c0 pv h1 k0 (by rw [LL0]; omega) w hw) (fun v M hM => ?_)
  obtain ⟨r1, k1, rfl⟩ := hM
  rw [t1] at k1
  refine sA ?_
  refine sp rfl <| sP (.pointer (some ⟨g3, 32, none⟩)) <| sS (.int .u64 (hi : Int)) (cellC (R := [(g3, 42, cs.toArray)]) (g := g3) (f := 32) X1.one (fun y hy => inWB (List.mem_append_right R hy)) rfl Tryz.underlying22) ?_
  refine Sy.callT (fun w hw => numW_any w0.inn gw bad r1 (R ++ [(g3, 42, cs.toArray)]) c1 hi 8 h4 (by decide) k1 (by rw [LL1]; omega) w hw) (fun v M hM => ?_)
  obtain ⟨r2, k2, rfl⟩ := hM
  rw [t2] at k2
  refine sA ?_
  refine sp rfl <| sP (.pointer (some ⟨g3, 33, none⟩)) <| sS (.int .u64 (ti : Int)) (cellC (R := [(g3, 42, cs.toArray)]) (g := g3) (f := 33) X2.one (fun y hy => inWB (List.mem_append_right R hy)) rfl Tryz.underlying22) ?_
  refine Sy.callT (fun w hw => numW_any w0.inn gw bad r2 (R ++ [(g3, 42, cs.toArray)]) c2 ti 8 h5 (by decide) k2 (by rw [LL2]; omega) w hw) (fun v M hM => ?_)
  obtain ⟨r3, k3, rfl⟩ := hM
  rw [t3] at k3
  refine sA ?_
  refine sp rfl <| sP (.pointer (some ⟨g3, 34, none⟩)) <| sS (.agg (rt.map bv).toArray) (rowC (R := [(g3, 42, cs.toArray)]) (g := g3) (f := 34) (k := 32) (cs := rt.map bv) X3.left (fun y hy => inWB (List.mem_append_right R hy)) e2 rfl Tryz.underlying37) ?_
  refine Sy.callT (fun w hw => digW_any w0.inn gw bad r3 (R ++ [(g3, 42, cs.toArray)]) c3 rt h2 k3 (by rw [LL3]; omega) w hw) (fun v M hM => ?_)
  obtain ⟨r4, k4, rfl⟩ := hM
  rw [t4] at k4
  refine sA ?_
  refine sp rfl <| sP (.pointer (some ⟨g3, 66, none⟩)) <| sS (.agg (mn.map bv).toArray) (rowC (R := [(g3, 42, cs.toArray)]) (g := g3) (f := 66) (k := 32) (cs := mn.map bv) X4.left (fun y hy => inWB (List.mem_append_right R hy)) e3 rfl Tryz.underlying37) ?_
  refine Sy.callT (fun w hw => digW_any w0.inn gw bad r4 (R ++ [(g3, 42, cs.toArray)]) c4 mn h3 k4 (by rw [LL4]; omega) w hw) (fun v M hM => ?_)
  obtain ⟨r5, k5, rfl⟩ := hM
  rw [t5] at k5
  refine sA ?_
  refine sp rfl <| sP (.pointer (some ⟨g3, 98, none⟩)) <| sS vr (cellC (R := [(g3, 42, cs.toArray)]) (g := g3) (f := 98) X5.one (fun y hy => inWB (List.mem_append_right R hy)) rfl Tryz.underlying27) ?_
  refine Sy.callT (fun w hw => textW_any w0.inn gw bad r5 (R ++ [(g3, 42, cs.toArray)]) c5 vr rd 256 (by decide) k5 h6 (by rw [LL5]; omega) w hw) (fun v M hM => ?_)
  obtain ⟨r6, bad6, b6, q6, k6, rfl⟩ := hM
  have l6 := q6.len
  refine sA ?_
  refine sp rfl <| sP (.pointer (some ⟨g3, 99, none⟩)) <| sS (.bool ch) (cellC (R := [(g3, 42, cs.toArray)]) (g := g3) (f := 99) X6.one (fun y hy => inWB (List.mem_append_right R hy)) rfl Tryz.underlying4) ?_
  refine Sy.callT (fun w hw => truthW_any w0.inn gw bad6 r6 (R ++ [(g3, 42, cs.toArray)]) b6 ch k6 (by omega) w hw) (fun v M hM => ?_)
  obtain ⟨r7, k7, rfl⟩ := hM
  have q7 := Wrote.raw [trB ch] bad6 b6 (k := 1) (Nat.le_refl _)
  have l7 : (b6 ++ [trB ch]).length = b6.length + 1 := by rw [List.length_append]; rfl
  have q0 := Wrote.raw (pv ++ (nb 8 hi ++ (nb 8 ti ++ (rt ++ mn)))) bad b (k := 112) (by simp only [List.length_append, nb_len, h1, h2, h3]; omega)
  have t0 : b ++ (pv ++ (nb 8 hi ++ (nb 8 ti ++ (rt ++ mn)))) = c5 := by rw [hc5]; simp only [List.append_assoc]
  rw [t0] at q0
  refine sA ?_
  refine sP (.pointer (some ⟨g3, 99, none⟩)) <| sS (.bool ch) (cellC (R := [(g3, 42, cs.toArray)]) (g := g3) (f := 99) X6.one (fun y hy => inWB (List.mem_append_right R hy)) rfl Tryz.underlying4) ?_
  refine sG ?_
  cases ch
  case' true =>
    refine sT ?_
    refine Sy.region ?_
    refine sp rfl <| sP (.pointer (some ⟨g3, 100, none⟩)) <| sS (.agg [.int .i64 nx.t, vk].toArray) (rowC (R := [(g3, 42, cs.toArray)]) (g := g3) (f := 100) (k := 2) (cs := [.int .i64 nx.t, vk]) X7 (fun y hy => inWB (List.mem_append_right R hy)) rfl rfl Tryz.underlying40) ?_
    refine Sy.callT (fun w hw => parW_any w0.inn gw bad6 r7 (R ++ [(g3, 42, cs.toArray)]) (b6 ++ [trB true]) nx vk h7 k7 hlo (by omega) w hw) (fun u M hM => ?_)
    obtain ⟨r8, bad8, b8, q8, k8, rfl⟩ := hM
    refine Sy.nil ?_
    have q' := (q0.then_ (q6.then_ (q7.then_ q8))).le (k' := wtHE ⟨pv, hi, ti, rt, mn, rd, true, nx⟩) (by unfold wtHE; dsimp only; omega)
    simp only [Bool.true_and, List.append_assoc] at q'
    exact Sy.retT0 rfl (WB gw bad8 r8 R) (fun _ h => dropW h) (fun _ => ⟨r8, bad8, b8, by unfold okHE encHE; simp only [if_true, List.append_assoc]; exact q', k8, rfl⟩)
  obtain ⟨A, n, cp, rfl, m2, m3, m4, m5⟩ := h7
  obtain ⟨t1, ht1⟩ : ∃ t : Bool, t = decide (nx.t = 0) := ⟨_, rfl⟩
  obtain ⟨t2, ht2⟩ : ∃ t : Bool, t = decide (n = 0) := ⟨_, rfl⟩
  obtain ⟨ok, hok⟩ : ∃ t : Bool, t = (decide (nx.t = 0) && decide (nx.keys.length = 0)) := ⟨_, rfl⟩
  have hk : ok = (t1 && t2) := by rw [hok, ht1, ht2, m2]
  have fine : ∀ ok', ok' = ok → Wrote (okHE ⟨pv, hi, ti, rt, mn, rd, false, nx⟩) (encHE ⟨pv, hi, ti, rt, mn, rd, false, nx⟩) (wtHE ⟨pv, hi, ti, rt, mn, rd, false, nx⟩) bad b (bad6 || !ok') (b6 ++ [trB false]) := fun ok' e => by
    have q' := (q0.then_ (q6.then_ (q7.then_ (Wrote.must ok' bad6 (b6 ++ [trB false]))))).le (k' := wtHE ⟨pv, hi, ti, rt, mn, rd, false, nx⟩) (by unfold wtHE; dsimp only; omega)
    rw [e, hok] at q' ⊢
    simp only [Bool.true_and, List.append_assoc] at q'
    unfold okHE encHE
    simp only [Bool.false_eq_true, if_false, List.append_assoc]
    exact q'
  refine sU ?_
  refine Sy.region ?_
  refine sp rfl <| sP (.pointer (some ⟨g3, 100, none⟩)) <| sP (.pointer (some ⟨g3, 100, none⟩)) <| sS (.int .i64 nx.t) (cellC (R := [(g3, 42, cs.toArray)]) (g := g3) (f := 100) X7.one (fun y hy => inWB (List.mem_append_right R hy)) rfl Tryz.underlying3) <| sS (.bool t1) (Quiet.pure (exec_int .eql _ _ _ .i64 _ _ _ rfl rfl rfl (int_eql _ _ _ _ _ (ht1.symm)))) <| sp rfl ?_
  cases t1
  case' false =>
    obtain rfl : ok = false := hk
    refine sN <| sN <| sN <| sN <| sN <| sP (.bool false) ?_
    refine Sy.callT (fun w hw => mustW_any w0.inn gw bad6 false r7 (R ++ [(g3, 42, cs.toArray)]) w hw) (fun u M hM => ?_)
  case' true =>
    obtain rfl : ok = t2 := hk
    refine sP (.pointer (some ⟨g3, 100, none⟩)) <| sP (.pointer (some ⟨g3, 101, none⟩)) <| sS (.slice A n cp) (cellC (R := [(g3, 42, cs.toArray)]) (g := g3) (f := 101) X7.tail.one (fun y hy => inWB (List.mem_append_right R hy)) rfl Tryz.underlying38) <| sP (.int .i64 (n : Int)) <| sS (.bool ok) (Quiet.pure (exec_int .eql _ _ _ .i64 _ _ _ rfl rfl rfl (int_eql _ _ _ _ _ (by rw [ht2]; exact decide_eq_decide.2 (by omega))))) <| sP (.bool ok) ?_
    refine Sy.callT (fun w hw => mustW_any w0.inn gw bad6 ok r7 (R ++ [(g3, 42, cs.toArray)]) w hw) (fun u M hM => ?_)
  all_goals
    subst hM
    refine Sy.nil ?_
  · exact Sy.retT0 rfl (WB gw (bad6 || !ok) r7 R) (fun _ h => dropW h) (fun _ => ⟨r7, bad6 || !ok, _, fine ok rfl, k7, rfl⟩)
  · exact Sy.retT0 rfl (WB gw (bad6 || !false) r7 R) (fun _ h => dropW h) (fun _ => ⟨r7, bad6 || !false, _, fine false rfl, k7, rfl⟩)
theorem hedR_w (w : World) (x : MHe) (cs : List Value) (hx : repHE (rdW w) cs x) (hlo : x.next.keys.length ≤ 1000000000) (hrl : x.reward.length ≤ 1000000000) :
    Calls Tryz.prog 19 #[.agg cs.toArray] w (GetsN w (BytE (okHE x) (encHE x))) := by
  have hwt : wtHE x ≤ 70368744160000 := by unfold wtHE wtPA; rw [sum_32]; omega
  have hlen : cs.length = 102 := by
    obtain ⟨vr, vk, hcs, h1, h2, h3, _⟩ := hx
    rw [hcs]; simp only [cHE, List.length_append, List.length_map, h1, h2, h3]; rfl
  refine Sy.enter (args := [.agg cs.toArray]) Tryz.func19 rfl kL ?_
  refine sC ?_
  refine sM 42 cs.toArray (fun g1 => ?_) kR (fun w => run_boxR rfl rfl (by kernel_rfl) hlen w)
  refine sP (.slice none 0 0) <| sP (.int .i64 0) ?_
  refine sA ?_
  refine sP (.agg #[.slice none 0 0, .bool false]) <| sM 99 #[.slice none 0 0, .bool false] (fun gw => ?_)
  refine sp rfl ?_
  refine sA ?_
  refine Sy.permS (M := WB gw false nilS [(g1, 42, cs.toArray)]) (Sy.perm_at [1, 0] (by kernel_rfl) (by rfl)) ?_
  refine sp rfl <| sS (.agg cs.toArray) (Quiet.mid 1 g1 0 102 42 42 cs cs _ _ rfl kR rfl Tryz.underlying42 rfl kR (by rw [List.drop_zero, List.take_of_length_le (by omega)]) (by omega)) ?_
  refine Sy.callT (fun w' hw => hedW_any (Base.of w) gw false nilS [(g1, 42, cs.toArray)] [] x cs hx BS.nil (by omega) (by show 0 + _ ≤ _; omega) w' hw) (fun u M hM => ?_)
  obtain ⟨s', bad, b', q1, q2, rfl⟩ := hM
  have qb := q1.bad
  refine sA ?_
  refine sp rfl ?_
  refine Sy.callT (fun w' hw => doneW_any (Base.of w) gw bad s' [(g1, 42, cs.toArray)] w' hw) (fun u M hM => ?_)
  obtain ⟨rfl, rfl⟩ := hM
  cases bad
  · have hok : okHE x = true := by
      cases h : okHE x with
      | true => rfl
      | false => rw [h] at qb; cases qb
    have hbb : b' = encHE x := q1.bytes rfl
    rw [if_neg (by decide)]
    refine sp rfl <| sp rfl <| sp rfl <| sp rfl ?_
    refine sG ?_
    refine Sy.ret ?_
    exact Sy.retGM2 s'.bl rfl (.inl (show _ = _ by kernel_rfl)) (.inl (show _ = _ by kernel_rfl)) (fun _ h => h.less ((List.sublist_append_left _ _).trans (List.sublist_append_right _ _))) (.inl ⟨hok, _, rfl, by rw [← hbb]; exact q2.as⟩)
  · have hok : okHE x = false := by
      cases h : okHE x with
      | false => rfl
      | true => rw [h] at qb; cases qb
    rw [if_pos rfl]
    refine sp rfl <| sp rfl <| sp rfl <| sp rfl ?_
    refine sG ?_
    refine Sy.ret ?_
    exact Sy.retGM2 [] rfl (.inl (show _ = _ by kernel_rfl)) (.inl (show _ = _ by kernel_rfl)) (fun _ h => h.none) (.inr ⟨hok, rfl, rfl⟩)
end Go.Proofs.YtgemfpnlnipfnaaGreat.Wr

end
section
namespace Go.Proofs.YtgemfpnlnipfnaaGreat.Wr
open Go.RowKit Go.Proofs.YtgemfpnlnipfnaaGreat Go.Proofs.YtgemfpnlnipfnaaGreat.Sy
set_option maxRecDepth 100000
set_option maxHeartbeats 4000000

theorem ones_bV (x : Byt) : ∀ u ∈ x.map bv, u.oneCell' = true := fun u hu => by obtain ⟨y, _, rfl⟩ := List.mem_map.1 hu; rfl
theorem header_r : GetC 55 102 (Z32 ++ ([Value.int .u64 0] ++ ([Value.int .u64 0] ++ (Z32 ++ (Z32 ++ ([Value.slice none 0 0] ++ ([Value.bool false] ++ ([Value.int .i64 0] ++ [Value.slice none 0 0])))))))) repHE rdHE := fun w0 gc gr gx f tx A Z sl s R S hS hA he hl hv w hw => by
  refine Sy.enterT (args := [ptr gc, .pointer (some ⟨gx, f, none⟩)]) hw Tryz.func55 rfl kL ?_
  refine sC ?_
  refine sp rfl <| sp rfl <| sp rfl <| sP (.pointer (some ⟨gx, f, none⟩)) ?_
  refine Sy.callT (fun w hw => digest_r w0.inn gc gr gx f tx (A) ([Value.int .u64 0] ++ ([Value.int .u64 0] ++ (Z32 ++ (Z32 ++ ([Value.slice none 0 0] ++ ([Value.bool false] ++ (([Value.int .i64 0] ++ [Value.slice none 0 0]) ++ Z))))))) sl s (R) S hS hA he (hl) hv w (by simpa only [List.append_assoc] using hw)) (fun u M hM => ?_)
  obtain ⟨x1, s1, sl1, cs1, N1, a1, n1, o1, ⟨rfl, r1⟩, e1, h1, y1, rfl⟩ := hM
  have g1 : s1.rest.length ≤ s.rest.length := h1
  have A1 : (A ++ (x1.map bv)).length = f + 32 := by rw [List.length_append, hA, n1]
  refine sA ?_
  refine sp rfl <| sp rfl <| sp rfl <| sP (.pointer (some ⟨gx, f + 32, none⟩)) ?_
  refine Sy.callT (fun w hw => long_r w0.inn gc gr gx (f + 32) tx (A ++ (x1.map bv)) ([Value.int .u64 0] ++ (Z32 ++ (Z32 ++ ([Value.slice none 0 0] ++ ([Value.bool false] ++ (([Value.int .i64 0] ++ [Value.slice none 0 0]) ++ Z)))))) sl1 s1 (R ++ N1) S (fun b h => List.mem_append_left _ (hS b h)) A1 e1 (Nat.le_trans g1 hl) y1 w (by have e : A ++ (x1.map bv) ++ ([Value.int .u64 0] ++ ([Value.int .u64 0] ++ (Z32 ++ (Z32 ++ ([Value.slice none 0 0] ++ ([Value.bool false] ++ (([Value.int .i64 0] ++ [Value.slice none 0 0]) ++ Z))))))) = A ++ (x1.map bv ++ ([Value.int .u64 0] ++ ([Value.int .u64 0] ++ (Z32 ++ (Z32 ++ ([Value.slice none 0 0] ++ ([Value.bool false] ++ (([Value.int .i64 0] ++ [Value.slice none 0 0]) ++ Z)))))))) := List.append_assoc ..; rw [e]; exact hw)) (fun u M hM => ?_)
  obtain ⟨x2, s2, sl2, cs2, N2, a2, n2, o2, ⟨rfl, r2⟩, e2, h2, y2, rfl⟩ := hM
  have g2 : s2.rest.length ≤ s.rest.length := Nat.le_trans h2 g1
  have A2 : (A ++ (x1.map bv) ++ [Value.int .u64 (x2 : Int)]).length = f + 33 := by rw [List.length_append, A1, n2]
  refine sA ?_
  refine sp rfl <| sp rfl <| sp rfl <| sP (.pointer (some ⟨gx, f + 33, none⟩)) ?_
  refine Sy.callT (fun w hw => long_r w0.inn gc gr gx (f + 33) tx (A ++ (x1.map bv) ++ [Value.int .u64 (x2 : Int)]) (Z32 ++ (Z32 ++ ([Value.slice none 0 0] ++ ([Value.bool false] ++ (([Value.int .i64 0] ++ [Value.slice none 0 0]) ++ Z))))) sl2 s2 (R ++ N1 ++ N2) S (fun b h => List.mem_append_left _ (List.mem_append_left _ (hS b h))) A2 e2 (Nat.le_trans g2 hl) y2 w (by have e : A ++ (x1.map bv) ++ [Value.int .u64 (x2 : Int)] ++ ([Value.int .u64 0] ++ (Z32 ++ (Z32 ++ ([Value.slice none 0 0] ++ ([Value.bool false] ++ (([Value.int .i64 0] ++ [Value.slice none 0 0]) ++ Z)))))) = A ++ (x1.map bv) ++ ([Value.int .u64 (x2 : Int)] ++ ([Value.int .u64 0] ++ (Z32 ++ (Z32 ++ ([Value.slice none 0 0] ++ ([Value.bool false] ++ (([Value.int .i64 0] ++ [Value.slice none 0 0]) ++ Z))))))) := List.append_assoc ..; rw [e]; exact hw)) (fun u M hM => ?_)
  obtain ⟨x3, s3, sl3, cs3, N3, a3, n3, o3, ⟨rfl, r3⟩, e3, h3, y3, rfl⟩ := hM
  have g3 : s3.rest.length ≤ s.rest.length := Nat.le_trans h3 g2
  have A3 : (A ++ (x1.map bv) ++ [Value.int .u64 (x2 : Int)] ++ [Value.int .u64 (x3 : Int)]).length = f + 34 := by rw [List.length_append, A2, n3]
  refine sA ?_
  refine sp rfl <| sp rfl <| sp rfl <| sP (.pointer (some ⟨gx, f + 34, none⟩)) ?_
  refine Sy.callT (fun w hw => digest_r w0.inn gc gr gx (f + 34) tx (A ++ (x1.map bv) ++ [Value.int .u64 (x2 : Int)] ++ [Value.int .u64 (x3 : Int)]) (Z32 ++ ([Value.slice none 0 0] ++ ([Value.bool false] ++ (([Value.int .i64 0] ++ [Value.slice none 0 0]) ++ Z)))) sl3 s3 (R ++ N1 ++ N2 ++ N3) S (fun b h => List.mem_append_left _ (List.mem_append_left _ (List.mem_append_left _ (hS b h)))) A3 e3 (Nat.le_trans g3 hl) y3 w (by have e : A ++ (x1.map bv) ++ [Value.int .u64 (x2 : Int)] ++ [Value.int .u64 (x3 : Int)] ++ (Z32 ++ (Z32 ++ ([Value.slice none 0 0] ++ ([Value.bool false] ++ (([Value.int .i64 0] ++ [Value.slice none 0 0]) ++ Z))))) = A ++ (x1.map bv) ++ [Value.int .u64 (x2 : Int)] ++ ([Value.int .u64 (x3 : Int)] ++ (Z32 ++ (Z32 ++ ([Value.slice none 0 0] ++ ([Value.bool false] ++ (([Value.int .i64 0] ++ [Value.slice none 0 0]) ++ Z)))))) := List.append_assoc ..; rw [e]; exact hw)) (fun u M hM => ?_)
  obtain ⟨x4, s4, sl4, cs4, N4, a4, n4, o4, ⟨rfl, r4⟩, e4, h4, y4, rfl⟩ := hM
  have g4 : s4.rest.length ≤ s.rest.length := Nat.le_trans h4 g3
  have A4 : (A ++ (x1.map bv) ++ [Value.int .u64 (x2 : Int)] ++ [Value.int .u64 (x3 : Int)] ++ (x4.map bv)).length = f + 66 := by rw [List.length_append, A3, n4]
  refine sA ?_
  refine sp rfl <| sp rfl <| sp rfl <| sP (.pointer (some ⟨gx, f + 66, none⟩)) ?_
  refine Sy.callT (fun w hw => digest_r w0.inn gc gr gx (f + 66) tx (A ++ (x1.map bv) ++ [Value.int .u64 (x2 : Int)] ++ [Value.int .u64 (x3 : Int)] ++ (x4.map bv)) ([Value.slice none 0 0] ++ ([Value.bool false] ++ (([Value.int .i64 0] ++ [Value.slice none 0 0]) ++ Z))) sl4 s4 (R ++ N1 ++ N2 ++ N3 ++ N4) S (fun b h => List.mem_append_left _ (List.mem_append_left _ (List.mem_append_left _ (List.mem_append_left _ (hS b h))))) A4 e4 (Nat.le_trans g4 hl) y4 w (by have e : A ++ (x1.map bv) ++ [Value.int .u64 (x2 : Int)] ++ [Value.int .u64 (x3 : Int)] ++ (x4.map bv) ++ (Z32 ++ ([Value.slice none 0 0] ++ ([Value.bool false] ++ (([Value.int .i64 0] ++ [Value.slice none 0 0]) ++ Z)))) = A ++ (x1.map bv) ++ [Value.int .u64 (x2 : Int)] ++ [Value.int .u64 (x3 : Int)] ++ (x4.map bv ++ (Z32 ++ ([Value.slice none 0 0] ++ ([Value.bool false] ++ (([Value.int .i64 0] ++ [Value.slice none 0 0]) ++ Z))))) := List.append_assoc ..; rw [e]; exact hw)) (fun u M hM => ?_)
  obtain ⟨x5, s5, sl5, cs5, N5, a5, n5, o5, ⟨rfl, r5⟩, e5, h5, y5, rfl⟩ := hM
  have g5 : s5.rest.length ≤ s.rest.length := Nat.le_trans h5 g4
  have A5 : (A ++ (x1.map bv) ++ [Value.int .u64 (x2 : Int)] ++ [Value.int .u64 (x3 : Int)] ++ (x4.map bv) ++ (x5.map bv)).length = f + 98 := by rw [List.length_append, A4, n5]
  refine sA ?_
  refine sp rfl <| sp rfl <| sp rfl <| sP (.pointer (some ⟨gx, f + 98, none⟩)) ?_
  refine Sy.callT (fun w hw => text_r 256 (by decide) w0.inn gc gr gx (f + 98) tx (A ++ (x1.map bv) ++ [Value.int .u64 (x2 : Int)] ++ [Value.int .u64 (x3 : Int)] ++ (x4.map bv) ++ (x5.map bv)) ([Value.bool false] ++ (([Value.int .i64 0] ++ [Value.slice none 0 0]) ++ Z)) sl5 s5 (R ++ N1 ++ N2 ++ N3 ++ N4 ++ N5) S (fun b h => List.mem_append_left _ (List.mem_append_left _ (List.mem_append_left _ (List.mem_append_left _ (List.mem_append_left _ (hS b h)))))) A5 e5 (Nat.le_trans g5 hl) y5 w (by have e : A ++ (x1.map bv) ++ [Value.int .u64 (x2 : Int)] ++ [Value.int .u64 (x3 : Int)] ++ (x4.map bv) ++ (x5.map bv) ++ ([Value.slice none 0 0] ++ ([Value.bool false] ++ (([Value.int .i64 0] ++ [Value.slice none 0 0]) ++ Z))) = A ++ (x1.map bv) ++ [Value.int .u64 (x2 : Int)] ++ [Value.int .u64 (x3 : Int)] ++ (x4.map bv) ++ (x5.map bv ++ ([Value.slice none 0 0] ++ ([Value.bool false] ++ (([Value.int .i64 0] ++ [Value.slice none 0 0]) ++ Z)))) := List.append_assoc ..; rw [e]; exact hw)) (fun u M hM => ?_)
  obtain ⟨x6, s6, sl6, cs6, N6, a6, n6, o6, ⟨v6, rfl, r6⟩, e6, h6, y6, rfl⟩ := hM
  have g6 : s6.rest.length ≤ s.rest.length := Nat.le_trans h6 g5
  have A6 : (A ++ (x1.map bv) ++ [Value.int .u64 (x2 : Int)] ++ [Value.int .u64 (x3 : Int)] ++ (x4.map bv) ++ (x5.map bv) ++ [v6]).length = f + 99 := by rw [List.length_append, A5, n6]
  refine sA ?_
  refine sp rfl <| sp rfl <| sp rfl <| sP (.pointer (some ⟨gx, f + 99, none⟩)) ?_
  refine Sy.callT (fun w hw => truth_r w0.inn gc gr gx (f + 99) tx (A ++ (x1.map bv) ++ [Value.int .u64 (x2 : Int)] ++ [Value.int .u64 (x3 : Int)] ++ (x4.map bv) ++ (x5.map bv) ++ [v6]) (([Value.int .i64 0] ++ [Value.slice none 0 0]) ++ Z) sl6 s6 (R ++ N1 ++ N2 ++ N3 ++ N4 ++ N5 ++ N6) S (fun b h => List.mem_append_left _ (List.mem_append_left _ (List.mem_append_left _ (List.mem_append_left _ (List.mem_append_left _ (List.mem_append_left _ (hS b h))))))) A6 e6 (Nat.le_trans g6 hl) y6 w (by have e : A ++ (x1.map bv) ++ [Value.int .u64 (x2 : Int)] ++ [Value.int .u64 (x3 : Int)] ++ (x4.map bv) ++ (x5.map bv) ++ [v6] ++ ([Value.bool false] ++ (([Value.int .i64 0] ++ [Value.slice none 0 0]) ++ Z)) = A ++ (x1.map bv) ++ [Value.int .u64 (x2 : Int)] ++ [Value.int .u64 (x3 : Int)] ++ (x4.map bv) ++ (x5.map bv) ++ ([v6] ++ ([Value.bool false] ++ (([Value.int .i64 0] ++ [Value.slice none 0 0]) ++ Z))) := List.append_assoc ..; rw [e]; exact hw)) (fun u M hM => ?_)
  obtain ⟨x7, s7, sl7, cs7, N7, a7, n7, o7, rfl, e7, h7, y7, rfl⟩ := hM
  have g7 : s7.rest.length ≤ s.rest.length := Nat.le_trans h7 g6
  have A7 : (A ++ (x1.map bv) ++ [Value.int .u64 (x2 : Int)] ++ [Value.int .u64 (x3 : Int)] ++ (x4.map bv) ++ (x5.map bv) ++ [v6] ++ [Value.bool x7]).length = f + 100 := by rw [List.length_append, A6, n7]
  refine sA ?_
  refine sp rfl <| sp rfl <| sP (.pointer (some ⟨gx, f + 99, none⟩)) <| sS (.bool x7) (Quiet.cell 1 gx (f + 99) tx 4 (A ++ (x1.map bv) ++ [Value.int .u64 (x2 : Int)] ++ [Value.int .u64 (x3 : Int)] ++ (x4.map bv) ++ (x5.map bv) ++ [v6] ++ ([Value.bool x7] ++ (([Value.int .i64 0] ++ [Value.slice none 0 0]) ++ Z))).toArray _ _ rfl kR rfl Tryz.underlying4 rfl _ (by rw [List.getElem?_toArray, List.getElem?_append_right (by omega), A6, show f + 99 - (f + 99) = 0 by omega]; rfl)) ?_
  refine sG ?_
  cases x7
  case' true =>
    refine sT ?_
    refine Sy.region ?_
    refine sp rfl <| sp rfl <| sp rfl <| sP (.pointer (some ⟨gx, f + 100, none⟩)) ?_
    refine Sy.callT (fun w hw => params_r w0.inn gc gr gx (f + 100) tx (A ++ (x1.map bv) ++ [Value.int .u64 (x2 : Int)] ++ [Value.int .u64 (x3 : Int)] ++ (x4.map bv) ++ (x5.map bv) ++ [v6] ++ [Value.bool true]) Z sl7 s7 (R ++ N1 ++ N2 ++ N3 ++ N4 ++ N5 ++ N6 ++ N7) S (fun b h => List.mem_append_left _ (List.mem_append_left _ (List.mem_append_left _ (List.mem_append_left _ (List.mem_append_left _ (List.mem_append_left _ (List.mem_append_left _ (hS b h)))))))) A7 e7 (Nat.le_trans g7 hl) y7 w (by have e : A ++ (x1.map bv) ++ [Value.int .u64 (x2 : Int)] ++ [Value.int .u64 (x3 : Int)] ++ (x4.map bv) ++ (x5.map bv) ++ [v6] ++ [Value.bool true] ++ (([Value.int .i64 0] ++ [Value.slice none 0 0]) ++ Z) = A ++ (x1.map bv) ++ [Value.int .u64 (x2 : Int)] ++ [Value.int .u64 (x3 : Int)] ++ (x4.map bv) ++ (x5.map bv) ++ [v6] ++ ([Value.bool true] ++ (([Value.int .i64 0] ++ [Value.slice none 0 0]) ++ Z)) := List.append_assoc ..; rw [e]; exact hw)) (fun u M hM => ?_)
    obtain ⟨⟨x8, ks⟩, s8, sl8, cs8, N8, a8, n8, o8, ⟨v8, rfl, r8⟩, e8, h8, y8, rfl⟩ := hM
    refine Sy.nil ?_
    have hAf : After rdHE s ⟨x1, x2, x3, x4, x5, x6, true, ⟨x8, ks⟩⟩ s8 := a1.bind (a2.bind (a3.bind (a4.bind (a5.bind (a6.bind (a7.bind (After.bind (by rw [if_pos rfl]; exact a8) (After.ret _ _))))))))
    have hLn : (x1.map bv ++ ([Value.int .u64 (x2 : Int)] ++ ([Value.int .u64 (x3 : Int)] ++ (x4.map bv ++ (x5.map bv ++ ([v6] ++ ([Value.bool true] ++ ([Value.int .i64 x8] ++ [v8])))))))).length = 102 := (by simp only [List.length_append, n1, n4, n5]; rfl)
    have hOn : ∀ u ∈ (x1.map bv ++ ([Value.int .u64 (x2 : Int)] ++ ([Value.int .u64 (x3 : Int)] ++ (x4.map bv ++ (x5.map bv ++ ([v6] ++ ([Value.bool true] ++ ([Value.int .i64 x8] ++ [v8])))))))), u.oneCell' = true := ones_app o1 (ones_app o2 (ones_app o3 (ones_app o4 (ones_app o5 (ones_app o6 (ones_app o7 (onePA ⟨v8, rfl, r8⟩)))))))
    have hRp : repHE (rdB (N1 ++ (N2 ++ (N3 ++ (N4 ++ (N5 ++ (N6 ++ (N7 ++ N8)))))))) (x1.map bv ++ ([Value.int .u64 (x2 : Int)] ++ ([Value.int .u64 (x3 : Int)] ++ (x4.map bv ++ (x5.map bv ++ ([v6] ++ ([Value.bool true] ++ ([Value.int .i64 x8] ++ [v8])))))))) ⟨x1, x2, x3, x4, x5, x6, true, ⟨x8, ks⟩⟩ := ⟨v6, v8, rfl, r1, r4, r5, r2, r3, r6.le (rdB_le fun b h => by simp [h]), LstR.le (rep := repDG) monoDG (rdB_le fun b h => by simp [h]) r8⟩
    exact Sy.retT0 rfl (CRS gc gr gx tx (A ++ ((x1.map bv ++ ([Value.int .u64 (x2 : Int)] ++ ([Value.int .u64 (x3 : Int)] ++ (x4.map bv ++ (x5.map bv ++ ([v6] ++ ([Value.bool true] ++ ([Value.int .i64 x8] ++ [v8])))))))) ++ Z)) sl8 s8.e (R ++ (N1 ++ (N2 ++ (N3 ++ (N4 ++ (N5 ++ (N6 ++ (N7 ++ N8))))))))) (fun _ h => by simpa only [List.append_assoc, List.cons_append, List.nil_append] using h) (fun _ => ⟨_, s8, sl8, _, _, hAf, hLn, hOn, hRp, e8, Nat.le_trans h8 g7, y8, rfl⟩)
  refine sU ?_
  refine Sy.region ?_
  refine sp rfl <| sp rfl <| sp rfl <| sP (.pointer (some ⟨gx, f + 100, none⟩)) <| sP (.pointer (some ⟨gx, f + 100, none⟩)) <| sS (.int .i64 0) (Quiet.cell 1 gx (f + 100) tx 3 (A ++ (x1.map bv) ++ [Value.int .u64 (x2 : Int)] ++ [Value.int .u64 (x3 : Int)] ++ (x4.map bv) ++ (x5.map bv) ++ [v6] ++ ([Value.bool false] ++ (([Value.int .i64 0] ++ [Value.slice none 0 0]) ++ Z))).toArray _ _ rfl kR rfl Tryz.underlying3 rfl _ (by rw [List.getElem?_toArray, List.getElem?_append_right (by omega), A6, show f + 100 - (f + 99) = 1 by omega]; rfl)) <| sP (.bool true) <| sp rfl ?_
  refine sp rfl <| sp rfl <| sP (.pointer (some ⟨gx, f + 100, none⟩)) <| sP (.pointer (some ⟨gx, f + 101, none⟩)) <| sS (.slice none 0 0) (Quiet.cell 1 gx (f + 101) tx 38 (A ++ (x1.map bv) ++ [Value.int .u64 (x2 : Int)] ++ [Value.int .u64 (x3 : Int)] ++ (x4.map bv) ++ (x5.map bv) ++ [v6] ++ ([Value.bool false] ++ (([Value.int .i64 0] ++ [Value.slice none 0 0]) ++ Z))).toArray _ _ rfl kR rfl Tryz.underlying38 rfl _ (by rw [List.getElem?_toArray, List.getElem?_append_right (by omega), A6, show f + 101 - (f + 99) = 2 by omega]; rfl)) <| sP (.int .i64 0) <| sP (.bool true) <| sP (.bool true) ?_
  refine Sy.permS (M := CRN gc gr sl7 s7.e ((gx, tx, (A ++ (x1.map bv) ++ [Value.int .u64 (x2 : Int)] ++ [Value.int .u64 (x3 : Int)] ++ (x4.map bv) ++ (x5.map bv) ++ [v6] ++ ([Value.bool false] ++ (([Value.int .i64 0] ++ [Value.slice none 0 0]) ++ Z))).toArray) :: (R ++ N1 ++ N2 ++ N3 ++ N4 ++ N5 ++ N6 ++ N7))) swap23 ?_
  refine Sy.callT (fun w hw => must_r w0.inn gc gr sl7 s7.e e7 ((gx, tx, (A ++ (x1.map bv) ++ [Value.int .u64 (x2 : Int)] ++ [Value.int .u64 (x3 : Int)] ++ (x4.map bv) ++ (x5.map bv) ++ [v6] ++ ([Value.bool false] ++ (([Value.int .i64 0] ++ [Value.slice none 0 0]) ++ Z))).toArray) :: (R ++ N1 ++ N2 ++ N3 ++ N4 ++ N5 ++ N6 ++ N7)) true w hw) (fun u M hM => ?_)
  subst hM
  rw [if_pos rfl]
  refine Sy.permS (M := CRS gc gr gx tx (A ++ (x1.map bv) ++ [Value.int .u64 (x2 : Int)] ++ [Value.int .u64 (x3 : Int)] ++ (x4.map bv) ++ (x5.map bv) ++ [v6] ++ ([Value.bool false] ++ (([Value.int .i64 0] ++ [Value.slice none 0 0]) ++ Z))) sl7 s7.e (R ++ N1 ++ N2 ++ N3 ++ N4 ++ N5 ++ N6 ++ N7)) swap23 ?_
  refine Sy.nil ?_
  · have hAf : After rdHE s ⟨x1, x2, x3, x4, x5, x6, false, ⟨0, []⟩⟩ s7 := a1.bind (a2.bind (a3.bind (a4.bind (a5.bind (a6.bind (a7.bind (After.bind (by rw [if_neg (by decide)]; exact After.ret _ _) (After.ret _ _))))))))
    have hLn : (x1.map bv ++ ([Value.int .u64 (x2 : Int)] ++ ([Value.int .u64 (x3 : Int)] ++ (x4.map bv ++ (x5.map bv ++ ([v6] ++ ([Value.bool false] ++ ([Value.int .i64 0] ++ [Value.slice none 0 0])))))))).length = 102 := (by simp only [List.length_append, n1, n4, n5]; rfl)
    have hOn : ∀ u ∈ (x1.map bv ++ ([Value.int .u64 (x2 : Int)] ++ ([Value.int .u64 (x3 : Int)] ++ (x4.map bv ++ (x5.map bv ++ ([v6] ++ ([Value.bool false] ++ ([Value.int .i64 0] ++ [Value.slice none 0 0])))))))), u.oneCell' = true := ones_app o1 (ones_app o2 (ones_app o3 (ones_app o4 (ones_app o5 (ones_app o6 (ones_app o7 (onePA (C := rdB []) (t := ⟨0, []⟩) ⟨_, rfl, none, 0, 0, rfl, rfl, Nat.le_refl _, Nat.zero_le _, fun h => (h rfl).elim⟩)))))))
    have hRp : repHE (rdB (N1 ++ (N2 ++ (N3 ++ (N4 ++ (N5 ++ (N6 ++ N7))))))) (x1.map bv ++ ([Value.int .u64 (x2 : Int)] ++ ([Value.int .u64 (x3 : Int)] ++ (x4.map bv ++ (x5.map bv ++ ([v6] ++ ([Value.bool false] ++ ([Value.int .i64 0] ++ [Value.slice none 0 0])))))))) ⟨x1, x2, x3, x4, x5, x6, false, ⟨0, []⟩⟩ := ⟨v6, Value.slice none 0 0, rfl, r1, r4, r5, r2, r3, r6.le (rdB_le fun b h => by simp [h]), ⟨none, 0, 0, rfl, rfl, Nat.le_refl _, Nat.zero_le _, fun h => (h rfl).elim⟩⟩
    exact Sy.retT0 rfl (CRS gc gr gx tx (A ++ ((x1.map bv ++ ([Value.int .u64 (x2 : Int)] ++ ([Value.int .u64 (x3 : Int)] ++ (x4.map bv ++ (x5.map bv ++ ([v6] ++ ([Value.bool false] ++ ([Value.int .i64 0] ++ [Value.slice none 0 0])))))))) ++ Z)) sl7 s7.e (R ++ (N1 ++ (N2 ++ (N3 ++ (N4 ++ (N5 ++ (N6 ++ N7)))))))) (fun _ h => by simpa only [List.append_assoc, List.cons_append, List.nil_append] using h) (fun _ => ⟨_, s7, sl7, _, _, hAf, hLn, hOn, hRp, e7, g7, y7, rfl⟩)
theorem oneHE {C : Rdr} {cs : List Value} {t : MHe} (h : repHE C cs t) : ∀ u ∈ cs, u.oneCell' = true := by
  obtain ⟨vr, vk, rfl, _, _, _, _, _, h1, h2⟩ := h
  exact ones_app (ones_bV _) (ones_app (fun u hu => by rw [List.mem_singleton.1 hu]; rfl) (ones_app (fun u hu => by rw [List.mem_singleton.1 hu]; rfl) (ones_app (ones_bV _) (ones_app (ones_bV _) (ones_app (fun u hu => by rw [List.mem_singleton.1 hu]; exact h1.cells.2) (ones_app (fun u hu => by rw [List.mem_singleton.1 hu]; rfl) (ones_app (fun u hu => by rw [List.mem_singleton.1 hu]; rfl) (fun u hu => by rw [List.mem_singleton.1 hu]; exact h2.cells.2))))))))

theorem write_hdr {α : Type} {rep : Rdr → List Value → α → Prop} {ok : α → Bool} {enc : α → Byt} {wt : α → Nat} (hm : Mono rep) (hp : PutO 55 102 rep ok enc wt) (w : World) (cs : List Value) (x : α) (hx : rep (rdW w) cs x) (hl : cs.length = 102) (hwt : wt x ≤ 70368744170000) :
    Calls Tryz.prog 54 #[.agg cs.toArray, .func (.func 55) #[] #[]] w (GetsN w (BytE (ok x) (enc x))) := by
  refine Sy.enter (args := [.agg cs.toArray, .func (.func 55) #[] #[]]) Tryz.func54 rfl kL ?_
  refine sC ?_
  refine sM 42 cs.toArray (fun gx => ?_) kR (fun w => run_boxR rfl rfl (by kernel_rfl) hl w)
  refine sP (.slice none 0 0) <| sP (.int .i64 0) ?_
  refine sA ?_
  refine Sy.callN kR 89 #[] kF _ (fun w _ => new_any w) (fun v M hM => ?_)
  obtain ⟨gw, rfl, rfl⟩ := hM
  refine sP (.agg #[ptr gw, .pointer none, .bool false]) <| sM 155 #[ptr gw, .pointer none, .bool false] (fun gc => ?_)
  refine sp rfl ?_
  refine sA ?_
  refine Sy.permS (M := CWS gc gw false nilS [(gx, 42, cs.toArray)]) (Sy.perm_at [2,1,0] (by kernel_rfl) (by rfl)) ?_
  refine sp rfl <| sp rfl ?_
  refine Sy.callT (fun w' hw => hp (Base.of w) gc gw gx 0 false nilS [(gx, 42, cs.toArray)] [] cs x (hm rdW_base hx) hl (ownX (List.mem_singleton.2 rfl)) BS.nil (by show 0 + _ ≤ _; omega) w' hw) (fun v M hM => ?_)
  obtain ⟨s, bad, b, q1, q2, rfl⟩ := hM
  have hbl : b.length ≤ wt x := by have := q1.len; simpa using this
  refine sG ?_
  refine Sy.seq ?_
  refine sC ?_
  refine sp rfl <| sp rfl <| sP (.pointer (some ⟨gc, 2, none⟩)) <| sS (.bool bad) (qc 0 2 rfl rfl Tryz.underlying4) ?_
  refine sG ?_
  cases bad
  · have hok : ok x = true := by
      have e := q1.bad
      cases h : ok x with
      | true => rfl
      | false => rw [h] at e; cases e
    obtain rfl : b = enc x := by have := q1.bytes rfl; simpa using this
    refine sU ?_
    refine Sy.skip ?_
    refine sB ?_
    refine sp rfl <| sp rfl <| sP (.pointer (some ⟨gc, 0, none⟩)) <| sS (ptr gw) (qc 0 0 rfl rfl Tryz.underlying151) ?_
    refine Sy.callT (fun w' hw => bytes_any (Base.of w) gw s ((gc, 155, #[ptr gw, .pointer none, .bool false]) :: [(gx, 42, cs.toArray)]) (enc x) q2 (by omega) w' (hw.perm permCW)) (fun v M hM => ?_)
    obtain ⟨N, hN, rfl⟩ := hM
    refine sp rfl <| sP (.int .i64 0) ?_
    refine sG ?_
    refine Sy.ret ?_
    exact Sy.retGM2 N rfl (.inl (show _ = _ by kernel_rfl)) (.inl (show _ = _ by kernel_rfl)) (fun _ h => h.less (List.sublist_append_right _ _)) (.inl ⟨hok, v, rfl, hN⟩)
  · have hok : ok x = false := by
      have e := q1.bad
      cases h : ok x with
      | false => rfl
      | true => rw [h] at e; cases e
    refine sT ?_
    refine sC ?_
    refine sP (.slice none 0 0) <| sP (.int .i64 120) ?_
    refine sG ?_
    refine Sy.ret ?_
    refine Sy.then_ret ?_
    exact Sy.retGM2 [] rfl (.inl (show _ = _ by kernel_rfl)) (.inl (show _ = _ by kernel_rfl)) (fun _ h => h.none) (.inr ⟨hok, rfl, rfl⟩)

theorem ex_hdr {α : Type} {rep : Rdr → List Value → α → Prop} {ok : α → Bool} {enc : α → Byt} {wt : α → Nat} (hm : Mono rep) (hp : PutO 55 102 rep ok enc wt) (w : World) (cs : List Value) (x : α) (hx : rep (rdW w) cs x) (hl : cs.length = 102) (hwt : wt x ≤ 70368744170000) :
    Calls Tryz.prog 18 #[.agg cs.toArray] w (GetsN w (BytE (ok x) (enc x))) := by
  refine Sy.enter (args := [.agg cs.toArray]) Tryz.func18 rfl kL ?_
  refine sC ?_
  refine sM 42 cs.toArray (fun gx => ?_) kR (fun w => run_boxR rfl rfl (by kernel_rfl) hl w)
  refine sP (.slice none 0 0) <| sP (.int .i64 0) ?_
  refine sA ?_
  refine sS (.agg cs.toArray) (rowC (R := [(gx, 42, cs.toArray)]) (memX (List.mem_singleton.2 rfl)) (fun _ h => h) hl rfl Tryz.underlying42) ?_
  refine Sy.callN kR 54 #[.agg cs.toArray, .func (.func 55) #[] #[]] kF (BytE (ok x) (enc x)) (fun w' hw => write_hdr (rep := rep) hm hp w' cs x (hm (fun g o u h => rdC_world (R := []) hw (fun _ h => by cases h) g o u (.inl h)) hx) hl hwt) (fun v M hM => ?_)
  have hv : ∃ a e : Value, v = .tuple #[a, e] := by
    rcases hM with ⟨_, u, rfl, _⟩ | ⟨_, rfl, _⟩ <;> exact ⟨_, _, rfl⟩
  obtain ⟨a, e, rfl⟩ := hv
  refine sp rfl <| sp rfl <| sp rfl <| sp rfl ?_
  refine sG ?_
  refine Sy.ret ?_
  exact Sy.retGM2 M rfl (.inl (show _ = _ by kernel_rfl)) (.inl (show _ = _ by kernel_rfl)) (fun _ h => h.less (List.sublist_append_right _ _)) hM

theorem read_hdr {α : Type} {rep : Rdr → List Value → α → Prop} {p : Ps α} (hm : Mono rep) (hp : GetC 55 102 (Z32 ++ ([Value.int .u64 0] ++ ([Value.int .u64 0] ++ (Z32 ++ (Z32 ++ ([Value.slice none 0 0] ++ ([Value.bool false] ++ ([Value.int .i64 0] ++ [Value.slice none 0 0])))))))) rep p) (w : World) (v : Value) (b : Byt) (hv : BytR (rdW w) v b) (hl : b.length ≤ 70368744177664) :
    Calls Tryz.prog 57 #[v, .func (.func 55) #[] #[]] w (GetsN w (RdE 102 (Z32 ++ ([Value.int .u64 0] ++ ([Value.int .u64 0] ++ (Z32 ++ (Z32 ++ ([Value.slice none 0 0] ++ ([Value.bool false] ++ ([Value.int .i64 0] ++ [Value.slice none 0 0])))))))) rep (allP p b))) := by
  refine Sy.enter (args := [v, .func (.func 55) #[] #[]]) Tryz.func57 rfl kL ?_
  refine sC ?_
  refine sM 42 (Z32 ++ ([Value.int .u64 0] ++ ([Value.int .u64 0] ++ (Z32 ++ (Z32 ++ ([Value.slice none 0 0] ++ ([Value.bool false] ++ ([Value.int .i64 0] ++ [Value.slice none 0 0])))))))).toArray (fun g4 => ?_)
  refine sP (.int .i64 0) ?_
  refine sA ?_
  refine sM 42 (Z32 ++ ([Value.int .u64 0] ++ ([Value.int .u64 0] ++ (Z32 ++ (Z32 ++ ([Value.slice none 0 0] ++ ([Value.bool false] ++ ([Value.int .i64 0] ++ [Value.slice none 0 0])))))))).toArray (fun g6 => ?_)
  refine sM 42 (Z32 ++ ([Value.int .u64 0] ++ ([Value.int .u64 0] ++ (Z32 ++ (Z32 ++ ([Value.slice none 0 0] ++ ([Value.bool false] ++ ([Value.int .i64 0] ++ [Value.slice none 0 0])))))))).toArray (fun g7 => ?_)
  refine sA ?_
  refine sp rfl ?_
  refine Sy.callN kR 98 #[v] kF _ (fun w' hw => read_any w' v b (hv.at hw) hl) (fun u M hM => ?_)
  obtain ⟨gr, sl, N0, hN0, rfl, rfl⟩ := hM
  refine sP (.agg #[.pointer none, ptr gr, .bool false]) <| sM 155 #[.pointer none, ptr gr, .bool false] (fun gc => ?_)
  refine Sy.permS (M := CRS gc gr g6 42 ([] ++ ((Z32 ++ ([Value.int .u64 0] ++ ([Value.int .u64 0] ++ (Z32 ++ (Z32 ++ ([Value.slice none 0 0] ++ ([Value.bool false] ++ ([Value.int .i64 0] ++ [Value.slice none 0 0])))))))) ++ [])) sl 0 ((g4, 42, (Z32 ++ ([Value.int .u64 0] ++ ([Value.int .u64 0] ++ (Z32 ++ (Z32 ++ ([Value.slice none 0 0] ++ ([Value.bool false] ++ ([Value.int .i64 0] ++ [Value.slice none 0 0])))))))).toArray) :: (g7, 42, (Z32 ++ ([Value.int .u64 0] ++ ([Value.int .u64 0] ++ (Z32 ++ (Z32 ++ ([Value.slice none 0 0] ++ ([Value.bool false] ++ ([Value.int .i64 0] ++ [Value.slice none 0 0])))))))).toArray) :: N0)) (Sy.flat_perm (ls := [[(g4, 42, (Z32 ++ ([Value.int .u64 0] ++ ([Value.int .u64 0] ++ (Z32 ++ (Z32 ++ ([Value.slice none 0 0] ++ ([Value.bool false] ++ ([Value.int .i64 0] ++ [Value.slice none 0 0])))))))).toArray)], [(g6, 42, (Z32 ++ ([Value.int .u64 0] ++ ([Value.int .u64 0] ++ (Z32 ++ (Z32 ++ ([Value.slice none 0 0] ++ ([Value.bool false] ++ ([Value.int .i64 0] ++ [Value.slice none 0 0])))))))).toArray)], [(g7, 42, (Z32 ++ ([Value.int .u64 0] ++ ([Value.int .u64 0] ++ (Z32 ++ (Z32 ++ ([Value.slice none 0 0] ++ ([Value.bool false] ++ ([Value.int .i64 0] ++ [Value.slice none 0 0])))))))).toArray)], [(gr, 275, #[sl, .int .i64 0])], N0, [(gc, 155, #[.pointer none, ptr gr, .bool false])]]) (ms := [[(gc, 155, #[.pointer none, ptr gr, .bool false])], [(g6, 42, (Z32 ++ ([Value.int .u64 0] ++ ([Value.int .u64 0] ++ (Z32 ++ (Z32 ++ ([Value.slice none 0 0] ++ ([Value.bool false] ++ ([Value.int .i64 0] ++ [Value.slice none 0 0])))))))).toArray)], [(gr, 275, #[sl, .int .i64 0])], [(g4, 42, (Z32 ++ ([Value.int .u64 0] ++ ([Value.int .u64 0] ++ (Z32 ++ (Z32 ++ ([Value.slice none 0 0] ++ ([Value.bool false] ++ ([Value.int .i64 0] ++ [Value.slice none 0 0])))))))).toArray)], [(g7, 42, (Z32 ++ ([Value.int .u64 0] ++ ([Value.int .u64 0] ++ (Z32 ++ (Z32 ++ ([Value.slice none 0 0] ++ ([Value.bool false] ++ ([Value.int .i64 0] ++ [Value.slice none 0 0])))))))).toArray)], N0]) [5, 1, 3, 0, 2, 4] (by kernel_rfl) (by rfl) (by simp) (by simp)) ?_
  refine sp rfl ?_
  refine sA ?_
  refine sp rfl <| sp rfl ?_
  refine Sy.callT (fun w' hw => hp (Base.of w) gc gr g6 0 42 [] [] sl ⟨b, 0⟩ ((g4, 42, (Z32 ++ ([Value.int .u64 0] ++ ([Value.int .u64 0] ++ (Z32 ++ (Z32 ++ ([Value.slice none 0 0] ++ ([Value.bool false] ++ ([Value.int .i64 0] ++ [Value.slice none 0 0])))))))).toArray) :: (g7, 42, (Z32 ++ ([Value.int .u64 0] ++ ([Value.int .u64 0] ++ (Z32 ++ (Z32 ++ ([Value.slice none 0 0] ++ ([Value.bool false] ++ ([Value.int .i64 0] ++ [Value.slice none 0 0])))))))).toArray) :: N0) N0 (fun x h => List.mem_cons_of_mem _ (List.mem_cons_of_mem _ h)) rfl (Nat.zero_le _) hl (hN0.byt.le rdB_base) w' hw) (fun u M hM => ?_)
  obtain ⟨x, s', sl', cs, N, q1, q2, q3, q4, q5, q6, q7, rfl⟩ := hM
  rw [List.append_nil]
  obtain ⟨o1, o2⟩ := all_of q1
  obtain ⟨e, hE⟩ : ∃ e, e = if s'.e = 0 ∧ 0 < s'.rest.length then 113 else s'.e := ⟨_, rfl⟩
  have hEl : e ≤ 200 := by rw [hE]; split <;> omega
  refine sG ?_
  refine Sy.seq ?_
  refine sC ?_
  obtain ⟨b1, hb1⟩ : ∃ z : Bool, z = decide (e ≠ 0) := ⟨_, rfl⟩
  refine sp rfl <| sp rfl <| sP (.pointer (some ⟨gc, 1, none⟩)) <| sS (ptr gr) (qc 0 1 rfl rfl Tryz.underlying153) <| sS (.int .i64 (e : Int)) (qg (fun w' hw => by rw [hE]; exact end_any (Base.of w) gr sl' s' N0 q5 q7 (List.mem_cons_of_mem _ (List.mem_cons_of_mem _ (List.mem_cons_self ..))) w' hw)) <| sS (.bool b1) (Quiet.pure (exec_int .neq _ _ _ .i64 _ _ _ rfl rfl rfl (int_neq _ _ _ _ _ (by rw [hb1]; exact decide_eq_decide.2 (by omega))))) ?_
  refine sG ?_
  cases b1
  · have l1 : e = 0 := Decidable.of_not_not (of_decide_eq_false hb1.symm)
    have l2 : s'.e = 0 ∧ s'.rest = [] := by
      by_cases h : s'.e = 0 ∧ 0 < s'.rest.length
      · rw [if_pos h] at hE; omega
      · rw [if_neg h] at hE
        exact ⟨by omega, List.eq_nil_of_length_eq_zero (by omega)⟩
    refine sU ?_
    refine Sy.skip ?_
    refine sB ?_
    refine sS (.agg cs.toArray) (Quiet.mid 1 g6 0 102 42 42 cs cs _ _ rfl kR rfl Tryz.underlying42 rfl kR (by rw [List.drop_zero, List.take_of_length_le (by omega)]) (by omega)) <| sw 3 rfl cs.toArray (Writes.row 42 cs 102 _ _ rfl kR kR kR q2 (by kernel_rfl) q3) <| sP (.int .i64 0) ?_
    refine sG ?_
    refine Sy.ret ?_
    exact Sy.retGM2 N rfl (.inl (Sy.Res.cell (ty' := 42) g4 3 cs.toArray _ (by kernel_rfl) rfl Tryz.underlying42 rfl (by rw [List.size_toArray, q2]; kernel_rfl) rfl)) (.inl (show _ = _ by kernel_rfl)) (fun _ h => h.less (List.sublist_append_right [(gc, 155, #[.pointer none, ptr gr, .bool false]), (g6, 42, cs.toArray), (gr, 275, #[sl', .int .i64 (s'.e : Int)]), (g4, 42, cs.toArray), (g7, 42, (Z32 ++ ([Value.int .u64 0] ++ ([Value.int .u64 0] ++ (Z32 ++ (Z32 ++ ([Value.slice none 0 0] ++ ([Value.bool false] ++ ([Value.int .i64 0] ++ [Value.slice none 0 0])))))))).toArray)] (N0 ++ N) |> fun h1 => (List.sublist_append_right N0 N).trans h1)) (.inl ⟨x, cs, o1 l2.1 l2.2, rfl, q2, q4⟩)
  · have l1 : e ≠ 0 := of_decide_eq_true hb1.symm
    have l2 : s'.e ≠ 0 ∨ s'.rest ≠ [] := by
      by_cases h : s'.e = 0 ∧ 0 < s'.rest.length
      · exact .inr (fun e => by rw [e] at h; exact absurd h.2 (by decide))
      · rw [if_neg h] at hE; exact .inl (by omega)
    refine sT ?_
    refine sC ?_
    refine sS (.agg (Z32 ++ ([Value.int .u64 0] ++ ([Value.int .u64 0] ++ (Z32 ++ (Z32 ++ ([Value.slice none 0 0] ++ ([Value.bool false] ++ ([Value.int .i64 0] ++ [Value.slice none 0 0])))))))).toArray) (qk 4 0 102 rfl rfl Tryz.underlying42) <| sw 3 rfl (Z32 ++ ([Value.int .u64 0] ++ ([Value.int .u64 0] ++ (Z32 ++ (Z32 ++ ([Value.slice none 0 0] ++ ([Value.bool false] ++ ([Value.int .i64 0] ++ [Value.slice none 0 0])))))))).toArray (wA rfl) <| sP (.int .i64 120) ?_
    refine sG ?_
    refine Sy.ret ?_
    refine Sy.then_ret ?_
    exact Sy.retGM2 [] rfl (.inl (Sy.Res.cell (ty' := 42) g4 3 (Z32 ++ ([Value.int .u64 0] ++ ([Value.int .u64 0] ++ (Z32 ++ (Z32 ++ ([Value.slice none 0 0] ++ ([Value.bool false] ++ ([Value.int .i64 0] ++ [Value.slice none 0 0])))))))).toArray _ (by kernel_rfl) rfl Tryz.underlying42 rfl (by kernel_rfl) rfl)) (.inl (show _ = _ by kernel_rfl)) (fun _ h => h.none) (.inr ⟨o2 l2, rfl, rfl⟩)
theorem rdx_hdr {α : Type} {rep : Rdr → List Value → α → Prop} {p : Ps α} (hm : Mono rep) (hone : ∀ {C : Rdr} {cs : List Value} {x : α}, rep C cs x → ∀ u ∈ cs, u.oneCell' = true) (hp : GetC 55 102 (Z32 ++ ([Value.int .u64 0] ++ ([Value.int .u64 0] ++ (Z32 ++ (Z32 ++ ([Value.slice none 0 0] ++ ([Value.bool false] ++ ([Value.int .i64 0] ++ [Value.slice none 0 0])))))))) rep p) (w : World) (v : Value) (b : Byt) (hv : BytR (rdW w) v b) (hl : b.length ≤ 70368744177664) :
    Calls Tryz.prog 20 #[v] w (GetsN w (RdE 102 (Z32 ++ ([Value.int .u64 0] ++ ([Value.int .u64 0] ++ (Z32 ++ (Z32 ++ ([Value.slice none 0 0] ++ ([Value.bool false] ++ ([Value.int .i64 0] ++ [Value.slice none 0 0])))))))) rep (allP p b))) := by
  refine Sy.enter (args := [v]) Tryz.func20 rfl kL ?_
  refine sC ?_
  refine sM 42 (Z32 ++ ([Value.int .u64 0] ++ ([Value.int .u64 0] ++ (Z32 ++ (Z32 ++ ([Value.slice none 0 0] ++ ([Value.bool false] ++ ([Value.int .i64 0] ++ [Value.slice none 0 0])))))))).toArray (fun g2 => ?_)
  refine sP (.int .i64 0) ?_
  refine sA ?_
  refine sp rfl ?_
  refine Sy.callN kR 57 #[v, .func (.func 55) #[] #[]] kF _ (fun w' hw => read_hdr (rep := rep) (p := p) hm hp w' v b (hv.at hw) hl) (fun u M hM => ?_)
  rcases hM with ⟨x, cs, o1, rfl, q2, q4⟩ | ⟨o1, rfl, rfl⟩
  · have q3 : ∀ u ∈ cs, u.oneCell' = true := hone q4
    refine sp rfl <| sp rfl <| sw 0 rfl cs.toArray (Writes.row 42 cs 102 _ _ rfl kR kR kR q2 (by kernel_rfl) q3) <| sp rfl ?_
    refine sG ?_
    refine Sy.ret ?_
    exact Sy.retGM2 M rfl (.inl (Sy.Res.cell (ty' := 42) g2 0 cs.toArray _ (by kernel_rfl) rfl Tryz.underlying42 rfl (by rw [List.size_toArray, q2]; kernel_rfl) rfl)) (.inl (show _ = _ by kernel_rfl)) (fun _ h => h.less (List.sublist_cons_self _ _)) (.inl ⟨x, cs, o1, rfl, q2, q4⟩)
  · refine sp rfl <| sp rfl <| sw 0 rfl (Z32 ++ ([Value.int .u64 0] ++ ([Value.int .u64 0] ++ (Z32 ++ (Z32 ++ ([Value.slice none 0 0] ++ ([Value.bool false] ++ ([Value.int .i64 0] ++ [Value.slice none 0 0])))))))).toArray (wA rfl) <| sp rfl ?_
    refine sG ?_
    refine Sy.ret ?_
    exact Sy.retGM2 [] rfl (.inl (Sy.Res.cell (ty' := 42) g2 0 (Z32 ++ ([Value.int .u64 0] ++ ([Value.int .u64 0] ++ (Z32 ++ (Z32 ++ ([Value.slice none 0 0] ++ ([Value.bool false] ++ ([Value.int .i64 0] ++ [Value.slice none 0 0])))))))).toArray _ (by kernel_rfl) rfl Tryz.underlying42 rfl (by kernel_rfl) rfl)) (.inl (show _ = _ by kernel_rfl)) (fun _ h => h.none) (.inr ⟨o1, rfl, rfl⟩)
end Go.Proofs.YtgemfpnlnipfnaaGreat.Wr

end
section
namespace Go.Proofs.YtgemfpnlnipfnaaGreat.Wr
open Go.RowKit Go.Proofs.YtgemfpnlnipfnaaGreat Go.Proofs.YtgemfpnlnipfnaaGreat.Sy
set_option maxRecDepth 100000
set_option maxHeartbeats 4000000

theorem sml_tru : bindP (smlP 0 1) (fun z => retP (decide (z = 1))) = truP := by
  funext l
  cases h : numP 1 l with
  | none =>
    have h1 : smlP 0 1 l = none := by unfold smlP; exact bind_none h
    have h2 : octP l = none := by unfold octP; exact bind_none h
    unfold truP
    rw [bind_none h1, bind_none h2]
  | some u =>
    obtain ⟨n, r⟩ := u
    have h2 : octP l = some ((n : Int), r) := by unfold octP; rw [bind_some h]; rfl
    unfold truP
    rw [bind_some h2]
    by_cases hn : n ≤ 1
    · have h1 : smlP 0 1 l = some ((n : Int), r) := by
        unfold smlP
        rw [bind_some h, decide_eq_true (show 0 ≤ n ∧ n ≤ 1 by omega)]
        rfl
      rw [bind_some h1, decide_eq_true (show (n : Int) ≤ 1 by omega)]
      rfl
    · have h1 : smlP 0 1 l = none := by
        unfold smlP
        rw [bind_some h, decide_eq_false (show ¬ (0 ≤ n ∧ n ≤ 1) by omega)]
        rfl
      rw [bind_none h1, decide_eq_false (show ¬ (n : Int) ≤ 1 by omega)]
      rfl
theorem hedM_any (w0 : Base) (gr : Nat) (sl : Value) (b : Byt) (at_ e : Nat) (R : Blocks) (hat : at_ ≤ b.length) (he : e ≤ 200) (hl : b.length ≤ 70368744177664) (hv : BytR (rdW w0.world) sl b) (w : World) (hw : St w0 w (RB gr sl at_ e R)) :
    Calls Tryz.prog 58 #[ptr gr] w (Turns w0 (Rfd rdHE (rowV 102 repHE) gr sl b R at_ e)) := by
  have L0 : ([] : List Value).length = 0 := rfl
  refine Sy.enterT (args := [ptr gr]) hw Tryz.func58 rfl kL ?_
  refine sC ?_
  refine sM 42 ((([] : List Value)) ++ (Z32 ++ ([Value.int .u64 0] ++ ([Value.int .u64 0] ++ (Z32 ++ (Z32 ++ ([Value.slice none 0 0] ++ ([Value.bool false] ++ (([Value.int .i64 0] ++ [Value.slice none 0 0]) ++ (([] : List Value))))))))))).toArray (fun g2 => ?_)
  refine Sy.movT (pre := [(gr, 186, rrC sl at_ e)]) (T := R) ?_
  refine sA ?_
  refine sM 42 ((([] : List Value)) ++ (Z32 ++ ([Value.int .u64 0] ++ ([Value.int .u64 0] ++ (Z32 ++ (Z32 ++ ([Value.slice none 0 0] ++ ([Value.bool false] ++ (([Value.int .i64 0] ++ [Value.slice none 0 0]) ++ (([] : List Value))))))))))).toArray (fun g3 => ?_)
  refine Sy.movT (pre := [(gr, 186, rrC sl at_ e), (g2, 42, ((([] : List Value)) ++ (Z32 ++ ([Value.int .u64 0] ++ ([Value.int .u64 0] ++ (Z32 ++ (Z32 ++ ([Value.slice none 0 0] ++ ([Value.bool false] ++ (([Value.int .i64 0] ++ [Value.slice none 0 0]) ++ (([] : List Value))))))))))).toArray)]) (T := R) ?_
  refine sA ?_
  refine sp rfl ?_
  refine Sy.callT (fun w hw => digM_any w0.inn gr sl b at_ e ((g2, 42, ((([] : List Value)) ++ (Z32 ++ ([Value.int .u64 0] ++ ([Value.int .u64 0] ++ (Z32 ++ (Z32 ++ ([Value.slice none 0 0] ++ ([Value.bool false] ++ (([Value.int .i64 0] ++ [Value.slice none 0 0]) ++ (([] : List Value))))))))))).toArray) :: (g3, 42, ((([] : List Value)) ++ (Z32 ++ ([Value.int .u64 0] ++ ([Value.int .u64 0] ++ (Z32 ++ (Z32 ++ ([Value.slice none 0 0] ++ ([Value.bool false] ++ (([Value.int .i64 0] ++ [Value.slice none 0 0]) ++ (([] : List Value))))))))))).toArray) :: R) hat he hl hv w hw) (fun u M hM => ?_)
  obtain ⟨x1, a1, e1, N1, p1, ⟨rfl, r1, rfl⟩, u1, v1_, rfl⟩ := hM
  rw [List.append_nil ((g2, 42, ((([] : List Value)) ++ (Z32 ++ ([Value.int .u64 0] ++ ([Value.int .u64 0] ++ (Z32 ++ (Z32 ++ ([Value.slice none 0 0] ++ ([Value.bool false] ++ (([Value.int .i64 0] ++ [Value.slice none 0 0]) ++ (([] : List Value))))))))))).toArray) :: (g3, 42, ((([] : List Value)) ++ (Z32 ++ ([Value.int .u64 0] ++ ([Value.int .u64 0] ++ (Z32 ++ (Z32 ++ ([Value.slice none 0 0] ++ ([Value.bool false] ++ (([Value.int .i64 0] ++ [Value.slice none 0 0]) ++ (([] : List Value))))))))))).toArray) :: R)]
  have n1 : (x1.map bv).length = 32 := by rw [List.length_map, r1]
  refine sP (.pointer (some ⟨g3, 0, none⟩)) <| sw 2 rfl ((([] : List Value) ++ (x1.map bv)) ++ ([Value.int .u64 0] ++ ([Value.int .u64 0] ++ (Z32 ++ (Z32 ++ ([Value.slice none 0 0] ++ ([Value.bool false] ++ (([Value.int .i64 0] ++ [Value.slice none 0 0]) ++ (([] : List Value)))))))))).toArray (by rw [show ((([] : List Value) ++ (x1.map bv)) ++ ([Value.int .u64 0] ++ ([Value.int .u64 0] ++ (Z32 ++ (Z32 ++ ([Value.slice none 0 0] ++ ([Value.bool false] ++ (([Value.int .i64 0] ++ [Value.slice none 0 0]) ++ (([] : List Value)))))))))) = (([] : List Value)) ++ (x1.map bv ++ ([Value.int .u64 0] ++ ([Value.int .u64 0] ++ (Z32 ++ (Z32 ++ ([Value.slice none 0 0] ++ ([Value.bool false] ++ (([Value.int .i64 0] ++ [Value.slice none 0 0]) ++ (([] : List Value)))))))))) from List.append_assoc ..]; exact wM 37 (([] : List Value)) Z32 (x1.map bv) ([Value.int .u64 0] ++ ([Value.int .u64 0] ++ (Z32 ++ (Z32 ++ ([Value.slice none 0 0] ++ ([Value.bool false] ++ (([Value.int .i64 0] ++ [Value.slice none 0 0]) ++ (([] : List Value))))))))) 32 0 _ _ rfl kR kR kR L0 Z32_len n1 (ones_bV x1)) ?_
  have L1 : (([] : List Value) ++ (x1.map bv)).length = 32 := by rw [List.length_append, L0, n1]
  refine sA ?_
  refine sp rfl ?_
  refine Sy.callT (fun w hw => numM_any w0.inn gr sl b a1 e1 8 ((g2, 42, ((([] : List Value)) ++ (Z32 ++ ([Value.int .u64 0] ++ ([Value.int .u64 0] ++ (Z32 ++ (Z32 ++ ([Value.slice none 0 0] ++ ([Value.bool false] ++ (([Value.int .i64 0] ++ [Value.slice none 0 0]) ++ (([] : List Value))))))))))).toArray) :: (g3, 42, ((([] : List Value) ++ (x1.map bv)) ++ ([Value.int .u64 0] ++ ([Value.int .u64 0] ++ (Z32 ++ (Z32 ++ ([Value.slice none 0 0] ++ ([Value.bool false] ++ (([Value.int .i64 0] ++ [Value.slice none 0 0]) ++ (([] : List Value)))))))))).toArray) :: R) u1 v1_ (by decide) hl hv w hw) (fun u M hM => ?_)
  obtain ⟨x2, a2, e2, N2, p2, ⟨rfl, r2, rfl⟩, u2, v2_, rfl⟩ := hM
  rw [List.append_nil ((g2, 42, ((([] : List Value)) ++ (Z32 ++ ([Value.int .u64 0] ++ ([Value.int .u64 0] ++ (Z32 ++ (Z32 ++ ([Value.slice none 0 0] ++ ([Value.bool false] ++ (([Value.int .i64 0] ++ [Value.slice none 0 0]) ++ (([] : List Value))))))))))).toArray) :: (g3, 42, ((([] : List Value) ++ (x1.map bv)) ++ ([Value.int .u64 0] ++ ([Value.int .u64 0] ++ (Z32 ++ (Z32 ++ ([Value.slice none 0 0] ++ ([Value.bool false] ++ (([Value.int .i64 0] ++ [Value.slice none 0 0]) ++ (([] : List Value)))))))))).toArray) :: R)]
  refine sP (.pointer (some ⟨g3, 32, none⟩)) <| sw 2 rfl ((([] : List Value) ++ (x1.map bv) ++ ([Value.int .u64 (x2 : Int)])) ++ ([Value.int .u64 0] ++ (Z32 ++ (Z32 ++ ([Value.slice none 0 0] ++ ([Value.bool false] ++ (([Value.int .i64 0] ++ [Value.slice none 0 0]) ++ (([] : List Value))))))))).toArray (by rw [show ((([] : List Value) ++ (x1.map bv) ++ ([Value.int .u64 (x2 : Int)])) ++ ([Value.int .u64 0] ++ (Z32 ++ (Z32 ++ ([Value.slice none 0 0] ++ ([Value.bool false] ++ (([Value.int .i64 0] ++ [Value.slice none 0 0]) ++ (([] : List Value))))))))) = (([] : List Value) ++ (x1.map bv)) ++ ([Value.int .u64 (x2 : Int)] ++ ([Value.int .u64 0] ++ (Z32 ++ (Z32 ++ ([Value.slice none 0 0] ++ ([Value.bool false] ++ (([Value.int .i64 0] ++ [Value.slice none 0 0]) ++ (([] : List Value))))))))) from List.append_assoc ..]; exact Writes.one 32 22 (.int .u64 (x2 : Int)) _ _ rfl kR kR kR rfl rfl (by rw [List.size_toArray, List.length_append, L1]; exact Nat.lt_add_of_pos_right (Nat.succ_pos _)) (set_mid L1)) ?_
  have L2 : (([] : List Value) ++ (x1.map bv) ++ ([Value.int .u64 (x2 : Int)])).length = 33 := by rw [List.length_append, L1]; rfl
  refine sA ?_
  refine sp rfl ?_
  refine Sy.callT (fun w hw => numM_any w0.inn gr sl b a2 e2 8 ((g2, 42, ((([] : List Value)) ++ (Z32 ++ ([Value.int .u64 0] ++ ([Value.int .u64 0] ++ (Z32 ++ (Z32 ++ ([Value.slice none 0 0] ++ ([Value.bool false] ++ (([Value.int .i64 0] ++ [Value.slice none 0 0]) ++ (([] : List Value))))))))))).toArray) :: (g3, 42, ((([] : List Value) ++ (x1.map bv) ++ ([Value.int .u64 (x2 : Int)])) ++ ([Value.int .u64 0] ++ (Z32 ++ (Z32 ++ ([Value.slice none 0 0] ++ ([Value.bool false] ++ (([Value.int .i64 0] ++ [Value.slice none 0 0]) ++ (([] : List Value))))))))).toArray) :: R) u2 v2_ (by decide) hl hv w hw) (fun u M hM => ?_)
  obtain ⟨x3, a3, e3, N3, p3, ⟨rfl, r3, rfl⟩, u3, v3_, rfl⟩ := hM
  rw [List.append_nil ((g2, 42, ((([] : List Value)) ++ (Z32 ++ ([Value.int .u64 0] ++ ([Value.int .u64 0] ++ (Z32 ++ (Z32 ++ ([Value.slice none 0 0] ++ ([Value.bool false] ++ (([Value.int .i64 0] ++ [Value.slice none 0 0]) ++ (([] : List Value))))))))))).toArray) :: (g3, 42, ((([] : List Value) ++ (x1.map bv) ++ ([Value.int .u64 (x2 : Int)])) ++ ([Value.int .u64 0] ++ (Z32 ++ (Z32 ++ ([Value.slice none 0 0] ++ ([Value.bool false] ++ (([Value.int .i64 0] ++ [Value.slice none 0 0]) ++ (([] : List Value))))))))).toArray) :: R)]
  refine sP (.pointer (some ⟨g3, 33, none⟩)) <| sw 2 rfl ((([] : List Value) ++ (x1.map bv) ++ ([Value.int .u64 (x2 : Int)]) ++ ([Value.int .u64 (x3 : Int)])) ++ (Z32 ++ (Z32 ++ ([Value.slice none 0 0] ++ ([Value.bool false] ++ (([Value.int .i64 0] ++ [Value.slice none 0 0]) ++ (([] : List Value)))))))).toArray (by rw [show ((([] : List Value) ++ (x1.map bv) ++ ([Value.int .u64 (x2 : Int)]) ++ ([Value.int .u64 (x3 : Int)])) ++ (Z32 ++ (Z32 ++ ([Value.slice none 0 0] ++ ([Value.bool false] ++ (([Value.int .i64 0] ++ [Value.slice none 0 0]) ++ (([] : List Value)))))))) = (([] : List Value) ++ (x1.map bv) ++ ([Value.int .u64 (x2 : Int)])) ++ ([Value.int .u64 (x3 : Int)] ++ (Z32 ++ (Z32 ++ ([Value.slice none 0 0] ++ ([Value.bool false] ++ (([Value.int .i64 0] ++ [Value.slice none 0 0]) ++ (([] : List Value)))))))) from List.append_assoc ..]; exact Writes.one 33 22 (.int .u64 (x3 : Int)) _ _ rfl kR kR kR rfl rfl (by rw [List.size_toArray, List.length_append, L2]; exact Nat.lt_add_of_pos_right (Nat.succ_pos _)) (set_mid L2)) ?_
  have L3 : (([] : List Value) ++ (x1.map bv) ++ ([Value.int .u64 (x2 : Int)]) ++ ([Value.int .u64 (x3 : Int)])).length = 34 := by rw [List.length_append, L2]; rfl
  refine sA ?_
  refine sp rfl ?_
  refine Sy.callT (fun w hw => digM_any w0.inn gr sl b a3 e3 ((g2, 42, ((([] : List Value)) ++ (Z32 ++ ([Value.int .u64 0] ++ ([Value.int .u64 0] ++ (Z32 ++ (Z32 ++ ([Value.slice none 0 0] ++ ([Value.bool false] ++ (([Value.int .i64 0] ++ [Value.slice none 0 0]) ++ (([] : List Value))))))))))).toArray) :: (g3, 42, ((([] : List Value) ++ (x1.map bv) ++ ([Value.int .u64 (x2 : Int)]) ++ ([Value.int .u64 (x3 : Int)])) ++ (Z32 ++ (Z32 ++ ([Value.slice none 0 0] ++ ([Value.bool false] ++ (([Value.int .i64 0] ++ [Value.slice none 0 0]) ++ (([] : List Value)))))))).toArray) :: R) u3 v3_ hl hv w hw) (fun u M hM => ?_)
  obtain ⟨x4, a4, e4, N4, p4, ⟨rfl, r4, rfl⟩, u4, v4_, rfl⟩ := hM
  rw [List.append_nil ((g2, 42, ((([] : List Value)) ++ (Z32 ++ ([Value.int .u64 0] ++ ([Value.int .u64 0] ++ (Z32 ++ (Z32 ++ ([Value.slice none 0 0] ++ ([Value.bool false] ++ (([Value.int .i64 0] ++ [Value.slice none 0 0]) ++ (([] : List Value))))))))))).toArray) :: (g3, 42, ((([] : List Value) ++ (x1.map bv) ++ ([Value.int .u64 (x2 : Int)]) ++ ([Value.int .u64 (x3 : Int)])) ++ (Z32 ++ (Z32 ++ ([Value.slice none 0 0] ++ ([Value.bool false] ++ (([Value.int .i64 0] ++ [Value.slice none 0 0]) ++ (([] : List Value)))))))).toArray) :: R)]
  have n4 : (x4.map bv).length = 32 := by rw [List.length_map, r4]
  refine sP (.pointer (some ⟨g3, 34, none⟩)) <| sw 2 rfl ((([] : List Value) ++ (x1.map bv) ++ ([Value.int .u64 (x2 : Int)]) ++ ([Value.int .u64 (x3 : Int)]) ++ (x4.map bv)) ++ (Z32 ++ ([Value.slice none 0 0] ++ ([Value.bool false] ++ (([Value.int .i64 0] ++ [Value.slice none 0 0]) ++ (([] : List Value))))))).toArray (by rw [show ((([] : List Value) ++ (x1.map bv) ++ ([Value.int .u64 (x2 : Int)]) ++ ([Value.int .u64 (x3 : Int)]) ++ (x4.map bv)) ++ (Z32 ++ ([Value.slice none 0 0] ++ ([Value.bool false] ++ (([Value.int .i64 0] ++ [Value.slice none 0 0]) ++ (([] : List Value))))))) = (([] : List Value) ++ (x1.map bv) ++ ([Value.int .u64 (x2 : Int)]) ++ ([Value.int .u64 (x3 : Int)])) ++ (x4.map bv ++ (Z32 ++ ([Value.slice none 0 0] ++ ([Value.bool false] ++ (([Value.int .i64 0] ++ [Value.slice none 0 0]) ++ (([] : List Value))))))) from List.append_assoc ..]; exact wM 37 (([] : List Value) ++ (x1.map bv) ++ ([Value.int .u64 (x2 : Int)]) ++ ([Value.int .u64 (x3 : Int)])) Z32 (x4.map bv) (Z32 ++ ([Value.slice none 0 0] ++ ([Value.bool false] ++ (([Value.int .i64 0] ++ [Value.slice none 0 0]) ++ (([] : List Value)))))) 32 34 _ _ rfl kR kR kR L3 Z32_len n4 (ones_bV x4)) ?_
  have L4 : (([] : List Value) ++ (x1.map bv) ++ ([Value.int .u64 (x2 : Int)]) ++ ([Value.int .u64 (x3 : Int)]) ++ (x4.map bv)).length = 66 := by rw [List.length_append, L3, n4]
  refine sA ?_
  refine sp rfl ?_
  refine Sy.callT (fun w hw => digM_any w0.inn gr sl b a4 e4 ((g2, 42, ((([] : List Value)) ++ (Z32 ++ ([Value.int .u64 0] ++ ([Value.int .u64 0] ++ (Z32 ++ (Z32 ++ ([Value.slice none 0 0] ++ ([Value.bool false] ++ (([Value.int .i64 0] ++ [Value.slice none 0 0]) ++ (([] : List Value))))))))))).toArray) :: (g3, 42, ((([] : List Value) ++ (x1.map bv) ++ ([Value.int .u64 (x2 : Int)]) ++ ([Value.int .u64 (x3 : Int)]) ++ (x4.map bv)) ++ (Z32 ++ ([Value.slice none 0 0] ++ ([Value.bool false] ++ (([Value.int .i64 0] ++ [Value.slice none 0 0]) ++ (([] : List Value))))))).toArray) :: R) u4 v4_ hl hv w hw) (fun u M hM => ?_)
  obtain ⟨x5, a5, e5, N5, p5, ⟨rfl, r5, rfl⟩, u5, v5_, rfl⟩ := hM
  rw [List.append_nil ((g2, 42, ((([] : List Value)) ++ (Z32 ++ ([Value.int .u64 0] ++ ([Value.int .u64 0] ++ (Z32 ++ (Z32 ++ ([Value.slice none 0 0] ++ ([Value.bool false] ++ (([Value.int .i64 0] ++ [Value.slice none 0 0]) ++ (([] : List Value))))))))))).toArray) :: (g3, 42, ((([] : List Value) ++ (x1.map bv) ++ ([Value.int .u64 (x2 : Int)]) ++ ([Value.int .u64 (x3 : Int)]) ++ (x4.map bv)) ++ (Z32 ++ ([Value.slice none 0 0] ++ ([Value.bool false] ++ (([Value.int .i64 0] ++ [Value.slice none 0 0]) ++ (([] : List Value))))))).toArray) :: R)]
  have n5 : (x5.map bv).length = 32 := by rw [List.length_map, r5]
  refine sP (.pointer (some ⟨g3, 66, none⟩)) <| sw 2 rfl ((([] : List Value) ++ (x1.map bv) ++ ([Value.int .u64 (x2 : Int)]) ++ ([Value.int .u64 (x3 : Int)]) ++ (x4.map bv) ++ (x5.map bv)) ++ ([Value.slice none 0 0] ++ ([Value.bool false] ++ (([Value.int .i64 0] ++ [Value.slice none 0 0]) ++ (([] : List Value)))))).toArray (by rw [show ((([] : List Value) ++ (x1.map bv) ++ ([Value.int .u64 (x2 : Int)]) ++ ([Value.int .u64 (x3 : Int)]) ++ (x4.map bv) ++ (x5.map bv)) ++ ([Value.slice none 0 0] ++ ([Value.bool false] ++ (([Value.int .i64 0] ++ [Value.slice none 0 0]) ++ (([] : List Value)))))) = (([] : List Value) ++ (x1.map bv) ++ ([Value.int .u64 (x2 : Int)]) ++ ([Value.int .u64 (x3 : Int)]) ++ (x4.map bv)) ++ (x5.map bv ++ ([Value.slice none 0 0] ++ ([Value.bool false] ++ (([Value.int .i64 0] ++ [Value.slice none 0 0]) ++ (([] : List Value)))))) from List.append_assoc ..]; exact wM 37 (([] : List Value) ++ (x1.map bv) ++ ([Value.int .u64 (x2 : Int)]) ++ ([Value.int .u64 (x3 : Int)]) ++ (x4.map bv)) Z32 (x5.map bv) ([Value.slice none 0 0] ++ ([Value.bool false] ++ (([Value.int .i64 0] ++ [Value.slice none 0 0]) ++ (([] : List Value))))) 32 66 _ _ rfl kR kR kR L4 Z32_len n5 (ones_bV x5)) ?_
  have L5 : (([] : List Value) ++ (x1.map bv) ++ ([Value.int .u64 (x2 : Int)]) ++ ([Value.int .u64 (x3 : Int)]) ++ (x4.map bv) ++ (x5.map bv)).length = 98 := by rw [List.length_append, L4, n5]
  refine sA ?_
  refine sp rfl ?_
  refine Sy.callT (fun w hw => textM_any 256 (by decide) w0.inn gr sl b a5 e5 ((g2, 42, ((([] : List Value)) ++ (Z32 ++ ([Value.int .u64 0] ++ ([Value.int .u64 0] ++ (Z32 ++ (Z32 ++ ([Value.slice none 0 0] ++ ([Value.bool false] ++ (([Value.int .i64 0] ++ [Value.slice none 0 0]) ++ (([] : List Value))))))))))).toArray) :: (g3, 42, ((([] : List Value) ++ (x1.map bv) ++ ([Value.int .u64 (x2 : Int)]) ++ ([Value.int .u64 (x3 : Int)]) ++ (x4.map bv) ++ (x5.map bv)) ++ ([Value.slice none 0 0] ++ ([Value.bool false] ++ (([Value.int .i64 0] ++ [Value.slice none 0 0]) ++ (([] : List Value)))))).toArray) :: R) u5 v5_ hl hv w hw) (fun v6 M hM => ?_)
  obtain ⟨x6, a6, e6, N6, p6, r6, u6, v6_, rfl⟩ := hM
  have hc6 := r6.byt.cells
  refine sP (.pointer (some ⟨g3, 98, none⟩)) <| sw 2 rfl ((([] : List Value) ++ (x1.map bv) ++ ([Value.int .u64 (x2 : Int)]) ++ ([Value.int .u64 (x3 : Int)]) ++ (x4.map bv) ++ (x5.map bv) ++ ([v6])) ++ ([Value.bool false] ++ (([Value.int .i64 0] ++ [Value.slice none 0 0]) ++ (([] : List Value))))).toArray (by rw [show ((([] : List Value) ++ (x1.map bv) ++ ([Value.int .u64 (x2 : Int)]) ++ ([Value.int .u64 (x3 : Int)]) ++ (x4.map bv) ++ (x5.map bv) ++ ([v6])) ++ ([Value.bool false] ++ (([Value.int .i64 0] ++ [Value.slice none 0 0]) ++ (([] : List Value))))) = (([] : List Value) ++ (x1.map bv) ++ ([Value.int .u64 (x2 : Int)]) ++ ([Value.int .u64 (x3 : Int)]) ++ (x4.map bv) ++ (x5.map bv)) ++ ([v6] ++ ([Value.bool false] ++ (([Value.int .i64 0] ++ [Value.slice none 0 0]) ++ (([] : List Value))))) from List.append_assoc ..]; exact Writes.one 98 27 v6 _ _ rfl kR kR kR hc6.1 hc6.2 (by rw [List.size_toArray, List.length_append, L5]; exact Nat.lt_add_of_pos_right (Nat.succ_pos _)) (set_mid L5)) ?_
  have L6 : (([] : List Value) ++ (x1.map bv) ++ ([Value.int .u64 (x2 : Int)]) ++ ([Value.int .u64 (x3 : Int)]) ++ (x4.map bv) ++ (x5.map bv) ++ ([v6])).length = 99 := by rw [List.length_append, L5]; rfl
  refine Sy.permS (M := RB gr sl a6 e6 ((g2, 42, ((([] : List Value)) ++ (Z32 ++ ([Value.int .u64 0] ++ ([Value.int .u64 0] ++ (Z32 ++ (Z32 ++ ([Value.slice none 0 0] ++ ([Value.bool false] ++ (([Value.int .i64 0] ++ [Value.slice none 0 0]) ++ (([] : List Value))))))))))).toArray) :: (g3, 42, ((([] : List Value) ++ (x1.map bv) ++ ([Value.int .u64 (x2 : Int)]) ++ ([Value.int .u64 (x3 : Int)]) ++ (x4.map bv) ++ (x5.map bv) ++ ([v6])) ++ ([Value.bool false] ++ (([Value.int .i64 0] ++ [Value.slice none 0 0]) ++ (([] : List Value))))).toArray) :: (R ++ N6))) (List.Perm.refl _) ?_
  refine sA ?_
  refine sp rfl ?_
  refine Sy.callT (fun w hw => smallM_any 0 1 w0.inn gr sl b a6 e6 ((g2, 42, ((([] : List Value)) ++ (Z32 ++ ([Value.int .u64 0] ++ ([Value.int .u64 0] ++ (Z32 ++ (Z32 ++ ([Value.slice none 0 0] ++ ([Value.bool false] ++ (([Value.int .i64 0] ++ [Value.slice none 0 0]) ++ (([] : List Value))))))))))).toArray) :: (g3, 42, ((([] : List Value) ++ (x1.map bv) ++ ([Value.int .u64 (x2 : Int)]) ++ ([Value.int .u64 (x3 : Int)]) ++ (x4.map bv) ++ (x5.map bv) ++ ([v6])) ++ ([Value.bool false] ++ (([Value.int .i64 0] ++ [Value.slice none 0 0]) ++ (([] : List Value))))).toArray) :: (R ++ N6)) u6 v6_ hl hv w hw) (fun u M hM => ?_)
  obtain ⟨z7, a7, e7, N7, p7, ⟨rfl, rfl⟩, u7, v7_, rfl⟩ := hM
  rw [List.append_nil ((g2, 42, ((([] : List Value)) ++ (Z32 ++ ([Value.int .u64 0] ++ ([Value.int .u64 0] ++ (Z32 ++ (Z32 ++ ([Value.slice none 0 0] ++ ([Value.bool false] ++ (([Value.int .i64 0] ++ [Value.slice none 0 0]) ++ (([] : List Value))))))))))).toArray) :: (g3, 42, ((([] : List Value) ++ (x1.map bv) ++ ([Value.int .u64 (x2 : Int)]) ++ ([Value.int .u64 (x3 : Int)]) ++ (x4.map bv) ++ (x5.map bv) ++ ([v6])) ++ ([Value.bool false] ++ (([Value.int .i64 0] ++ [Value.slice none 0 0]) ++ (([] : List Value))))).toArray) :: (R ++ N6))]
  obtain ⟨x7, hx7⟩ : ∃ c : Bool, c = decide (z7 = 1) := ⟨_, rfl⟩
  refine sS (.bool x7) (Quiet.pure (exec_int .eql _ _ _ .i64 _ _ _ rfl rfl rfl (int_eql _ _ _ _ _ (hx7.symm)))) <| sP (.pointer (some ⟨g3, 99, none⟩)) <| sw 2 rfl ((([] : List Value) ++ (x1.map bv) ++ ([Value.int .u64 (x2 : Int)]) ++ ([Value.int .u64 (x3 : Int)]) ++ (x4.map bv) ++ (x5.map bv) ++ ([v6]) ++ ([Value.bool x7])) ++ (([Value.int .i64 0] ++ [Value.slice none 0 0]) ++ (([] : List Value)))).toArray (by rw [show ((([] : List Value) ++ (x1.map bv) ++ ([Value.int .u64 (x2 : Int)]) ++ ([Value.int .u64 (x3 : Int)]) ++ (x4.map bv) ++ (x5.map bv) ++ ([v6]) ++ ([Value.bool x7])) ++ (([Value.int .i64 0] ++ [Value.slice none 0 0]) ++ (([] : List Value)))) = (([] : List Value) ++ (x1.map bv) ++ ([Value.int .u64 (x2 : Int)]) ++ ([Value.int .u64 (x3 : Int)]) ++ (x4.map bv) ++ (x5.map bv) ++ ([v6])) ++ ([Value.bool x7] ++ (([Value.int .i64 0] ++ [Value.slice none 0 0]) ++ (([] : List Value)))) from List.append_assoc ..]; exact Writes.one 99 4 (.bool x7) _ _ rfl kR kR kR rfl rfl (by rw [List.size_toArray, List.length_append, L6]; exact Nat.lt_add_of_pos_right (Nat.succ_pos _)) (set_mid L6)) ?_
  have L7 : (([] : List Value) ++ (x1.map bv) ++ ([Value.int .u64 (x2 : Int)]) ++ ([Value.int .u64 (x3 : Int)]) ++ (x4.map bv) ++ (x5.map bv) ++ ([v6]) ++ ([Value.bool x7])).length = 100 := by rw [List.length_append, L6]; rfl
  have p7t : After truP ⟨b.drop a6, e6⟩ x7 ⟨b.drop a7, e7⟩ := by rw [← sml_tru, hx7]; exact p7.bind (After.ret _ _)
  refine sG ?_
  refine Sy.seq ?_
  refine sC ?_
  refine sP (.pointer (some ⟨g3, 99, none⟩)) <| sS (.bool x7) (Quiet.cell 2 g3 99 42 4 ((([] : List Value) ++ (x1.map bv) ++ ([Value.int .u64 (x2 : Int)]) ++ ([Value.int .u64 (x3 : Int)]) ++ (x4.map bv) ++ (x5.map bv) ++ ([v6]) ++ ([Value.bool x7])) ++ (([Value.int .i64 0] ++ [Value.slice none 0 0]) ++ (([] : List Value)))).toArray _ _ rfl kR rfl Tryz.underlying4 rfl _ (by rw [List.getElem?_toArray, List.getElem?_append_left (by rw [L7]; decide), List.getElem?_append_right (by rw [L6]; exact Nat.le_refl _), L6]; rfl)) ?_
  refine sG ?_
  cases x7
  case' false =>
    refine sU ?_
    refine Sy.skip ?_
    refine Sy.then_ ?_
    have hAf : After rdHE ⟨b.drop at_, e⟩ ⟨x1, x2, x3, x4, x5, x6, false, ⟨0, []⟩⟩ ⟨b.drop a7, e7⟩ := p1.bind (p2.bind (p3.bind (p4.bind (p5.bind (p6.bind (p7t.bind (After.bind (by rw [if_neg (by decide)]; exact After.ret _ _) (After.ret _ _))))))))
    have hrp : repHE (rdB (N6)) ((([] : List Value) ++ (x1.map bv) ++ ([Value.int .u64 (x2 : Int)]) ++ ([Value.int .u64 (x3 : Int)]) ++ (x4.map bv) ++ (x5.map bv) ++ ([v6]) ++ ([Value.bool false])) ++ (([Value.int .i64 0] ++ [Value.slice none 0 0]) ++ ([] : List Value))) ⟨x1, x2, x3, x4, x5, x6, false, ⟨0, []⟩⟩ := ⟨v6, .slice none 0 0, by simp only [cHE, List.append_assoc, List.append_nil, List.nil_append], r1, r4, r5, r2, r3, r6.byt.le (rdB_le fun b h => by simp [h]), ⟨none, 0, 0, rfl, rfl, Nat.le_refl _, Nat.zero_le _, fun h => (h rfl).elim⟩⟩
    have hln : (((([] : List Value) ++ (x1.map bv) ++ ([Value.int .u64 (x2 : Int)]) ++ ([Value.int .u64 (x3 : Int)]) ++ (x4.map bv) ++ (x5.map bv) ++ ([v6]) ++ ([Value.bool false])) ++ (([Value.int .i64 0] ++ [Value.slice none 0 0]) ++ ([] : List Value)))).length = 102 := by rw [List.length_append, L7]; rfl
    have hon : ∀ u ∈ ((([] : List Value) ++ (x1.map bv) ++ ([Value.int .u64 (x2 : Int)]) ++ ([Value.int .u64 (x3 : Int)]) ++ (x4.map bv) ++ (x5.map bv) ++ ([v6]) ++ ([Value.bool false])) ++ (([Value.int .i64 0] ++ [Value.slice none 0 0]) ++ ([] : List Value))), u.oneCell' = true := oneHE hrp
    refine sC ?_
    refine sS (.agg ((([] : List Value) ++ (x1.map bv) ++ ([Value.int .u64 (x2 : Int)]) ++ ([Value.int .u64 (x3 : Int)]) ++ (x4.map bv) ++ (x5.map bv) ++ ([v6]) ++ ([Value.bool false])) ++ (([Value.int .i64 0] ++ [Value.slice none 0 0]) ++ ([] : List Value))).toArray) (Quiet.mid 2 g3 0 102 42 42 ((([] : List Value) ++ (x1.map bv) ++ ([Value.int .u64 (x2 : Int)]) ++ ([Value.int .u64 (x3 : Int)]) ++ (x4.map bv) ++ (x5.map bv) ++ ([v6]) ++ ([Value.bool false])) ++ (([Value.int .i64 0] ++ [Value.slice none 0 0]) ++ ([] : List Value))) ((([] : List Value) ++ (x1.map bv) ++ ([Value.int .u64 (x2 : Int)]) ++ ([Value.int .u64 (x3 : Int)]) ++ (x4.map bv) ++ (x5.map bv) ++ ([v6]) ++ ([Value.bool false])) ++ (([Value.int .i64 0] ++ [Value.slice none 0 0]) ++ ([] : List Value))) _ _ rfl kR rfl Tryz.underlying42 rfl kR (by rw [List.drop_zero, List.take_of_length_le (by omega)]) (by omega)) <| sw 1 rfl ((([] : List Value) ++ (x1.map bv) ++ ([Value.int .u64 (x2 : Int)]) ++ ([Value.int .u64 (x3 : Int)]) ++ (x4.map bv) ++ (x5.map bv) ++ ([v6]) ++ ([Value.bool false])) ++ (([Value.int .i64 0] ++ [Value.slice none 0 0]) ++ ([] : List Value))).toArray (Writes.row 42 ((([] : List Value) ++ (x1.map bv) ++ ([Value.int .u64 (x2 : Int)]) ++ ([Value.int .u64 (x3 : Int)]) ++ (x4.map bv) ++ (x5.map bv) ++ ([v6]) ++ ([Value.bool false])) ++ (([Value.int .i64 0] ++ [Value.slice none 0 0]) ++ ([] : List Value))) 102 _ _ rfl kR kR kR hln (by kernel_rfl) hon) ?_
    refine sG ?_
    refine Sy.ret ?_
    exact Sy.retT1 (RB gr sl a7 e7 (R ++ (N6))) rfl (.inl (Sy.Res.cell (ty' := 42) g2 1 ((([] : List Value) ++ (x1.map bv) ++ ([Value.int .u64 (x2 : Int)]) ++ ([Value.int .u64 (x3 : Int)]) ++ (x4.map bv) ++ (x5.map bv) ++ ([v6]) ++ ([Value.bool false])) ++ (([Value.int .i64 0] ++ [Value.slice none 0 0]) ++ ([] : List Value))).toArray _ (by kernel_rfl) rfl Tryz.underlying42 rfl (by rw [List.size_toArray, hln]; kernel_rfl) rfl)) (fun _ h => Sy.St.parts (ls := [[(gr, 186, rrC sl a7 e7)], [(g2, 42, ((([] : List Value) ++ (x1.map bv) ++ ([Value.int .u64 (x2 : Int)]) ++ ([Value.int .u64 (x3 : Int)]) ++ (x4.map bv) ++ (x5.map bv) ++ ([v6]) ++ ([Value.bool false])) ++ (([Value.int .i64 0] ++ [Value.slice none 0 0]) ++ ([] : List Value))).toArray)], [(g3, 42, ((([] : List Value) ++ (x1.map bv) ++ ([Value.int .u64 (x2 : Int)]) ++ ([Value.int .u64 (x3 : Int)]) ++ (x4.map bv) ++ (x5.map bv) ++ ([v6]) ++ ([Value.bool false])) ++ (([Value.int .i64 0] ++ [Value.slice none 0 0]) ++ ([] : List Value))).toArray)], R ++ (N6)]) (ms := [[(gr, 186, rrC sl a7 e7)], R ++ (N6)]) [[(g2, 42, ((([] : List Value) ++ (x1.map bv) ++ ([Value.int .u64 (x2 : Int)]) ++ ([Value.int .u64 (x3 : Int)]) ++ (x4.map bv) ++ (x5.map bv) ++ ([v6]) ++ ([Value.bool false])) ++ (([Value.int .i64 0] ++ [Value.slice none 0 0]) ++ ([] : List Value))).toArray)], [(g3, 42, ((([] : List Value) ++ (x1.map bv) ++ ([Value.int .u64 (x2 : Int)]) ++ ([Value.int .u64 (x3 : Int)]) ++ (x4.map bv) ++ (x5.map bv) ++ ([v6]) ++ ([Value.bool false])) ++ (([Value.int .i64 0] ++ [Value.slice none 0 0]) ++ ([] : List Value))).toArray)]] [0, 3, 1, 2] (by kernel_rfl) (by rfl) (by simp) (by simp) h) ⟨⟨x1, x2, x3, x4, x5, x6, false, ⟨0, []⟩⟩, a7, e7, N6, hAf, ⟨((([] : List Value) ++ (x1.map bv) ++ ([Value.int .u64 (x2 : Int)]) ++ ([Value.int .u64 (x3 : Int)]) ++ (x4.map bv) ++ (x5.map bv) ++ ([v6]) ++ ([Value.bool false])) ++ (([Value.int .i64 0] ++ [Value.slice none 0 0]) ++ ([] : List Value))), rfl, hln, hon, hrp⟩, u7, v7_, rfl⟩
  refine sT ?_
  refine Sy.region ?_
  refine sp rfl ?_
  refine Sy.callT (fun w hw => parM_any w0.inn gr sl b a7 e7 ((g2, 42, ((([] : List Value)) ++ (Z32 ++ ([Value.int .u64 0] ++ ([Value.int .u64 0] ++ (Z32 ++ (Z32 ++ ([Value.slice none 0 0] ++ ([Value.bool false] ++ (([Value.int .i64 0] ++ [Value.slice none 0 0]) ++ (([] : List Value))))))))))).toArray) :: (g3, 42, ((([] : List Value) ++ (x1.map bv) ++ ([Value.int .u64 (x2 : Int)]) ++ ([Value.int .u64 (x3 : Int)]) ++ (x4.map bv) ++ (x5.map bv) ++ ([v6]) ++ ([Value.bool true])) ++ (([Value.int .i64 0] ++ [Value.slice none 0 0]) ++ (([] : List Value)))).toArray) :: (R ++ N6)) u7 v7_ hl hv w hw) (fun u M hM => ?_)
  obtain ⟨⟨x8, ks⟩, a8, e8, N8, p8, ⟨cs8, rfl, n8, o8, r8⟩, u8, v8_, rfl⟩ := hM
  obtain ⟨v8, hcs8, s8⟩ := r8
  refine Sy.permS (M := RB gr sl a8 e8 ((g2, 42, ((([] : List Value)) ++ (Z32 ++ ([Value.int .u64 0] ++ ([Value.int .u64 0] ++ (Z32 ++ (Z32 ++ ([Value.slice none 0 0] ++ ([Value.bool false] ++ (([Value.int .i64 0] ++ [Value.slice none 0 0]) ++ (([] : List Value))))))))))).toArray) :: (g3, 42, ((([] : List Value) ++ (x1.map bv) ++ ([Value.int .u64 (x2 : Int)]) ++ ([Value.int .u64 (x3 : Int)]) ++ (x4.map bv) ++ (x5.map bv) ++ ([v6]) ++ ([Value.bool true])) ++ (([Value.int .i64 0] ++ [Value.slice none 0 0]) ++ (([] : List Value)))).toArray) :: (R ++ (N6 ++ N8)))) (List.Perm.of_eq (by simp only [List.cons_append, List.append_assoc])) ?_
  refine sP (.pointer (some ⟨g3, 100, none⟩)) <| sw 2 rfl ((([] : List Value) ++ (x1.map bv) ++ ([Value.int .u64 (x2 : Int)]) ++ ([Value.int .u64 (x3 : Int)]) ++ (x4.map bv) ++ (x5.map bv) ++ ([v6]) ++ ([Value.bool true])) ++ (cs8 ++ ([] : List Value))).toArray (wM 40 (([] : List Value) ++ (x1.map bv) ++ ([Value.int .u64 (x2 : Int)]) ++ ([Value.int .u64 (x3 : Int)]) ++ (x4.map bv) ++ (x5.map bv) ++ ([v6]) ++ ([Value.bool true])) ([Value.int .i64 0] ++ [Value.slice none 0 0]) cs8 ([] : List Value) 2 100 _ _ rfl kR kR kR L7 rfl n8 o8) ?_
  refine Sy.nil ?_
  refine Sy.then_ ?_
  have hAf : After rdHE ⟨b.drop at_, e⟩ ⟨x1, x2, x3, x4, x5, x6, true, ⟨x8, ks⟩⟩ ⟨b.drop a8, e8⟩ := p1.bind (p2.bind (p3.bind (p4.bind (p5.bind (p6.bind (p7t.bind (After.bind (by rw [if_pos rfl]; exact p8) (After.ret _ _))))))))
  have hrp : repHE (rdB (N6 ++ N8)) ((([] : List Value) ++ (x1.map bv) ++ ([Value.int .u64 (x2 : Int)]) ++ ([Value.int .u64 (x3 : Int)]) ++ (x4.map bv) ++ (x5.map bv) ++ ([v6]) ++ ([Value.bool true])) ++ (cs8 ++ ([] : List Value))) ⟨x1, x2, x3, x4, x5, x6, true, ⟨x8, ks⟩⟩ := ⟨v6, v8, by rw [hcs8]; simp only [cHE, List.append_assoc, List.append_nil, List.nil_append]; rfl, r1, r4, r5, r2, r3, r6.byt.le (rdB_le fun b h => by simp [h]), LstR.le (rep := repDG) monoDG (rdB_le fun b h => by simp [h]) s8⟩
  have hln : (((([] : List Value) ++ (x1.map bv) ++ ([Value.int .u64 (x2 : Int)]) ++ ([Value.int .u64 (x3 : Int)]) ++ (x4.map bv) ++ (x5.map bv) ++ ([v6]) ++ ([Value.bool true])) ++ (cs8 ++ ([] : List Value)))).length = 102 := by rw [List.length_append, L7]; rw [List.length_append, n8]; rfl
  have hon : ∀ u ∈ ((([] : List Value) ++ (x1.map bv) ++ ([Value.int .u64 (x2 : Int)]) ++ ([Value.int .u64 (x3 : Int)]) ++ (x4.map bv) ++ (x5.map bv) ++ ([v6]) ++ ([Value.bool true])) ++ (cs8 ++ ([] : List Value))), u.oneCell' = true := oneHE hrp
  refine sC ?_
  refine sS (.agg ((([] : List Value) ++ (x1.map bv) ++ ([Value.int .u64 (x2 : Int)]) ++ ([Value.int .u64 (x3 : Int)]) ++ (x4.map bv) ++ (x5.map bv) ++ ([v6]) ++ ([Value.bool true])) ++ (cs8 ++ ([] : List Value))).toArray) (Quiet.mid 2 g3 0 102 42 42 ((([] : List Value) ++ (x1.map bv) ++ ([Value.int .u64 (x2 : Int)]) ++ ([Value.int .u64 (x3 : Int)]) ++ (x4.map bv) ++ (x5.map bv) ++ ([v6]) ++ ([Value.bool true])) ++ (cs8 ++ ([] : List Value))) ((([] : List Value) ++ (x1.map bv) ++ ([Value.int .u64 (x2 : Int)]) ++ ([Value.int .u64 (x3 : Int)]) ++ (x4.map bv) ++ (x5.map bv) ++ ([v6]) ++ ([Value.bool true])) ++ (cs8 ++ ([] : List Value))) _ _ rfl kR rfl Tryz.underlying42 rfl kR (by rw [List.drop_zero, List.take_of_length_le (by omega)]) (by omega)) <| sw 1 rfl ((([] : List Value) ++ (x1.map bv) ++ ([Value.int .u64 (x2 : Int)]) ++ ([Value.int .u64 (x3 : Int)]) ++ (x4.map bv) ++ (x5.map bv) ++ ([v6]) ++ ([Value.bool true])) ++ (cs8 ++ ([] : List Value))).toArray (Writes.row 42 ((([] : List Value) ++ (x1.map bv) ++ ([Value.int .u64 (x2 : Int)]) ++ ([Value.int .u64 (x3 : Int)]) ++ (x4.map bv) ++ (x5.map bv) ++ ([v6]) ++ ([Value.bool true])) ++ (cs8 ++ ([] : List Value))) 102 _ _ rfl kR kR kR hln (by kernel_rfl) hon) ?_
  refine sG ?_
  refine Sy.ret ?_
  exact Sy.retT1 (RB gr sl a8 e8 (R ++ (N6 ++ N8))) rfl (.inl (Sy.Res.cell (ty' := 42) g2 1 ((([] : List Value) ++ (x1.map bv) ++ ([Value.int .u64 (x2 : Int)]) ++ ([Value.int .u64 (x3 : Int)]) ++ (x4.map bv) ++ (x5.map bv) ++ ([v6]) ++ ([Value.bool true])) ++ (cs8 ++ ([] : List Value))).toArray _ (by kernel_rfl) rfl Tryz.underlying42 rfl (by rw [List.size_toArray, hln]; kernel_rfl) rfl)) (fun _ h => Sy.St.parts (ls := [[(gr, 186, rrC sl a8 e8)], [(g2, 42, ((([] : List Value) ++ (x1.map bv) ++ ([Value.int .u64 (x2 : Int)]) ++ ([Value.int .u64 (x3 : Int)]) ++ (x4.map bv) ++ (x5.map bv) ++ ([v6]) ++ ([Value.bool true])) ++ (cs8 ++ ([] : List Value))).toArray)], [(g3, 42, ((([] : List Value) ++ (x1.map bv) ++ ([Value.int .u64 (x2 : Int)]) ++ ([Value.int .u64 (x3 : Int)]) ++ (x4.map bv) ++ (x5.map bv) ++ ([v6]) ++ ([Value.bool true])) ++ (cs8 ++ ([] : List Value))).toArray)], R ++ (N6 ++ N8)]) (ms := [[(gr, 186, rrC sl a8 e8)], R ++ (N6 ++ N8)]) [[(g2, 42, ((([] : List Value) ++ (x1.map bv) ++ ([Value.int .u64 (x2 : Int)]) ++ ([Value.int .u64 (x3 : Int)]) ++ (x4.map bv) ++ (x5.map bv) ++ ([v6]) ++ ([Value.bool true])) ++ (cs8 ++ ([] : List Value))).toArray)], [(g3, 42, ((([] : List Value) ++ (x1.map bv) ++ ([Value.int .u64 (x2 : Int)]) ++ ([Value.int .u64 (x3 : Int)]) ++ (x4.map bv) ++ (x5.map bv) ++ ([v6]) ++ ([Value.bool true])) ++ (cs8 ++ ([] : List Value))).toArray)]] [0, 3, 1, 2] (by kernel_rfl) (by rfl) (by simp) (by simp) h) ⟨⟨x1, x2, x3, x4, x5, x6, true, ⟨x8, ks⟩⟩, a8, e8, N6 ++ N8, hAf, ⟨((([] : List Value) ++ (x1.map bv) ++ ([Value.int .u64 (x2 : Int)]) ++ ([Value.int .u64 (x3 : Int)]) ++ (x4.map bv) ++ (x5.map bv) ++ ([v6]) ++ ([Value.bool true])) ++ (cs8 ++ ([] : List Value))), rfl, hln, hon, hrp⟩, u8, v8_, rfl⟩

theorem readR_hdr {α : Type} {rep : Rdr → List Value → α → Prop} {p : Ps α} (hp : ∀ (w0 : Base) (gr : Nat) (sl : Value) (b : Byt) (at_ e : Nat) (R : Blocks), at_ ≤ b.length → e ≤ 200 → b.length ≤ 70368744177664 → BytR (rdW w0.world) sl b → ∀ w, St w0 w (RB gr sl at_ e R) → Calls Tryz.prog 58 #[ptr gr] w (Turns w0 (Rfd p (rowV 102 rep) gr sl b R at_ e))) (w : World) (v : Value) (b : Byt) (hv : BytR (rdW w) v b) (hl : b.length ≤ 70368744177664) :
    Calls Tryz.prog 21 #[v] w (GetsN w (RdE 102 (Z32 ++ ([Value.int .u64 0] ++ ([Value.int .u64 0] ++ (Z32 ++ (Z32 ++ ([Value.slice none 0 0] ++ ([Value.bool false] ++ ([Value.int .i64 0] ++ [Value.slice none 0 0])))))))) rep (allP p b))) := by
  refine Sy.enter (args := [v]) Tryz.func21 rfl kL ?_
  refine sC ?_
  refine sM 42 (Z32 ++ ([Value.int .u64 0] ++ ([Value.int .u64 0] ++ (Z32 ++ (Z32 ++ ([Value.slice none 0 0] ++ ([Value.bool false] ++ ([Value.int .i64 0] ++ [Value.slice none 0 0])))))))).toArray (fun g2 => ?_)
  refine sP (.int .i64 0) ?_
  refine sA ?_
  refine sp rfl ?_
  refine Sy.callN kR 51 #[v] kF _ (fun w' hw => beginR_any w' v b (hv.at hw)) (fun u M hM => ?_)
  obtain ⟨gr, rfl, rfl⟩ := hM
  refine sp rfl ?_
  refine sA ?_
  refine Sy.permS (M := RB gr v 0 0 [(g2, 42, (Z32 ++ ([Value.int .u64 0] ++ ([Value.int .u64 0] ++ (Z32 ++ (Z32 ++ ([Value.slice none 0 0] ++ ([Value.bool false] ++ ([Value.int .i64 0] ++ [Value.slice none 0 0])))))))).toArray)]) (Sy.perm_at [1, 0] (by kernel_rfl) (by rfl)) ?_
  refine sp rfl ?_
  refine Sy.callT (fun w' hw => hp (Base.of w) gr v b 0 0 [(g2, 42, (Z32 ++ ([Value.int .u64 0] ++ ([Value.int .u64 0] ++ (Z32 ++ (Z32 ++ ([Value.slice none 0 0] ++ ([Value.bool false] ++ ([Value.int .i64 0] ++ [Value.slice none 0 0])))))))).toArray)] (Nat.zero_le _) (Nat.zero_le _) hl hv w' hw) (fun u M hM => ?_)
  obtain ⟨x, a2, e2, N, q1, ⟨cs, rfl, q2, q3, q4⟩, q5, q6, rfl⟩ := hM
  obtain ⟨o1, o2⟩ := all_of q1
  refine sM 42 (Z32 ++ ([Value.int .u64 0] ++ ([Value.int .u64 0] ++ (Z32 ++ (Z32 ++ ([Value.slice none 0 0] ++ ([Value.bool false] ++ ([Value.int .i64 0] ++ [Value.slice none 0 0])))))))).toArray (fun g5 => ?_)
  refine Sy.movT (pre := [(gr, 186, rrC v a2 e2), (g2, 42, (Z32 ++ ([Value.int .u64 0] ++ ([Value.int .u64 0] ++ (Z32 ++ (Z32 ++ ([Value.slice none 0 0] ++ ([Value.bool false] ++ ([Value.int .i64 0] ++ [Value.slice none 0 0])))))))).toArray)]) (T := N) ?_
  refine sw 2 rfl cs.toArray (Writes.row 42 cs 102 _ _ rfl kR kR kR q2 (by kernel_rfl) q3) ?_
  refine sG ?_
  refine Sy.seq ?_
  refine sC ?_
  refine sp rfl ?_
  refine Sy.callT (fun w' hw => endedR_any (Base.of w) gr v b a2 e2 ((g2, 42, (Z32 ++ ([Value.int .u64 0] ++ ([Value.int .u64 0] ++ (Z32 ++ (Z32 ++ ([Value.slice none 0 0] ++ ([Value.bool false] ++ ([Value.int .i64 0] ++ [Value.slice none 0 0])))))))).toArray) :: (g5, 42, cs.toArray) :: N) q6 q5 hl hv w' hw) (fun u M hM => ?_)
  obtain ⟨rfl, rfl⟩ := hM
  obtain ⟨f, hf⟩ : ∃ f, f = if endN b a2 e2 ≠ 0 then 120 else 0 := ⟨_, rfl⟩
  rw [← hf]
  have hfl : f ≤ 200 := by rw [hf]; split <;> omega
  obtain ⟨b1, hb1⟩ : ∃ z : Bool, z = decide (f ≠ 0) := ⟨_, rfl⟩
  refine sS (.bool b1) (Quiet.pure (exec_int .neq _ _ _ .i64 _ _ _ rfl rfl rfl (int_neq _ _ _ _ _ (by rw [hb1]; exact decide_eq_decide.2 (by omega))))) ?_
  refine sG ?_
  cases b1
  · have l1 : f = 0 := Decidable.of_not_not (of_decide_eq_false hb1.symm)
    have l2 : endN b a2 e2 = 0 := by
      rw [hf] at l1
      by_cases h : endN b a2 e2 = 0
      · exact h
      · rw [if_pos h] at l1; cases l1
    have l3 : e2 = 0 ∧ b.drop a2 = [] := by
      unfold endN at l2
      by_cases h : e2 = 0 ∧ a2 < b.length
      · rw [if_pos h] at l2; cases l2
      · rw [if_neg h] at l2
        exact ⟨l2, List.drop_eq_nil_of_le (by omega)⟩
    refine sU ?_
    refine Sy.skip ?_
    refine sB ?_
    refine sS (.agg cs.toArray) (Quiet.mid 2 g5 0 102 42 42 cs cs _ _ rfl kR rfl Tryz.underlying42 rfl kR (by rw [List.drop_zero, List.take_of_length_le (by omega)]) (by omega)) <| sw 1 rfl cs.toArray (Writes.row 42 cs 102 _ _ rfl kR kR kR q2 (by kernel_rfl) q3) <| sP (.int .i64 0) ?_
    refine sG ?_
    refine Sy.ret ?_
    exact Sy.retGM2 N rfl (.inl (Sy.Res.cell (ty' := 42) g2 1 cs.toArray _ (by kernel_rfl) rfl Tryz.underlying42 rfl (by rw [List.size_toArray, q2]; kernel_rfl) rfl)) (.inl (show _ = _ by kernel_rfl)) (fun _ h => h.less (((List.sublist_cons_self (g5, 42, cs.toArray) N).cons (g2, 42, cs.toArray)).cons (gr, 186, rrC v a2 e2))) (.inl ⟨x, cs, o1 l3.1 l3.2, rfl, q2, q4⟩)
  · have l1 : f ≠ 0 := of_decide_eq_true hb1.symm
    have l3 : e2 ≠ 0 ∨ b.drop a2 ≠ [] := by
      by_cases h : e2 = 0 ∧ a2 < b.length
      · refine .inr (fun e => ?_)
        have := congrArg List.length e
        rw [List.length_drop] at this
        simp at this; omega
      · refine .inl (fun e => l1 ?_)
        rw [hf]; unfold endN; rw [if_neg h, e]; rfl
    refine sT ?_
    refine sC ?_
    refine sP (.agg (Z32 ++ ([Value.int .u64 0] ++ ([Value.int .u64 0] ++ (Z32 ++ (Z32 ++ ([Value.slice none 0 0] ++ ([Value.bool false] ++ ([Value.int .i64 0] ++ [Value.slice none 0 0])))))))).toArray) <| sw 1 rfl (Z32 ++ ([Value.int .u64 0] ++ ([Value.int .u64 0] ++ (Z32 ++ (Z32 ++ ([Value.slice none 0 0] ++ ([Value.bool false] ++ ([Value.int .i64 0] ++ [Value.slice none 0 0])))))))).toArray (wA rfl) <| sP (.int .i64 120) ?_
    refine sG ?_
    refine Sy.ret ?_
    refine Sy.then_ret ?_
    exact Sy.retGM2 [] rfl (.inl (Sy.Res.cell (ty' := 42) g2 1 (Z32 ++ ([Value.int .u64 0] ++ ([Value.int .u64 0] ++ (Z32 ++ (Z32 ++ ([Value.slice none 0 0] ++ ([Value.bool false] ++ ([Value.int .i64 0] ++ [Value.slice none 0 0])))))))).toArray _ (by kernel_rfl) rfl Tryz.underlying42 rfl (by kernel_rfl) rfl)) (.inl (show _ = _ by kernel_rfl)) (fun _ h => h.none) (.inr ⟨o2 l3, rfl, rfl⟩)
end Go.Proofs.YtgemfpnlnipfnaaGreat.Wr

end
section
namespace Go.Proofs.YtgemfpnlnipfnaaGreat.Wr
open Go.RowKit Go.Proofs.YtgemfpnlnipfnaaGreat Go.Proofs.YtgemfpnlnipfnaaGreat.Sy
set_option maxRecDepth 100000
set_option maxHeartbeats 4000000

def zHE : MHe := ⟨List.replicate 32 0, 0, 0, List.replicate 32 0, List.replicate 32 0, [], false, ⟨0, []⟩⟩
theorem zHE_rep (C : Rdr) : repHE C (Z32 ++ ([Value.int .u64 0] ++ ([Value.int .u64 0] ++ (Z32 ++ (Z32 ++ ([Value.slice none 0 0] ++ ([Value.bool false] ++ ([Value.int .i64 0] ++ [Value.slice none 0 0])))))))) zHE := ⟨.slice none 0 0, .slice none 0 0, rfl, rfl, rfl, rfl, by decide, by decide, BytR.nil _, none, 0, 0, rfl, rfl, Nat.le_refl _, Nat.zero_le _, fun h => (h rfl).elim⟩
theorem lenHE {C : Rdr} {cs : List Value} {t : MHe} (h : repHE C cs t) : cs.length = 102 := by
  obtain ⟨vr, vk, rfl, h1, h2, h3, _⟩ := h
  simp only [cHE, List.length_append, List.length_map, h1, h2, h3]
  rfl
theorem bind_inv {α β : Type} {p : Ps α} {q : α → Ps β} {l r : Byt} {x : β} (h : bindP p q l = some (x, r)) : ∃ y r1, p l = some (y, r1) ∧ q y r1 = some (x, r) := by
  cases hp : p l with
  | none => rw [bind_none hp] at h; cases h
  | some u =>
    obtain ⟨y, r1⟩ := u
    rw [bind_some hp] at h
    exact ⟨y, r1, rfl, h⟩
theorem text_le {most : Nat} {l r x : Byt} (h : textP most l = some (x, r)) : x.length ≤ most := by
  obtain ⟨n, r1, h1, h2⟩ := bind_inv h
  rw [(take_len h2).1]
  exact var_le h1
theorem rd_hed {raw r : Byt} {t : MHe} (h : rdHE raw = some (t, r)) : t.next.keys.length ≤ 16 ∧ t.reward.length ≤ 256 := by
  unfold rdHE at h
  obtain ⟨_, _, _, h⟩ := bind_inv h
  obtain ⟨_, _, _, h⟩ := bind_inv h
  obtain ⟨_, _, _, h⟩ := bind_inv h
  obtain ⟨_, _, _, h⟩ := bind_inv h
  obtain ⟨_, _, _, h⟩ := bind_inv h
  obtain ⟨w, _, hw, h⟩ := bind_inv h
  obtain ⟨c, _, _, h⟩ := bind_inv h
  obtain ⟨n, _, hn, h⟩ := bind_inv h
  cases h
  refine ⟨?_, text_le hw⟩
  cases c
  · rw [if_neg (by decide)] at hn
    cases hn
    exact Nat.zero_le _
  · rw [if_pos rfl] at hn
    exact rd_keys hn
theorem rd_hedZ (raw : Byt) : ((allP rdHE raw).getD zHE).next.keys.length ≤ 16 ∧ ((allP rdHE raw).getD zHE).reward.length ≤ 256 := by
  cases h : allP rdHE raw with
  | none => exact ⟨Nat.zero_le _, Nat.zero_le _⟩
  | some t => exact rd_hed (all_some h)
theorem law_wireheaders (w : World) (cs : List Value) (t : MHe) (hx : repHE (rdW w) cs t) (v : Value) (raw : Byt) (hv : BytR (rdW w) v raw) (hlo : t.next.keys.length ≤ 1048576) (hrl : t.reward.length ≤ 1048576) (hl : raw.length ≤ 1048576) :
    Calls Tryz.prog 4 #[.agg cs.toArray, v] w (Gets w (.bool true)) := by
  have hx0 := hx
  have lc := lenHE hx
  have hwt : wtHE t ≤ 70368744160000 := by unfold wtHE wtPA; rw [sum_32]; omega
  obtain ⟨o1, ho1⟩ : ∃ o1, o1 = allP rdHE raw := ⟨_, rfl⟩
  obtain ⟨y, hY⟩ : ∃ y, y = o1.getD zHE := ⟨_, rfl⟩
  obtain ⟨hyo, hyr⟩ : y.next.keys.length ≤ 16 ∧ y.reward.length ≤ 256 := by rw [hY, ho1]; exact rd_hedZ raw
  obtain ⟨e1, he1⟩ : ∃ e, e = erE (okHE t) := ⟨_, rfl⟩
  obtain ⟨b1, hb1⟩ : ∃ b, b = byE (okHE t) (encHE t) := ⟨_, rfl⟩
  obtain ⟨e3, he3⟩ : ∃ e, e = erE o1.isSome := ⟨_, rfl⟩
  obtain ⟨e5, he5⟩ : ∃ e, e = erE (okHE y) := ⟨_, rfl⟩
  obtain ⟨b5, hb5⟩ : ∃ b, b = byE (okHE y) (encHE y) := ⟨_, rfl⟩
  refine Sy.enter (args := [.agg cs.toArray, v]) Tryz.func4 rfl kL ?_
  refine sC ?_
  refine sM 42 cs.toArray (fun g3 => ?_) kR (fun w => run_boxR rfl rfl (by kernel_rfl) lc w)
  refine sP (.bool false) ?_
  refine sA ?_
  refine sS (.agg cs.toArray) (Quiet.mid 0 g3 0 102 42 42 cs cs _ _ rfl kR rfl Tryz.underlying42 rfl kR (by rw [List.drop_zero, List.take_of_length_le (by omega)]) (by omega)) ?_
  refine Sy.callN kR 18 #[.agg cs.toArray] kF (BytE (okHE t) (encHE t)) (fun w' hw => ex_hdr (rep := repHE) (ok := okHE) (enc := encHE) (wt := wtHE) monoHE header_w w' cs t (monoHE (fun g o u hu => rdC_world (w0 := Base.of w) (R := []) hw (fun _ h => by cases h) g o u (.inl hu)) hx0) lc (by omega)) (fun u M1 hM => ?_)
  obtain ⟨u1, rfl, k1⟩ := hM.uni
  rw [← he1]
  rw [← hb1] at k1
  refine sp rfl <| sp rfl <| sp rfl <| sp rfl <| sp rfl ?_
  refine sA ?_
  refine sS (.agg cs.toArray) (Quiet.mid 0 g3 0 102 42 42 cs cs _ _ rfl kR rfl Tryz.underlying42 rfl kR (by rw [List.drop_zero, List.take_of_length_le (by omega)]) (by omega)) ?_
  refine Sy.callN kR 19 #[.agg cs.toArray] kF (BytE (okHE t) (encHE t)) (fun w' hw => hedR_w w' t cs (monoHE (fun g o u hu => rdC_world (w0 := Base.of w) (R := []) hw (fun _ h => by cases h) g o u (.inl hu)) hx0) (by omega) (by omega)) (fun u M2 hM => ?_)
  obtain ⟨u2, rfl, k2⟩ := hM.uni
  rw [← he1]
  rw [← hb1] at k2
  refine sp rfl <| sp rfl <| sp rfl <| sp rfl <| sp rfl ?_
  refine sA ?_
  refine sp rfl ?_
  refine Sy.callN kR 20 #[v] kF (RdE 102 (Z32 ++ ([Value.int .u64 0] ++ ([Value.int .u64 0] ++ (Z32 ++ (Z32 ++ ([Value.slice none 0 0] ++ ([Value.bool false] ++ ([Value.int .i64 0] ++ [Value.slice none 0 0])))))))) repHE o1) (fun w' hw => by rw [ho1]; exact rdx_hdr (rep := repHE) (p := rdHE) monoHE (@oneHE) header_r w' v raw (hv.le (fun g o u hu => rdC_world (w0 := Base.of w) (R := []) hw (fun _ h => by cases h) g o u (.inl hu))) (by omega)) (fun u M3 hM => ?_)
  obtain ⟨cs3, rfl, l3, r3⟩ := hM.uni zHE (zHE_rep _) rfl
  rw [← he3]
  rw [← hY] at r3
  have l3a : cs3.length = 102 := l3
  refine sp rfl <| sp rfl <| sp rfl ?_
  refine sM 42 (Z32 ++ ([Value.int .u64 0] ++ ([Value.int .u64 0] ++ (Z32 ++ (Z32 ++ ([Value.slice none 0 0] ++ ([Value.bool false] ++ ([Value.int .i64 0] ++ [Value.slice none 0 0])))))))).toArray (fun g11 => ?_)
  refine Sy.permS List.perm_append_comm ?_
  refine sw 0 rfl cs3.toArray (Writes.row 42 cs3 102 _ _ rfl kR kR kR l3 (by kernel_rfl) (oneHE r3)) <| sp rfl ?_
  refine sA ?_
  refine sp rfl ?_
  refine Sy.callN kR 21 #[v] kF (RdE 102 (Z32 ++ ([Value.int .u64 0] ++ ([Value.int .u64 0] ++ (Z32 ++ (Z32 ++ ([Value.slice none 0 0] ++ ([Value.bool false] ++ ([Value.int .i64 0] ++ [Value.slice none 0 0])))))))) repHE o1) (fun w' hw => by rw [ho1]; exact readR_hdr (rep := repHE) (p := rdHE) hedM_any w' v raw (hv.le (fun g o u hu => rdC_world (w0 := Base.of w) (R := []) hw (fun _ h => by cases h) g o u (.inl hu))) (by omega)) (fun u M4 hM => ?_)
  obtain ⟨cs4, rfl, l4, r4⟩ := hM.uni zHE (zHE_rep _) rfl
  rw [← he3]
  rw [← hY] at r4
  have l4a : cs4.length = 102 := l4
  refine sp rfl <| sp rfl <| sp rfl ?_
  refine sM 42 (Z32 ++ ([Value.int .u64 0] ++ ([Value.int .u64 0] ++ (Z32 ++ (Z32 ++ ([Value.slice none 0 0] ++ ([Value.bool false] ++ ([Value.int .i64 0] ++ [Value.slice none 0 0])))))))).toArray (fun g13 => ?_)
  refine Sy.permS List.perm_append_comm ?_
  refine sw 0 rfl cs4.toArray (Writes.row 42 cs4 102 _ _ rfl kR kR kR l4 (by kernel_rfl) (oneHE r4)) <| sp rfl ?_
  refine sA ?_
  refine sS (.agg cs3.toArray) (Quiet.mid 1 g11 0 102 42 42 cs3 cs3 _ _ rfl kR rfl Tryz.underlying42 rfl kR (by rw [List.drop_zero, List.take_of_length_le (by omega)]) (by omega)) ?_
  refine Sy.callN kR 19 #[.agg cs3.toArray] kF (BytE (okHE y) (encHE y)) (fun w' hw => hedR_w w' y cs3 (monoHE (rdB_world hw (fun b hb => by simp [hb])) r3) (by omega) (by omega)) (fun u M5 hM => ?_)
  obtain ⟨u5, rfl, k5⟩ := hM.uni
  rw [← he5]
  rw [← hb5] at k5
  refine sp rfl <| sp rfl <| sp rfl <| sp rfl <| sp rfl ?_
  refine sA ?_
  refine sS (.agg cs4.toArray) (Quiet.mid 0 g13 0 102 42 42 cs4 cs4 _ _ rfl kR rfl Tryz.underlying42 rfl kR (by rw [List.drop_zero, List.take_of_length_le (by omega)]) (by omega)) ?_
  refine Sy.callN kR 19 #[.agg cs4.toArray] kF (BytE (okHE y) (encHE y)) (fun w' hw => hedR_w w' y cs4 (monoHE (rdB_world hw (fun b hb => by simp [hb])) r4) (by omega) (by omega)) (fun u M6 hM => ?_)
  obtain ⟨u6, rfl, k6⟩ := hM.uni
  rw [← he5]
  rw [← hb5] at k6
  refine sp rfl <| sp rfl <| sp rfl <| sp rfl <| sp rfl ?_
  refine sA ?_
  refine sS (.bool true) (qg (fun w' hw => alive12 w')) <| sp rfl <| sp rfl <| sp rfl <| sS (.bool true) (qg (fun w' hw => by have q := same_any w' u1 u2 b1 b1 (k1.le (rdB_world hw (fun b hb => by simp [hb]))) (k2.le (rdB_world hw (fun b hb => by simp [hb]))); rw [decide_eq_true rfl] at q; exact q)) <| sP (.bool true) ?_
  refine sp rfl <| sp rfl <| sp rfl <| sS (.bool true) (Quiet.pure (exec_int .eql _ _ _ .i64 _ _ _ rfl rfl rfl (int_eql _ _ _ _ _ (decide_eq_true rfl)))) <| sP (.bool true) ?_
  refine sp rfl <| sp rfl <| sp rfl <| sS (.bool true) (Quiet.pure (exec_int .eql _ _ _ .i64 _ _ _ rfl rfl rfl (int_eql _ _ _ _ _ (decide_eq_true rfl)))) <| sP (.bool true) ?_
  refine sp rfl <| sp rfl <| sp rfl <| sS (.bool true) (qg (fun w' hw => by have q := same_any w' u5 u6 b5 b5 (k5.le (rdB_world hw (fun b hb => by simp [hb]))) (k6.le (rdB_world hw (fun b hb => by simp [hb]))); rw [decide_eq_true rfl] at q; exact q)) <| sP (.bool true) <| sp rfl ?_
  refine sG ?_
  refine Sy.ret ?_
  exact rV (.bool true) rfl
end Go.Proofs.YtgemfpnlnipfnaaGreat.Wr

end
