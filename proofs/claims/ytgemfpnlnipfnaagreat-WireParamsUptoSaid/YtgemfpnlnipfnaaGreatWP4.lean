/-
  Texts of ours, put together: WirBD, WireParamsL.
-/
import Derived.Test.YtgemfpnlnipfnaaGreatWP3
set_option linter.unusedVariables false
set_option linter.unusedSimpArgs false
section
namespace Go.Proofs.YtgemfpnlnipfnaaGreat.Wr
open Go.RowKit Go.Proofs.YtgemfpnlnipfnaaGreat Go.Proofs.YtgemfpnlnipfnaaGreat.Sy
set_option maxRecDepth 100000
set_option maxHeartbeats 4000000

theorem flat_key {l : List Byt} (h : ∀ o ∈ l, o.length = 32) : (l.flatMap fun k => k).length = 32 * l.length := by
  induction l with
  | nil => rfl
  | cons o l ih => rw [List.flatMap_cons, List.length_append, h o (List.mem_cons_self ..), ih (fun x hx => h x (List.mem_cons_of_mem _ hx)), List.length_cons]; omega
theorem sum_32 (l : List Byt) : (l.map fun _ => 32).sum = 32 * l.length := by
  induction l with
  | nil => rfl
  | cons o l ih => rw [List.map_cons, List.sum_cons, ih, List.length_cons]; omega
theorem parW_any (w0 : Base) (gw : Nat) (bad : Bool) (s : Slc) (R : Blocks) (b : Byt) (t : MPa) (v : Value) (h2 : LstR (rdW w0.world) 32 repDG v t.keys) (hb : BS s b) (hlo : t.keys.length ≤ 1000000000000) (hl : b.length + wtPA t ≤ 70368744170000) (w : World) (hw : St w0 w (WB gw bad s R)) :
    Calls Tryz.prog 81 #[ptr gw, .agg #[.int .i64 t.t, v]] w (Turns w0 (Wd gw R (okPA t) (encPA t) (wtPA t) bad b)) := by
  have hcl : ∀ o ∈ t.keys, o.length = 32 := lst_all (q := fun o : Byt => o.length = 32) h2 (fun cs x h => h.2)
  obtain ⟨A, n, cp, rfl, k2, k3, k4, k5⟩ := h2
  have hwt : wtPA t = 1 + (9 + 32 * t.keys.length) := by unfold wtPA; rw [sum_32]
  rw [hwt] at hl
  refine Sy.enterT (args := [ptr gw, .agg #[.int .i64 t.t, .slice A n cp]]) hw Tryz.func81 rfl kL ?_
  refine sC ?_
  refine sM 40 #[.int .i64 t.t, .slice A n cp] (fun g3 => ?_)
  refine Sy.permS (M := WB gw bad s (R ++ [(g3, 40, #[.int .i64 t.t, .slice A n cp])])) (List.Perm.of_eq (by simp only [List.append_assoc])) ?_
  have c0 : rdC w0.inn [(g3, 40, #[.int .i64 t.t, .slice A n cp])] g3 0 (.int .i64 t.t) := .inr ⟨_, _, List.mem_singleton.2 rfl, rfl⟩
  have c1 : rdC w0.inn [(g3, 40, #[.int .i64 t.t, .slice A n cp])] g3 1 (.slice A n cp) := .inr ⟨_, _, List.mem_singleton.2 rfl, rfl⟩
  refine sA ?_
  refine sp rfl <| sP (.pointer (some ⟨g3, 0, none⟩)) <| sS (.int .i64 t.t) (cellC (R := [(g3, 40, #[.int .i64 t.t, .slice A n cp])]) c0 (fun y hy => inWB (List.mem_append_right R hy)) rfl Tryz.underlying3) ?_
  refine Sy.callT (fun w hw => smallW_any w0.inn gw bad s (R ++ [(g3, 40, #[.int .i64 t.t, .slice A n cp])]) b 0 255 t.t hb (by omega) w hw) (fun v M hM => ?_)
  obtain ⟨r1, bad1, b1, q1, q2, rfl⟩ := hM
  have hl1 := q1.len
  refine sA ?_
  refine sp rfl <| sP (.pointer (some ⟨g3, 1, none⟩)) <| sS (.slice A n cp) (cellC (R := [(g3, 40, #[.int .i64 t.t, .slice A n cp])]) c1 (fun y hy => inWB (List.mem_append_right R hy)) rfl Tryz.underlying38) <| sP (.int .i64 (n : Int)) ?_
  refine Sy.callT (fun w hw => manyW_any w0.inn gw bad1 r1 (R ++ [(g3, 40, #[.int .i64 t.t, .slice A n cp])]) b1 n 16 (by omega) (by decide) q2 (by omega) w hw) (fun v M hM => ?_)
  obtain ⟨s2, bad2, b2, q3, q4, rfl⟩ := hM
  have hl2 := q3.len
  refine sA ?_
  refine sP (.int .i64 0) ?_
  refine sG ?_
  refine Sy.block ?_
  refine Sy.loopT (Y := Slc) n (fun i _ => [(0, ptr gw), (3, ptr g3), (4, .int .i64 (i : Int))]) (fun _ y => WB gw bad2 y (R ++ [(g3, 40, #[.int .i64 t.t, .slice A n cp])])) (fun i y => BS y (b2 ++ (t.keys.take i).flatMap fun k => k)) s2 (by show BS s2 (b2 ++ []); rw [List.append_nil]; exact q4) (all_cons kR (all_cons kR (all_cons kR all_nil))) (fun _ h => h) (fun i y hi hy => ?_)
  refine Sy.seq ?_
  refine sC ?_
  obtain ⟨b3, hb3⟩ : ∃ z : Bool, z = decide (i < n) := ⟨_, rfl⟩
  refine sp rfl <| sP (.pointer (some ⟨g3, 1, none⟩)) <| sS (.slice A n cp) (cellC (R := [(g3, 40, #[.int .i64 t.t, .slice A n cp])]) c1 (fun y hy => inWB (List.mem_append_right R hy)) rfl Tryz.underlying38) <| sP (.int .i64 (n : Int)) <| sS (.bool b3) (Quiet.pure (exec_int .lss _ _ _ .i64 _ _ _ rfl rfl rfl (int_lss _ _ _ _ _ (by rw [hb3]; exact decide_eq_decide.2 (by omega))))) ?_
  refine sG ?_
  have htl : ((t.keys.take i).flatMap fun k => k).length ≤ 32 * i := by
    rw [flat_key (fun o ho => hcl o (List.mem_of_mem_take ho)), List.length_take]; omega
  cases b3
  case' false =>
    have l3 : ¬ i < n := of_decide_eq_false hb3.symm
    obtain rfl : i = n := by omega
    rw [List.take_of_length_le (by omega)] at hy
    refine sU ?_
    refine Sy.exit ?_
    refine Sy.then_exit ?_
    refine Sy.then_exit ?_
    refine Sy.in_exit ?_
    have q := q1.then_ (q3.then_ (Wrote.raw (t.keys.flatMap fun k => k) bad2 b2 (k := 32 * t.keys.length) (by rw [flat_key hcl]; exact Nat.le_refl _)))
    rw [Bool.and_true, ← k2] at q
    rw [hwt]
    exact Sy.retT0 rfl (WB gw bad2 y R) (fun _ h => dropW h) (fun _ => ⟨y, bad2, _, q, hy, rfl⟩)
  have l3 : i < n := of_decide_eq_true hb3.symm
  obtain ⟨x, hx⟩ : ∃ x, t.keys[i]? = some x := ⟨_, List.getElem?_eq_getElem (by omega)⟩
  obtain ⟨g, o, hA, hq⟩ := k5 (by intro e; rw [e] at hx; cases hx)
  obtain ⟨cs, _, _, ⟨rfl, x3⟩, hX⟩ := hq i x hx
  have d1 : XAt (rdC w0.inn []) g (o + i * 32) (x.map bv) := fun j u hu => .inl (hX j u hu)
  have m1 : (x.map bv).length = 32 := by rw [List.length_map, x3]
  have hyl : (b2 ++ (t.keys.take i).flatMap fun k => k).length ≤ b2.length + 32 * i := by rw [List.length_append]; omega
  refine sT ?_
  refine Sy.skip ?_
  refine Sy.then_ ?_
  refine Sy.seq ?_
  refine Sy.block ?_
  refine Sy.region ?_
  refine sp rfl <| sP (.pointer (some ⟨g3, 1, none⟩)) <| sS (.slice A n cp) (cellC (R := [(g3, 40, #[.int .i64 t.t, .slice A n cp])]) c1 (fun y hy => inWB (List.mem_append_right R hy)) rfl Tryz.underlying38) <| sp rfl <| sS (.pointer (some ⟨g, o + i * 32, none⟩)) (Quiet.pure (exec_atO 38 _ _ _ A g o n cp i 32 .i64 hA rfl rfl rfl Tryz.underlying38 kF l3)) <| sS (.agg (x.map bv).toArray) (rowC (R := []) d1 (fun y hy => by cases hy) m1 rfl Tryz.underlying236) ?_
  refine Sy.callT (fun w hw => digW_any w0.inn gw bad2 y (R ++ [(g3, 40, #[.int .i64 t.t, .slice A n cp])]) _ x x3 hy (by omega) w hw) (fun v M hM => ?_)
  obtain ⟨r5, hr5, rfl⟩ := hM
  refine Sy.nil ?_
  refine Sy.in_ ?_
  refine Sy.then_ ?_
  refine Sy.region ?_
  refine sp rfl <| sS (.int .i64 ((i + 1 : Nat) : Int)) (Quiet.pure (exec_int .add _ _ _ .i64 _ _ _ rfl rfl rfl (int_add _ _ _ _ _ ((wrap_i64 (by omega) (by omega)).trans (by omega))))) <| sp rfl ?_
  refine Sy.nil ?_
  have e : b2 ++ ((t.keys.take (i + 1)).flatMap fun k => k) = b2 ++ ((t.keys.take i).flatMap fun k => k) ++ x := by
    rw [List.take_add_one, hx, List.flatMap_append]
    show b2 ++ (((t.keys.take i).flatMap fun k => k) ++ (x ++ [])) = _
    simp only [List.append_assoc, List.append_nil]
  exact Sy.againT r5 l3 (by show BS r5 (b2 ++ ((t.keys.take (i + 1)).flatMap fun k => k)); rw [e]; exact hr5) (all_cons kR (all_cons kR (all_cons kR all_nil))) (fun w h => h)
theorem parR_w (w : World) (t : MPa) (v : Value) (h2 : LstR (rdW w) 32 repDG v t.keys) (hlo : t.keys.length ≤ 1000000000) :
    Calls Tryz.prog 39 #[.agg #[.int .i64 t.t, v]] w (GetsN w (BytE (okPA t) (encPA t))) := by
  have h20 := h2
  obtain ⟨A, n, cp, rfl, k2, k3, k4, k5⟩ := h2
  have hwt : wtPA t ≤ 70368744160000 := by unfold wtPA; rw [sum_32]; omega
  refine Sy.enter (args := [.agg #[.int .i64 t.t, .slice A n cp]]) Tryz.func39 rfl kL ?_
  refine sC ?_
  refine sM 40 #[.int .i64 t.t, .slice A n cp] (fun g1 => ?_)
  refine sP (.slice none 0 0) <| sP (.int .i64 0) ?_
  refine sA ?_
  refine sP (.agg #[.slice none 0 0, .bool false]) <| sM 99 #[.slice none 0 0, .bool false] (fun gw => ?_)
  refine sp rfl ?_
  refine sA ?_
  refine Sy.permS (M := WB gw false nilS [(g1, 40, #[.int .i64 t.t, .slice A n cp])]) (Sy.perm_at [1, 0] (by kernel_rfl) (by rfl)) ?_
  refine sp rfl <| sS (.agg #[.int .i64 t.t, .slice A n cp]) (qk 1 0 2 rfl rfl Tryz.underlying40) ?_
  refine Sy.callT (fun w' hw => parW_any (Base.of w) gw false nilS [(g1, 40, #[.int .i64 t.t, .slice A n cp])] [] t (.slice A n cp) h20 BS.nil (by omega) (by show 0 + _ ≤ _; omega) w' hw) (fun u M hM => ?_)
  obtain ⟨s', bad, b', q1, q2, rfl⟩ := hM
  have qb := q1.bad
  refine sA ?_
  refine sp rfl ?_
  refine Sy.callT (fun w' hw => doneW_any (Base.of w) gw bad s' [(g1, 40, #[.int .i64 t.t, .slice A n cp])] w' hw) (fun u M hM => ?_)
  obtain ⟨rfl, rfl⟩ := hM
  cases bad
  · have hok : okPA t = true := by
      cases h : okPA t with
      | true => rfl
      | false => rw [h] at qb; cases qb
    have hbb : b' = encPA t := q1.bytes rfl
    rw [if_neg (by decide)]
    refine sp rfl <| sp rfl <| sp rfl <| sp rfl ?_
    refine sG ?_
    refine Sy.ret ?_
    exact Sy.retGM2 s'.bl rfl (.inl (show _ = _ by kernel_rfl)) (.inl (show _ = _ by kernel_rfl)) (fun _ h => h.less ((List.sublist_append_left _ _).trans (List.sublist_append_right _ _))) (.inl ⟨hok, _, rfl, by rw [← hbb]; exact q2.as⟩)
  · have hok : okPA t = false := by
      cases h : okPA t with
      | false => rfl
      | true => rw [h] at qb; cases qb
    rw [if_pos rfl]
    refine sp rfl <| sp rfl <| sp rfl <| sp rfl ?_
    refine sG ?_
    refine Sy.ret ?_
    exact Sy.retGM2 [] rfl (.inl (show _ = _ by kernel_rfl)) (.inl (show _ = _ by kernel_rfl)) (fun _ h => h.none) (.inr ⟨hok, rfl, rfl⟩)
theorem parM_any (w0 : Base) (gr : Nat) (sl : Value) (b : Byt) (at_ e : Nat) (R : Blocks) (hat : at_ ≤ b.length) (he : e ≤ 200) (hl : b.length ≤ 70368744177664) (hv : BytR (rdW w0.world) sl b) (w : World) (hw : St w0 w (RB gr sl at_ e R)) :
    Calls Tryz.prog 83 #[ptr gr] w (Turns w0 (Rfd rdPA (rowV 2 repPA) gr sl b R at_ e)) := by
  refine Sy.enterT (args := [ptr gr]) hw Tryz.func83 rfl kL ?_
  refine sC ?_
  refine sM 40 #[.int .i64 0, .slice none 0 0] (fun g2 => ?_)
  refine Sy.movT (pre := [(gr, 186, rrC sl at_ e)]) (T := R) ?_
  refine sA ?_
  refine sM 40 #[.int .i64 0, .slice none 0 0] (fun g3 => ?_)
  refine Sy.movT (pre := [(gr, 186, rrC sl at_ e), (g2, 40, #[.int .i64 0, .slice none 0 0])]) (T := R) ?_
  refine sA ?_
  refine sp rfl ?_
  refine Sy.callT (fun w hw => smallM_any 0 255 w0.inn gr sl b at_ e ((g2, 40, #[.int .i64 0, .slice none 0 0]) :: (g3, 40, #[.int .i64 0, .slice none 0 0]) :: R) hat he hl hv w hw) (fun u M hM => ?_)
  obtain ⟨x0, a1, e1, N1, p1, ⟨rfl, rfl⟩, p3, p4, rfl⟩ := hM
  rw [sml_oct] at p1
  rw [List.append_nil]
  refine sP (.pointer (some ⟨g3, 0, none⟩)) <| sw 2 rfl #[.int .i64 x0, .slice none 0 0] (wO 0 3 (.int .i64 x0) rfl) ?_
  refine sA ?_
  refine sp rfl ?_
  refine Sy.callT (fun w hw => manyM_any w0.inn gr sl b a1 e1 16 ((g2, 40, #[.int .i64 0, .slice none 0 0]) :: (g3, 40, #[.int .i64 x0, .slice none 0 0]) :: R) p3 p4 (by decide) hl hv w hw) (fun u M hM => ?_)
  obtain ⟨n, a2, e2, N2, q1, ⟨rfl, q2, rfl⟩, q3, q4, rfl⟩ := hM
  rw [List.append_nil]
  refine sp rfl ?_
  refine sG ?_
  refine Sy.seq ?_
  refine sC ?_
  refine sP (.int .i64 0) ?_
  refine sG ?_
  refine Sy.block ?_
  refine Sy.loopT (Y := RLst Byt) n (fun i _ => [(0, ptr gr), (2, ptr g2), (3, ptr g3), (4, .int .i64 (n : Int)), (5, .int .i64 (i : Int))]) (fun _ y => [(gr, 186, rrC sl y.at_ y.e), (g2, 40, #[.int .i64 0, .slice none 0 0]), (g3, 40, #[.int .i64 x0, y.r.v])] ++ (y.r.bl ++ R)) (fun i y => After (repP (takeP 32) i) ⟨b.drop a2, e2⟩ y.xs ⟨b.drop y.at_, y.e⟩ ∧ y.at_ ≤ b.length ∧ y.e ≤ 200 ∧ y.xs.length = i ∧ RowsOk 236 32 repDG y.r [] y.xs) ⟨a2, e2, [], nilS⟩ ⟨After.ret [] _, q3, q4, rfl, RowsOk.nil⟩ (all_cons kR (all_cons kR (all_cons kR (all_cons kR (all_cons kR all_nil))))) (fun _ h => h) (fun i y hi hy => ?_)
  obtain ⟨a, f, xs, r⟩ := y
  obtain ⟨y1, y2, y3, y4, y5⟩ := hy
  dsimp only at y1 y2 y3 y4 y5 ⊢
  obtain ⟨b3, hb3⟩ : ∃ z : Bool, z = decide (i < n ∧ f = 0) := ⟨_, rfl⟩
  refine Sy.seq ?_
  refine Sy.seq ?_
  refine cutC [(0, ptr gr), (2, ptr g2), (3, ptr g3), (4, .int .i64 (n : Int)), (5, .int .i64 (i : Int)), (17, .bool b3)] ([(gr, 186, rrC sl a f), (g2, 40, #[.int .i64 0, .slice none 0 0]), (g3, 40, #[.int .i64 x0, r.v])] ++ (r.bl ++ R)) ?_ ?_
  · refine Sy.region ?_
    obtain ⟨b1, hb1⟩ : ∃ z : Bool, z = decide (i < n) := ⟨_, rfl⟩
    refine sp rfl <| sp rfl <| sS (.bool b1) (Quiet.pure (exec_int .lss _ _ _ .i64 _ _ _ rfl rfl rfl (int_lss _ _ _ _ _ (by rw [hb1]; exact decide_eq_decide.2 (by omega))))) <| sp rfl ?_
    cases b1
    · obtain rfl : b3 = false := by rw [hb3]; exact decide_eq_false (fun h => of_decide_eq_false hb1.symm h.1)
      refine sN <| sN <| sP (.bool false) ?_
      refine Sy.nil ?_
      exact meet (all_cons kR (all_cons kR (all_cons kR (all_cons kR (all_cons kR (all_cons kR all_nil)))))) (fun _ h => h)
    · obtain ⟨b2, hb2⟩ : ∃ z : Bool, z = decide (f = 0) := ⟨_, rfl⟩
      obtain rfl : b3 = b2 := by rw [hb3, hb2]; exact decide_eq_decide.2 ⟨fun h => h.2, fun h => ⟨of_decide_eq_true hb1.symm, h⟩⟩
      refine sp rfl <| sS (.bool b3) (qg (fun w hw => by rw [hb2]; exact okM_any w0.inn gr sl a f (List.mem_cons_self ..) w hw)) <| sP (.bool b3) ?_
      refine Sy.nil ?_
      exact meet (all_cons kR (all_cons kR (all_cons kR (all_cons kR (all_cons kR (all_cons kR all_nil)))))) (fun _ h => h)
  refine Sy.then_ ?_
  cases b3
  case' false =>
    have l3 : ¬ (i < n ∧ f = 0) := of_decide_eq_false hb3.symm
    have hA : After (repP (takeP 32) n) ⟨b.drop a2, e2⟩ xs ⟨b.drop a, f⟩ := by
      by_cases h : i < n
      · exact y1.stop (fun h0 => l3 ⟨h, h0⟩) hi
      · obtain rfl : i = n := by omega
        exact y1
    have hrc : r.v.oneCell' = true := by obtain ⟨ys, h1, _⟩ := y5; exact h1.cells.2
    have hon : ∀ u ∈ [Value.int .i64 x0, r.v], u.oneCell' = true := fun u hu => by
      rcases List.mem_cons.1 hu with rfl | hu
      · rfl
      · rw [List.mem_singleton.1 hu]; exact hrc
    refine sU ?_
    refine Sy.exit ?_
    refine Sy.then_exit ?_
    refine Sy.then_exit ?_
    refine Sy.in_exit ?_
    refine Sy.then_ ?_
    refine sC ?_
    refine sS (.agg #[.int .i64 x0, r.v]) (qk 2 0 2 rfl rfl Tryz.underlying40) <| sw 1 rfl #[.int .i64 x0, r.v] (Writes.row 40 [.int .i64 x0, r.v] 2 _ _ rfl kR kR kR rfl (by kernel_rfl) hon) ?_
    refine sG ?_
    refine Sy.ret ?_
    exact Sy.retT1 (RB gr sl a f (R ++ r.bl)) rfl (.inl (Sy.Res.cell (ty' := 40) g2 1 #[.int .i64 x0, r.v] _ (by kernel_rfl) rfl Tryz.underlying40 rfl (by kernel_rfl) rfl)) (fun _ h => Sy.St.parts (L := [(gr, 186, rrC sl a f), (g2, 40, #[.int .i64 x0, r.v]), (g3, 40, #[.int .i64 x0, r.v])] ++ (r.bl ++ R)) (ls := [[(gr, 186, rrC sl a f)], [(g2, 40, #[.int .i64 x0, r.v])], [(g3, 40, #[.int .i64 x0, r.v])], r.bl, R]) (ms := [[(gr, 186, rrC sl a f)], R, r.bl]) [[(g2, 40, #[.int .i64 x0, r.v])], [(g3, 40, #[.int .i64 x0, r.v])]] [0, 4, 3, 1, 2] (by kernel_rfl) (by rfl) (by simp) (by simp) h) ⟨⟨x0, xs⟩, a, f, r.bl, p1.bind ((q1.bind hA).bind (After.ret _ _)), ⟨_, rfl, rfl, hon, ⟨r.v, rfl, RowsOk.lst (rep := repDG) (N := []) monoDG y5⟩⟩, y2, y3, rfl⟩
  obtain ⟨l1, l2⟩ : i < n ∧ f = 0 := of_decide_eq_true hb3.symm
  obtain ⟨ys, t1, t2, t3⟩ := y5
  refine sT ?_
  refine Sy.skip ?_
  refine Sy.then_ ?_
  refine Sy.seq ?_
  refine Sy.block ?_
  refine Sy.regionD (fun j => j == 3 || j == 5 || j == 7) kR ?_
  refine sb 0 rfl (.pointer (some ⟨g3, 1, none⟩)) <| sa 2 rfl rfl ?_
  refine Sy.joinG (T := Byt × Nat × Nat × Nat) (fun y => [(0, ptr gr), (2, ptr g2), (3, ptr g3), (4, .int .i64 (n : Int)), (5, .int .i64 (i : Int)), (21, r.v), (23, .agg (y.1.map bv).toArray), (24, .slice (some ⟨y.2.2.2, 0, none⟩) 1 1)]) (fun y => [(gr, 186, rrC sl y.2.1 y.2.2.1), (g2, 40, #[.int .i64 0, .slice none 0 0]), (g3, 40, #[.int .i64 x0, r.v]), (y.2.2.2, 236, (y.1.map bv).toArray)] ++ (r.bl ++ R)) (fun y => After (takeP 32) ⟨b.drop a, f⟩ y.1 ⟨b.drop y.2.1, y.2.2.1⟩ ∧ y.1.length = 32 ∧ y.2.1 ≤ b.length ∧ y.2.2.1 ≤ 200) 3 #[true, true, true, true, true, false, false, false] (fun y hy => ?_) (fun k => ?_)
  case refine_2 =>
    refine Sy.anyOf [1, 3] (by kernel_rfl) (by decide) (Sy.each2 ?_ ?_)
    · refine Sy.oneQuiet rfl (by kernel_rfl) r.v (qc 2 1 rfl rfl Tryz.underlying38) ?_
      refine Sy.soleD 3 rfl (fun Q2 hq2 => ?_)
      refine Sy.callT (fun w hw => digM_any w0.inn gr sl b a f ((g2, 40, #[.int .i64 0, .slice none 0 0]) :: (g3, 40, #[.int .i64 x0, r.v]) :: (r.bl ++ R)) y2 y3 hl hv w hw) (fun u M hM => ?_)
      obtain ⟨x2, a4, e4, N4, s1, ⟨rfl, s2, rfl⟩, s3, s4, rfl⟩ := hM
      rw [List.append_nil ((g2, 40, #[.int .i64 0, .slice none 0 0]) :: (g3, 40, #[.int .i64 x0, r.v]) :: (r.bl ++ R))]
      refine hq2 _ _ ?_
      refine Sy.makeD 4 rfl kR kR 236 (x2.map bv).toArray (fun g => .slice (some ⟨g, 0, none⟩) 1 1) (Makes.one 38 236 _ _ 32 _ (x2.map bv) rfl kR Tryz.underlying38 info_key rfl rfl (by rw [List.length_map, s2]) (by decide) (by decide)) (fun g7 => ?_)
      exact leafE k (x2, a4, e4, g7) ⟨s1, s2, s3, s4⟩ rfl (all_cons kR (all_cons kR (all_cons kR (all_cons kR (all_cons kR (all_cons kR (all_cons kR (all_cons kR all_nil)))))))) (Sy.mov_perm (pre := [(gr, 186, rrC sl a4 e4), (g2, 40, #[.int .i64 0, .slice none 0 0]), (g3, 40, #[.int .i64 x0, r.v])]) (T := r.bl ++ R))
    · refine oneE rfl (by kernel_rfl) rfl (fun Q2 hq2 => ?_)
      refine Sy.callT (fun w hw => digM_any w0.inn gr sl b a f ((g2, 40, #[.int .i64 0, .slice none 0 0]) :: (g3, 40, #[.int .i64 x0, r.v]) :: (r.bl ++ R)) y2 y3 hl hv w hw) (fun u M hM => ?_)
      obtain ⟨x2, a4, e4, N4, s1, ⟨rfl, s2, rfl⟩, s3, s4, rfl⟩ := hM
      rw [List.append_nil ((g2, 40, #[.int .i64 0, .slice none 0 0]) :: (g3, 40, #[.int .i64 x0, r.v]) :: (r.bl ++ R))]
      refine hq2 _ _ ?_
      refine Sy.anyOf [1, 4] (by kernel_rfl) (by decide) (Sy.each2 ?_ ?_)
      · refine Sy.oneQuiet rfl (by kernel_rfl) r.v (qc 2 1 rfl rfl Tryz.underlying38) ?_
        refine Sy.makeD 4 rfl kR kR 236 (x2.map bv).toArray (fun g => .slice (some ⟨g, 0, none⟩) 1 1) (Makes.one 38 236 _ _ 32 _ (x2.map bv) rfl kR Tryz.underlying38 info_key rfl rfl (by rw [List.length_map, s2]) (by decide) (by decide)) (fun g7 => ?_)
        exact leafE k (x2, a4, e4, g7) ⟨s1, s2, s3, s4⟩ rfl (all_cons kR (all_cons kR (all_cons kR (all_cons kR (all_cons kR (all_cons kR (all_cons kR (all_cons kR all_nil)))))))) (Sy.mov_perm (pre := [(gr, 186, rrC sl a4 e4), (g2, 40, #[.int .i64 0, .slice none 0 0]), (g3, 40, #[.int .i64 x0, r.v])]) (T := r.bl ++ R))
      · refine Sy.oneMake rfl (by kernel_rfl) 236 (x2.map bv).toArray (fun g => .slice (some ⟨g, 0, none⟩) 1 1) (Makes.one 38 236 _ _ 32 _ (x2.map bv) rfl kR Tryz.underlying38 info_key rfl rfl (by rw [List.length_map, s2]) (by decide) (by decide)) (fun g7 => ?_)
        refine Sy.anyOf [1] (by kernel_rfl) (by decide) (Sy.each1 ?_)
        refine Sy.oneQuiet rfl (by kernel_rfl) r.v (qc 2 1 rfl rfl Tryz.underlying38) ?_
        exact leafE k (x2, a4, e4, g7) ⟨s1, s2, s3, s4⟩ rfl (all_cons kR (all_cons kR (all_cons kR (all_cons kR (all_cons kR (all_cons kR (all_cons kR (all_cons kR all_nil)))))))) (Sy.mov_perm (pre := [(gr, 186, rrC sl a4 e4), (g2, 40, #[.int .i64 0, .slice none 0 0]), (g3, 40, #[.int .i64 x0, r.v])]) (T := r.bl ++ R))
  obtain ⟨x2, a4, e4, g7⟩ := y
  obtain ⟨s1, s2, s3, s4⟩ := hy
  dsimp only at s1 s2 s3 s4 ⊢
  have m2 : (x2.map bv).length = 32 := by rw [List.length_map, s2]
  refine Sy.soleD 5 rfl (fun Q2 hq2 => ?_)
  refine Sy.appendR (pre := [(gr, 186, rrC sl a4 e4), (g2, 40, #[.int .i64 0, .slice none 0 0]), (g3, 40, #[.int .i64 x0, r.v]), (g7, 236, (x2.map bv).toArray)]) (T := R) kR 38 236 _ _ 32 32 Tryz.underlying38 info_key rfl rfl rfl rfl (by decide) _ _ rfl t1 kR (x2.map bv) m2 (ones_bv x2) 3 g7 236 kR kR (by omega) (by simp only [maxLen]; omega) (fun r' hr' => ?_)
  refine hq2 _ _ ?_
  refine sb 6 rfl (.pointer (some ⟨g3, 1, none⟩)) <| sx 7 rfl 2 rfl #[.int .i64 x0, r'.v] (Writes.one 1 38 r'.v _ _ rfl kR kR kR hr'.cells.1 hr'.cells.2 (Nat.lt_succ_self 1) kR) ?_
  refine sE ?_
  refine Sy.in_ ?_
  refine Sy.then_ ?_
  refine Sy.region ?_
  refine sp rfl <| sS (.int .i64 ((i + 1 : Nat) : Int)) (Quiet.pure (exec_int .add _ _ _ .i64 _ _ _ rfl rfl rfl (int_add _ _ _ _ _ ((wrap_i64 (by omega) (by omega)).trans (by omega))))) <| sp rfl ?_
  refine Sy.nil ?_
  exact Sy.againT ⟨a4, e4, xs ++ [x2], r'⟩ l1 ⟨y1.snoc s1, s3, s4, by show (xs ++ [_]).length = _; rw [List.length_append, y4]; rfl, RowsOk.add (rep := repDG) t2 t3 hr' ⟨rfl, s2⟩⟩ (all_cons kR (all_cons kR (all_cons kR (all_cons kR (all_cons kR all_nil))))) (fun w h => Sy.St.parts (L := [(gr, 186, rrC sl a4 e4), (g2, 40, #[.int .i64 0, .slice none 0 0]), (g3, 40, #[.int .i64 x0, r'.v]), (g7, 236, (x2.map bv).toArray)] ++ (r'.bl ++ R)) (ls := [[(gr, 186, rrC sl a4 e4), (g2, 40, #[.int .i64 0, .slice none 0 0]), (g3, 40, #[.int .i64 x0, r'.v])], [(g7, 236, (x2.map bv).toArray)], r'.bl ++ R]) (ms := [[(gr, 186, rrC sl a4 e4), (g2, 40, #[.int .i64 0, .slice none 0 0]), (g3, 40, #[.int .i64 x0, r'.v])], r'.bl ++ R]) [[(g7, 236, (x2.map bv).toArray)]] [0, 2, 1] (by kernel_rfl) (by rfl) (by simp) (by simp) h)

theorem readR_par {α : Type} {rep : Rdr → List Value → α → Prop} {p : Ps α} (hp : ∀ (w0 : Base) (gr : Nat) (sl : Value) (b : Byt) (at_ e : Nat) (R : Blocks), at_ ≤ b.length → e ≤ 200 → b.length ≤ 70368744177664 → BytR (rdW w0.world) sl b → ∀ w, St w0 w (RB gr sl at_ e R) → Calls Tryz.prog 83 #[ptr gr] w (Turns w0 (Rfd p (rowV 2 rep) gr sl b R at_ e))) (w : World) (v : Value) (b : Byt) (hv : BytR (rdW w) v b) (hl : b.length ≤ 70368744177664) :
    Calls Tryz.prog 41 #[v] w (GetsN w (RdE 2 ([Value.int .i64 0] ++ [Value.slice none 0 0]) rep (allP p b))) := by
  refine Sy.enter (args := [v]) Tryz.func41 rfl kL ?_
  refine sC ?_
  refine sM 40 ([Value.int .i64 0] ++ [Value.slice none 0 0]).toArray (fun g2 => ?_)
  refine sP (.int .i64 0) ?_
  refine sA ?_
  refine sp rfl ?_
  refine Sy.callN kR 51 #[v] kF _ (fun w' hw => beginR_any w' v b (hv.at hw)) (fun u M hM => ?_)
  obtain ⟨gr, rfl, rfl⟩ := hM
  refine sp rfl ?_
  refine sA ?_
  refine Sy.permS (M := RB gr v 0 0 [(g2, 40, ([Value.int .i64 0] ++ [Value.slice none 0 0]).toArray)]) (Sy.perm_at [1, 0] (by kernel_rfl) (by rfl)) ?_
  refine sp rfl ?_
  refine Sy.callT (fun w' hw => hp (Base.of w) gr v b 0 0 [(g2, 40, ([Value.int .i64 0] ++ [Value.slice none 0 0]).toArray)] (Nat.zero_le _) (Nat.zero_le _) hl hv w' hw) (fun u M hM => ?_)
  obtain ⟨x, a2, e2, N, q1, ⟨cs, rfl, q2, q3, q4⟩, q5, q6, rfl⟩ := hM
  obtain ⟨o1, o2⟩ := all_of q1
  refine sM 40 ([Value.int .i64 0] ++ [Value.slice none 0 0]).toArray (fun g5 => ?_)
  refine Sy.movT (pre := [(gr, 186, rrC v a2 e2), (g2, 40, ([Value.int .i64 0] ++ [Value.slice none 0 0]).toArray)]) (T := N) ?_
  refine sw 2 rfl cs.toArray (Writes.row 40 cs 2 _ _ rfl kR kR kR q2 (by kernel_rfl) q3) ?_
  refine sG ?_
  refine Sy.seq ?_
  refine sC ?_
  refine sp rfl ?_
  refine Sy.callT (fun w' hw => endedR_any (Base.of w) gr v b a2 e2 ((g2, 40, ([Value.int .i64 0] ++ [Value.slice none 0 0]).toArray) :: (g5, 40, cs.toArray) :: N) q6 q5 hl hv w' hw) (fun u M hM => ?_)
  obtain ⟨rfl, rfl⟩ := hM
  obtain ⟨f, hf⟩ : ∃ f, f = if endN b a2 e2 ≠ 0 then 120 else 0 := ⟨_, rfl⟩
  rw [← hf]
  have hfl : f ≤ 200 := by rw [hf]; split <;> omega
  obtain ⟨b1, hb1⟩ : ∃ z : Bool, z = decide (f ≠ 0) := ⟨_, rfl⟩
  refine sS (.bool b1) (Quiet.pure (exec_int .neq _ _ _ .i64 _ _ _ rfl rfl rfl (int_neq _ _ _ _ _ (by rw [hb1]; exact decide_eq_decide.2 (by omega))))) ?_
  refine sG ?_
  cases b1
  · have l1 : f = 0 := Decidable.of_not_not (of_decide_eq_false hb1.symm)
    have l2 : endN b a2 e2 = 0 := by
      rw [hf] at l1
      by_cases h : endN b a2 e2 = 0
      · exact h
      · rw [if_pos h] at l1; cases l1
    have l3 : e2 = 0 ∧ b.drop a2 = [] := by
      unfold endN at l2
      by_cases h : e2 = 0 ∧ a2 < b.length
      · rw [if_pos h] at l2; cases l2
      · rw [if_neg h] at l2
        exact ⟨l2, List.drop_eq_nil_of_le (by omega)⟩
    refine sU ?_
    refine Sy.skip ?_
    refine sB ?_
    refine sS (.agg cs.toArray) (Quiet.mid 2 g5 0 2 40 40 cs cs _ _ rfl kR rfl Tryz.underlying40 rfl kR (by rw [List.drop_zero, List.take_of_length_le (by omega)]) (by omega)) <| sw 1 rfl cs.toArray (Writes.row 40 cs 2 _ _ rfl kR kR kR q2 (by kernel_rfl) q3) <| sP (.int .i64 0) ?_
    refine sG ?_
    refine Sy.ret ?_
    exact Sy.retGM2 N rfl (.inl (Sy.Res.cell (ty' := 40) g2 1 cs.toArray _ (by kernel_rfl) rfl Tryz.underlying40 rfl (by rw [List.size_toArray, q2]; kernel_rfl) rfl)) (.inl (show _ = _ by kernel_rfl)) (fun _ h => h.less (((List.sublist_cons_self (g5, 40, cs.toArray) N).cons (g2, 40, cs.toArray)).cons (gr, 186, rrC v a2 e2))) (.inl ⟨x, cs, o1 l3.1 l3.2, rfl, q2, q4⟩)
  · have l1 : f ≠ 0 := of_decide_eq_true hb1.symm
    have l3 : e2 ≠ 0 ∨ b.drop a2 ≠ [] := by
      by_cases h : e2 = 0 ∧ a2 < b.length
      · refine .inr (fun e => ?_)
        have := congrArg List.length e
        rw [List.length_drop] at this
        simp at this; omega
      · refine .inl (fun e => l1 ?_)
        rw [hf]; unfold endN; rw [if_neg h, e]; rfl
    refine sT ?_
    refine sC ?_
    refine sP (.agg ([Value.int .i64 0] ++ [Value.slice none 0 0]).toArray) <| sw 1 rfl ([Value.int .i64 0] ++ [Value.slice none 0 0]).toArray (wA rfl) <| sP (.int .i64 120) ?_
    refine sG ?_
    refine Sy.ret ?_
    refine Sy.then_ret ?_
    exact Sy.retGM2 [] rfl (.inl (Sy.Res.cell (ty' := 40) g2 1 ([Value.int .i64 0] ++ [Value.slice none 0 0]).toArray _ (by kernel_rfl) rfl Tryz.underlying40 rfl (by kernel_rfl) rfl)) (.inl (show _ = _ by kernel_rfl)) (fun _ h => h.none) (.inr ⟨o2 l3, rfl, rfl⟩)
end Go.Proofs.YtgemfpnlnipfnaaGreat.Wr

end
section
namespace Go.Proofs.YtgemfpnlnipfnaaGreat.Wr
open Go.RowKit Go.Proofs.YtgemfpnlnipfnaaGreat Go.Proofs.YtgemfpnlnipfnaaGreat.Sy
set_option maxRecDepth 100000
set_option maxHeartbeats 4000000

def zPA : MPa := ⟨0, []⟩
theorem zPA_rep (C : Rdr) : repPA C ([Value.int .i64 0] ++ [Value.slice none 0 0]) zPA := ⟨_, rfl, none, 0, 0, rfl, rfl, Nat.le_refl _, Nat.zero_le _, fun h => (h rfl).elim⟩
theorem rd_keys {raw r : Byt} {t : MPa} (h : rdPA raw = some (t, r)) : t.keys.length ≤ 16 := by
  unfold rdPA at h
  cases hp : octP raw with
  | none => rw [bind_none hp] at h; cases h
  | some u =>
    obtain ⟨n, r⟩ := u
    rw [bind_some hp] at h
    cases hq : listP 16 (takeP 32) r with
    | none => rw [bind_none hq] at h; cases h
    | some u =>
      obtain ⟨xs, r2⟩ := u
      rw [bind_some hq] at h
      have := lst_le hq
      cases h
      exact this
theorem rd_keysZ (raw : Byt) : ((allP rdPA raw).getD zPA).keys.length ≤ 16 := by
  cases h : allP rdPA raw with
  | none => exact Nat.zero_le _
  | some t => exact rd_keys (all_some h)
theorem law_wireparams (w : World) (cs : List Value) (t : MPa) (hx : repPA (rdW w) cs t) (v : Value) (raw : Byt) (hv : BytR (rdW w) v raw) (hlo : t.keys.length ≤ 1048576) (hl : raw.length ≤ 1048576) :
    Calls Tryz.prog 8 #[.agg cs.toArray, v] w (Gets w (.bool true)) := by
  have hx0 := hx
  obtain ⟨vs, rfl, hls⟩ := hx
  have hls0 := hls
  obtain ⟨A, n, cp, rfl, _⟩ := hls
  have hwt : wtPA t ≤ 70368744160000 := by unfold wtPA; rw [sum_32]; omega
  obtain ⟨o1, ho1⟩ : ∃ o1, o1 = allP rdPA raw := ⟨_, rfl⟩
  obtain ⟨y, hY⟩ : ∃ y, y = o1.getD zPA := ⟨_, rfl⟩
  have hyo : y.keys.length ≤ 16 := by rw [hY, ho1]; exact rd_keysZ raw
  obtain ⟨e1, he1⟩ : ∃ e, e = erE (okPA t) := ⟨_, rfl⟩
  obtain ⟨b1, hb1⟩ : ∃ b, b = byE (okPA t) (encPA t) := ⟨_, rfl⟩
  obtain ⟨e3, he3⟩ : ∃ e, e = erE o1.isSome := ⟨_, rfl⟩
  obtain ⟨e5, he5⟩ : ∃ e, e = erE (okPA y) := ⟨_, rfl⟩
  obtain ⟨b5, hb5⟩ : ∃ b, b = byE (okPA y) (encPA y) := ⟨_, rfl⟩
  refine Sy.enter (args := [.agg #[.int .i64 t.t, .slice A n cp], v]) Tryz.func8 rfl kL ?_
  refine sC ?_
  refine sM 40 #[.int .i64 t.t, .slice A n cp] (fun g3 => ?_)
  refine sP (.bool false) ?_
  refine sA ?_
  refine sS (.agg #[.int .i64 t.t, .slice A n cp]) (qk 0 0 2 rfl rfl Tryz.underlying40) ?_
  refine Sy.callN kR 38 #[.agg #[.int .i64 t.t, .slice A n cp]] kF (BytE (okPA t) (encPA t)) (fun w' hw => ex_par (rep := repPA) (ok := okPA) (enc := encPA) (wt := wtPA) monoPA params_w w' [.int .i64 t.t, .slice A n cp] t (monoPA (fun g o u hu => rdC_world (w0 := Base.of w) (R := []) hw (fun _ h => by cases h) g o u (.inl hu)) hx0) rfl (by omega)) (fun u M1 hM => ?_)
  obtain ⟨u1, rfl, k1⟩ := hM.uni
  rw [← he1]
  rw [← hb1] at k1
  refine sp rfl <| sp rfl <| sp rfl <| sp rfl <| sp rfl ?_
  refine sA ?_
  refine sS (.agg #[.int .i64 t.t, .slice A n cp]) (qk 0 0 2 rfl rfl Tryz.underlying40) ?_
  refine Sy.callN kR 39 #[.agg #[.int .i64 t.t, .slice A n cp]] kF (BytE (okPA t) (encPA t)) (fun w' hw => parR_w w' t (.slice A n cp) (LstR.le (rep := repDG) monoDG (fun g o u hu => rdC_world (w0 := Base.of w) (R := []) hw (fun _ h => by cases h) g o u (.inl hu)) hls0) (by omega)) (fun u M2 hM => ?_)
  obtain ⟨u2, rfl, k2⟩ := hM.uni
  rw [← he1]
  rw [← hb1] at k2
  refine sp rfl <| sp rfl <| sp rfl <| sp rfl <| sp rfl ?_
  refine sA ?_
  refine sp rfl ?_
  refine Sy.callN kR 40 #[v] kF (RdE 2 ([Value.int .i64 0] ++ [Value.slice none 0 0]) repPA o1) (fun w' hw => by rw [ho1]; exact rdx_par (rep := repPA) (p := rdPA) monoPA (@onePA) params_r w' v raw (hv.le (fun g o u hu => rdC_world (w0 := Base.of w) (R := []) hw (fun _ h => by cases h) g o u (.inl hu))) (by omega)) (fun u M3 hM => ?_)
  obtain ⟨cs3, rfl, l3, r3⟩ := hM.uni zPA (zPA_rep _) rfl
  rw [← he3]
  rw [← hY] at r3
  have r30 := r3
  obtain ⟨v3, rfl, s3⟩ := r3
  refine sp rfl <| sp rfl <| sp rfl ?_
  refine sM 40 #[.int .i64 0, .slice none 0 0] (fun g11 => ?_)
  refine Sy.permS List.perm_append_comm ?_
  refine sw 0 rfl [Value.int .i64 y.t, v3].toArray (Writes.row 40 [.int .i64 y.t, v3] 2 _ _ rfl kR kR kR rfl (by kernel_rfl) (onePA r30)) <| sp rfl ?_
  refine sA ?_
  refine sp rfl ?_
  refine Sy.callN kR 41 #[v] kF (RdE 2 ([Value.int .i64 0] ++ [Value.slice none 0 0]) repPA o1) (fun w' hw => by rw [ho1]; exact readR_par (rep := repPA) (p := rdPA) parM_any w' v raw (hv.le (fun g o u hu => rdC_world (w0 := Base.of w) (R := []) hw (fun _ h => by cases h) g o u (.inl hu))) (by omega)) (fun u M4 hM => ?_)
  obtain ⟨cs4, rfl, l4, r4⟩ := hM.uni zPA (zPA_rep _) rfl
  rw [← he3]
  rw [← hY] at r4
  have r40 := r4
  obtain ⟨v4, rfl, s4⟩ := r4
  refine sp rfl <| sp rfl <| sp rfl ?_
  refine sM 40 #[.int .i64 0, .slice none 0 0] (fun g13 => ?_)
  refine Sy.permS List.perm_append_comm ?_
  refine sw 0 rfl [Value.int .i64 y.t, v4].toArray (Writes.row 40 [.int .i64 y.t, v4] 2 _ _ rfl kR kR kR rfl (by kernel_rfl) (onePA r40)) <| sp rfl ?_
  refine sA ?_
  refine sS (.agg #[.int .i64 y.t, v3]) (qk 1 0 2 rfl rfl Tryz.underlying40) ?_
  refine Sy.callN kR 39 #[.agg #[.int .i64 y.t, v3]] kF (BytE (okPA y) (encPA y)) (fun w' hw => parR_w w' y v3 (LstR.le (rep := repDG) monoDG (rdB_world hw (fun b hb => by simp [hb])) s3) (by omega)) (fun u M5 hM => ?_)
  obtain ⟨u5, rfl, k5⟩ := hM.uni
  rw [← he5]
  rw [← hb5] at k5
  refine sp rfl <| sp rfl <| sp rfl <| sp rfl <| sp rfl ?_
  refine sA ?_
  refine sS (.agg #[.int .i64 y.t, v4]) (qk 0 0 2 rfl rfl Tryz.underlying40) ?_
  refine Sy.callN kR 39 #[.agg #[.int .i64 y.t, v4]] kF (BytE (okPA y) (encPA y)) (fun w' hw => parR_w w' y v4 (LstR.le (rep := repDG) monoDG (rdB_world hw (fun b hb => by simp [hb])) s4) (by omega)) (fun u M6 hM => ?_)
  obtain ⟨u6, rfl, k6⟩ := hM.uni
  rw [← he5]
  rw [← hb5] at k6
  refine sp rfl <| sp rfl <| sp rfl <| sp rfl <| sp rfl ?_
  refine sA ?_
  refine sS (.bool true) (qg (fun w' hw => alive12 w')) <| sp rfl <| sp rfl <| sp rfl <| sS (.bool true) (qg (fun w' hw => by have q := same_any w' u1 u2 b1 b1 (k1.le (rdB_world hw (fun b hb => by simp [hb]))) (k2.le (rdB_world hw (fun b hb => by simp [hb]))); rw [decide_eq_true rfl] at q; exact q)) <| sP (.bool true) ?_
  refine sp rfl <| sp rfl <| sp rfl <| sS (.bool true) (Quiet.pure (exec_int .eql _ _ _ .i64 _ _ _ rfl rfl rfl (int_eql _ _ _ _ _ (decide_eq_true rfl)))) <| sP (.bool true) ?_
  refine sp rfl <| sp rfl <| sp rfl <| sS (.bool true) (Quiet.pure (exec_int .eql _ _ _ .i64 _ _ _ rfl rfl rfl (int_eql _ _ _ _ _ (decide_eq_true rfl)))) <| sP (.bool true) ?_
  refine sp rfl <| sp rfl <| sp rfl <| sS (.bool true) (qg (fun w' hw => by have q := same_any w' u5 u6 b5 b5 (k5.le (rdB_world hw (fun b hb => by simp [hb]))) (k6.le (rdB_world hw (fun b hb => by simp [hb]))); rw [decide_eq_true rfl] at q; exact q)) <| sP (.bool true) <| sp rfl ?_
  refine sG ?_
  refine Sy.ret ?_
  exact rV (.bool true) rfl
end Go.Proofs.YtgemfpnlnipfnaaGreat.Wr

end
