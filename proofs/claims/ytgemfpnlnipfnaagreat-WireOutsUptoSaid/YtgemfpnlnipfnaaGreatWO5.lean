/-
  Texts of ours, put together: WirC, WirD, WirE, WirF, WirG, WirH, WirI, WirJ, SymS, WirK, WirL, WirM, SymP, SymN, WirN, WirO, WirX.
-/
import Derived.Test.YtgemfpnlnipfnaaGreatWO4
set_option linter.unusedVariables false
set_option linter.unusedSimpArgs false
section
namespace Go.Proofs.YtgemfpnlnipfnaaGreat.Wr
open Go.RowKit Go.Proofs.YtgemfpnlnipfnaaGreat Go.Proofs.YtgemfpnlnipfnaaGreat.Sy
set_option maxRecDepth 100000
set_option maxHeartbeats 4000000

theorem conv_6u8 (w : World) (F : Slots) (o : Oper) (x : Operand) (k : Nat) (hk : k < 18446744073709551616) (ho : o.op = .convert 22 5 x) (hx : evF F x = .int .u64 (k : Int)) : (execOp (evF F) o).run Tryz.prog w = .ok (.value (bv (UInt8.ofNat k))) w := by
  have h : (convert 22 5 (.int .u64 (k : Int))).run Tryz.prog w = .ok (bv (UInt8.ofNat k)) w := by
    have e : (UInt8.ofNat k).toNat = k % 256 := by rw [UInt8.toNat_ofNat']
    unfold bv
    rw [e]
    go_simp
    show (k : Int) % 256 = ((k % 256 : Nat) : Int)
    omega
  unfold execOp
  simp only [ho, hx, Sem.run_bind, h, Result.andThen_ok, Sem.run_pure]
theorem conv_i6 (w : World) (F : Slots) (o : Oper) (x : Operand) (k : Nat) (hk : k < 18446744073709551616) (ho : o.op = .convert 3 22 x) (hx : evF F x = .int .i64 (k : Int)) : (execOp (evF F) o).run Tryz.prog w = .ok (.value (.int .u64 ((k : Nat) : Int))) w := by
  have h : (convert 3 22 (.int .i64 (k : Int))).run Tryz.prog w = .ok (.int .u64 ((k : Nat) : Int)) w := by
    go_simp
    exact wrap_u64 (by omega) (by omega)
  unfold execOp
  simp only [ho, hx, Sem.run_bind, h, Result.andThen_ok, Sem.run_pure]
theorem conv_86 (w : World) (F : Slots) (o : Oper) (x : Operand) (u : UInt8) (ho : o.op = .convert 5 22 x) (hx : evF F x = bv u) : (execOp (evF F) o).run Tryz.prog w = .ok (.value (.int .u64 ((u.toNat : Nat) : Int))) w := by
  have hu := u.toNat_lt
  have e : (convert 5 22 (.int .u8 ((u.toNat : Nat) : Int))).run Tryz.prog w = .ok (.int .u64 ((u.toNat : Nat) : Int)) w := by
    go_simp
    exact wrap_u64 (by omega) (by omega)
  unfold execOp
  simp only [ho, hx, bv, e, Sem.run_bind, Sem.run_pure, Result.andThen_ok]
theorem exec_shr (t : TypeId) (x y : Operand) {yt : TypeId} (F : Slots) (o : Oper) (n k : Nat) (hk : k ≤ 64) (ho : o.op = .binOp .shr t x y yt) (hx : evF F x = .int .u64 (n : Int)) (hy : evF F y = .int .i64 (k : Int)) (w : World) : (execOp (evF F) o).run Tryz.prog w = .ok (.value (.int .u64 ((n / 2 ^ k : Nat) : Int))) w :=
  exec_int .shr t x y .u64 (n : Int) (k : Int) _ ho hx hy (int_shr t .u64 .i64 _ _ _ (by omega) (by
    rw [Int.toNat_natCast, show min k IntKind.u64.bits = k from Nat.min_eq_left (show k ≤ 64 from hk), Int.fdiv_eq_ediv_of_nonneg _ (by exact_mod_cast Nat.zero_le _)]
    rw [Int.natCast_ediv, Int.natCast_pow]; rfl)) w
abbrev BS (s : Slc) (b : Byt) : Prop := s.Is 5 1 (byL b)
abbrev WS (gw : Nat) (s : Slc) (R : Blocks) : Blocks := [(gw, 242, #[s.v])] ++ (s.bl ++ R)
def Wr (gw : Nat) (R : Blocks) (b : Byt) (_ : Value) (M : Blocks) : Prop := ∃ s, BS s b ∧ M = WS gw s R
theorem nb_take (k n : Nat) : ∀ j, j < k → (nb k n).take (j + 1) = (nb k n).take j ++ [UInt8.ofNat (n / 256 ^ (k - 1 - j))] := by
  induction k with
  | zero => intro j h; omega
  | succ k ih =>
    intro j h
    cases j with
    | zero => simp [nb]
    | succ j =>
      simp only [nb, List.take_succ_cons, List.cons_append]
      rw [ih j (by omega), show k + 1 - 1 - (j + 1) = k - 1 - j by omega]
theorem fixed_any (w0 : Base) (gw : Nat) (s : Slc) (R : Blocks) (b : Byt) (n sz : Nat) (hn : n < 18446744073709551616) (hsz : sz ≤ 8) (hb : BS s b) (hl : b.length ≤ 70368744177664) (w : World) (hw : St w0 w (WS gw s R)) :
    Calls Tryz.prog 192 #[ptr gw, .int .u64 (n : Int), .int .i64 (sz : Int)] w (Turns w0 (Wr gw R (b ++ nb sz n))) := by
  refine Sy.enterT (args := [ptr gw, .int .u64 (n : Int), .int .i64 (sz : Int)]) hw Tryz.func192 rfl kL ?_
  refine sC ?_
  refine sp rfl <| sS (.int .i64 ((sz : Int) - 1)) (Quiet.pure (exec_int .sub _ _ _ .i64 _ _ _ rfl rfl rfl (int_sub _ _ _ _ _ (wrap_i64 (by omega) (by omega))))) <| sp rfl ?_
  refine sG ?_
  refine Sy.block ?_
  refine Sy.loopT (Y := Slc × Int) sz (fun k y => [(0, ptr gw), (1, .int .u64 (n : Int)), (6, .int .i64 y.2)]) (fun k y => WS gw y.1 R) (fun k y => BS y.1 (b ++ (nb sz n).take k) ∧ y.2 = (sz : Int) - 1 - (k : Int)) (s, (sz : Int) - 1) ⟨by rw [List.take_zero, List.append_nil]; exact hb, by omega⟩ (all_cons kR (all_cons kR (all_cons kR all_nil))) (fun _ h => h) (fun k y hk hy => ?_)
  obtain ⟨y, z⟩ := y
  obtain ⟨hy, hz⟩ := hy
  dsimp only at hy hz ⊢
  refine Sy.seq ?_
  refine sC ?_
  obtain ⟨b1, hb1⟩ : ∃ z : Bool, z = decide (k < sz) := ⟨_, rfl⟩
  refine sp rfl <| sS (.bool b1) (Quiet.pure (exec_int .geq _ _ _ .i64 _ _ _ rfl rfl rfl (int_geq _ _ _ _ _ (by rw [hb1]; exact decide_eq_decide.2 (by omega))))) ?_
  refine sG ?_
  cases b1
  case' false =>
    have l1 : ¬ k < sz := of_decide_eq_false hb1.symm
    obtain rfl : k = sz := by omega
    refine sU ?_
    refine Sy.exit ?_
    refine Sy.then_exit ?_
    refine Sy.then_exit ?_
    refine Sy.in_exit ?_
    rw [List.take_of_length_le (by rw [nb_len]; exact Nat.le_refl _)] at hy
    exact Sy.retT0 rfl (WS gw y R) (fun _ h => h) (fun _ => ⟨y, hy, rfl⟩)
  case' true =>
    have l1 : k < sz := of_decide_eq_true hb1.symm
    refine sT ?_
    refine Sy.skip ?_
    refine Sy.then_ ?_
    refine Sy.seq ?_
    refine Sy.block ?_
    obtain ⟨m, hm⟩ : ∃ m : Nat, m = sz - 1 - k := ⟨_, rfl⟩
    have hzm : z = (m : Int) := by omega
    obtain ⟨x, hx⟩ : ∃ x, x = UInt8.ofNat (n / 2 ^ (8 * m)) := ⟨_, rfl⟩
    have hd : n / 2 ^ (8 * m) < 18446744073709551616 := Nat.lt_of_le_of_lt (Nat.div_le_self _ _) hn
    have hlen : (b ++ (nb sz n).take k).length ≤ b.length + 8 := by rw [List.length_append, List.length_take]; omega
    refine Sy.regionD (fun j => j == 11 || j == 14) kR ?_
    refine sa 0 rfl rfl <| sa 1 rfl rfl <| sa 2 rfl rfl <| sb 3 rfl (.pointer (some ⟨gw, 0, none⟩)) <| sD 4 rfl y.v (qc 0 0 rfl rfl Tryz.underlying27) <| sa 5 rfl rfl <| sa 6 rfl rfl ?_
    refine sv 7 rfl (.int .i64 ((8 * m : Nat) : Int)) (exec_int .mul _ _ _ .i64 _ _ _ rfl rfl rfl (int_mul _ _ _ _ _ ((wrap_i64 (by omega) (by omega)).trans (by omega)))) ?_
    refine sv 8 rfl (.int .u64 ((n / 2 ^ (8 * m) : Nat) : Int)) (exec_shr _ _ _ _ _ n (8 * m) (by omega) rfl rfl rfl) ?_
    refine sv 9 rfl (bv x) (fun w => by rw [hx]; exact conv_6u8 w _ _ _ _ hd rfl rfl) ?_
    refine Sy.makeD 10 rfl kR kR 5 #[bv x] (fun g => .slice (some ⟨g, 0, none⟩) 1 1) kF (fun g1 => ?_)
    refine Sy.movTD ?_
    refine Sy.soleD 11 rfl (fun Q2 hq2 => ?_)
    refine Sy.appendR kR 27 5 _ _ 1 1 Tryz.underlying27 Cu.info_u8 rfl rfl rfl rfl (by decide) _ _ rfl hy kR [bv x] rfl (fun u hu => by rw [List.mem_singleton.1 hu]; rfl) 1 g1 5 kR kR (by rw [byL_len]; omega) (by rw [byL_len]; simp only [maxLen]; omega) (fun r hr => ?_)
    refine hq2 _ _ ?_
    refine sa 12 rfl rfl <| sb 13 rfl (.pointer (some ⟨gw, 0, none⟩)) <| sx 14 rfl 0 rfl #[r.v] (Writes.one 0 27 r.v _ _ rfl kR kR kR hr.cells.1 hr.cells.2 Nat.zero_lt_one kR) ?_
    refine Sy.setTD ?_
    refine sE ?_
    refine Sy.in_ ?_
    refine Sy.then_ ?_
    refine Sy.region ?_
    refine sp rfl <| sS (.int .i64 (z - 1)) (Quiet.pure (exec_int .sub _ _ _ .i64 _ _ _ rfl rfl rfl (int_sub _ _ _ _ _ (wrap_i64 (by omega) (by omega))))) <| sp rfl ?_
    refine Sy.nil ?_
    have hr' : BS r (b ++ (nb sz n).take (k + 1)) := by
      have e : byL (b ++ (nb sz n).take (k + 1)) = byL (b ++ (nb sz n).take k) ++ [[bv x]] := by
        rw [nb_take sz n k l1, ← List.append_assoc, byL_app (b ++ (nb sz n).take k), hx, hm, Nat.pow_mul]
        rfl
      show r.Is 5 1 _
      rw [e]
      exact hr
    exact Sy.againT (r, z - 1) l1 ⟨hr', by show z - 1 = _; omega⟩ (all_cons kR (all_cons kR (all_cons kR all_nil))) (fun w h => keep1 h)
theorem nb_one (x : UInt8) : nb 1 x.toNat = [x] := by
  unfold nb nb
  rw [Nat.pow_zero, Nat.div_one]
  congr 1
  exact UInt8.ofNat_toNat
theorem byte_any (w0 : Base) (gw : Nat) (s : Slc) (R : Blocks) (b : Byt) (x : UInt8) (hb : BS s b) (hl : b.length ≤ 70368744177664) (w : World) (hw : St w0 w (WS gw s R)) :
    Calls Tryz.prog 180 #[ptr gw, bv x] w (Turns w0 (Wr gw R (b ++ [x]))) := by
  refine Sy.enterT (args := [ptr gw, bv x]) hw Tryz.func180 rfl kL ?_
  refine Sy.region ?_
  refine sp rfl <| sp rfl <| sS (.int .u64 ((x.toNat : Nat) : Int)) (Quiet.pure (fun w => conv_86 w _ _ _ x rfl rfl)) ?_
  have hx := x.toNat_lt
  refine Sy.callT (fun w hw => fixed_any _ gw s R b x.toNat 1 (by omega) (by decide) hb hl w hw) (fun v M hM => ?_)
  obtain ⟨s1, hs1, rfl⟩ := hM
  refine Sy.nil ?_
  rw [nb_one] at hs1
  exact Sy.retT0 rfl (WS gw s1 R) (fun _ h => h) (fun _ => ⟨s1, hs1, rfl⟩)
theorem long_any (w0 : Base) (gw : Nat) (s : Slc) (R : Blocks) (b : Byt) (n : Nat) (hn : n < 18446744073709551616) (hb : BS s b) (hl : b.length ≤ 70368744177664) (w : World) (hw : St w0 w (WS gw s R)) :
    Calls Tryz.prog 135 #[ptr gw, .int .u64 (n : Int)] w (Turns w0 (Wr gw R (b ++ nb 8 n))) := by
  refine Sy.enterT (args := [ptr gw, .int .u64 (n : Int)]) hw Tryz.func135 rfl kL ?_
  refine Sy.region ?_
  refine sp rfl <| sp rfl ?_
  refine Sy.callT (fun w hw => fixed_any _ gw s R b n 8 hn (by decide) hb hl w hw) (fun v M hM => ?_)
  obtain ⟨s1, hs1, rfl⟩ := hM
  refine Sy.nil ?_
  exact Sy.retT0 rfl (WS gw s1 R) (fun _ h => h) (fun _ => ⟨s1, hs1, rfl⟩)
theorem var_any (w0 : Base) (gw : Nat) (s : Slc) (R : Blocks) (b : Byt) (n : Nat) (hn : n < 18446744073709551616) (hb : BS s b) (hl : b.length ≤ 70368744177000) (w : World) (hw : St w0 w (WS gw s R)) :
    Calls Tryz.prog 197 #[ptr gw, .int .u64 (n : Int)] w (Turns w0 (Wr gw R (b ++ varB n))) := by
  refine Sy.enterT (args := [ptr gw, .int .u64 (n : Int)]) hw Tryz.func197 rfl kL ?_
  refine Sy.block ?_
  refine sC ?_
  obtain ⟨b1, hb1⟩ : ∃ z : Bool, z = decide (n < 253) := ⟨_, rfl⟩
  refine sp rfl <| sS (.bool b1) (Quiet.pure (exec_int .lss _ _ _ .u64 _ _ _ rfl rfl rfl (int_lss _ _ _ _ _ (by rw [hb1]; exact decide_eq_decide.2 (by omega))))) <| sp rfl ?_
  refine sG ?_
  cases b1
  case' true =>
    have l1 : n < 253 := of_decide_eq_true hb1.symm
    refine sT ?_
    refine Sy.region ?_
    obtain ⟨x, hx⟩ : ∃ x, x = UInt8.ofNat n := ⟨_, rfl⟩
    refine sp rfl <| sp rfl <| sS (bv x) (Quiet.pure (fun w => by rw [hx]; exact conv_6u8 w _ _ _ _ hn rfl rfl)) ?_
    refine Sy.callT (fun w hw => byte_any _ gw s R b x hb (by omega) w hw) (fun v M hM => ?_)
    obtain ⟨s1, hs1, rfl⟩ := hM
    refine Sy.nil ?_
    refine Sy.in_ ?_
    have e : varB n = [x] := by unfold varB; rw [if_pos l1, hx]
    rw [← e] at hs1
    exact Sy.retT0 rfl (WS gw s1 R) (fun _ h => h) (fun _ => ⟨s1, hs1, rfl⟩)
  have l1 : ¬ n < 253 := of_decide_eq_false hb1.symm
  refine sU ?_
  refine sC ?_
  obtain ⟨b2, hb2⟩ : ∃ z : Bool, z = decide (n < 65536) := ⟨_, rfl⟩
  refine sp rfl <| sS (.bool b2) (Quiet.pure (exec_int .lss _ _ _ .u64 _ _ _ rfl rfl rfl (int_lss _ _ _ _ _ (by rw [hb2]; exact decide_eq_decide.2 (by omega))))) <| sp rfl ?_
  refine sG ?_
  cases b2
  case' true =>
    have l2 : n < 65536 := of_decide_eq_true hb2.symm
    refine sT ?_
    refine sC ?_
    refine sp rfl ?_
    refine Sy.callT (fun w hw => byte_any _ gw s R b 253 hb (by omega) w hw) (fun v M hM => ?_)
    obtain ⟨s1, hs1, rfl⟩ := hM
    refine Sy.nil ?_
    refine Sy.then_ ?_
    refine Sy.region ?_
    refine sp rfl <| sp rfl ?_
    refine Sy.callT (fun w hw => fixed_any _ gw s1 R (b ++ [253]) n 2 hn (by decide) hs1 (by rw [List.length_append, List.length_singleton]; omega) w hw) (fun v M hM => ?_)
    obtain ⟨s2, hs2, rfl⟩ := hM
    refine Sy.nil ?_
    refine Sy.in_ ?_
    have e : b ++ varB n = b ++ [253] ++ nb 2 n := by unfold varB; rw [if_neg l1, if_pos l2, List.append_assoc]; rfl
    rw [← e] at hs2
    exact Sy.retT0 rfl (WS gw s2 R) (fun _ h => h) (fun _ => ⟨s2, hs2, rfl⟩)
  have l2 : ¬ n < 65536 := of_decide_eq_false hb2.symm
  refine sU ?_
  refine sC ?_
  obtain ⟨b3, hb3⟩ : ∃ z : Bool, z = decide (n < 4294967296) := ⟨_, rfl⟩
  refine sp rfl <| sS (.bool b3) (Quiet.pure (exec_int .lss _ _ _ .u64 _ _ _ rfl rfl rfl (int_lss _ _ _ _ _ (by rw [hb3]; exact decide_eq_decide.2 (by omega))))) <| sp rfl ?_
  refine sG ?_
  cases b3
  case' true =>
    have l3 : n < 4294967296 := of_decide_eq_true hb3.symm
    refine sT ?_
    refine sC ?_
    refine sp rfl ?_
    refine Sy.callT (fun w hw => byte_any _ gw s R b 254 hb (by omega) w hw) (fun v M hM => ?_)
    obtain ⟨s1, hs1, rfl⟩ := hM
    refine Sy.nil ?_
    refine Sy.then_ ?_
    refine Sy.region ?_
    refine sp rfl <| sp rfl ?_
    refine Sy.callT (fun w hw => fixed_any _ gw s1 R (b ++ [254]) n 4 hn (by decide) hs1 (by rw [List.length_append, List.length_singleton]; omega) w hw) (fun v M hM => ?_)
    obtain ⟨s2, hs2, rfl⟩ := hM
    refine Sy.nil ?_
    refine Sy.in_ ?_
    have e : b ++ varB n = b ++ [254] ++ nb 4 n := by unfold varB; rw [if_neg l1, if_neg l2, if_pos l3, List.append_assoc]; rfl
    rw [← e] at hs2
    exact Sy.retT0 rfl (WS gw s2 R) (fun _ h => h) (fun _ => ⟨s2, hs2, rfl⟩)
  have l3 : ¬ n < 4294967296 := of_decide_eq_false hb3.symm
  refine sU ?_
  refine sC ?_
  refine sp rfl ?_
  refine Sy.callT (fun w hw => byte_any _ gw s R b 255 hb (by omega) w hw) (fun v M hM => ?_)
  obtain ⟨s1, hs1, rfl⟩ := hM
  refine Sy.nil ?_
  refine Sy.then_ ?_
  refine Sy.region ?_
  refine sp rfl <| sp rfl ?_
  refine Sy.callT (fun w hw => fixed_any _ gw s1 R (b ++ [255]) n 8 hn (by decide) hs1 (by rw [List.length_append, List.length_singleton]; omega) w hw) (fun v M hM => ?_)
  obtain ⟨s2, hs2, rfl⟩ := hM
  refine Sy.nil ?_
  refine Sy.in_ ?_
  have e : b ++ varB n = b ++ [255] ++ nb 8 n := by unfold varB; rw [if_neg l1, if_neg l2, if_neg l3, List.append_assoc]; rfl
  rw [← e] at hs2
  exact Sy.retT0 rfl (WS gw s2 R) (fun _ h => h) (fun _ => ⟨s2, hs2, rfl⟩)
theorem raw_any (w0 : Base) (gw : Nat) (s : Slc) (R : Blocks) (b x : Byt) (v : Value) (hv : BytR (rdC w0 R) v x) (hb : BS s b) (hl : b.length + x.length ≤ 70368744177664) (w : World) (hw : St w0 w (WS gw s R)) :
    Calls Tryz.prog 212 #[ptr gw, v] w (Turns w0 (Wr gw R (b ++ x))) := by
  have hv' := hv
  obtain ⟨A, n, cp, rfl, h2, h3, h4, h5⟩ := hv'
  refine Sy.enterT (args := [ptr gw, .slice A n cp]) hw Tryz.func212 rfl kL ?_
  refine Sy.region ?_
  refine sp rfl <| sp rfl <| sp rfl <| sP (.pointer (some ⟨gw, 0, none⟩)) <| sS s.v (qc 0 0 rfl rfl Tryz.underlying27) <| sp rfl ?_
  refine Sy.appendM kR 27 5 _ _ 1 1 Tryz.underlying27 Cu.info_u8 rfl rfl rfl rfl (by decide) _ _ rfl hb kR (byL_one x) (byL_oneC x) A n cp (by rw [byL_len, h2]) h3 kR (fun r => BytR.from (w0 := w0.inn) hv (fun y hy => List.mem_append_right _ (List.mem_append_right _ hy))) (by rw [byL_len]; omega) (by rw [byL_len]; simp only [maxLen]; omega) (fun r hr => ?_)
  rw [← byL_app] at hr
  refine sp rfl <| sP (.pointer (some ⟨gw, 0, none⟩)) <| sw 0 rfl #[r.v] (Writes.one 0 27 r.v _ _ rfl kR kR kR hr.cells.1 hr.cells.2 Nat.zero_lt_one kR) ?_
  refine Sy.setT ?_
  refine Sy.nil ?_
  exact Sy.retT0 rfl (WS gw r R) (fun _ h => h) (fun _ => ⟨r, hr, rfl⟩)
theorem text_any (w0 : Base) (gw : Nat) (s : Slc) (R : Blocks) (b x : Byt) (v : Value) (hv : BytR (rdC w0 R) v x) (hb : BS s b) (hl : b.length + x.length ≤ 70368744177000) (w : World) (hw : St w0 w (WS gw s R)) :
    Calls Tryz.prog 164 #[ptr gw, v] w (Turns w0 (Wr gw R (b ++ (varB x.length ++ x)))) := by
  have hv' := hv
  obtain ⟨A, n, cp, rfl, h2, h3, h4, h5⟩ := hv'
  refine Sy.enterT (args := [ptr gw, .slice A n cp]) hw Tryz.func164 rfl kL ?_
  refine sC ?_
  refine sp rfl <| sp rfl <| sP (.int .i64 (n : Int)) <| sS (.int .u64 ((n : Nat) : Int)) (Quiet.pure (fun w => conv_i6 w _ _ _ n (by simp only [maxLen] at h4; omega) rfl rfl)) ?_
  refine Sy.callT (fun w hw => var_any _ gw s R b n (by simp only [maxLen] at h4; omega) hb (by omega) w hw) (fun v M hM => ?_)
  obtain ⟨s1, hs1, rfl⟩ := hM
  have hn := varB_len n
  refine Sy.nil ?_
  refine Sy.then_ ?_
  refine Sy.region ?_
  refine sp rfl <| sp rfl ?_
  refine Sy.callT (fun w hw => raw_any w0.inn gw s1 R (b ++ varB n) x (.slice A n cp) hv hs1 (by rw [List.length_append]; omega) w hw) (fun v M hM => ?_)
  obtain ⟨s2, hs2, rfl⟩ := hM
  refine Sy.nil ?_
  rw [List.append_assoc, ← h2] at hs2
  exact Sy.retT0 rfl (WS gw s2 R) (fun _ h => h) (fun _ => ⟨s2, hs2, rfl⟩)
end Go.Proofs.YtgemfpnlnipfnaaGreat.Wr

end
section
namespace Go.Proofs.YtgemfpnlnipfnaaGreat.Wr
open Go.RowKit Go.Proofs.YtgemfpnlnipfnaaGreat Go.Proofs.YtgemfpnlnipfnaaGreat.Sy
set_option maxRecDepth 100000
set_option maxHeartbeats 4000000

def ByN (x : Byt) (v : Value) (M : Blocks) : Prop := ∃ A n cp, v = .slice A n cp ∧ BS ⟨.slice A n cp, M⟩ x
theorem BS.as {r : Slc} {x : Byt} (h : BS r x) : ByN x r.v r.bl := by
  obtain ⟨A, n, cp, e, _⟩ := Slc_byt h
  refine ⟨A, n, cp, e, ?_⟩
  rw [← e]
  exact h
theorem ByN.byt {x : Byt} {v : Value} {M : Blocks} (h : ByN x v M) : BytR (rdB M) v x := by
  obtain ⟨A, n, cp, rfl, h⟩ := h
  exact Slc_byt h
theorem clone_any (w : World) (v : Value) (x : Byt) (hv : BytR (rdW w) v x) (hl : x.length ≤ 70368744177664) : Calls Tryz.prog 133 #[v] w (GetsN w (ByN x)) := by
  have hv' := hv.le (rdW_base (R := []))
  obtain ⟨A, n, cp, rfl, h2, h3, h4, h5⟩ := hv
  refine Sy.enter (args := [.slice A n cp]) Tryz.func133 rfl kL ?_
  refine sC ?_
  refine sP (.slice none 0 0) ?_
  refine sG ?_
  refine Sy.seq ?_
  refine sC ?_
  cases A with
  | none =>
    have hx : x = [] := by
      cases x with
      | nil => rfl
      | cons a l => obtain ⟨g, o, e, _⟩ := h5 (by simp); cases e
    subst hx
    refine sp rfl <| sP (.bool true) ?_
    refine sG ?_
    refine sT ?_
    refine sC ?_
    refine sP (.slice none 0 0) ?_
    refine sG ?_
    refine Sy.ret ?_
    refine Sy.then_ret ?_
    exact Sy.retGM [] rfl (.inl (show _ = _ by kernel_rfl)) (fun _ h => h) ⟨none, 0, 0, rfl, Slc.Is.nil _ _⟩
  | some a =>
    refine sp rfl <| sP (.bool false) ?_
    refine sG ?_
    refine sU ?_
    refine Sy.skip ?_
    refine sB ?_
    refine Sy.make kR 5 #[] (fun g => .slice (some ⟨g, 0, none⟩) 0 0) kF (fun g => ?_)
    refine sp rfl ?_
    have h0 : BS ⟨.slice (some ⟨g, 0, none⟩) 0 0, [(g, 5, #[])]⟩ [] := ⟨fun _ h => (by cases h), fun _ h => (by cases h), .inr ⟨g, 0, [], rfl, rfl, Nat.le_refl _, Nat.zero_le _⟩⟩
    refine Sy.appendM (pre := []) (T := []) kR 27 5 _ _ 1 1 Tryz.underlying27 Cu.info_u8 rfl rfl rfl rfl (by decide) _ _ rfl h0 kR (byL_one x) (byL_oneC x) (some a) n cp (by rw [byL_len, h2]) h3 kR (fun r => BytR.from hv' (fun y hy => by cases hy)) (by rw [byL_len]; show (0 + n) * 1 ≤ _; omega) (by rw [byL_len]; show 0 + n ≤ _; simp only [maxLen]; omega) (fun r hr => ?_)
    refine sp rfl ?_
    refine sG ?_
    refine Sy.ret ?_
    have hr' : BS r x := hr
    exact Sy.retGM r.bl rfl (.inl (show _ = _ by kernel_rfl)) (fun _ h => by simpa using h) hr'.as
theorem new_any (w : World) : Calls Tryz.prog 89 #[] w (GetsN w (fun v M => ∃ g, v = ptr g ∧ M = [(g, 242, #[.slice none 0 0])])) := by
  refine Sy.enter (args := []) Tryz.func89 rfl kL ?_
  refine sC ?_
  refine sP (.pointer none) ?_
  refine sA ?_
  refine sP (.agg #[.slice none 0 0]) <| sM 242 #[.slice none 0 0] (fun g => ?_)
  refine sp rfl ?_
  refine sG ?_
  refine Sy.ret ?_
  exact Sy.retGM [(g, 242, #[.slice none 0 0])] rfl (.inl (show _ = _ by kernel_rfl)) (fun _ h => h) ⟨g, rfl, rfl⟩
theorem bytes_any (w0 : Base) (gw : Nat) (s : Slc) (R : Blocks) (b : Byt) (hb : BS s b) (hl : b.length ≤ 70368744177664) (w : World) (hw : St w0 w (WS gw s R)) :
    Calls Tryz.prog 90 #[ptr gw] w (Turns w0 (fun v M => ∃ N, ByN b v N ∧ M = WS gw s R ++ N)) := by
  refine Sy.enterT (args := [ptr gw]) hw Tryz.func90 rfl kL ?_
  refine sC ?_
  refine sP (.slice none 0 0) ?_
  refine sA ?_
  refine sp rfl <| sp rfl <| sP (.pointer (some ⟨gw, 0, none⟩)) <| sS s.v (qc 0 0 rfl rfl Tryz.underlying27) ?_
  refine Sy.callN kR 133 #[s.v] kF (ByN b) (fun w hw => clone_any w s.v b ((Slc_byt hb).le (fun g o v h => rdC_world (w0 := w0.inn) hw (R := s.bl) (fun x hx => by simp [hx]) g o v (.inr h))) hl) (fun v M hM => ?_)
  refine sp rfl ?_
  refine sG ?_
  refine Sy.ret ?_
  exact Sy.retT1 (WS gw s R ++ M) rfl (.inl (show _ = _ by kernel_rfl)) (fun _ h => h) ⟨M, hM, rfl⟩
theorem read_any (w : World) (v : Value) (x : Byt) (hv : BytR (rdW w) v x) (hl : x.length ≤ 70368744177664) : Calls Tryz.prog 98 #[v] w (GetsN w (fun v M => ∃ g u N, ByN x u N ∧ v = ptr g ∧ M = (g, 275, #[u, .int .i64 0]) :: N)) := by
  refine Sy.enter (args := [v]) Tryz.func98 rfl kL ?_
  refine sC ?_
  refine sP (.pointer none) ?_
  refine sA ?_
  refine sp rfl ?_
  refine Sy.callN kR 133 #[v] kF (ByN x) (fun w' hw => clone_any w' v x (hv.le (fun g o u h => rdC_world (R := []) hw (fun _ h => by cases h) g o u (.inl h))) hl) (fun u M hM => ?_)
  have hM' := hM
  obtain ⟨A, n, cp, rfl, _⟩ := hM'
  refine sP (.agg #[.slice A n cp, .int .i64 0]) <| sM 275 #[.slice A n cp, .int .i64 0] (fun g => ?_)
  refine sp rfl ?_
  refine sG ?_
  refine Sy.ret ?_
  exact Sy.retGM ((g, 275, #[.slice A n cp, .int .i64 0]) :: M) rfl (.inl (show _ = _ by kernel_rfl)) (fun _ h => h.perm (List.perm_append_comm (l₁ := M))) ⟨g, _, M, hM, rfl, rfl⟩
end Go.Proofs.YtgemfpnlnipfnaaGreat.Wr

end
section
namespace Go.Proofs.YtgemfpnlnipfnaaGreat.Wr
open Go.RowKit Go.Proofs.YtgemfpnlnipfnaaGreat Go.Proofs.YtgemfpnlnipfnaaGreat.Sy
set_option maxRecDepth 100000
set_option maxHeartbeats 4000000

theorem BytR.slice {C : Rdr} {A : Option Addr} {n cp : Nat} {b : Byt} (h : BytR C (.slice A n cp) b) {l m : Nat} (hl : l ≤ m) (hm : m ≤ n) : BytR C (sliced A l m cp 1) ((b.drop l).take (m - l)) := by
  obtain ⟨A', n', cp', e, h2, h3, h4, h5⟩ := h
  injection e with e1 e2 e3
  subst e1 e2 e3
  refine ⟨_, _, _, rfl, by rw [List.length_take, List.length_drop]; omega, by omega, by omega, fun hne => ?_⟩
  have hb : b ≠ [] := fun e => hne (by rw [e]; simp)
  have hlt : l < m := by
    rcases Nat.lt_or_ge l m with h | h
    · exact h
    · exact (hne (by rw [show m - l = 0 by omega, List.take_zero])).elim
  obtain ⟨g, o, rfl, hq⟩ := h5 hb
  refine ⟨g, o + l, ?_, fun j u hj => ?_⟩
  · rw [if_neg (by omega), Option.map_some, addr_off, Nat.mul_one]
  · have hj' : j < m - l := by
      have := (List.getElem?_eq_some_iff.1 hj).1
      rw [List.length_take] at this; omega
    rw [List.getElem?_take_of_lt hj', List.getElem?_drop] at hj
    rw [Nat.add_assoc]
    exact hq _ _ hj
theorem BytR.drop {C : Rdr} {A : Option Addr} {n cp : Nat} {b : Byt} (h : BytR C (.slice A n cp) b) {l : Nat} (hl : l ≤ n) : BytR C (sliced A l n cp 1) (b.drop l) := by
  have q := h.slice hl (Nat.le_refl n)
  obtain ⟨A', n', cp', e, h2, _⟩ := h
  injection e with e1 e2 e3
  subst e1 e2 e3
  rw [List.take_of_length_le (by rw [List.length_drop]; omega)] at q
  exact q
theorem exec_sl {F : Slots} {o : Oper} (x kx : Operand) (A : Option Addr) (n cp k : Nat) (ho : o.op = .slice 27 x (some kx) none none) (hx : evF F x = .slice A n cp) (hk : evF F kx = .int .i64 (k : Int)) (h : k ≤ n) (w : World) : (execOp (evF F) o).run Tryz.prog w = .ok (.value (sliced A k n cp 1)) w := by
  have ht : Tryz.prog.underlying 27 = some (.slice (Tryz.prog.elem 27)) := by kernel_rfl
  have e : (Instr.sliceAt 27 (.slice A n cp) (some (.int .i64 (k : Int))) none none).run Tryz.prog w = .ok (sliced A k n cp 1) w := by
    rw [run_sliceAt_slice w 27 _ _ _ _ ht, run_slice_l w 27 A n cp ht .i64 k (by omega) (by omega)]
    have hs : (sizeOf (Tryz.prog.elem 27)).run Tryz.prog w = .ok 1 w := by kernel_rfl
    rw [hs, Result.andThen_ok, Int.toNat_natCast]
  unfold execOp
  simp only [ho, hx, hk, Option.map_some, Option.map_none, e, Sem.run_bind, Sem.run_pure, Result.andThen_ok]
theorem exec_slh {F : Slots} {o : Oper} (x kx hx' : Operand) (A : Option Addr) (n cp k m : Nat) (ho : o.op = .slice 27 x (some kx) (some hx') none) (hx : evF F x = .slice A n cp) (hk : evF F kx = .int .i64 (k : Int)) (hm : evF F hx' = .int .i64 (m : Int)) (h : k ≤ m) (h2 : m ≤ cp) (w : World) : (execOp (evF F) o).run Tryz.prog w = .ok (.value (sliced A k m cp 1)) w := by
  have ht : Tryz.prog.underlying 27 = some (.slice (Tryz.prog.elem 27)) := by kernel_rfl
  have e : (Instr.sliceAt 27 (.slice A n cp) (some (.int .i64 (k : Int))) (some (.int .i64 (m : Int))) none).run Tryz.prog w = .ok (sliced A k m cp 1) w := by
    rw [run_sliceAt_slice w 27 _ _ _ _ ht, run_slice_lh w 27 A n cp ht .i64 .i64 k m (by omega) (by omega) (by omega)]
    have hs : (sizeOf (Tryz.prog.elem 27)).run Tryz.prog w = .ok 1 w := by kernel_rfl
    rw [hs, Result.andThen_ok, Int.toNat_natCast, Int.toNat_natCast]
  unfold execOp
  simp only [ho, hx, hk, hm, Option.map_some, Option.map_none, e, Sem.run_bind, Sem.run_pure, Result.andThen_ok]
theorem int_or8 (t : TypeId) (a c : Nat) (ha : a < 72057594037927936) (hc : c < 256) (w : World) : (binOp .or t (.int .u64 ((a * 256 : Nat) : Int)) (.int .u64 (c : Int))).run Tryz.prog w = .ok (.int .u64 ((256 * a + c : Nat) : Int)) w := by
  have e : ((BitVec.ofInt IntKind.u64.bits ((a * 256 : Nat) : Int) ||| BitVec.ofInt IntKind.u64.bits (c : Int)).toNat : Nat) = 256 * a + c := by
    show ((BitVec.ofInt 64 ((a * 256 : Nat) : Int) ||| BitVec.ofInt 64 (c : Int)).toNat) = _
    rw [BitVec.toNat_or, BitVec.ofInt_natCast, BitVec.ofInt_natCast, BitVec.toNat_ofNat, BitVec.toNat_ofNat, Nat.mod_eq_of_lt (by omega), Nat.mod_eq_of_lt (by omega), Nat.mul_comm]
    exact (Nat.two_pow_add_eq_or_of_lt (i := 8) hc a).symm
  have h : IntKind.u64.wrap (((BitVec.ofInt IntKind.u64.bits ((a * 256 : Nat) : Int) ||| BitVec.ofInt IntKind.u64.bits (c : Int)).toNat : Nat) : Int) = ((256 * a + c : Nat) : Int) := by
    rw [e]; exact wrap_u64 (by omega) (by omega)
  simp only [binOp, ne_eq, not_true_eq_false, if_false, Op.intBits, Sem.run_pure]
  rw [h]
theorem int_shl8 (t : TypeId) (a : Nat) (ha : a < 72057594037927936) (w : World) : (binOp .shl t (.int .u64 (a : Int)) (.int .u64 8)).run Tryz.prog w = .ok (.int .u64 ((a * 256 : Nat) : Int)) w := by
  have h : IntKind.u64.wrap ((a : Int) * 2 ^ min (8 : Int).toNat IntKind.u64.bits) = ((a * 256 : Nat) : Int) := by
    rw [show (2 : Int) ^ min (8 : Int).toNat IntKind.u64.bits = 256 from rfl, Int.natCast_mul]
    exact wrap_u64 (by omega) (by omega)
  simp only [binOp, Op.shift, if_neg (show ¬ (8 : Int) < 0 by omega), Sem.run_pure, h]
abbrev t3V (x : Nat × Nat × Nat) : Value := .tuple #[.int .u64 (x.1 : Int), .int .i64 (x.2.1 : Int), .int .i64 (x.2.2 : Int)]
def fxN (b : Byt) (k : Nat) : Nat × Nat × Nat := if b.length < k then (0, 0, 110) else (said (b.take k), k, 0)
theorem said_take (b : Byt) (i : Nat) (u : UInt8) (h : b[i]? = some u) : said (b.take (i + 1)) = 256 * said (b.take i) + u.toNat := by
  rw [List.take_add_one, h]
  exact said_snoc _ _
theorem said_lt8 (b : Byt) (i : Nat) (hi : i ≤ 7) : said (b.take i) < 72057594037927936 := by
  have h := said_lt (b.take i)
  have h2 : 256 ^ (b.take i).length ≤ 256 ^ 7 := Nat.pow_le_pow_right (by decide) (by rw [List.length_take]; omega)
  exact Nat.lt_of_lt_of_le h h2
theorem fixedR_any (w : World) (v : Value) (b : Byt) (k : Nat) (hk : k ≤ 8) (h1 : 1 ≤ k) (hv : BytR (rdW w) v b) : Calls Tryz.prog 194 #[v, .int .i64 (k : Int)] w (Gets w (t3V (fxN b k))) := by
  obtain ⟨A, n, cp, rfl, h2, h3, h4, h5⟩ := hv
  refine Sy.enter (args := [.slice A n cp, .int .i64 (k : Int)]) Tryz.func194 rfl kL ?_
  refine sC ?_
  refine sP (.int .u64 0) <| sP (.int .i64 0) <| sP (.int .i64 0) ?_
  refine sG ?_
  refine Sy.seq ?_
  refine sC ?_
  obtain ⟨b1, hb1⟩ : ∃ z : Bool, z = decide (n < k) := ⟨_, rfl⟩
  refine sp rfl <| sP (.int .i64 (n : Int)) <| sp rfl <| sS (.bool b1) (Quiet.pure (exec_int .lss _ _ _ .i64 _ _ _ rfl rfl rfl (int_lss _ _ _ _ _ (by rw [hb1]; exact decide_eq_decide.2 (by omega))))) ?_
  refine sG ?_
  cases b1
  case' true =>
    have l1 : n < k := of_decide_eq_true hb1.symm
    refine sT ?_
    refine sC ?_
    refine sP (.int .u64 0) <| sP (.int .i64 0) <| sP (.int .i64 110) ?_
    refine sG ?_
    refine Sy.ret ?_
    refine Sy.then_ret ?_
    have e : fxN b k = (0, 0, 110) := by unfold fxN; rw [if_pos (by omega)]
    rw [e]
    exact Sy.ret3 rfl (.inl (show _ = _ by kernel_rfl)) (.inl (show _ = _ by kernel_rfl)) (.inl (show _ = _ by kernel_rfl))
  have l1 : ¬ n < k := of_decide_eq_false hb1.symm
  have e : fxN b k = (said (b.take k), k, 0) := by unfold fxN; rw [if_neg (by omega)]
  rw [e]
  obtain ⟨g, o, rfl, hq⟩ := h5 (by intro e; rw [e] at h2; simp at h2; omega)
  refine sU ?_
  refine Sy.skip ?_
  refine sB ?_
  refine sP (.int .u64 0) ?_
  refine sG ?_
  refine Sy.seq ?_
  refine sC ?_
  refine sp rfl <| sp rfl <| sS (.slice (some ⟨g, o, none⟩) k cp) (Quiet.pure (exec_upto 27 _ _ g o n cp k 1 .i64 rfl rfl rfl (by kernel_rfl) kF (by omega))) <| sP (.int .i64 (k : Int)) <| sP (.int .i64 0) ?_
  refine sG ?_
  refine Sy.block ?_
  refine Sy.loopT (Y := Nat × Value) k (fun i y => [(1, .int .i64 (k : Int)), (7, .int .u64 (y.1 : Int)), (16, .slice (some ⟨g, o, none⟩) k cp), (17, .int .i64 (k : Int)), (18, .int .i64 (i : Int))]) (fun _ _ => []) (fun i y => y.1 = said (b.take i)) (0, .bool true) rfl (all_cons kR (all_cons kR (all_cons kR (all_cons kR (all_cons kR all_nil))))) (fun _ h => h) (fun i y hi hy => ?_)
  obtain ⟨a, z⟩ := y
  dsimp only at hy ⊢
  refine sC ?_
  obtain ⟨b2, hb2⟩ : ∃ z : Bool, z = decide (i < k) := ⟨_, rfl⟩
  refine sS (.bool b2) (Quiet.pure (exec_int .lss _ _ _ .i64 _ _ _ rfl rfl rfl (int_lss _ _ _ _ _ (by rw [hb2]; exact decide_eq_decide.2 (by omega))))) ?_
  refine sG ?_
  refine Sy.seq ?_
  cases b2
  case' false =>
    have l2 : ¬ i < k := of_decide_eq_false hb2.symm
    obtain rfl : i = k := by omega
    refine sU ?_
    refine Sy.exit ?_
    refine Sy.then_exit ?_
    refine Sy.then_exit ?_
    refine Sy.in_exit ?_
    refine Sy.then_ ?_
    refine sC ?_
    refine sp rfl <| sp rfl <| sp rfl <| sp rfl <| sP (.int .i64 0) ?_
    refine sG ?_
    refine Sy.ret ?_
    rw [← hy]
    exact Sy.ret3 rfl (.inl (show _ = _ by kernel_rfl)) (.inl (show _ = _ by kernel_rfl)) (.inl (show _ = _ by kernel_rfl))
  have l2 : i < k := of_decide_eq_true hb2.symm
  obtain ⟨u, hu⟩ : ∃ u, b[i]? = some u := ⟨_, List.getElem?_eq_getElem (by omega)⟩
  have ha : a < 72057594037927936 := by rw [hy]; exact said_lt8 b i (by omega)
  have hu2 := u.toNat_lt
  refine sT ?_
  refine Sy.skip ?_
  refine Sy.then_ ?_
  refine Sy.seq ?_
  refine Sy.block ?_
  refine sC ?_
  refine sS (.pointer (some ⟨g, o + i * 1, none⟩)) (Quiet.pure (exec_atO 27 _ _ _ (some ⟨g, o, none⟩) g o k cp i 1 .i64 rfl rfl rfl rfl Tryz.underlying27 kF l2)) <| sS (bv u) (Quiet.thereOne g (o + i * 1) 5 _ _ rfl kR (hq i u hu).1 _ (by rw [Nat.mul_one]; exact (hq i u hu).2) Tryz.underlying5 rfl) <| sp rfl ?_
  refine Sy.nil ?_
  refine Sy.then_ ?_
  refine Sy.region ?_
  refine sp rfl <| sS (.int .u64 ((a * 256 : Nat) : Int)) (Quiet.pure (exec_int .shl _ _ _ .u64 _ _ _ rfl rfl rfl (int_shl8 _ a ha))) <| sp rfl <| sS (.int .u64 ((u.toNat : Nat) : Int)) (Quiet.pure (fun w => conv_86 w _ _ _ u rfl rfl)) <| sS (.int .u64 ((256 * a + u.toNat : Nat) : Int)) (Quiet.pure (exec_int .or _ _ _ .u64 _ _ _ rfl rfl rfl (int_or8 _ a _ ha hu2))) <| sp rfl ?_
  refine Sy.nil ?_
  refine Sy.in_ ?_
  refine Sy.then_ ?_
  refine Sy.region ?_
  refine sS (.int .i64 ((i + 1 : Nat) : Int)) (Quiet.pure (exec_int .add _ _ _ .i64 _ _ _ rfl rfl rfl (int_add _ _ _ _ _ ((wrap_i64 (by omega) (by omega)).trans (by omega))))) <| sp rfl ?_
  refine Sy.nil ?_
  exact Sy.againT (256 * a + u.toNat, .bool true) l2 (by show 256 * a + u.toNat = _; rw [hy, said_take b i u hu]) (all_cons kR (all_cons kR (all_cons kR (all_cons kR (all_cons kR all_nil))))) (fun w h => h)
end Go.Proofs.YtgemfpnlnipfnaaGreat.Wr

end
section
namespace Go.Proofs.YtgemfpnlnipfnaaGreat.Wr
open Go.RowKit Go.Proofs.YtgemfpnlnipfnaaGreat Go.Proofs.YtgemfpnlnipfnaaGreat.Sy
set_option maxRecDepth 100000
set_option maxHeartbeats 4000000

section
variable {P : Program} {w0 : Base} {n : Nat} {Q : Exit → Act → World → Prop} {F : Slots} {L : Blocks}
def Meet (w0 : Base) (n : Nat) (G : Slots) (M : Blocks) : Exit → Act → World → Prop
  | .normal, a, w => Fr w0.ds a n G ∧ St w0 w M
  | _, _, _ => False
theorem cutC {x : Code} (G : Slots) (M : Blocks) (h1 : wpC P w0 n (Meet w0 n G M) F L x) (h2 : X w0 n Q G M .normal) : wpC P w0 n Q F L x := fun a w ha hw =>
  wpIn_mono (h1 a w ha hw) fun e a w hq => by
    cases e with
    | normal => exact h2 a w hq.1 hq.2
    | _ => exact hq.elim
theorem meet {G : Slots} {M : Blocks} (hF : ∀ p ∈ G, F.lookup p.1 = some p.2) (hL : ∀ w, St w0 w L → St w0 w M) : X w0 n (Meet w0 n G M) F L .normal := fun _ w ha hw => ⟨ha.all hF, hL w hw⟩
end
theorem BytR.at {w w' : World} {L : Blocks} {v : Value} {b : Byt} (h : BytR (rdW w) v b) (hw : St (Base.of w) w' L) : BytR (rdW w') v b := h.le fun g o u hu => rdC_world (R := []) hw (fun _ h => by cases h) g o u (.inl hu)
def lgN (b : Byt) : Nat × Nat × Nat := if (fxN (b.drop 1) (wide (b.getD 0 0).toNat)).2.2 = 0 then (if (fxN (b.drop 1) (wide (b.getD 0 0).toNat)).1 < least (b.getD 0 0).toNat then (0, 0, 111) else ((fxN (b.drop 1) (wide (b.getD 0 0).toNat)).1, 1 + wide (b.getD 0 0).toNat, 0)) else (0, 0, (fxN (b.drop 1) (wide (b.getD 0 0).toNat)).2.2)
theorem fxN_fit (b : Byt) (k : Nat) (hk : k ≤ 8) : (fxN b k).1 < 18446744073709551616 ∧ (fxN b k).2.1 ≤ 8 ∧ (fxN b k).2.2 ≤ 200 := by
  unfold fxN
  split
  · exact ⟨by decide, by decide, by decide⟩
  · refine ⟨?_, hk, Nat.zero_le _⟩
    have h := said_lt (b.take k)
    have h2 : 256 ^ (b.take k).length ≤ 256 ^ 8 := Nat.pow_le_pow_right (by decide) (by rw [List.length_take]; omega)
    exact Nat.lt_of_lt_of_le h h2
theorem wide_le (c : Nat) : wide c ≤ 8 ∧ 1 ≤ wide c := by unfold wide; split <;> (try split) <;> omega
theorem least_le (c : Nat) : least c < 18446744073709551616 := by unfold least; split <;> (try split) <;> omega
theorem longerR_any (w : World) (v : Value) (b : Byt) (hb0 : b ≠ []) (hc : 253 ≤ (b.getD 0 0).toNat) (hv : BytR (rdW w) v b) : Calls Tryz.prog 274 #[v] w (Gets w (t3V (lgN b))) := by
  have hv0 := hv
  obtain ⟨A, n, cp, rfl, h2, h3, h4, h5⟩ := hv
  obtain ⟨x, hx⟩ : ∃ x, x = b.getD 0 0 := ⟨_, rfl⟩
  have hx0 : b[0]? = some x := by rw [hx, List.getD_eq_getElem?_getD, List.getElem?_eq_getElem (List.length_pos_iff.2 hb0)]; rfl
  have hn1 : 1 ≤ n := by have := List.length_pos_iff.2 hb0; omega
  obtain ⟨c, hcx⟩ : ∃ c, c = x.toNat := ⟨_, rfl⟩
  have hc1 : c < 256 := by rw [hcx]; exact x.toNat_lt
  obtain ⟨f, hf⟩ : ∃ f, f = fxN (b.drop 1) (wide c) := ⟨_, rfl⟩
  have hlg : lgN b = if f.2.2 = 0 then (if f.1 < least c then (0, 0, 111) else (f.1, 1 + wide c, 0)) else (0, 0, f.2.2) := by unfold lgN; rw [← hx, ← hcx, ← hf]
  rw [← hx, ← hcx] at hc
  rw [hlg]
  obtain ⟨hf1, hf2, hf3⟩ : f.1 < 18446744073709551616 ∧ f.2.1 ≤ 8 ∧ f.2.2 ≤ 200 := by rw [hf]; exact fxN_fit _ _ (wide_le c).1
  obtain ⟨g, o, rfl, hq⟩ := h5 hb0
  obtain ⟨A1, hA1⟩ : ∃ A1, sliced (some ⟨g, o, none⟩) 1 n cp 1 = .slice A1 (n - 1) (cp - 1) := ⟨_, rfl⟩
  have hv1 : BytR (rdW w) (.slice A1 (n - 1) (cp - 1)) (b.drop 1) := by rw [← hA1]; exact hv0.drop hn1
  have hwc := wide_le c
  have hlc := least_le c
  clear hlg
  have hfx := hf
  clear hf
  refine Sy.enter (args := [.slice (some ⟨g, o, none⟩) n cp]) Tryz.func274 rfl kL ?_
  refine sC ?_
  refine sP (.int .u64 0) <| sP (.int .i64 0) <| sP (.int .i64 0) ?_
  refine sA ?_
  refine sP (.int .i64 8) <| sP (.int .u64 4294967296) ?_
  refine sG ?_
  refine Sy.seq ?_
  refine cutC [(0, .slice (some ⟨g, o, none⟩) n cp), (5, .int .i64 ((wide c : Nat) : Int)), (6, .int .u64 ((least c : Nat) : Int))] [] ?_ ?_
  · refine sC ?_
    refine sp rfl <| sS (.pointer (some ⟨g, o + 0 * 1, none⟩)) (Quiet.pure (exec_atO 27 _ _ _ (some ⟨g, o, none⟩) g o n cp 0 1 .i64 rfl rfl rfl rfl Tryz.underlying27 kF hn1)) <| sS (.int .u8 (c : Int)) (Quiet.thereOne g (o + 0 * 1) 5 _ _ rfl kR (hq 0 x hx0).1 _ (by rw [hcx]; exact (hq 0 x hx0).2) Tryz.underlying5 rfl) ?_
    refine sG ?_
    refine Sy.block ?_
    refine sC ?_
    obtain ⟨b1, hb1⟩ : ∃ z : Bool, z = decide (c = 253) := ⟨_, rfl⟩
    refine sS (.bool b1) (Quiet.pure (exec_int .eql _ _ _ .u8 _ _ _ rfl rfl rfl (int_eql _ _ _ _ _ (by rw [hb1]; exact decide_eq_decide.2 (by omega))))) <| sp rfl ?_
    refine sG ?_
    cases b1
    case' true =>
      obtain rfl : c = 253 := of_decide_eq_true hb1.symm
      refine sT ?_
      refine Sy.region ?_
      refine sP (.int .i64 2) <| sP (.int .u64 253) ?_
      refine Sy.nil ?_
      refine Sy.in_ ?_
      exact meet (all_cons kR (all_cons kR (all_cons kR all_nil))) (fun _ h => h)
    have l1 : c ≠ 253 := of_decide_eq_false hb1.symm
    refine sU ?_
    refine sC ?_
    obtain ⟨b2, hb2⟩ : ∃ z : Bool, z = decide (c = 254) := ⟨_, rfl⟩
    refine sS (.bool b2) (Quiet.pure (exec_int .eql _ _ _ .u8 _ _ _ rfl rfl rfl (int_eql _ _ _ _ _ (by rw [hb2]; exact decide_eq_decide.2 (by omega))))) <| sp rfl ?_
    refine sG ?_
    cases b2
    case' true =>
      obtain rfl : c = 254 := of_decide_eq_true hb2.symm
      refine sT ?_
      refine Sy.region ?_
      refine sP (.int .i64 4) <| sP (.int .u64 65536) ?_
      refine Sy.nil ?_
      refine Sy.in_ ?_
      exact meet (all_cons kR (all_cons kR (all_cons kR all_nil))) (fun _ h => h)
    have l2 : c ≠ 254 := of_decide_eq_false hb2.symm
    obtain rfl : c = 255 := by omega
    refine sU ?_
    refine Sy.skip ?_
    refine Sy.in_ ?_
    exact meet (all_cons kR (all_cons kR (all_cons kR all_nil))) (fun _ h => h)
  refine sB ?_
  refine sp rfl <| sS (.slice A1 (n - 1) (cp - 1)) (Quiet.pure (fun w => by rw [← hA1]; exact exec_sl _ _ _ n cp 1 rfl rfl rfl hn1 w)) <| sp rfl <| sS (t3V f) (qg (fun w' hw => by rw [hfx]; exact fixedR_any w' _ _ _ hwc.1 hwc.2 (hv1.at hw))) <| sp rfl <| sp rfl <| sp rfl <| sp rfl <| sp rfl <| sp rfl <| sp rfl ?_
  refine sG ?_
  refine Sy.seq ?_
  obtain ⟨e1, he1⟩ : ∃ e1, e1 = if f.2.2 = 0 then (if f.1 < least c then 111 else 0) else f.2.2 := ⟨_, rfl⟩
  refine cutC [(5, .int .i64 ((wide c : Nat) : Int)), (7, .int .u64 ((f.1 : Nat) : Int)), (9, .int .i64 ((e1 : Nat) : Int))] [] ?_ ?_
  · refine sC ?_
    obtain ⟨b1, hb1⟩ : ∃ z : Bool, z = decide (f.2.2 = 0) := ⟨_, rfl⟩
    refine sp rfl <| sS (.bool b1) (Quiet.pure (exec_int .eql _ _ _ .i64 _ _ _ rfl rfl rfl (int_eql _ _ _ _ _ (by rw [hb1]; exact decide_eq_decide.2 (by omega))))) <| sp rfl ?_
    cases b1
    · have l1 : f.2.2 ≠ 0 := of_decide_eq_false hb1.symm
      rw [if_neg l1] at he1
      refine sN <| sN <| sN <| sP (.bool false) ?_
      refine sG ?_
      refine sU ?_
      refine Sy.skip ?_
      rw [he1]
      exact meet (all_cons kR (all_cons kR (all_cons kR all_nil))) (fun _ h => h)
    · have l1 : f.2.2 = 0 := of_decide_eq_true hb1.symm
      rw [if_pos l1] at he1
      obtain ⟨b2, hb2⟩ : ∃ z : Bool, z = decide (f.1 < least c) := ⟨_, rfl⟩
      refine sp rfl <| sp rfl <| sS (.bool b2) (Quiet.pure (exec_int .lss _ _ _ .u64 _ _ _ rfl rfl rfl (int_lss _ _ _ _ _ (by rw [hb2]; exact decide_eq_decide.2 (by omega))))) <| sP (.bool b2) ?_
      refine sG ?_
      cases b2
      · have l2 : ¬ f.1 < least c := of_decide_eq_false hb2.symm
        rw [if_neg l2] at he1
        refine sU ?_
        refine Sy.skip ?_
        have e2 : e1 = f.2.2 := by rw [he1, l1]
        rw [e2]
        exact meet (all_cons kR (all_cons kR (all_cons kR all_nil))) (fun _ h => h)
      · have l2 : f.1 < least c := of_decide_eq_true hb2.symm
        rw [if_pos l2] at he1
        refine sT ?_
        refine Sy.region ?_
        refine sP (.int .i64 111) ?_
        refine Sy.nil ?_
        rw [he1]
        exact meet (all_cons kR (all_cons kR (all_cons kR all_nil))) (fun _ h => h)
  have he2 : e1 ≤ 200 := by rw [he1]; split <;> (try split) <;> omega
  refine Sy.then_ ?_
  refine Sy.seq ?_
  refine sC ?_
  obtain ⟨b1, hb1⟩ : ∃ z : Bool, z = decide (e1 ≠ 0) := ⟨_, rfl⟩
  refine sp rfl <| sS (.bool b1) (Quiet.pure (exec_int .neq _ _ _ .i64 _ _ _ rfl rfl rfl (int_neq _ _ _ _ _ (by rw [hb1]; exact decide_eq_decide.2 (by omega))))) ?_
  refine sG ?_
  cases b1
  · have l1 : e1 = 0 := Decidable.of_not_not (of_decide_eq_false hb1.symm)
    have l2 : f.2.2 = 0 ∧ ¬ f.1 < least c := by
      rw [he1] at l1
      by_cases h : f.2.2 = 0
      · rw [if_pos h] at l1
        by_cases h' : f.1 < least c
        · rw [if_pos h'] at l1; cases l1
        · exact ⟨h, h'⟩
      · rw [if_neg h] at l1; exact (h l1).elim
    rw [if_pos l2.1, if_neg l2.2]
    refine sU ?_
    refine Sy.skip ?_
    refine sB ?_
    refine sp rfl <| sp rfl <| sS (.int .i64 ((1 + wide c : Nat) : Int)) (Quiet.pure (exec_int .add _ _ _ .i64 _ _ _ rfl rfl rfl (int_add _ _ _ _ _ ((wrap_i64 (by omega) (by omega)).trans (by omega))))) <| sp rfl <| sp rfl <| sP (.int .i64 0) ?_
    refine sG ?_
    refine Sy.ret ?_
    exact Sy.ret3 rfl (.inl (show _ = _ by kernel_rfl)) (.inl (show _ = _ by kernel_rfl)) (.inl (show _ = _ by kernel_rfl))
  · have l1 : e1 ≠ 0 := of_decide_eq_true hb1.symm
    have l2 : (if f.2.2 = 0 then (if f.1 < least c then (0, 0, 111) else (f.1, 1 + wide c, 0)) else (0, 0, f.2.2)) = (0, 0, e1) := by
      rw [he1] at l1 ⊢
      by_cases h : f.2.2 = 0
      · rw [if_pos h] at l1
        rw [if_pos h, if_pos h]
        by_cases h' : f.1 < least c
        · rw [if_pos h', if_pos h']
        · rw [if_neg h'] at l1; exact (l1 rfl).elim
      · rw [if_neg h, if_neg h]
    rw [l2]
    refine sT ?_
    refine sC ?_
    refine sp rfl <| sP (.int .u64 0) <| sP (.int .i64 0) <| sp rfl ?_
    refine sG ?_
    refine Sy.ret ?_
    refine Sy.then_ret ?_
    exact Sy.ret3 rfl (.inl (show _ = _ by kernel_rfl)) (.inl (show _ = _ by kernel_rfl)) (.inl (show _ = _ by kernel_rfl))
end Go.Proofs.YtgemfpnlnipfnaaGreat.Wr

end
section
namespace Go.Proofs.YtgemfpnlnipfnaaGreat.Wr
open Go.RowKit Go.Proofs.YtgemfpnlnipfnaaGreat Go.Proofs.YtgemfpnlnipfnaaGreat.Sy
set_option maxRecDepth 100000
set_option maxHeartbeats 4000000

theorem lgN_fit (b : Byt) : (lgN b).1 < 18446744073709551616 ∧ (lgN b).2.1 ≤ 9 ∧ (lgN b).2.2 ≤ 200 := by
  have h := fxN_fit (b.drop 1) (wide (b.getD 0 0).toNat) (wide_le _).1
  have h2 := wide_le (b.getD 0 0).toNat
  unfold lgN
  split
  · split
    · exact ⟨by decide, by decide, by decide⟩
    · exact ⟨h.1, by show 1 + _ ≤ 9; omega, Nat.zero_le _⟩
  · exact ⟨(show 0 < 18446744073709551616 by decide), (show 0 ≤ 9 by decide), h.2.2⟩
def vrG (b : Byt) : Nat × Nat × Nat := if 253 ≤ (fxN b 1).1 then lgN b else fxN b 1
def vrN (b : Byt) (most : Nat) : Nat × Nat × Nat := if (vrG b).2.2 = 0 ∧ most < (vrG b).1 then (0, 0, 112) else vrG b
theorem vrG_fit (b : Byt) : (vrG b).1 < 18446744073709551616 ∧ (vrG b).2.1 ≤ 9 ∧ (vrG b).2.2 ≤ 200 := by
  have h := fxN_fit b 1 (by decide)
  unfold vrG
  split
  · exact lgN_fit b
  · exact ⟨h.1, Nat.le_succ_of_le h.2.1, h.2.2⟩
theorem vrN_fit (b : Byt) (most : Nat) : (vrN b most).1 < 18446744073709551616 ∧ (vrN b most).2.1 ≤ 9 ∧ (vrN b most).2.2 ≤ 200 := by
  unfold vrN
  split
  · exact ⟨by decide, by decide, by decide⟩
  · exact vrG_fit b
theorem fx_yes {b : Byt} {k : Nat} (h : (fxN b k).2.2 = 0) : numP k b = some ((fxN b k).1, b.drop (fxN b k).2.1) ∧ (fxN b k).2.1 ≤ b.length ∧ (fxN b k).2.1 = k := by
  unfold fxN at h ⊢
  by_cases hl : b.length < k
  · rw [if_pos hl] at h; cases h
  · rw [if_neg hl]
    refine ⟨?_, by show k ≤ _; omega, rfl⟩
    unfold numP
    rw [bind_some (show takeP k b = some (b.take k, b.drop k) from if_pos (by omega))]
    rfl
theorem fx_no {b : Byt} {k : Nat} (h : (fxN b k).2.2 ≠ 0) : numP k b = none := by
  unfold fxN at h
  by_cases hl : b.length < k
  · unfold numP
    exact bind_none (show takeP k b = none from if_neg (by omega))
  · rw [if_neg hl] at h; exact (h rfl).elim
def frontP : Ps Nat := bindP (numP 1) fun c => if c < 253 then retP c else longP c
theorem varP_front (most : Nat) : varP most = bindP frontP fun n => bindP (mustP (decide (n ≤ most))) fun _ => retP n := rfl
theorem fx_one {b : Byt} {u : UInt8} {l : Byt} (hb : b = u :: l) : fxN b 1 = (u.toNat, 1, 0) := by
  subst hb
  unfold fxN
  rw [if_neg (by simp)]
  simp [said]
theorem num_one {b : Byt} {u : UInt8} {l : Byt} (hb : b = u :: l) : numP 1 b = some (u.toNat, l) := by
  have h := fx_yes (b := b) (k := 1) (by rw [fx_one hb])
  rw [fx_one hb] at h
  rw [h.1, hb]
  rfl
theorem vrG_spec (b : Byt) : ((vrG b).2.2 = 0 → frontP b = some ((vrG b).1, b.drop (vrG b).2.1) ∧ (vrG b).2.1 ≤ b.length) ∧ ((vrG b).2.2 ≠ 0 → frontP b = none) := by
  cases b with
  | nil =>
    have e : vrG [] = (0, 0, 110) := rfl
    rw [e]
    exact ⟨fun h => (by cases h), fun _ => rfl⟩
  | cons u l =>
    have hu := u.toNat_lt
    have h1 := fx_one (rfl : u :: l = u :: l)
    have h2 := num_one (rfl : u :: l = u :: l)
    unfold vrG
    rw [h1]
    by_cases hc : 253 ≤ u.toNat
    · rw [if_pos (show 253 ≤ (u.toNat, 1, 0).1 from hc)]
      have e1 : frontP (u :: l) = longP u.toNat l := by
        unfold frontP
        rw [bind_some h2, if_neg (by omega)]
      rw [e1]
      unfold lgN longP
      show ((if (fxN l (wide u.toNat)).2.2 = 0 then _ else _ : Nat × Nat × Nat).2.2 = 0 → _) ∧ _
      obtain ⟨f, hf⟩ : ∃ f, f = fxN l (wide u.toNat) := ⟨_, rfl⟩
      have hy := @fx_yes l (wide u.toNat)
      have hn := @fx_no l (wide u.toNat)
      show ((if (fxN l (wide u.toNat)).2.2 = 0 then (if (fxN l (wide u.toNat)).1 < least u.toNat then (0, 0, 111) else ((fxN l (wide u.toNat)).1, 1 + wide u.toNat, 0)) else (0, 0, (fxN l (wide u.toNat)).2.2) : Nat × Nat × Nat).2.2 = 0 → bindP (numP (wide u.toNat)) (fun n => bindP (mustP (decide (least u.toNat ≤ n))) fun _ => retP n) l = some ((if (fxN l (wide u.toNat)).2.2 = 0 then (if (fxN l (wide u.toNat)).1 < least u.toNat then (0, 0, 111) else ((fxN l (wide u.toNat)).1, 1 + wide u.toNat, 0)) else (0, 0, (fxN l (wide u.toNat)).2.2) : Nat × Nat × Nat).1, (u :: l).drop (if (fxN l (wide u.toNat)).2.2 = 0 then (if (fxN l (wide u.toNat)).1 < least u.toNat then (0, 0, 111) else ((fxN l (wide u.toNat)).1, 1 + wide u.toNat, 0)) else (0, 0, (fxN l (wide u.toNat)).2.2) : Nat × Nat × Nat).2.1) ∧ (if (fxN l (wide u.toNat)).2.2 = 0 then (if (fxN l (wide u.toNat)).1 < least u.toNat then (0, 0, 111) else ((fxN l (wide u.toNat)).1, 1 + wide u.toNat, 0)) else (0, 0, (fxN l (wide u.toNat)).2.2) : Nat × Nat × Nat).2.1 ≤ (u :: l).length) ∧ ((if (fxN l (wide u.toNat)).2.2 = 0 then (if (fxN l (wide u.toNat)).1 < least u.toNat then (0, 0, 111) else ((fxN l (wide u.toNat)).1, 1 + wide u.toNat, 0)) else (0, 0, (fxN l (wide u.toNat)).2.2) : Nat × Nat × Nat).2.2 ≠ 0 → bindP (numP (wide u.toNat)) (fun n => bindP (mustP (decide (least u.toNat ≤ n))) fun _ => retP n) l = none)
      rw [← hf] at hy hn ⊢
      by_cases h0 : f.2.2 = 0
      · obtain ⟨q1, q2, q3⟩ := hy h0
        rw [if_pos h0]
        by_cases h3 : f.1 < least u.toNat
        · rw [if_pos h3]
          refine ⟨fun h => (by cases h), fun _ => ?_⟩
          rw [bind_some q1]
          exact bind_none (show mustP _ _ = none by unfold mustP; rw [decide_eq_false (by omega)]; rfl)
        · rw [if_neg h3]
          refine ⟨fun _ => ⟨?_, by show 1 + wide u.toNat ≤ l.length + 1; omega⟩, fun h => (h rfl).elim⟩
          rw [bind_some q1, bind_some (show mustP _ _ = some ((), _) by unfold mustP; rw [decide_eq_true (by omega)]; rfl), q3, Nat.add_comm 1]
          rfl
      · rw [if_neg h0]
        refine ⟨fun h => (h0 h).elim, fun _ => bind_none (hn h0)⟩
    · rw [if_neg (show ¬ 253 ≤ (u.toNat, 1, 0).1 from hc)]
      refine ⟨fun _ => ⟨?_, by show 1 ≤ l.length + 1; omega⟩, fun h => (h rfl).elim⟩
      unfold frontP
      rw [bind_some h2, if_pos (by omega)]
      rfl
theorem vr_yes {b : Byt} {most : Nat} (h : (vrN b most).2.2 = 0) : varP most b = some ((vrN b most).1, b.drop (vrN b most).2.1) ∧ (vrN b most).2.1 ≤ b.length ∧ (vrN b most).1 ≤ most := by
  have q := vrG_spec b
  unfold vrN at h ⊢
  by_cases hc : (vrG b).2.2 = 0 ∧ most < (vrG b).1
  · rw [if_pos hc] at h; cases h
  · rw [if_neg hc] at h ⊢
    obtain ⟨q1, q2⟩ := q.1 h
    refine ⟨?_, q2, by omega⟩
    rw [varP_front, bind_some q1, bind_some (show mustP _ _ = some ((), _) by unfold mustP; rw [decide_eq_true (by omega)]; rfl)]
    rfl
theorem vr_no {b : Byt} {most : Nat} (h : (vrN b most).2.2 ≠ 0) : varP most b = none := by
  have q := vrG_spec b
  unfold vrN at h
  rw [varP_front]
  by_cases h0 : (vrG b).2.2 = 0
  · by_cases hm : most < (vrG b).1
    · rw [bind_some (q.1 h0).1]
      exact bind_none (show mustP _ _ = none by unfold mustP; rw [decide_eq_false (by omega)]; rfl)
    · rw [if_neg (fun x => hm x.2)] at h; exact (h h0).elim
  · exact bind_none (q.2 h0)
theorem variableR_any (w : World) (v : Value) (b : Byt) (most : Nat) (hm : most < 18446744073709551616) (hv : BytR (rdW w) v b) : Calls Tryz.prog 247 #[v, .int .u64 (most : Int)] w (Gets w (t3V (vrN b most))) := by
  obtain ⟨f, hf⟩ : ∃ f, f = fxN b 1 := ⟨_, rfl⟩
  have hff := fxN_fit b 1 (by decide)
  obtain ⟨r, hr⟩ : ∃ r, r = vrG b := ⟨_, rfl⟩
  have hrf := vrG_fit b
  have hvr : vrN b most = if r.2.2 = 0 ∧ most < r.1 then (0, 0, 112) else r := by unfold vrN; rw [← hr]
  have hrf2 : r = if 253 ≤ f.1 then lgN b else f := by rw [hr, hf]; rfl
  rw [← hr] at hrf
  rw [← hf] at hff
  rw [hvr]
  have hb0 : 253 ≤ f.1 → b ≠ [] ∧ 253 ≤ (b.getD 0 0).toNat := fun h => by
    cases b with
    | nil => rw [hf] at h; simp [fxN] at h
    | cons u l => rw [hf, fx_one rfl] at h; exact ⟨by simp, h⟩
  have hfx := hf
  clear hf hvr hr
  refine Sy.enter (args := [v, .int .u64 (most : Int)]) Tryz.func247 rfl kL ?_
  refine sC ?_
  refine sP (.int .u64 0) <| sP (.int .i64 0) <| sP (.int .i64 0) ?_
  refine sA ?_
  refine sp rfl <| sS (t3V f) (qg (fun w' hw => by rw [hfx]; exact fixedR_any w' _ _ 1 (by decide) (by decide) (hv.at hw))) <| sp rfl <| sp rfl <| sp rfl <| sp rfl <| sp rfl <| sp rfl <| sp rfl ?_
  refine sG ?_
  refine Sy.seq ?_
  refine cutC [(1, .int .u64 (most : Int)), (7, .int .u64 ((r.1 : Nat) : Int)), (8, .int .i64 ((r.2.1 : Nat) : Int)), (9, .int .i64 ((r.2.2 : Nat) : Int))] [] ?_ ?_
  · refine sC ?_
    obtain ⟨b1, hb1⟩ : ∃ z : Bool, z = decide (253 ≤ f.1) := ⟨_, rfl⟩
    refine sp rfl <| sS (.bool b1) (Quiet.pure (exec_int .geq _ _ _ .u64 _ _ _ rfl rfl rfl (int_geq _ _ _ _ _ (by rw [hb1]; exact decide_eq_decide.2 (by omega))))) ?_
    refine sG ?_
    cases b1
    · rw [if_neg (of_decide_eq_false hb1.symm)] at hrf2
      refine sU ?_
      refine Sy.skip ?_
      rw [hrf2]
      exact meet (all_cons kR (all_cons kR (all_cons kR (all_cons kR all_nil)))) (fun _ h => h)
    · have l1 : 253 ≤ f.1 := of_decide_eq_true hb1.symm
      rw [if_pos l1] at hrf2
      refine sT ?_
      refine Sy.region ?_
      refine sp rfl <| sS (t3V r) (qg (fun w' hw => by rw [hrf2]; exact longerR_any w' _ _ (hb0 l1).1 (hb0 l1).2 (hv.at hw))) <| sp rfl <| sp rfl <| sp rfl <| sp rfl <| sp rfl <| sp rfl <| sp rfl ?_
      refine Sy.nil ?_
      exact meet (all_cons kR (all_cons kR (all_cons kR (all_cons kR all_nil)))) (fun _ h => h)
  clear hrf2 hfx
  refine Sy.then_ ?_
  refine Sy.seq ?_
  refine sC ?_
  obtain ⟨b1, hb1⟩ : ∃ z : Bool, z = decide (r.2.2 = 0) := ⟨_, rfl⟩
  refine sp rfl <| sS (.bool b1) (Quiet.pure (exec_int .eql _ _ _ .i64 _ _ _ rfl rfl rfl (int_eql _ _ _ _ _ (by rw [hb1]; exact decide_eq_decide.2 (by omega))))) <| sp rfl ?_
  cases b1
  · have l1 : r.2.2 ≠ 0 := of_decide_eq_false hb1.symm
    rw [if_neg (fun h => l1 h.1)]
    refine sN <| sN <| sN <| sP (.bool false) ?_
    refine sG ?_
    refine sU ?_
    refine Sy.skip ?_
    refine sB ?_
    refine sp rfl <| sp rfl <| sp rfl <| sp rfl <| sp rfl <| sp rfl ?_
    refine sG ?_
    refine Sy.ret ?_
    exact Sy.ret3 rfl (.inl (show _ = _ by kernel_rfl)) (.inl (show _ = _ by kernel_rfl)) (.inl (show _ = _ by kernel_rfl))
  have l1 : r.2.2 = 0 := of_decide_eq_true hb1.symm
  obtain ⟨b2, hb2⟩ : ∃ z : Bool, z = decide (most < r.1) := ⟨_, rfl⟩
  refine sp rfl <| sp rfl <| sS (.bool b2) (Quiet.pure (exec_int .gtr _ _ _ .u64 _ _ _ rfl rfl rfl (int_gtr _ _ _ _ _ (by rw [hb2]; exact decide_eq_decide.2 (by omega))))) <| sP (.bool b2) ?_
  refine sG ?_
  cases b2
  · have l2 : ¬ most < r.1 := of_decide_eq_false hb2.symm
    rw [if_neg (fun h => l2 h.2)]
    refine sU ?_
    refine Sy.skip ?_
    refine sB ?_
    refine sp rfl <| sp rfl <| sp rfl <| sp rfl <| sp rfl <| sp rfl ?_
    refine sG ?_
    refine Sy.ret ?_
    exact Sy.ret3 rfl (.inl (show _ = _ by kernel_rfl)) (.inl (show _ = _ by kernel_rfl)) (.inl (show _ = _ by kernel_rfl))
  · have l2 : most < r.1 := of_decide_eq_true hb2.symm
    rw [if_pos ⟨l1, l2⟩]
    refine sT ?_
    refine sC ?_
    refine sP (.int .u64 0) <| sP (.int .i64 0) <| sP (.int .i64 112) ?_
    refine sG ?_
    refine Sy.ret ?_
    refine Sy.then_ret ?_
    exact Sy.ret3 rfl (.inl (show _ = _ by kernel_rfl)) (.inl (show _ = _ by kernel_rfl)) (.inl (show _ = _ by kernel_rfl))
theorem exec_max0 {F : Slots} {o : Oper} (x y : Operand) (ts : Array TypeId) (k : Nat) (ho : o.op = .call { callee := .builtin .max, args := #[x, y], argTypes := ts }) (hx : evF F x = .int .i64 (k : Int)) (hy : evF F y = .int .i64 0) (w : World) : (execOp (evF F) o).run Tryz.prog w = .ok (.value (.int .i64 (k : Int))) w := by
  have h : (if (0 : Int) > (k : Int) then (0 : Int) else (k : Int)) = (k : Int) := if_neg (by omega)
  unfold execOp
  simp only [ho, resolve, invoke, builtin, Sem.run_bind, Sem.run_pure, Result.andThen_ok, List.map_toArray, List.map_cons, List.map_nil, hx, hy, Builtin.max_, Builtin.max2, List.foldlM, h]
theorem lengthR_any (w : World) (v : Value) (b : Byt) (most : Nat) (hm : most < 9223372036854775808) (hv : BytR (rdW w) v b) : Calls Tryz.prog 213 #[v, .int .i64 (most : Int)] w (Gets w (t3V (vrN b most))) := by
  obtain ⟨r, hr⟩ : ∃ r, r = vrN b most := ⟨_, rfl⟩
  have hrf := vrN_fit b most
  rw [← hr] at hrf ⊢
  refine Sy.enter (args := [v, .int .i64 (most : Int)]) Tryz.func213 rfl kL ?_
  refine sC ?_
  refine sP (.int .u64 0) <| sP (.int .i64 0) <| sP (.int .i64 0) ?_
  refine sA ?_
  refine sp rfl <| sp rfl <| sS (.int .i64 (most : Int)) (Quiet.pure (exec_max0 _ _ _ most rfl rfl rfl)) <| sS (.int .u64 (most : Int)) (Quiet.pure (fun w => conv_i6 w _ _ _ most (by omega) rfl rfl)) <| sS (t3V r) (qg (fun w' hw => by rw [hr]; exact variableR_any w' _ _ most (by omega) (hv.at hw))) <| sp rfl <| sp rfl <| sp rfl <| sp rfl <| sp rfl <| sp rfl <| sp rfl ?_
  refine sG ?_
  refine Sy.seq ?_
  refine sC ?_
  obtain ⟨b1, hb1⟩ : ∃ z : Bool, z = decide (r.2.2 = 0) := ⟨_, rfl⟩
  refine sp rfl <| sS (.bool b1) (Quiet.pure (exec_int .eql _ _ _ .i64 _ _ _ rfl rfl rfl (int_eql _ _ _ _ _ (by rw [hb1]; exact decide_eq_decide.2 (by omega))))) <| sp rfl ?_
  cases b1
  · refine sN <| sN <| sP (.bool false) ?_
    refine sG ?_
    refine sU ?_
    refine Sy.skip ?_
    refine sB ?_
    refine sp rfl <| sp rfl <| sp rfl <| sp rfl <| sp rfl <| sp rfl ?_
    refine sG ?_
    refine Sy.ret ?_
    exact Sy.ret3 rfl (.inl (show _ = _ by kernel_rfl)) (.inl (show _ = _ by kernel_rfl)) (.inl (show _ = _ by kernel_rfl))
  · refine sp rfl <| sS (.bool false) (Quiet.pure (exec_int .lss _ _ _ .i64 _ _ _ rfl rfl rfl (int_lss _ _ _ _ _ (decide_eq_false (by omega))))) <| sP (.bool false) ?_
    refine sG ?_
    refine sU ?_
    refine Sy.skip ?_
    refine sB ?_
    refine sp rfl <| sp rfl <| sp rfl <| sp rfl <| sp rfl <| sp rfl ?_
    refine sG ?_
    refine Sy.ret ?_
    exact Sy.ret3 rfl (.inl (show _ = _ by kernel_rfl)) (.inl (show _ = _ by kernel_rfl)) (.inl (show _ = _ by kernel_rfl))
end Go.Proofs.YtgemfpnlnipfnaaGreat.Wr

end
section
namespace Go.Proofs.YtgemfpnlnipfnaaGreat.Wr
open Go.RowKit Go.Proofs.YtgemfpnlnipfnaaGreat Go.Proofs.YtgemfpnlnipfnaaGreat.Sy
set_option maxRecDepth 100000
set_option maxHeartbeats 4000000

abbrev RQ (gr : Nat) (sl : Value) (e : Nat) (R : Blocks) : Blocks := (gr, 275, #[sl, .int .i64 (e : Int)]) :: R
def Rdd {α : Type} (p : Ps α) (val : α → Value → Prop) (w0 : Base) (gr : Nat) (R S : Blocks) (s : RS) (v : Value) (M : Blocks) : Prop :=
  ∃ x s' sl, After p s x s' ∧ val x v ∧ s'.e ≤ 200 ∧ s'.rest.length ≤ s.rest.length ∧ BytR (rdC w0 S) sl s'.rest ∧ M = RQ gr sl s'.e R
def RddN {α : Type} (p : Ps α) (val : α → Value → Blocks → Prop) (w0 : Base) (gr : Nat) (R S : Blocks) (s : RS) (v : Value) (M : Blocks) : Prop :=
  ∃ x s' sl N, After p s x s' ∧ val x v N ∧ s'.e ≤ 200 ∧ s'.rest.length ≤ s.rest.length ∧ BytR (rdC w0 S) sl s'.rest ∧ M = RQ gr sl s'.e (R ++ N)
theorem fail_any (w0 : Base) (gr : Nat) (sl : Value) (e0 e : Nat) (he0 : e0 ≤ 200) (R : Blocks) (w : World) (hw : St w0 w (RQ gr sl e0 R)) :
    Calls Tryz.prog 165 #[ptr gr, .int .i64 (e : Int)] w (Turns w0 (fun _ M => M = RQ gr sl (if e0 = 0 then e else e0) R)) := by
  refine Sy.enterT (args := [ptr gr, .int .i64 (e : Int)]) hw Tryz.func165 rfl kL ?_
  refine sC ?_
  obtain ⟨b1, hb1⟩ : ∃ z : Bool, z = decide (e0 = 0) := ⟨_, rfl⟩
  refine sp rfl <| sp rfl <| sP (.pointer (some ⟨gr, 1, none⟩)) <| sS (.int .i64 (e0 : Int)) (qc 0 1 rfl rfl Tryz.underlying28) <| sS (.bool b1) (Quiet.pure (exec_int .eql _ _ _ .i64 _ _ _ rfl rfl rfl (int_eql _ _ _ _ _ (by rw [hb1]; exact decide_eq_decide.2 (by omega))))) ?_
  refine sG ?_
  cases b1
  · rw [if_neg (of_decide_eq_false hb1.symm)]
    refine sU ?_
    refine Sy.skip ?_
    exact Sy.retT0 rfl (RQ gr sl e0 R) (fun _ h => h) (fun _ => by rfl)
  · rw [if_pos (of_decide_eq_true hb1.symm)]
    refine sT ?_
    refine Sy.region ?_
    refine sp rfl <| sp rfl <| sp rfl <| sP (.pointer (some ⟨gr, 1, none⟩)) <| sw 0 rfl #[sl, .int .i64 (e : Int)] (wO 1 28 (.int .i64 (e : Int)) rfl) ?_
    refine Sy.nil ?_
    exact Sy.retT0 rfl (RQ gr sl e R) (fun _ h => h) (fun _ => by rfl)
theorem number_any (p : Ps Nat) (w0 : Base) (gr : Nat) (sl : Value) (s : RS) (R S : Blocks) (hS : ∀ b ∈ S, b ∈ R) (n k e : Nat) (he0 : s.e ≤ 200) (he : e ≤ 200) (hk : k ≤ 200) (hn : n < 18446744073709551616) (hy : e = 0 → p s.rest = some (n, s.rest.drop k) ∧ k ≤ s.rest.length) (hno : e ≠ 0 → p s.rest = none) (hv : BytR (rdC w0 S) sl s.rest) (w : World) (hw : St w0 w (RQ gr sl s.e R)) :
    Calls Tryz.prog 193 #[ptr gr, .int .u64 (n : Int), .int .i64 (k : Int), .int .i64 (e : Int)] w (Turns w0 (Rdd p (fun x v => v = .int .u64 (x : Int) ∧ x ≤ n) w0 gr R S s)) := by
  have hv0 := hv
  obtain ⟨A, m, cp, rfl, h2, h3, h4, h5⟩ := hv
  refine Sy.enterT (args := [ptr gr, .int .u64 (n : Int), .int .i64 (k : Int), .int .i64 (e : Int)]) hw Tryz.func193 rfl kL ?_
  refine sC ?_
  refine sP (.int .u64 0) ?_
  refine sA ?_
  refine sp rfl <| sp rfl ?_
  refine Sy.callT (fun w hw => fail_any w0.inn gr (.slice A m cp) s.e e he0 R w hw) (fun v M hM => ?_)
  subst hM
  obtain ⟨e1, he1⟩ : ∃ e1, e1 = if s.e = 0 then e else s.e := ⟨_, rfl⟩
  rw [← he1]
  have he2 : e1 ≤ 200 := by rw [he1]; split <;> omega
  refine sG ?_
  refine Sy.seq ?_
  refine sC ?_
  obtain ⟨b1, hb1⟩ : ∃ z : Bool, z = decide (e1 ≠ 0) := ⟨_, rfl⟩
  refine sp rfl <| sp rfl <| sP (.pointer (some ⟨gr, 1, none⟩)) <| sS (.int .i64 (e1 : Int)) (qc 0 1 rfl rfl Tryz.underlying28) <| sS (.bool b1) (Quiet.pure (exec_int .neq _ _ _ .i64 _ _ _ rfl rfl rfl (int_neq _ _ _ _ _ (by rw [hb1]; exact decide_eq_decide.2 (by omega))))) ?_
  refine sG ?_
  cases b1
  · have l1 : e1 = 0 := Decidable.of_not_not (of_decide_eq_false hb1.symm)
    have l2 : s.e = 0 ∧ e = 0 := by
      rw [he1] at l1
      by_cases h : s.e = 0
      · rw [if_pos h] at l1; exact ⟨h, l1⟩
      · rw [if_neg h] at l1; exact (h l1).elim
    obtain ⟨q1, q2⟩ := hy l2.2
    obtain ⟨A1, hA1⟩ : ∃ A1, sliced A k m cp 1 = .slice A1 (m - k) (cp - k) := ⟨_, rfl⟩
    have hv1 : BytR (rdC w0 S) (.slice A1 (m - k) (cp - k)) (s.rest.drop k) := by rw [← hA1]; exact hv0.drop (by omega)
    refine sU ?_
    refine Sy.skip ?_
    refine sB ?_
    refine sp rfl <| sp rfl <| sp rfl <| sP (.pointer (some ⟨gr, 0, none⟩)) <| sS (.slice A m cp) (qc 0 0 rfl rfl Tryz.underlying27) <| sp rfl <| sS (.slice A1 (m - k) (cp - k)) (Quiet.pure (fun w => by rw [← hA1]; exact exec_sl _ _ _ m cp k rfl rfl rfl (by omega) w)) <| sp rfl <| sP (.pointer (some ⟨gr, 0, none⟩)) <| sw 0 rfl #[.slice A1 (m - k) (cp - k), .int .i64 (e1 : Int)] (wO 0 27 (.slice A1 (m - k) (cp - k)) rfl) ?_
    refine sA ?_
    refine sp rfl <| sp rfl ?_
    refine sG ?_
    refine Sy.ret ?_
    refine Sy.retT1 (RQ gr (.slice A1 (m - k) (cp - k)) e1 R) rfl (.inl (show _ = _ by kernel_rfl)) (fun _ h => h) ⟨n, ⟨s.rest.drop k, e1⟩, _, ⟨fun h => (h l2.1).elim, fun y r _ hp => ?_, fun _ hp => ?_⟩, ⟨rfl, Nat.le_refl _⟩, he2, ?_, hv1, rfl⟩
    · rw [q1] at hp; cases hp; exact ⟨rfl, by rw [l1]⟩
    · rw [q1] at hp; cases hp
    · show (s.rest.drop k).length ≤ _; rw [List.length_drop]; omega
  · have l1 : e1 ≠ 0 := of_decide_eq_true hb1.symm
    refine sT ?_
    refine sC ?_
    refine sP (.int .u64 0) ?_
    refine sG ?_
    refine Sy.ret ?_
    refine Sy.then_ret ?_
    refine Sy.retT1 (RQ gr (.slice A m cp) e1 R) rfl (.inl (show _ = _ by kernel_rfl)) (fun _ h => h) ⟨0, ⟨s.rest, e1⟩, _, ⟨fun _ => l1, fun y r h0 hp => ?_, fun _ _ => l1⟩, ⟨rfl, Nat.zero_le _⟩, he2, Nat.le_refl _, hv0, rfl⟩
    rw [he1, if_pos h0] at l1
    rw [hno l1] at hp; cases hp
theorem long9_any (w0 : Base) (gr : Nat) (sl : Value) (s : RS) (R S : Blocks) (hS : ∀ b ∈ S, b ∈ R) (he0 : s.e ≤ 200) (hv : BytR (rdC w0 S) sl s.rest) (w : World) (hw : St w0 w (RQ gr sl s.e R)) :
    Calls Tryz.prog 136 #[ptr gr] w (Turns w0 (Rdd (numP 8) (fun x v => v = .int .u64 (x : Int) ∧ x < 18446744073709551616) w0 gr R S s)) := by
  obtain ⟨f, hf⟩ : ∃ f, f = fxN s.rest 8 := ⟨_, rfl⟩
  obtain ⟨q1, q2, q3⟩ := fxN_fit s.rest 8 (by decide)
  have hy := @fx_yes s.rest 8
  have hno := @fx_no s.rest 8
  rw [← hf] at q1 q2 q3 hy hno
  refine Sy.enterT (args := [ptr gr]) hw Tryz.func136 rfl kL ?_
  refine sC ?_
  refine sP (.int .u64 0) ?_
  refine sA ?_
  refine sp rfl <| sp rfl <| sp rfl <| sP (.pointer (some ⟨gr, 0, none⟩)) <| sS sl (qc 0 0 rfl rfl Tryz.underlying27) <| sS (t3V f) (qg (fun w' hw => by rw [hf]; exact fixedR_any w' _ _ 8 (by decide) (by decide) (hv.le (rdC_world (w0 := w0.inn) hw (fun _ h => List.mem_cons_of_mem _ (hS _ h)))))) <| sp rfl <| sp rfl <| sp rfl ?_
  refine Sy.callT (fun w hw => number_any (numP 8) w0.inn gr sl s R S hS f.1 f.2.1 f.2.2 he0 q3 (by omega) q1 (fun h => ⟨(hy h).1, (hy h).2.1⟩) hno hv w hw) (fun v M hM => ?_)
  obtain ⟨x, s', sl', hA, ⟨rfl, hx⟩, h2, h3, h4, rfl⟩ := hM
  refine sp rfl ?_
  refine sG ?_
  refine Sy.ret ?_
  exact Sy.retT1 (RQ gr sl' s'.e R) rfl (.inl (show _ = _ by kernel_rfl)) (fun _ h => h) ⟨x, s', sl', hA, ⟨rfl, by omega⟩, h2, h3, h4, rfl⟩
theorem byte9_any (w0 : Base) (gr : Nat) (sl : Value) (s : RS) (R S : Blocks) (hS : ∀ b ∈ S, b ∈ R) (he0 : s.e ≤ 200) (hv : BytR (rdC w0 S) sl s.rest) (w : World) (hw : St w0 w (RQ gr sl s.e R)) :
    Calls Tryz.prog 179 #[ptr gr] w (Turns w0 (Rdd (numP 1) (fun x v => v = bv (UInt8.ofNat x) ∧ x < 256) w0 gr R S s)) := by
  obtain ⟨f, hf⟩ : ∃ f, f = fxN s.rest 1 := ⟨_, rfl⟩
  obtain ⟨q1, q2, q3⟩ := fxN_fit s.rest 1 (by decide)
  have hy := @fx_yes s.rest 1
  have hno := @fx_no s.rest 1
  have hlt : f.1 < 256 := by
    rw [hf]
    unfold fxN
    split
    · decide
    · have h := said_lt (s.rest.take 1)
      have h2 : 256 ^ (s.rest.take 1).length ≤ 256 ^ 1 := Nat.pow_le_pow_right (by decide) (by rw [List.length_take]; omega)
      exact Nat.lt_of_lt_of_le h h2
  rw [← hf] at q1 q2 q3 hy hno
  refine Sy.enterT (args := [ptr gr]) hw Tryz.func179 rfl kL ?_
  refine sC ?_
  refine sP (.int .u8 0) ?_
  refine sA ?_
  refine sp rfl <| sp rfl <| sp rfl <| sP (.pointer (some ⟨gr, 0, none⟩)) <| sS sl (qc 0 0 rfl rfl Tryz.underlying27) <| sS (t3V f) (qg (fun w' hw => by rw [hf]; exact fixedR_any w' _ _ 1 (by decide) (by decide) (hv.le (rdC_world (w0 := w0.inn) hw (fun _ h => List.mem_cons_of_mem _ (hS _ h)))))) <| sp rfl <| sp rfl <| sp rfl ?_
  refine Sy.callT (fun w hw => number_any (numP 1) w0.inn gr sl s R S hS f.1 f.2.1 f.2.2 he0 q3 (by omega) q1 (fun h => ⟨(hy h).1, (hy h).2.1⟩) hno hv w hw) (fun v M hM => ?_)
  obtain ⟨x, s', sl', hA, ⟨rfl, hx⟩, h2, h3, h4, rfl⟩ := hM
  refine sS (bv (UInt8.ofNat x)) (Quiet.pure (fun w => conv_6u8 w _ _ _ x (by omega) rfl rfl)) <| sp rfl ?_
  refine sG ?_
  refine Sy.ret ?_
  exact Sy.retT1 (RQ gr sl' s'.e R) rfl (.inl (show _ = _ by kernel_rfl)) (fun _ h => h) ⟨x, s', sl', hA, ⟨rfl, by omega⟩, h2, h3, h4, rfl⟩
theorem vrG_zero {b : Byt} (h : (vrG b).2.2 ≠ 0) : (vrG b).1 = 0 := by
  have fz : ∀ {b : Byt} {k : Nat}, (fxN b k).2.2 ≠ 0 → (fxN b k).1 = 0 := fun {b k} h => by
    unfold fxN at h ⊢
    split at h
    · rename_i hl; rw [if_pos hl]
    · exact (h rfl).elim
  unfold vrG at h ⊢
  by_cases hc : 253 ≤ (fxN b 1).1
  · rw [if_pos hc] at h ⊢
    unfold lgN at h ⊢
    by_cases h1 : (fxN (b.drop 1) (wide (b.getD 0 0).toNat)).2.2 = 0
    · rw [if_pos h1] at h ⊢
      by_cases h2 : (fxN (b.drop 1) (wide (b.getD 0 0).toNat)).1 < least (b.getD 0 0).toNat
      · rw [if_pos h2]
      · rw [if_neg h2] at h; exact (h rfl).elim
    · rw [if_neg h1]
  · rw [if_neg hc] at h ⊢
    exact fz h
theorem conv_6i (w : World) (F : Slots) (o : Oper) (x : Operand) (k : Nat) (hk : k < 9223372036854775808) (ho : o.op = .convert 22 3 x) (hx : evF F x = .int .u64 (k : Int)) : (execOp (evF F) o).run Tryz.prog w = .ok (.value (.int .i64 ((k : Nat) : Int))) w := by
  have h : (convert 22 3 (.int .u64 (k : Int))).run Tryz.prog w = .ok (.int .i64 ((k : Nat) : Int)) w := by
    go_simp
    exact wrap_i64 (by omega) (by omega)
  unfold execOp
  simp only [ho, hx, Sem.run_bind, h, Result.andThen_ok, Sem.run_pure]
theorem count_any (w0 : Base) (gr : Nat) (sl : Value) (s : RS) (R S : Blocks) (hS : ∀ b ∈ S, b ∈ R) (most : Nat) (hm : most < 1000000) (he0 : s.e ≤ 200) (hv : BytR (rdC w0 S) sl s.rest) (w : World) (hw : St w0 w (RQ gr sl s.e R)) :
    Calls Tryz.prog 227 #[ptr gr, .int .i64 (most : Int)] w (Turns w0 (Rdd (varP most) (fun x v => v = .int .i64 (x : Int) ∧ x ≤ most) w0 gr R S s)) := by
  obtain ⟨f, hf⟩ : ∃ f, f = vrN s.rest most := ⟨_, rfl⟩
  obtain ⟨q1, q2, q3⟩ := vrN_fit s.rest most
  have hy := @vr_yes s.rest most
  have hno := @vr_no s.rest most
  have hlt : f.1 ≤ most := by
    by_cases h : f.2.2 = 0
    · rw [hf] at h ⊢; exact (hy h).2.2
    · rw [hf] at h ⊢
      have q := vrG_fit s.rest
      unfold vrN at h ⊢
      by_cases hc : (vrG s.rest).2.2 = 0 ∧ most < (vrG s.rest).1
      · rw [if_pos hc]; exact Nat.zero_le _
      · rw [if_neg hc] at h ⊢
        rw [vrG_zero h]; exact Nat.zero_le _
  rw [← hf] at q1 q2 q3 hy hno
  refine Sy.enterT (args := [ptr gr, .int .i64 (most : Int)]) hw Tryz.func227 rfl kL ?_
  refine sC ?_
  refine sP (.int .i64 0) ?_
  refine sA ?_
  refine sp rfl <| sp rfl <| sp rfl <| sP (.pointer (some ⟨gr, 0, none⟩)) <| sS sl (qc 0 0 rfl rfl Tryz.underlying27) <| sp rfl <| sS (t3V f) (qg (fun w' hw => by rw [hf]; exact lengthR_any w' _ _ most (by omega) (hv.le (rdC_world (w0 := w0.inn) hw (fun _ h => List.mem_cons_of_mem _ (hS _ h)))))) <| sp rfl <| sp rfl <| sp rfl ?_
  refine Sy.callT (fun w hw => number_any (varP most) w0.inn gr sl s R S hS f.1 f.2.1 f.2.2 he0 q3 (by omega) q1 (fun h => ⟨(hy h).1, (hy h).2.1⟩) hno hv w hw) (fun v M hM => ?_)
  obtain ⟨x, s', sl', hA, ⟨rfl, hx⟩, h2, h3, h4, rfl⟩ := hM
  refine sS (.int .i64 (x : Int)) (Quiet.pure (fun w => conv_6i w _ _ _ x (by omega) rfl rfl)) <| sp rfl ?_
  refine sG ?_
  refine Sy.ret ?_
  exact Sy.retT1 (RQ gr sl' s'.e R) rfl (.inl (show _ = _ by kernel_rfl)) (fun _ h => h) ⟨x, s', sl', hA, ⟨rfl, by omega⟩, h2, h3, h4, rfl⟩
theorem err_any (w0 : Base) (gr : Nat) (sl : Value) (e : Nat) (R : Blocks) {L : Blocks} (hL : (gr, 275, #[sl, .int .i64 (e : Int)]) ∈ L) (w : World) (hw : St w0 w L) :
    Calls Tryz.prog 196 #[ptr gr] w (Gets w (.int .i64 (e : Int))) := by
  have hb := (hw.blk _ _ _ hL).2
  have hlt := hb.lt
  refine Sy.enter (args := [ptr gr]) Tryz.func196 rfl kL ?_
  refine sC ?_
  refine sP (.int .i64 0) ?_
  refine sA ?_
  refine sp rfl <| sp rfl <| sP (.pointer (some ⟨gr, 1, none⟩)) <| sS (.int .i64 (e : Int)) (Quiet.thereOne gr 1 28 _ _ rfl kR hlt _ (hb.cell 1) Tryz.underlying28 rfl) <| sp rfl ?_
  refine sG ?_
  refine Sy.ret ?_
  exact rV (.int .i64 (e : Int)) rfl
theorem end_any (w0 : Base) (gr : Nat) (sl : Value) (s : RS) (R : Blocks) (he0 : s.e ≤ 200) (hv : BytR (rdC w0 R) sl s.rest) {L : Blocks} (hL : (gr, 275, #[sl, .int .i64 (s.e : Int)]) ∈ L) (w : World) (hw : St w0 w L) :
    Calls Tryz.prog 99 #[ptr gr] w (Gets w (.int .i64 ((if s.e = 0 ∧ 0 < s.rest.length then 113 else s.e : Nat) : Int))) := by
  have hb := (hw.blk _ _ _ hL).2
  have hlt := hb.lt
  obtain ⟨A, m, cp, rfl, h2, h3, h4, h5⟩ := hv
  obtain ⟨e, he⟩ : ∃ e, e = s.e := ⟨_, rfl⟩
  rw [← he] at he0 hb ⊢
  rw [h2]
  refine Sy.enter (args := [ptr gr]) Tryz.func99 rfl kL ?_
  refine sC ?_
  refine sP (.int .i64 0) ?_
  refine sG ?_
  refine Sy.seq ?_
  refine sC ?_
  obtain ⟨b1, hb1⟩ : ∃ z : Bool, z = decide (e = 0) := ⟨_, rfl⟩
  refine sp rfl <| sp rfl <| sP (.pointer (some ⟨gr, 1, none⟩)) <| sS (.int .i64 (e : Int)) (Quiet.thereOne gr 1 28 _ _ rfl kR hlt _ (hb.cell 1) Tryz.underlying28 rfl) <| sS (.bool b1) (Quiet.pure (exec_int .eql _ _ _ .i64 _ _ _ rfl rfl rfl (int_eql _ _ _ _ _ (by rw [hb1]; exact decide_eq_decide.2 (by omega))))) <| sp rfl ?_
  cases b1
  · have l1 : e ≠ 0 := of_decide_eq_false hb1.symm
    rw [if_neg (fun h => l1 h.1)]
    refine sN <| sN <| sN <| sN <| sN <| sN <| sP (.bool false) ?_
    refine sG ?_
    refine sU ?_
    refine Sy.skip ?_
    refine sB ?_
    refine sp rfl <| sp rfl <| sP (.pointer (some ⟨gr, 1, none⟩)) <| sS (.int .i64 (e : Int)) (Quiet.thereOne gr 1 28 _ _ rfl kR hlt _ (hb.cell 1) Tryz.underlying28 rfl) <| sp rfl ?_
    refine sG ?_
    refine Sy.ret ?_
    exact rV (.int .i64 (e : Int)) rfl
  · have l1 : e = 0 := of_decide_eq_true hb1.symm
    obtain ⟨b2, hb2⟩ : ∃ z : Bool, z = decide (0 < m) := ⟨_, rfl⟩
    refine sp rfl <| sp rfl <| sP (.pointer (some ⟨gr, 0, none⟩)) <| sS (.slice A m cp) (Quiet.thereOne gr 0 27 _ _ rfl kR hlt _ (hb.cell 0) Tryz.underlying27 rfl) <| sP (.int .i64 (m : Int)) <| sS (.bool b2) (Quiet.pure (exec_int .gtr _ _ _ .i64 _ _ _ rfl rfl rfl (int_gtr _ _ _ _ _ (by rw [hb2]; exact decide_eq_decide.2 (by omega))))) <| sP (.bool b2) ?_
    refine sG ?_
    cases b2
    · have l2 : ¬ 0 < m := of_decide_eq_false hb2.symm
      rw [if_neg (fun h => l2 h.2)]
      refine sU ?_
      refine Sy.skip ?_
      refine sB ?_
      refine sp rfl <| sp rfl <| sP (.pointer (some ⟨gr, 1, none⟩)) <| sS (.int .i64 (e : Int)) (Quiet.thereOne gr 1 28 _ _ rfl kR hlt _ (hb.cell 1) Tryz.underlying28 rfl) <| sp rfl ?_
      refine sG ?_
      refine Sy.ret ?_
      exact rV (.int .i64 (e : Int)) rfl
    · have l2 : 0 < m := of_decide_eq_true hb2.symm
      rw [if_pos ⟨l1, l2⟩]
      refine sT ?_
      refine sC ?_
      refine sP (.int .i64 113) ?_
      refine sG ?_
      refine Sy.ret ?_
      refine Sy.then_ret ?_
      exact rV (.int .i64 113) rfl
theorem piece_any (p : Ps Byt) (w0 : Base) (gr : Nat) (sl : Value) (s : RS) (R S : Blocks) (hS : ∀ b ∈ S, b ∈ R) (f t e : Nat) (he0 : s.e ≤ 200) (he : e ≤ 200) (hl : s.rest.length ≤ 70368744177664) (hy : e = 0 → f ≤ t ∧ t ≤ s.rest.length ∧ p s.rest = some ((s.rest.drop f).take (t - f), s.rest.drop t)) (hno : e ≠ 0 → p s.rest = none) (hv : BytR (rdC w0 S) sl s.rest) (w : World) (hw : St w0 w (RQ gr sl s.e R)) :
    Calls Tryz.prog 214 #[ptr gr, .int .i64 (f : Int), .int .i64 (t : Int), .int .i64 (e : Int)] w (Turns w0 (RddN p (fun x v N => ByN x v N ∧ (v = .slice none 0 0 ∧ N = [] ∧ x = [] ∨ x.length = t - f)) w0 gr R S s)) := by
  have hv0 := hv
  obtain ⟨A, m, cp, rfl, h2, h3, h4, h5⟩ := hv
  refine Sy.enterT (args := [ptr gr, .int .i64 (f : Int), .int .i64 (t : Int), .int .i64 (e : Int)]) hw Tryz.func214 rfl kL ?_
  refine sC ?_
  refine sP (.slice none 0 0) ?_
  refine sA ?_
  refine sp rfl <| sp rfl ?_
  refine Sy.callT (fun w hw => fail_any w0.inn gr (.slice A m cp) s.e e he0 R w hw) (fun v M hM => ?_)
  subst hM
  obtain ⟨e1, he1⟩ : ∃ e1, e1 = if s.e = 0 then e else s.e := ⟨_, rfl⟩
  rw [← he1]
  have he2 : e1 ≤ 200 := by rw [he1]; split <;> omega
  refine sG ?_
  refine Sy.seq ?_
  refine sC ?_
  obtain ⟨b1, hb1⟩ : ∃ z : Bool, z = decide (e1 ≠ 0) := ⟨_, rfl⟩
  refine sp rfl <| sp rfl <| sP (.pointer (some ⟨gr, 1, none⟩)) <| sS (.int .i64 (e1 : Int)) (qc 0 1 rfl rfl Tryz.underlying28) <| sS (.bool b1) (Quiet.pure (exec_int .neq _ _ _ .i64 _ _ _ rfl rfl rfl (int_neq _ _ _ _ _ (by rw [hb1]; exact decide_eq_decide.2 (by omega))))) ?_
  refine sG ?_
  cases b1
  · have l1 : e1 = 0 := Decidable.of_not_not (of_decide_eq_false hb1.symm)
    have l2 : s.e = 0 ∧ e = 0 := by
      rw [he1] at l1
      by_cases h : s.e = 0
      · rw [if_pos h] at l1; exact ⟨h, l1⟩
      · rw [if_neg h] at l1; exact (h l1).elim
    obtain ⟨q1, q2, q3⟩ := hy l2.2
    obtain ⟨A1, hA1⟩ : ∃ A1, sliced A t m cp 1 = .slice A1 (m - t) (cp - t) := ⟨_, rfl⟩
    have hv1 : BytR (rdC w0 S) (.slice A1 (m - t) (cp - t)) (s.rest.drop t) := by rw [← hA1]; exact hv0.drop (by omega)
    obtain ⟨A2, hA2⟩ : ∃ A2, sliced A f t cp 1 = .slice A2 (t - f) (cp - f) := ⟨_, rfl⟩
    obtain ⟨x, hx⟩ : ∃ x, x = (s.rest.drop f).take (t - f) := ⟨_, rfl⟩
    have hv2 : BytR (rdC w0 S) (.slice A2 (t - f) (cp - f)) x := by rw [← hA2, hx]; exact hv0.slice q1 (by omega)
    rw [← hx] at q3
    have hxl : x.length ≤ 70368744177664 := by rw [hx, List.length_take, List.length_drop]; omega
    refine sU ?_
    refine Sy.skip ?_
    refine sB ?_
    refine sp rfl <| sp rfl <| sP (.pointer (some ⟨gr, 0, none⟩)) <| sS (.slice A m cp) (qc 0 0 rfl rfl Tryz.underlying27) <| sp rfl <| sp rfl <| sS (.slice A2 (t - f) (cp - f)) (Quiet.pure (fun w => by rw [← hA2]; exact exec_slh _ _ _ _ m cp f t rfl rfl rfl rfl q1 (by omega) w)) ?_
    refine Sy.callN kR 133 #[.slice A2 (t - f) (cp - f)] kF (ByN x) (fun w' hw => clone_any w' _ x (hv2.le (rdC_world (w0 := w0.inn) hw (fun _ h => List.mem_cons_of_mem _ (hS _ h)))) hxl) (fun u N hN => ?_)
    refine sp rfl ?_
    refine sA ?_
    refine sp rfl <| sp rfl <| sp rfl <| sP (.pointer (some ⟨gr, 0, none⟩)) <| sS (.slice A m cp) (qc 0 0 rfl rfl Tryz.underlying27) <| sp rfl <| sS (.slice A1 (m - t) (cp - t)) (Quiet.pure (fun w => by rw [← hA1]; exact exec_sl _ _ _ m cp t rfl rfl rfl (by omega) w)) <| sp rfl <| sP (.pointer (some ⟨gr, 0, none⟩)) <| sw 0 rfl #[.slice A1 (m - t) (cp - t), .int .i64 (e1 : Int)] (wO 0 27 (.slice A1 (m - t) (cp - t)) rfl) ?_
    refine sA ?_
    refine sp rfl <| sp rfl ?_
    refine sG ?_
    refine Sy.ret ?_
    refine Sy.retT1 (RQ gr (.slice A1 (m - t) (cp - t)) e1 (R ++ N)) rfl (.inl (show _ = _ by kernel_rfl)) (fun _ h => h) ⟨x, ⟨s.rest.drop t, e1⟩, _, N, ⟨fun h => (h l2.1).elim, fun y r _ hp => ?_, fun _ hp => ?_⟩, ⟨hN, .inr (by rw [hx, List.length_take, List.length_drop]; omega)⟩, he2, ?_, hv1, rfl⟩
    · rw [q3] at hp; cases hp; exact ⟨rfl, by rw [l1]⟩
    · rw [q3] at hp; cases hp
    · show (s.rest.drop t).length ≤ _; rw [List.length_drop]; omega
  · have l1 : e1 ≠ 0 := of_decide_eq_true hb1.symm
    refine sT ?_
    refine sC ?_
    refine sP (.slice none 0 0) ?_
    refine sG ?_
    refine Sy.ret ?_
    refine Sy.then_ret ?_
    refine Sy.retT1 (RQ gr (.slice A m cp) e1 R) rfl (.inl (show _ = _ by kernel_rfl)) (fun _ h => h) ⟨[], ⟨s.rest, e1⟩, _, [], ⟨fun _ => l1, fun y r h0 hp => ?_, fun _ _ => l1⟩, ⟨⟨none, 0, 0, rfl, Slc.Is.nil _ _⟩, .inl ⟨rfl, rfl, rfl⟩⟩, he2, Nat.le_refl _, hv0, by rw [List.append_nil]⟩
    rw [he1, if_pos h0] at l1
    rw [hno l1] at hp; cases hp
end Go.Proofs.YtgemfpnlnipfnaaGreat.Wr

end
section
namespace Go.Proofs.YtgemfpnlnipfnaaGreat.Wr
open Go.RowKit Go.Proofs.YtgemfpnlnipfnaaGreat Go.Proofs.YtgemfpnlnipfnaaGreat.Sy
set_option maxRecDepth 100000
set_option maxHeartbeats 4000000

def XAt (C : Rdr) (g f : Nat) (cs : List Value) : Prop := ∀ i u, cs[i]? = some u → C g (f + i) u
theorem XAt.le {C D : Rdr} (hl : Le C D) {g f : Nat} {cs : List Value} (h : XAt C g f cs) : XAt D g f cs := fun i u hu => hl _ _ _ (h i u hu)
theorem XAt.left {C : Rdr} {g f : Nat} {a b : List Value} (h : XAt C g f (a ++ b)) : XAt C g f a := fun i u hu => h i u (by rw [List.getElem?_append_left (List.getElem?_eq_some_iff.1 hu).1]; exact hu)
theorem XAt.right {C : Rdr} {g f n : Nat} {a b : List Value} (h : XAt C g f (a ++ b)) (hn : a.length = n) : XAt C g (f + n) b := fun i u hu => by
  subst hn
  rw [Nat.add_assoc]
  exact h _ u (by rw [List.getElem?_append_right (by omega), Nat.add_sub_cancel_left]; exact hu)
theorem XAt.one {C : Rdr} {g f : Nat} {v : Value} {l : List Value} (h : XAt C g f (v :: l)) : C g f v := h 0 v rfl
theorem XAt.tail {C : Rdr} {g f : Nat} {v : Value} {l : List Value} (h : XAt C g f (v :: l)) : XAt C g (f + 1) l := h.right (a := [v]) rfl
theorem XAt.byt {C : Rdr} {g f n : Nat} {x : Byt} (h : XAt C g f (x.map bv)) (hn : x.length = n) (hm : n ≤ 1000000) : BytR C (.slice (some ⟨g, f, none⟩) n n) x :=
  ⟨_, _, _, rfl, hn, Nat.le_refl _, by simp only [maxLen]; omega, fun _ => ⟨g, f, rfl, fun j u hu => h j (bv u) (by rw [List.getElem?_map, hu]; rfl)⟩⟩
section
variable {P : Program} {w0 : Base} {F : Slots} {L R : Blocks} {o : Oper}
theorem cellC {x : Operand} {d : TypeDesc} {ty : TypeId} {v : Value} {g f : Nat} (hc : rdC w0 R g f v) (hR : ∀ b ∈ R, b ∈ L) (ho : o.op = .load ty x) (hu : P.underlying ty = some d) (hx : evF F x = .pointer (some ⟨g, f, none⟩) := by kernel_rfl) (hd : d.isRow = false := by rfl) : Quiet P w0 F L o v := fun w hw => by
  have hc : w.cell? ⟨g, f, none⟩ = some v := (rdC_world hw hR _ _ _ hc).2
  have ha : (isAgg ty).run P w = .ok false w := by
    cases d <;> first | (cases hd; done) | simp [isAgg, underlying, hu]
  unfold Gives execOp
  simp only [ho, hx, Instr.loadAt, Instr.sureAddr, Sem.run_bind, Sem.run_pure, Result.andThen_ok, loadVar, ha, Bool.false_eq_true, if_false, run_load, hc]
  exact ⟨trivial, Gr.refl _⟩
theorem rowC {x : Operand} {d : TypeDesc} {ty : TypeId} {g f k : Nat} {cs : List Value} (hc : XAt (rdC w0 R) g f cs) (hR : ∀ b ∈ R, b ∈ L) (hl : cs.length = k) (ho : o.op = .load ty x) (hu : P.underlying ty = some d) (hx : evF F x = .pointer (some ⟨g, f, none⟩) := by kernel_rfl) (hd : d.isRow = true := by rfl) (hi : (P.info? ty).map (·.size) = some k := by kernel_rfl) : Quiet P w0 F L o (.agg cs.toArray) := fun w hw => by
  have hl := run_loadVar_mid (P := P) w g f ty cs d (fun j u hj => (rdC_world hw hR _ _ _ (hc j u hj)).2) hu hd (by rw [hi, hl])
  unfold Gives execOp
  simp only [ho, hx, Instr.loadAt, Instr.sureAddr, Sem.run_bind, Sem.run_pure, Result.andThen_ok, hl]
  exact ⟨trivial, Gr.refl _⟩
end
theorem permCW {c w : Nat × TypeId × Array Value} {A R : Blocks} : (c :: ([w] ++ (A ++ R))).Perm ([w] ++ (A ++ (c :: R))) := by
  have h1 : (c :: ([w] ++ (A ++ R))).Perm (w :: (c :: (A ++ R))) := List.Perm.swap _ _ _
  exact h1.trans (List.Perm.cons w (List.perm_middle.symm))
abbrev CWS (gc gw : Nat) (bad : Bool) (s : Slc) (R : Blocks) : Blocks := (gc, 155, #[ptr gw, .pointer none, .bool bad]) :: WS gw s R
def WrC (gc gw : Nat) (R : Blocks) (ok : Bool) (e : Byt) (k : Nat) (bad : Bool) (b : Byt) (_ : Value) (M : Blocks) : Prop := ∃ s' bad' b', Wrote ok e k bad b bad' b' ∧ BS s' b' ∧ M = CWS gc gw bad' s' R
theorem inCW {gc gw : Nat} {bad : Bool} {s : Slc} {R : Blocks} : ∀ x ∈ R, x ∈ CWS gc gw bad s R := fun x hx => List.mem_cons_of_mem _ (List.mem_append_right _ (List.mem_append_right _ hx))
theorem reads_w (w0 : Base) (gc : Nat) (a c : Value) {L : Blocks} (hL : (gc, 155, #[a, .pointer none, c]) ∈ L) (w : World) (hw : St w0 w L) : Calls Tryz.prog 137 #[ptr gc] w (Gets w (.bool false)) := by
  have hb := (hw.blk _ _ _ hL).2
  have hlt := hb.lt
  refine Sy.enter (args := [ptr gc]) Tryz.func137 rfl kL ?_
  refine sC ?_
  refine sP (.bool false) ?_
  refine sA ?_
  refine sp rfl <| sp rfl <| sP (.pointer (some ⟨gc, 1, none⟩)) <| sS (.pointer none) (Quiet.thereOne gc 1 153 _ _ rfl kR hlt _ (hb.cell 1) Tryz.underlying153 rfl) <| sP (.bool false) <| sp rfl ?_
  refine sG ?_
  refine Sy.ret ?_
  exact rV (.bool false) rfl
theorem must_w (w0 : Base) (gc gw : Nat) (bad h : Bool) (s : Slc) (R : Blocks) (w : World) (hw : St w0 w (CWS gc gw bad s R)) :
    Calls Tryz.prog 108 #[ptr gc, .bool h] w (Turns w0 (fun _ M => M = CWS gc gw (bad || !h) s R)) := by
  refine Sy.enterT (args := [ptr gc, .bool h]) hw Tryz.func108 rfl kL ?_
  refine Sy.block ?_
  refine sC ?_
  refine sp rfl <| sp rfl ?_
  refine sG ?_
  cases h
  · rw [show (bad || !false) = true by cases bad <;> rfl]
    refine sU ?_
    refine sC ?_
    refine sp rfl <| sS (.bool false) (qg (fun w hw => reads_w w0.inn gc _ _ (List.mem_cons_self ..) w hw)) <| sp rfl ?_
    refine sG ?_
    refine sU ?_
    refine Sy.region ?_
    refine sp rfl <| sp rfl <| sP (.pointer (some ⟨gc, 2, none⟩)) <| sw 0 rfl #[ptr gw, .pointer none, .bool true] (wO 2 4 (.bool true) rfl) ?_
    refine Sy.nil ?_
    refine Sy.in_ ?_
    exact Sy.retT0 rfl (CWS gc gw true s R) (fun _ h => h) (fun _ => by rfl)
  · rw [show (bad || !true) = bad by cases bad <;> rfl]
    refine sT ?_
    refine Sy.skip ?_
    refine Sy.in_ ?_
    exact Sy.retT0 rfl (CWS gc gw bad s R) (fun _ h => h) (fun _ => by rfl)
theorem raw_w (w0 : Base) (gc gw : Nat) (bad : Bool) (s : Slc) (R : Blocks) (b x : Byt) (v : Value) (hv : BytR (rdC w0 R) v x) (hb : BS s b) (hl : b.length + x.length ≤ 70368744177000) (w : World) (hw : St w0 w (CWS gc gw bad s R)) :
    Calls Tryz.prog 162 #[ptr gc, v] w (Turns w0 (WrC gc gw R true x x.length bad b)) := by
  refine Sy.enterT (args := [ptr gc, v]) hw Tryz.func162 rfl kL ?_
  refine sC ?_
  refine sp rfl <| sS (.bool false) (qg (fun w hw => reads_w w0.inn gc _ _ (List.mem_cons_self ..) w hw)) ?_
  refine sG ?_
  refine sU ?_
  refine Sy.region ?_
  refine sp rfl <| sp rfl <| sP (.pointer (some ⟨gc, 0, none⟩)) <| sS (ptr gw) (qc 0 0 rfl rfl Tryz.underlying151) <| sp rfl ?_
  refine Sy.callT (fun w hw => raw_any w0.inn gw s ((gc, 155, #[ptr gw, .pointer none, .bool bad]) :: R) b x v (hv.le (rdC_le (fun _ h => List.mem_cons_of_mem _ h))) hb (by omega) w (hw.perm permCW)) (fun u M hM => ?_)
  obtain ⟨s1, hs1, rfl⟩ := hM
  refine Sy.permS permCW.symm ?_
  refine Sy.nil ?_
  exact Sy.retT0 rfl (CWS gc gw bad s1 R) (fun _ h => h) (fun _ => ⟨s1, bad, b ++ x, Wrote.raw x bad b (Nat.le_refl _), hs1, rfl⟩)
theorem digest_w (w0 : Base) (gc gw gx f : Nat) (bad : Bool) (s : Slc) (R : Blocks) (b x : Byt) (hx : x.length = 32) (hc : XAt (rdC w0 R) gx f (x.map bv)) (hb : BS s b) (hl : b.length + 32 ≤ 70368744177000) (w : World) (hw : St w0 w (CWS gc gw bad s R)) :
    Calls Tryz.prog 105 #[ptr gc, .pointer (some ⟨gx, f, none⟩)] w (Turns w0 (WrC gc gw R true x 32 bad b)) := by
  refine Sy.enterT (args := [ptr gc, .pointer (some ⟨gx, f, none⟩)]) hw Tryz.func105 rfl kL ?_
  refine Sy.region ?_
  refine sp rfl <| sp rfl <| sp rfl <| sP (.slice (some ⟨gx, f, none⟩) 32 32) ?_
  refine Sy.callT (fun w hw => raw_w w0.inn gc gw bad s R b x _ (hc.byt hx (by decide)) hb (by omega) w hw) (fun u M hM => ?_)
  obtain ⟨s1, bad1, b1, h1, h2, rfl⟩ := hM
  refine Sy.nil ?_
  exact Sy.retT0 rfl (CWS gc gw bad1 s1 R) (fun _ h => h) (fun _ => ⟨s1, bad1, b1, hx ▸ h1, h2, rfl⟩)
theorem long_w (w0 : Base) (gc gw gx f : Nat) (bad : Bool) (s : Slc) (R : Blocks) (b : Byt) (n : Nat) (hn : n < 18446744073709551616) (hc : rdC w0 R gx f (.int .u64 (n : Int))) (hb : BS s b) (hl : b.length + 8 ≤ 70368744177000) (w : World) (hw : St w0 w (CWS gc gw bad s R)) :
    Calls Tryz.prog 91 #[ptr gc, .pointer (some ⟨gx, f, none⟩)] w (Turns w0 (WrC gc gw R true (nb 8 n) 8 bad b)) := by
  have item : ∀ w, St w0.inn w (CWS gc gw bad s R) → Calls Tryz.prog 134 #[ptr gc, .pointer (some ⟨gx, f, none⟩), .func (.func 135) #[] #[], .func (.func 136) #[] #[]] w (Turns w0.inn (WrC gc gw R true (nb 8 n) 8 bad b)) := fun w hw => by
    refine Sy.enterT (args := [ptr gc, .pointer (some ⟨gx, f, none⟩), .func (.func 135) #[] #[], .func (.func 136) #[] #[]]) hw Tryz.func134 rfl kL ?_
    refine sC ?_
    refine sp rfl <| sS (.bool false) (qg (fun w hw => reads_w w0.inn gc _ _ (List.mem_cons_self ..) w hw)) ?_
    refine sG ?_
    refine sU ?_
    refine Sy.regionD (fun j => j == 8) kR ?_
    refine sa 0 rfl rfl <| sa 1 rfl rfl <| sa 2 rfl rfl <| sb 3 rfl (.pointer (some ⟨gc, 0, none⟩)) <| sD 4 rfl (ptr gw) (qc 0 0 rfl rfl Tryz.underlying151) <| sa 5 rfl rfl <| sa 6 rfl rfl <| sD 7 rfl (.int .u64 (n : Int)) (cellC (R := R) hc inCW rfl Tryz.underlying22) ?_
    refine Sy.soleD 8 rfl (fun Q2 hq2 => ?_)
    refine Sy.callT (fun w hw => long_any w0.inn gw s ((gc, 155, #[ptr gw, .pointer none, .bool bad]) :: R) b n hn hb (by omega) w (hw.perm permCW)) (fun u M hM => ?_)
    obtain ⟨s1, hs1, rfl⟩ := hM
    refine Sy.permS permCW.symm ?_
    refine hq2 _ _ ?_
    refine sE ?_
    exact Sy.retT0 rfl (CWS gc gw bad s1 R) (fun _ h => h) (fun _ => ⟨s1, bad, b ++ nb 8 n, Wrote.raw _ bad b (by rw [nb_len]; exact Nat.le_refl _), hs1, rfl⟩)
  refine Sy.enterT (args := [ptr gc, .pointer (some ⟨gx, f, none⟩)]) hw Tryz.func91 rfl kL ?_
  refine Sy.region ?_
  refine sp rfl <| sp rfl ?_
  refine Sy.callT (fun w hw => item w hw) (fun u M hM => ?_)
  obtain ⟨s1, bad1, b1, h1, h2, rfl⟩ := hM
  refine Sy.nil ?_
  exact Sy.retT0 rfl (CWS gc gw bad1 s1 R) (fun _ h => h) (fun _ => ⟨s1, bad1, b1, h1, h2, rfl⟩)
end Go.Proofs.YtgemfpnlnipfnaaGreat.Wr

end
section
namespace Go.Proofs.YtgemfpnlnipfnaaGreat.Wr
open Go.RowKit Go.Proofs.YtgemfpnlnipfnaaGreat Go.Proofs.YtgemfpnlnipfnaaGreat.Sy
set_option maxRecDepth 100000
set_option maxHeartbeats 4000000

def LstR {α : Type} (C : Rdr) (k : Nat) (rep : Rdr → List Value → α → Prop) (v : Value) (l : List α) : Prop := ∃ A n cp, v = .slice A n cp ∧ l.length = n ∧ n ≤ cp ∧ cp ≤ maxLen ∧ (l ≠ [] → ∃ g o, A = some ⟨g, o, none⟩ ∧ ∀ j x, l[j]? = some x → ∃ cs : List Value, cs.length = k ∧ (∀ u ∈ cs, u.oneCell' = true) ∧ rep C cs x ∧ XAt C g (o + j * k) cs)
def Mono {α : Type} (rep : Rdr → List Value → α → Prop) : Prop := ∀ {C D : Rdr} {cs : List Value} {x : α}, Le C D → rep C cs x → rep D cs x
theorem LstR.le {α : Type} {C D : Rdr} {k : Nat} {rep : Rdr → List Value → α → Prop} (hm : Mono rep) {v : Value} {l : List α} (hl : Le C D) (h : LstR C k rep v l) : LstR D k rep v l := by
  obtain ⟨A, n, cp, h1, h2, h3, h4, h5⟩ := h
  refine ⟨A, n, cp, h1, h2, h3, h4, fun hne => ?_⟩
  obtain ⟨g, o, e, hq⟩ := h5 hne
  refine ⟨g, o, e, fun j x hx => ?_⟩
  obtain ⟨cs, q1, q2, q3, q4⟩ := hq j x hx
  exact ⟨cs, q1, q2, hm hl q3, q4.le hl⟩
def PutC {α : Type} (fn : FuncId) (k : Nat) (rep : Rdr → List Value → α → Prop) (ok : α → Bool) (enc : α → Byt) (wt : α → Nat) : Prop :=
  ∀ (w0 : Base) (gc gw gx f : Nat) (bad : Bool) (s : Slc) (R : Blocks) (b : Byt) (cs : List Value) (x : α), rep (rdC w0 R) cs x → cs.length = k → XAt (rdC w0 R) gx f cs → BS s b → b.length + wt x ≤ 70368744170000 → ∀ w, St w0 w (CWS gc gw bad s R) →
    Calls Tryz.prog fn #[ptr gc, .pointer (some ⟨gx, f, none⟩)] w (Turns w0 (WrC gc gw R (ok x) (enc x) (wt x) bad b))
theorem eqCW {gc gw : Nat} {bad : Bool} {s : Slc} {R N : Blocks} : CWS gc gw bad s R ++ N = CWS gc gw bad s (R ++ N) := by
  show _ :: (([_] ++ (s.bl ++ R)) ++ N) = _ :: ([_] ++ (s.bl ++ (R ++ N)))
  rw [List.append_assoc, List.append_assoc]
theorem dropR {w0 : Base} {w : World} {gc gw : Nat} {bad : Bool} {s : Slc} {R N : Blocks} (h : St w0 w (CWS gc gw bad s (R ++ N))) : St w0 w (CWS gc gw bad s R) := by
  rw [← eqCW] at h
  exact h.less (List.sublist_append_left _ _)
theorem memX {w0 : Base} {R : Blocks} {g : Nat} {t : TypeId} {cs : List Value} (h : (g, t, cs.toArray) ∈ R) : XAt (rdC w0 R) g 0 cs := fun i u hu => .inr ⟨t, cs.toArray, h, by rw [Nat.zero_add, List.getElem?_toArray]; exact hu⟩
theorem mem1 {w0 : Base} {R : Blocks} {g : Nat} {t : TypeId} {v : Value} (h : (g, t, #[v]) ∈ R) : rdC w0 R g 0 v := .inr ⟨t, #[v], h, rfl⟩
theorem lastR {R : Blocks} {b : Nat × TypeId × Array Value} : b ∈ R ++ [b] := List.mem_append_right _ (List.mem_singleton.2 rfl)
theorem inA {R N : Blocks} {b : Nat × TypeId × Array Value} (h : b ∈ R) : b ∈ R ++ N := List.mem_append_left _ h
theorem run_boxR {P : Program} {F : Slots} {o : Oper} {t : TypeId} {x : Operand} {cs : List Value} {k : Nat} (ho : o.op = .box t x) (hx : evF F x = .agg cs.toArray) (hi : (P.info? t).map (·.size) = some k) (hl : cs.length = k) (w : World) : (execOp (evF F) o).run P w = .ok (.value (ptr w.heap.size)) (w.alloc (.cells cs.toArray t)) := by
  unfold execOp
  simp only [ho, hx, Sem.run_bind, Instr.box]
  simp [newVar, newRow, Value.cells, ptr, Result.andThen]

section
variable {α : Type} {rep : Rdr → List Value → α → Prop} {ok : α → Bool} {enc : α → Byt} {wt : α → Nat}
theorem el_w_mo (hm : Mono rep) (hp : PutC 130 33 rep ok enc wt) (w0 : Base) (gc gw g4 g7 : Nat) (bad : Bool) (s : Slc) (R : Blocks) (b : Byt) (u : Value) (cs : List Value) (x : α) (h4 : (g4, 96, #[ptr gc]) ∈ R) (h7 : (g7, 232, #[.func (.func 130) #[] #[]]) ∈ R) (hx : rep (rdC w0 R) cs x) (hl : cs.length = 33) (hb : BS s b) (hlen : b.length + wt x ≤ 70368744170000) (w : World) (hw : St w0 w (CWS gc gw bad s R)) :
    Calls Tryz.prog 187 #[u, .agg cs.toArray, ptr g7, ptr g4] w (Turns w0 (WrC gc gw R (ok x) (enc x) (wt x) bad b)) := by
  refine Sy.enterT (args := [u, .agg cs.toArray, ptr g7, ptr g4]) hw Tryz.func187 rfl kL ?_
  refine sC ?_
  refine sM 108 cs.toArray (fun g5 => ?_) kR (fun w => run_boxR rfl rfl (by kernel_rfl) hl w)
  refine Sy.permS (List.Perm.of_eq eqCW) ?_
  refine Sy.nil ?_
  refine Sy.then_ ?_
  refine Sy.region ?_
  refine sS (.func (.func 130) #[] #[]) (cellC (R := R ++ [(g5, 108, cs.toArray)]) (mem1 (inA h7)) inCW rfl Tryz.underlying232) <| sS (ptr gc) (cellC (R := R ++ [(g5, 108, cs.toArray)]) (mem1 (inA h4)) inCW rfl Tryz.underlying96) ?_
  refine Sy.callT (fun w hw => hp w0.inn gc gw g5 0 bad s (R ++ [(g5, 108, cs.toArray)]) b cs x (hm (rdC_le (fun _ h => inA h)) hx) hl (memX lastR) hb hlen w hw) (fun v M hM => ?_)
  obtain ⟨s1, bad1, b1, h1, h2, rfl⟩ := hM
  refine Sy.nil ?_
  exact Sy.retT0 rfl (CWS gc gw bad1 s1 R) (fun _ h => dropR h) (fun _ => ⟨s1, bad1, b1, h1, h2, rfl⟩)
end

section
variable {α : Type} {rep : Rdr → List Value → α → Prop} {ok : α → Bool} {enc : α → Byt} {wt : α → Nat}
theorem put_w_mo (hm : Mono rep) (hp : PutC 130 33 rep ok enc wt) (w0 : Base) (gc gw g4 g7 : Nat) (bad : Bool) (s : Slc) (R : Blocks) (b : Byt) (v : Value) (l : List α) (h4 : (g4, 96, #[ptr gc]) ∈ R) (h7 : (g7, 232, #[.func (.func 130) #[] #[]]) ∈ R) (hv : LstR (rdC w0 R) 33 rep v l) (hb : BS s b) (hlen : b.length + (9 + (l.map wt).sum) ≤ 70368744170000) (w : World) (hw : St w0 w (CWS gc gw bad s R)) :
    Calls Tryz.prog 186 #[ptr gw, v, .func (.func 187) #[] #[ptr g7, ptr g4]] w (Turns w0 (WrC gc gw R (l.all ok) (varB l.length ++ l.flatMap enc) (9 + (l.map wt).sum) bad b)) := by
  obtain ⟨A, n, cp, rfl, h2, h3, h4', h5⟩ := hv
  have hmx : n < 9223372036854775808 := by simp only [maxLen] at h4'; omega
  refine Sy.enterT (args := [ptr gw, .slice A n cp, .func (.func 187) #[] #[ptr g7, ptr g4]]) hw Tryz.func186 rfl kL ?_
  refine sC ?_
  refine sp rfl <| sp rfl <| sP (.int .i64 (n : Int)) <| sS (.int .u64 (n : Int)) (Quiet.pure (fun w => conv_i6 w _ _ _ n (by omega) rfl rfl)) ?_
  refine Sy.callT (fun w hw => var_any w0.inn gw s ((gc, 155, #[ptr gw, .pointer none, .bool bad]) :: R) b n (by omega) hb (by omega) w (hw.perm permCW)) (fun u M hM => ?_)
  obtain ⟨s1, hs1, rfl⟩ := hM
  have hn9 := varB_len n
  refine Sy.permS permCW.symm ?_
  refine Sy.nil ?_
  refine sB ?_
  refine sp rfl <| sP (.int .i64 (n : Int)) <| sP (.int .i64 0) ?_
  refine sG ?_
  refine Sy.block ?_
  have hw0 : Wrote true (varB n) 9 bad b bad (b ++ varB n) := Wrote.raw _ _ _ hn9
  have hsum : ∀ i, ((l.take i).map wt).sum ≤ (l.map wt).sum := fun i => by
    have e := congrArg (fun z => (z.map wt).sum) (List.take_append_drop i l)
    simp only [List.map_append, List.sum_append] at e
    omega
  refine Sy.loopT (Y := Slc × Bool × Byt) n (fun i y => [(0, ptr gw), (2, .func (.func 187) #[] #[ptr g7, ptr g4]), (13, .slice A n cp), (14, .int .i64 (n : Int)), (15, .int .i64 (i : Int))]) (fun i y => CWS gc gw y.2.1 y.1 R) (fun i y => Wrote ((l.take i).all ok) (varB n ++ (l.take i).flatMap enc) (9 + ((l.take i).map wt).sum) bad b y.2.1 y.2.2 ∧ BS y.1 y.2.2) (s1, bad, b ++ varB n) ⟨by
    have e : Wrote ((l.take 0).all ok) (varB n ++ (l.take 0).flatMap enc) (9 + ((l.take 0).map wt).sum) bad b bad (b ++ varB n) := by
      rw [List.take_zero]
      simpa using hw0
    exact e, hs1⟩ (all_cons kR (all_cons kR (all_cons kR (all_cons kR (all_cons kR all_nil))))) (fun _ h => h) (fun i y hi hy => ?_)
  obtain ⟨sy, bady, by_⟩ := y
  obtain ⟨hy, hsy⟩ := hy
  dsimp only at hy hsy ⊢
  refine sC ?_
  obtain ⟨b2, hb2⟩ : ∃ z : Bool, z = decide (i < n) := ⟨_, rfl⟩
  refine sS (.bool b2) (Quiet.pure (exec_int .lss _ _ _ .i64 _ _ _ rfl rfl rfl (int_lss _ _ _ _ _ (by rw [hb2]; exact decide_eq_decide.2 (by omega))))) ?_
  refine sG ?_
  refine Sy.seq ?_
  cases b2
  case' false =>
    have l2 : ¬ i < n := of_decide_eq_false hb2.symm
    obtain rfl : i = n := by omega
    rw [List.take_of_length_le (by omega)] at hy
    refine sU ?_
    refine Sy.exit ?_
    refine Sy.then_exit ?_
    refine Sy.then_exit ?_
    refine Sy.in_exit ?_
    rw [h2]
    exact Sy.retT0 rfl (CWS gc gw bady sy R) (fun _ h => h) (fun _ => ⟨sy, bady, by_, hy, hsy, rfl⟩)
  have l2 : i < n := of_decide_eq_true hb2.symm
  obtain ⟨x, hx⟩ : ∃ x, l[i]? = some x := ⟨_, List.getElem?_eq_getElem (by omega)⟩
  obtain ⟨g, o, rfl, hq⟩ := h5 (by intro e; rw [e] at hx; cases hx)
  obtain ⟨cs, c1, c2, c3, c4⟩ := hq i x hx
  have htk : l.take (i + 1) = l.take i ++ [x] := by rw [List.take_add_one, hx]; rfl
  have hsi := hsum (i + 1)
  rw [htk] at hsi
  simp only [List.map_append, List.sum_append, List.map_cons, List.map_nil, List.sum_cons, List.sum_nil] at hsi
  refine sT ?_
  refine Sy.skip ?_
  refine Sy.then_ ?_
  refine Sy.seq ?_
  refine Sy.block ?_
  refine sC ?_
  refine sS (.pointer (some ⟨g, o + i * 33, none⟩)) (Quiet.pure (exec_atO 69 _ _ _ (some ⟨g, o, none⟩) g o n cp i 33 .i64 rfl rfl rfl rfl Tryz.underlying69 kF l2)) <| sS (.agg cs.toArray) (rowC (R := R) c4 inCW c1 rfl Tryz.underlying108) ?_
  refine sM 108 (.int .u64 0 :: List.replicate 32 (.int .u8 0)).toArray (fun g9 => ?_)
  refine Sy.permS (List.Perm.of_eq eqCW) ?_
  refine Sy.permS (List.perm_append_comm (l₁ := CWS gc gw bady sy R) (l₂ := [(g9, 108, (.int .u64 0 :: List.replicate 32 (.int .u8 0)).toArray)]) |> fun h => (List.Perm.of_eq eqCW.symm).trans h) ?_
  refine sw 0 rfl cs.toArray (Writes.row 108 cs 33 _ _ rfl kR kR kR c1 (by kernel_rfl) c2) ?_
  refine Sy.permS ((List.perm_append_comm (l₁ := [(g9, 108, cs.toArray)]) (l₂ := CWS gc gw bady sy R)).trans (List.Perm.of_eq eqCW)) ?_
  refine Sy.nil ?_
  refine Sy.then_ ?_
  refine Sy.region ?_
  refine sp rfl <| sp rfl <| sS (.agg cs.toArray) (rowC (R := R ++ [(g9, 108, cs.toArray)]) (memX lastR) inCW c1 rfl Tryz.underlying108) ?_
  refine Sy.callT (fun w hw => el_w_mo (rep := rep) (ok := ok) (enc := enc) (wt := wt) hm hp w0.inn gc gw g4 g7 bady sy (R ++ [(g9, 108, cs.toArray)]) by_ (ptr gw) cs x (inA h4) (inA h7) (hm (rdC_le (fun _ h => inA h)) c3) c1 hsy (by have hyl := hy.len; omega) w hw) (fun v M hM => ?_)
  obtain ⟨s3, bad3, b3, q1, q2, rfl⟩ := hM
  refine Sy.nil ?_
  refine Sy.in_ ?_
  refine Sy.then_ ?_
  refine Sy.region ?_
  refine sS (.int .i64 ((i + 1 : Nat) : Int)) (Quiet.pure (exec_int .add _ _ _ .i64 _ _ _ rfl rfl rfl (int_add _ _ _ _ _ ((wrap_i64 (by omega) (by omega)).trans (by omega))))) <| sp rfl ?_
  refine Sy.nil ?_
  have hW := hy.then_ q1
  have hW' : Wrote ((l.take (i + 1)).all ok) (varB n ++ (l.take (i + 1)).flatMap enc) (9 + ((l.take (i + 1)).map wt).sum) bad b bad3 b3 := by
    rw [htk]
    simp only [List.all_append, List.flatMap_append, List.map_append, List.sum_append, List.all_cons, List.all_nil, List.flatMap_cons, List.flatMap_nil, List.map_cons, List.map_nil, List.sum_cons, List.sum_nil, Bool.and_true, List.append_nil, Nat.add_zero, ← List.append_assoc, ← Nat.add_assoc]
    simpa only [List.append_assoc, Nat.add_assoc] using hW
  exact Sy.againT (s3, bad3, b3) l2 ⟨hW', q2⟩ (all_cons kR (all_cons kR (all_cons kR (all_cons kR (all_cons kR all_nil))))) (fun w h => dropR h)
theorem list_w_mo (hm : Mono rep) (hp : PutC 130 33 rep ok enc wt) (w0 : Base) (gc gw gx f most : Nat) (hmo : most < 1000000) (bad : Bool) (s : Slc) (R : Blocks) (b : Byt) (v : Value) (l : List α) (hv : LstR (rdC w0 R) 33 rep v l) (hc : rdC w0 R gx f v) (hb : BS s b) (hlen : b.length + (9 + (l.map wt).sum) ≤ 70368744170000) (w : World) (hw : St w0 w (CWS gc gw bad s R)) :
    Calls Tryz.prog 129 #[ptr gc, .pointer (some ⟨gx, f, none⟩), .int .i64 (most : Int), .func (.func 130) #[] #[]] w (Turns w0 (WrC gc gw R (decide (l.length ≤ most) && l.all ok) (varB l.length ++ l.flatMap enc) (9 + (l.map wt).sum) bad b)) := by
  have hv0 := hv
  obtain ⟨A, n, cp, rfl, h2, h3, h4', h5⟩ := hv
  refine Sy.enterT (args := [ptr gc, .pointer (some ⟨gx, f, none⟩), .int .i64 (most : Int), .func (.func 130) #[] #[]]) hw Tryz.func129 rfl kL ?_
  refine sC ?_
  refine sM 96 #[ptr gc] (fun g4 => ?_)
  refine Sy.permS (List.Perm.of_eq eqCW) ?_
  refine sM 232 #[.func (.func 130) #[] #[]] (fun g7 => ?_)
  refine Sy.permS (List.Perm.of_eq eqCW) ?_
  obtain ⟨R1, hR1⟩ : ∃ R1, R1 = R ++ [(g4, 96, #[ptr gc])] ++ [(g7, 232, #[.func (.func 130) #[] #[]])] := ⟨_, rfl⟩
  rw [← hR1]
  have m4 : (g4, 96, #[ptr gc]) ∈ R1 := by rw [hR1]; exact inA lastR
  have m7 : (g7, 232, #[.func (.func 130) #[] #[]]) ∈ R1 := by rw [hR1]; exact lastR
  have mR : ∀ x ∈ R, x ∈ R1 := fun x hx => by rw [hR1]; exact inA (inA hx)
  have hv1 : LstR (rdC w0 R1) 33 rep (.slice A n cp) l := LstR.le (rep := rep) hm (rdC_le mR) hv0
  have hc1 : rdC w0 R1 gx f (.slice A n cp) := rdC_le mR _ _ _ hc
  have back : ∀ {w : World} {bad' : Bool} {s' : Slc}, St w0 w (CWS gc gw bad' s' R1) → St w0 w (CWS gc gw bad' s' R) := fun h => by
    rw [hR1, List.append_assoc] at h
    exact dropR h
  refine sG ?_
  refine Sy.seq ?_
  refine sC ?_
  refine sS (ptr gc) (cellC (R := R1) (mem1 m4) inCW rfl Tryz.underlying96) <| sS (.bool false) (qg (fun w hw => reads_w w0.inn gc _ _ (List.mem_cons_self ..) w hw)) ?_
  refine sG ?_
  refine sU ?_
  refine Sy.skip ?_
  obtain ⟨b1, hb1⟩ : ∃ z : Bool, z = decide (n ≤ most) := ⟨_, rfl⟩
  refine sR (fun j => j == 7) ?_
  refine sD 0 rfl (ptr gc) (cellC (R := R1) (mem1 m4) inCW rfl Tryz.underlying96) <| sa 1 rfl rfl <| sa 2 rfl rfl <| se 3 [4,6,7] rfl (.slice A n cp) (cellC (R := R1) hc1 inCW rfl Tryz.underlying69) <| sb 4 rfl (.int .i64 (n : Int)) <| sa 5 rfl rfl ?_
  refine sv 6 rfl (.bool b1) (exec_int .leq _ _ _ .i64 _ _ _ rfl rfl rfl (int_leq _ _ _ _ _ (by rw [hb1]; exact decide_eq_decide.2 (by omega)))) ?_
  refine Sy.soleD 7 rfl (fun Q2 hq2 => ?_)
  refine Sy.callT (fun w hw => must_w w0.inn gc gw bad b1 s R1 w hw) (fun u M hM => ?_)
  subst hM
  refine hq2 _ _ ?_
  refine sE ?_
  obtain ⟨bad1, hbad1⟩ : ∃ x, x = (bad || !b1) := ⟨_, rfl⟩
  rw [← hbad1]
  refine sB ?_
  refine sS (ptr gc) (cellC (R := R1) (mem1 m4) inCW rfl Tryz.underlying96) <| sp rfl <| sP (.pointer (some ⟨gc, 2, none⟩)) <| sS (.bool bad1) (qc 0 2 rfl rfl Tryz.underlying4) <| sP (.bool (!bad1)) ?_
  refine sG ?_
  cases bad1
  · have hb1t : bad = false ∧ b1 = true := by cases bad <;> cases b1 <;> first | exact ⟨rfl, rfl⟩ | cases hbad1
    obtain ⟨rfl, rfl⟩ := hb1t
    have e1 : decide (l.length ≤ most) = true := by rw [h2, ← hb1]
    rw [e1, Bool.true_and]
    refine sT ?_
    refine Sy.regionD (fun j => j == 8) kR ?_
    refine se 0 [1,2,3,8] rfl (ptr gc) (cellC (R := R1) (mem1 m4) inCW rfl Tryz.underlying96) <| sa 1 rfl rfl <| sb 2 rfl (.pointer (some ⟨gc, 0, none⟩)) <| sD 3 rfl (ptr gw) (qc 0 0 rfl rfl Tryz.underlying151) <| sa 4 rfl rfl <| sa 5 rfl rfl <| sD 6 rfl (.slice A n cp) (cellC (R := R1) hc1 inCW rfl Tryz.underlying69) <| sb 7 rfl (.func (.func 187) #[] #[ptr g7, ptr g4]) ?_
    refine Sy.soleD 8 rfl (fun Q2 hq2 => ?_)
    refine Sy.callT (fun w hw => put_w_mo (rep := rep) hm hp w0.inn gc gw g4 g7 false s R1 b (.slice A n cp) l m4 m7 hv1 hb hlen w hw) (fun u M hM => ?_)
    obtain ⟨s1, bad2, b2, q1, q2, rfl⟩ := hM
    refine hq2 _ _ ?_
    refine sE ?_
    exact Sy.retT0 rfl (CWS gc gw bad2 s1 R) (fun _ h => back h) (fun _ => ⟨s1, bad2, b2, q1, q2, rfl⟩)
  · refine sU ?_
    refine Sy.skip ?_
    have e1 : true = (bad || !(decide (l.length ≤ most) && l.all ok)) := by
      rw [h2, ← hb1]
      cases bad
      · cases b1
        · rfl
        · cases hbad1
      · rfl
    exact Sy.retT0 rfl (CWS gc gw true s R) (fun _ h => back h) (fun _ => ⟨s, true, b, ⟨e1, fun h => (by cases h), by omega⟩, hb, rfl⟩)
end
end Go.Proofs.YtgemfpnlnipfnaaGreat.Wr

end
section
namespace Go.Proofs.YtgemfpnlnipfnaaGreat.Sy
open Go.RowKit Go.Proofs.YtgemfpnlnipfnaaGreat

section
variable {P : Program} {w0 : Base} {n : Nat} {Q : Exit → Act → World → Prop} {F : Slots} {L : Blocks}
theorem retGM2 {w1 : World} {fn : Func} {r s : ResultVar} {v u : Value} {R : Value → Blocks → Prop} (M : Blocks) (hr : fn.results = #[r, s]) (h : Has P F L r v) (k : Has P F L s u) (hM : ∀ w, St (Base.of w1) w L → St (Base.of w1) w M) (hR : R (.tuple #[v, u]) M) : X (Base.of w1) n (bodyPost P fn (GetsN w1 R)) F L .ret := fun a w ha hw => by
  refine bodyPost_ret (v := .tuple #[v, u]) ?_ ha.1 ⟨_, M, rfl, hR, hw.below, fun g t cs hm => (hM w hw).blk g t cs hm, (hM w hw).apart⟩
  rcases Res.run h ha hw with ⟨t, rfl, e1⟩ | ⟨t, ty, ad, rfl, e1, e2⟩ <;> rcases Res.run k ha hw with ⟨t', rfl, f1⟩ | ⟨t', ty', ad', rfl, f1, f2⟩ <;> simp [results, Result.andThen, *]
theorem St.none {w : World} (h : St w0 w L) : St w0 w [] := h.less (List.nil_sublist _)
end
section
variable {pre A B C D M N : Blocks}
end
end Go.Proofs.YtgemfpnlnipfnaaGreat.Sy

end
section
namespace Go.Proofs.YtgemfpnlnipfnaaGreat.Wr
open Go.RowKit Go.Proofs.YtgemfpnlnipfnaaGreat Go.Proofs.YtgemfpnlnipfnaaGreat.Sy
set_option maxRecDepth 100000
set_option maxHeartbeats 4000000

def repMO (_ : Rdr) (cs : List Value) (o : MOut) : Prop := cs = .int .u64 (o.value : Int) :: o.claim.map bv ∧ o.value < 18446744073709551616 ∧ o.claim.length = 32
theorem monoMO : Mono repMO := fun _ h => h
def repMT (C : Rdr) (cs : List Value) (t : MTx) : Prop := ∃ v, cs = [.int .u64 (t.nonce : Int), v] ∧ t.nonce < 18446744073709551616 ∧ LstR C 33 repMO v t.outs
theorem monoMT : Mono repMT := fun hl ⟨v, h1, h2, h3⟩ => ⟨v, h1, h2, LstR.le (rep := repMO) monoMO hl h3⟩
theorem mainOut_w : PutC 130 33 repMO (fun _ => true) encMO (fun _ => 40) := fun w0 gc gw gx f bad s R b cs x hx _ hc hb hl w hw => by
  obtain ⟨rfl, h1, h2⟩ := hx
  refine Sy.enterT (args := [ptr gc, .pointer (some ⟨gx, f, none⟩)]) hw Tryz.func130 rfl kL ?_
  refine sC ?_
  refine sp rfl <| sp rfl <| sp rfl <| sP (.pointer (some ⟨gx, f, none⟩)) ?_
  refine Sy.callT (fun w hw => long_w w0.inn gc gw gx f bad s R b x.value h1 hc.one hb (by omega) w hw) (fun u M hM => ?_)
  obtain ⟨s1, bad1, b1, q1, q2, rfl⟩ := hM
  have l1 := q1.len
  refine Sy.nil ?_
  refine Sy.then_ ?_
  refine Sy.region ?_
  refine sp rfl <| sp rfl <| sp rfl <| sP (.pointer (some ⟨gx, f + 1, none⟩)) ?_
  refine Sy.callT (fun w hw => digest_w w0.inn gc gw gx (f + 1) bad1 s1 R b1 x.claim h2 hc.tail q2 (by omega) w hw) (fun u M hM => ?_)
  obtain ⟨s2, bad2, b2, q3, q4, rfl⟩ := hM
  refine Sy.nil ?_
  exact Sy.retT0 rfl (CWS gc gw bad2 s2 R) (fun _ h => h) (fun _ => ⟨s2, bad2, b2, q1.then_ q3, q4, rfl⟩)
def wtMT (t : MTx) : Nat := 8 + (9 + (t.outs.map fun _ => 40).sum)
theorem all_true {α : Type} (l : List α) : l.all (fun _ => true) = true := by rw [List.all_eq_true]; exact fun _ _ => rfl
theorem mainTx_w : PutC 70 2 repMT okMT encMT wtMT := fun w0 gc gw gx f bad s R b cs x hx _ hc hb hl w hw => by
  obtain ⟨v, rfl, h1, h2⟩ := hx
  unfold wtMT at hl
  refine Sy.enterT (args := [ptr gc, .pointer (some ⟨gx, f, none⟩)]) hw Tryz.func70 rfl kL ?_
  refine sC ?_
  refine sp rfl <| sp rfl <| sp rfl <| sP (.pointer (some ⟨gx, f, none⟩)) ?_
  refine Sy.callT (fun w hw => long_w w0.inn gc gw gx f bad s R b x.nonce h1 hc.one hb (by omega) w hw) (fun u M hM => ?_)
  obtain ⟨s1, bad1, b1, q1, q2, rfl⟩ := hM
  have l1 := q1.len
  refine Sy.nil ?_
  refine Sy.then_ ?_
  refine Sy.region ?_
  refine sp rfl <| sp rfl <| sp rfl <| sP (.pointer (some ⟨gx, f + 1, none⟩)) ?_
  refine Sy.callT (fun w hw => list_w_mo (rep := repMO) monoMO mainOut_w w0.inn gc gw gx (f + 1) 16 (by decide) bad1 s1 R b1 v x.outs h2 hc.tail.one q2 (by omega) w hw) (fun u M hM => ?_)
  obtain ⟨s2, bad2, b2, q3, q4, rfl⟩ := hM
  refine Sy.nil ?_
  have q := q1.then_ q3
  rw [Bool.true_and, all_true, Bool.and_true] at q
  exact Sy.retT0 rfl (CWS gc gw bad2 s2 R) (fun _ h => h) (fun _ => ⟨s2, bad2, b2, q, q4, rfl⟩)
def BytE (ok : Bool) (e : Byt) (v : Value) (M : Blocks) : Prop := (ok = true ∧ ∃ u, v = .tuple #[u, .int .i64 0] ∧ ByN e u M) ∨ (ok = false ∧ v = .tuple #[.slice none 0 0, .int .i64 120] ∧ M = [])
theorem BS.nil : BS nilS [] := Slc.Is.nil _ _

theorem write_mtx {α : Type} {rep : Rdr → List Value → α → Prop} {ok : α → Bool} {enc : α → Byt} {wt : α → Nat} (hm : Mono rep) (hp : PutC 70 2 rep ok enc wt) (w : World) (cs : List Value) (x : α) (hx : rep (rdW w) cs x) (hl : cs.length = 2) (hwt : wt x ≤ 70368744170000) :
    Calls Tryz.prog 69 #[.agg cs.toArray, .func (.func 70) #[] #[]] w (GetsN w (BytE (ok x) (enc x))) := by
  refine Sy.enter (args := [.agg cs.toArray, .func (.func 70) #[] #[]]) Tryz.func69 rfl kL ?_
  refine sC ?_
  refine sM 71 cs.toArray (fun gx => ?_) kR (fun w => run_boxR rfl rfl (by kernel_rfl) hl w)
  refine sP (.slice none 0 0) <| sP (.int .i64 0) ?_
  refine sA ?_
  refine Sy.callN kR 89 #[] kF _ (fun w _ => new_any w) (fun v M hM => ?_)
  obtain ⟨gw, rfl, rfl⟩ := hM
  refine sP (.agg #[ptr gw, .pointer none, .bool false]) <| sM 155 #[ptr gw, .pointer none, .bool false] (fun gc => ?_)
  refine sp rfl ?_
  refine sA ?_
  refine Sy.permS (M := CWS gc gw false nilS [(gx, 71, cs.toArray)]) (Sy.perm_at [2,1,0] (by kernel_rfl) (by rfl)) ?_
  refine sp rfl <| sp rfl ?_
  refine Sy.callT (fun w' hw => hp (Base.of w) gc gw gx 0 false nilS [(gx, 71, cs.toArray)] [] cs x (hm rdW_base hx) hl (memX (List.mem_singleton.2 rfl)) BS.nil (by show 0 + _ ≤ _; omega) w' hw) (fun v M hM => ?_)
  obtain ⟨s, bad, b, q1, q2, rfl⟩ := hM
  have hbl : b.length ≤ wt x := by have := q1.len; simpa using this
  refine sG ?_
  refine Sy.seq ?_
  refine sC ?_
  refine sp rfl <| sp rfl <| sP (.pointer (some ⟨gc, 2, none⟩)) <| sS (.bool bad) (qc 0 2 rfl rfl Tryz.underlying4) ?_
  refine sG ?_
  cases bad
  · have hok : ok x = true := by
      have e := q1.bad
      cases h : ok x with
      | true => rfl
      | false => rw [h] at e; cases e
    obtain rfl : b = enc x := by have := q1.bytes rfl; simpa using this
    refine sU ?_
    refine Sy.skip ?_
    refine sB ?_
    refine sp rfl <| sp rfl <| sP (.pointer (some ⟨gc, 0, none⟩)) <| sS (ptr gw) (qc 0 0 rfl rfl Tryz.underlying151) ?_
    refine Sy.callT (fun w' hw => bytes_any (Base.of w) gw s ((gc, 155, #[ptr gw, .pointer none, .bool false]) :: [(gx, 71, cs.toArray)]) (enc x) q2 (by omega) w' (hw.perm permCW)) (fun v M hM => ?_)
    obtain ⟨N, hN, rfl⟩ := hM
    refine sp rfl <| sP (.int .i64 0) ?_
    refine sG ?_
    refine Sy.ret ?_
    exact Sy.retGM2 N rfl (.inl (show _ = _ by kernel_rfl)) (.inl (show _ = _ by kernel_rfl)) (fun _ h => h.less (List.sublist_append_right _ _)) (.inl ⟨hok, v, rfl, hN⟩)
  · have hok : ok x = false := by
      have e := q1.bad
      cases h : ok x with
      | false => rfl
      | true => rw [h] at e; cases e
    refine sT ?_
    refine sC ?_
    refine sP (.slice none 0 0) <| sP (.int .i64 120) ?_
    refine sG ?_
    refine Sy.ret ?_
    refine Sy.then_ret ?_
    exact Sy.retGM2 [] rfl (.inl (show _ = _ by kernel_rfl)) (.inl (show _ = _ by kernel_rfl)) (fun _ h => h.none) (.inr ⟨hok, rfl, rfl⟩)

theorem ex_mtx {α : Type} {rep : Rdr → List Value → α → Prop} {ok : α → Bool} {enc : α → Byt} {wt : α → Nat} (hm : Mono rep) (hp : PutC 70 2 rep ok enc wt) (w : World) (cs : List Value) (x : α) (hx : rep (rdW w) cs x) (hl : cs.length = 2) (hwt : wt x ≤ 70368744170000) :
    Calls Tryz.prog 30 #[.agg cs.toArray] w (GetsN w (BytE (ok x) (enc x))) := by
  refine Sy.enter (args := [.agg cs.toArray]) Tryz.func30 rfl kL ?_
  refine sC ?_
  refine sM 71 cs.toArray (fun gx => ?_) kR (fun w => run_boxR rfl rfl (by kernel_rfl) hl w)
  refine sP (.slice none 0 0) <| sP (.int .i64 0) ?_
  refine sA ?_
  refine sS (.agg cs.toArray) (rowC (R := [(gx, 71, cs.toArray)]) (memX (List.mem_singleton.2 rfl)) (fun _ h => h) hl rfl Tryz.underlying71) ?_
  refine Sy.callN kR 69 #[.agg cs.toArray, .func (.func 70) #[] #[]] kF (BytE (ok x) (enc x)) (fun w' hw => write_mtx (rep := rep) hm hp w' cs x (hm (fun g o u h => rdC_world (R := []) hw (fun _ h => by cases h) g o u (.inl h)) hx) hl hwt) (fun v M hM => ?_)
  have hv : ∃ a e : Value, v = .tuple #[a, e] := by
    rcases hM with ⟨_, u, rfl, _⟩ | ⟨_, rfl, _⟩ <;> exact ⟨_, _, rfl⟩
  obtain ⟨a, e, rfl⟩ := hv
  refine sp rfl <| sp rfl <| sp rfl <| sp rfl ?_
  refine sG ?_
  refine Sy.ret ?_
  exact Sy.retGM2 M rfl (.inl (show _ = _ by kernel_rfl)) (.inl (show _ = _ by kernel_rfl)) (fun _ h => h.less (List.sublist_append_right _ _)) hM

end Go.Proofs.YtgemfpnlnipfnaaGreat.Wr

end
section
namespace Go.Proofs.YtgemfpnlnipfnaaGreat.Wr
open Go.RowKit Go.Proofs.YtgemfpnlnipfnaaGreat Go.Proofs.YtgemfpnlnipfnaaGreat.Sy
set_option maxRecDepth 100000
set_option maxHeartbeats 4000000

theorem setAll_mid {A z v Z : List Value} {f : Nat} (hf : A.length = f) (hz : z.length = v.length) : setAll (A ++ (z ++ Z)).toArray f v = (A ++ (v ++ Z)).toArray := by
  subst hf
  rw [setAll_is _ _ _ (by simp [hz])]
  rw [List.take_left, ← List.drop_drop, List.drop_left, ← hz, List.drop_left]
theorem set_mid {A Z : List Value} {z v : Value} {f : Nat} (hf : A.length = f) : (A ++ (z :: Z)).toArray.setIfInBounds f v = (A ++ (v :: Z)).toArray := by
  subst hf
  rw [List.setIfInBounds_toArray, List.set_append_right _ _ (Nat.le_refl _), Nat.sub_self]
  rfl
section
variable {P : Program} {w0 : Base} {F : Slots} {L R : Blocks} {o : Oper}
theorem copyC (d s : Operand) (dT sT e : TypeId) (ho : o.op = .call { callee := .builtin .copy, args := #[d, s], argTypes := #[dT, sT] }) (hu : P.underlying dT = some (.slice e)) (hsz : (P.info? e).map (·.size) = some 1)
    (i g f dl dc : Nat) (t : TypeId) (cs cs' : Array Value) (hL : L[i]? = some (g, t, cs)) (hd : evF F d = .slice (some ⟨g, f, none⟩) dl dc) (gx fx n cp : Nat) (hs : evF F s = .slice (some ⟨gx, fx, none⟩) n cp) (x : Byt) (hx : XAt (rdC w0 R) gx fx (x.map bv)) (hR : ∀ b ∈ R, b ∈ L) (hn : x.length = n) (hdl : n = dl) (hfit : f + n ≤ cs.size) (hcs : setAll cs f (x.map bv) = cs') : WritesV P w0 F L o g t cs' (goInt n) := fun w hw => by
  subst hdl
  have hb := hw.get hL
  have hl : (x.map bv).length = n := by rw [List.length_map, hn]
  have hth := hb.there f (x.map bv).length (by rw [hl]; exact hfit)
  have hr := run_copy_cells (P := P) w dT sT o.type e g f n dc ⟨gx, fx, none⟩ n cp (x.map bv) hu hsz (by rw [hl]; exact (Nat.min_self n).symm) (fun q u hq => by
    rw [addr_off]
    exact (rdC_world hw hR _ _ _ (hx q u hq)).2) (fun q hq => (hth q hq).1) (fun q hq => (hth q hq).2) (fun u hu => by obtain ⟨y, _, rfl⟩ := List.mem_map.1 hu; rfl)
  rw [hl] at hr
  refine ⟨_, ?_, only_setCells (x.map bv) f w (World.grownBy.refl w (some g)), hcs ▸ Blk.setCells (x.map bv) f w cs hb⟩
  unfold execOp
  simp only [ho, resolve, invoke, builtin, Sem.run_bind, Sem.run_pure, Result.andThen_ok, List.map_toArray, List.map_cons, List.map_nil, hs, hd, hr]
end
abbrev CRS (gc gr gx : Nat) (tx : TypeId) (cs : List Value) (sl : Value) (e : Nat) (R : Blocks) : Blocks := (gc, 155, #[.pointer none, ptr gr, .bool false]) :: (gx, tx, cs.toArray) :: RQ gr sl e R
theorem permCR {a b c : Nat × TypeId × Array Value} {R : Blocks} : (a :: b :: c :: R).Perm (c :: a :: b :: R) := (List.Perm.cons a (List.Perm.swap c b R)).trans (List.Perm.swap c a _)
theorem inCR {gc gr gx : Nat} {tx : TypeId} {cs : List Value} {sl : Value} {e : Nat} {R : Blocks} : ∀ x ∈ R, x ∈ CRS gc gr gx tx cs sl e R := fun x hx => List.mem_cons_of_mem _ (List.mem_cons_of_mem _ (List.mem_cons_of_mem _ hx))
def RdT {α : Type} (k : Nat) (rep : Rdr → List Value → α → Prop) (p : Ps α) (w0 : Base) (gc gr gx : Nat) (tx : TypeId) (A Z : List Value) (s : RS) (R S : Blocks) (_ : Value) (M : Blocks) : Prop :=
  ∃ x s' sl' cs N, After p s x s' ∧ cs.length = k ∧ (∀ u ∈ cs, u.oneCell' = true) ∧ rep (rdB N) cs x ∧ s'.e ≤ 200 ∧ s'.rest.length ≤ s.rest.length ∧ BytR (rdC w0 S) sl' s'.rest ∧ M = CRS gc gr gx tx (A ++ (cs ++ Z)) sl' s'.e (R ++ N)
def GetC {α : Type} (fn : FuncId) (k : Nat) (zc : List Value) (rep : Rdr → List Value → α → Prop) (p : Ps α) : Prop :=
  ∀ (w0 : Base) (gc gr gx f : Nat) (tx : TypeId) (A Z : List Value) (sl : Value) (s : RS) (R S : Blocks), (∀ b ∈ S, b ∈ R) → A.length = f → s.e ≤ 200 → s.rest.length ≤ 70368744177664 → BytR (rdC w0 S) sl s.rest → ∀ w, St w0 w (CRS gc gr gx tx (A ++ (zc ++ Z)) sl s.e R) →
    Calls Tryz.prog fn #[ptr gc, .pointer (some ⟨gx, f, none⟩)] w (Turns w0 (RdT k rep p w0 gc gr gx tx A Z s R S))
theorem After.as {α : Type} {p : Ps α} {s s' : RS} {x d : α} (h : After p s x s') (hd : ∀ r, p s.rest = some (x, r) → d = x) : After p s d s' := ⟨h.bad, fun y r h0 hp => by
  obtain ⟨rfl, q⟩ := h.yes y r h0 hp
  exact ⟨hd r hp, q⟩, h.no⟩
theorem raw9_any (w0 : Base) (gr : Nat) (sl : Value) (s : RS) (R S : Blocks) (hS : ∀ b ∈ S, b ∈ R) (n : Nat) (hn : n ≤ 1000000) (he0 : s.e ≤ 200) (hl : s.rest.length ≤ 70368744177664) (hv : BytR (rdC w0 S) sl s.rest) (w : World) (hw : St w0 w (RQ gr sl s.e R)) :
    Calls Tryz.prog 211 #[ptr gr, .int .i64 (n : Int)] w (Turns w0 (RddN (takeP n) (fun x v N => ByN x v N ∧ (v = .slice none 0 0 ∧ N = [] ∧ x = [] ∨ x.length = n)) w0 gr R S s)) := by
  have hv0 := hv
  obtain ⟨A, m, cp, rfl, h2, h3, h4, h5⟩ := hv
  obtain ⟨e, he⟩ : ∃ e, e = if m < n then 110 else 0 := ⟨_, rfl⟩
  have he2 : e ≤ 200 := by rw [he]; split <;> omega
  refine Sy.enterT (args := [ptr gr, .int .i64 (n : Int)]) hw Tryz.func211 rfl kL ?_
  refine sC ?_
  refine sP (.slice none 0 0) ?_
  refine sA ?_
  refine sP (.int .i64 0) ?_
  refine sG ?_
  refine Sy.seq ?_
  refine cutC [(0, ptr gr), (1, .int .i64 (n : Int)), (5, .int .i64 (e : Int))] (RQ gr (.slice A m cp) s.e R) ?_ ?_
  · refine sC ?_
    refine sp rfl <| sS (.bool false) (Quiet.pure (exec_int .lss _ _ _ .i64 _ _ _ rfl rfl rfl (int_lss _ _ _ _ _ (decide_eq_false (by omega))))) ?_
    refine sG ?_
    refine sU ?_
    refine sC ?_
    obtain ⟨b1, hb1⟩ : ∃ z : Bool, z = decide (m < n) := ⟨_, rfl⟩
    refine sp rfl <| sp rfl <| sp rfl <| sP (.pointer (some ⟨gr, 0, none⟩)) <| sS (.slice A m cp) (qc 0 0 rfl rfl Tryz.underlying27) <| sP (.int .i64 (m : Int)) <| sS (.bool b1) (Quiet.pure (exec_int .gtr _ _ _ .i64 _ _ _ rfl rfl rfl (int_gtr _ _ _ _ _ (by rw [hb1]; exact decide_eq_decide.2 (by omega))))) ?_
    refine sG ?_
    cases b1
    · rw [if_neg (of_decide_eq_false hb1.symm)] at he
      rw [he]
      refine sU ?_
      refine Sy.skip ?_
      exact meet (all_cons kR (all_cons kR (all_cons kR all_nil))) (fun _ h => h)
    · rw [if_pos (of_decide_eq_true hb1.symm)] at he
      rw [he]
      refine sT ?_
      refine Sy.region ?_
      refine sP (.int .i64 110) ?_
      refine Sy.nil ?_
      exact meet (all_cons kR (all_cons kR (all_cons kR all_nil))) (fun _ h => h)
  refine sB ?_
  refine sp rfl <| sp rfl <| sp rfl ?_
  refine Sy.callT (fun w hw => piece_any (takeP n) w0.inn gr (.slice A m cp) s R S hS 0 n e he0 he2 hl (fun h => ?_) (fun h => ?_) hv0 w hw) (fun v M hM => ?_)
  · have hm : ¬ m < n := fun hlt => by rw [if_pos hlt] at he; omega
    exact ⟨Nat.zero_le _, by omega, by rw [List.drop_zero, Nat.sub_zero]; exact if_pos (by omega)⟩
  · have hm : m < n := by
      rcases Nat.lt_or_ge m n with hlt | hge
      · exact hlt
      · rw [if_neg (by omega)] at he; exact (h he).elim
    exact if_neg (by omega)
  obtain ⟨x, s', sl', N, hA, ⟨hN, hx⟩, q2, q3, q4, rfl⟩ := hM
  refine sp rfl ?_
  refine sG ?_
  refine Sy.ret ?_
  exact Sy.retT1 (RQ gr sl' s'.e (R ++ N)) rfl (.inl (show _ = _ by kernel_rfl)) (fun _ h => h) ⟨x, s', sl', N, hA, ⟨hN, hx⟩, q2, q3, q4, rfl⟩
theorem reads_r (w0 : Base) (gc gr : Nat) (a c : Value) {L : Blocks} (hL : (gc, 155, #[a, ptr gr, c]) ∈ L) (w : World) (hw : St w0 w L) : Calls Tryz.prog 137 #[ptr gc] w (Gets w (.bool true)) := by
  have hb := (hw.blk _ _ _ hL).2
  have hlt := hb.lt
  refine Sy.enter (args := [ptr gc]) Tryz.func137 rfl kL ?_
  refine sC ?_
  refine sP (.bool false) ?_
  refine sA ?_
  refine sp rfl <| sp rfl <| sP (.pointer (some ⟨gc, 1, none⟩)) <| sS (ptr gr) (Quiet.thereOne gc 1 153 _ _ rfl kR hlt _ (hb.cell 1) Tryz.underlying153 rfl) <| sP (.bool true) <| sp rfl ?_
  refine sG ?_
  refine Sy.ret ?_
  exact rV (.bool true) rfl
theorem copyNil (w : World) (F : Slots) (o : Oper) (d s : Operand) (g f n : Nat) (ho : o.op = .call { callee := .builtin .copy, args := #[d, s], argTypes := #[27, 27] }) (hd : evF F d = .slice (some ⟨g, f, none⟩) n n) (hs : evF F s = .slice none 0 0) : (execOp (evF F) o).run Tryz.prog w = .ok (.value (.int .i64 0)) w := by
  have e : (Builtin.copy_ #[27, 27] o.type #[.slice (some ⟨g, f, none⟩) n n, .slice none 0 0]).run Tryz.prog w = .ok (.int .i64 0) w := by
    have h0 : Nat.min 0 n = 0 := Nat.zero_min n
    have hu : Tryz.prog.underlying 27 = some (.slice 5) := by kernel_rfl
    have hs : (sizeOf 5).run Tryz.prog w = .ok 1 w := by kernel_rfl
    unfold Builtin.copy_
    simp [run_underlying hu, Builtin.lenOf, Builtin.firstCells, h0, hs, storeCells, goInt, Result.andThen]
  unfold execOp
  simp only [ho, resolve, invoke, builtin, Sem.run_bind, Sem.run_pure, Result.andThen_ok, List.map_toArray, List.map_cons, List.map_nil, hd, hs, e]
end Go.Proofs.YtgemfpnlnipfnaaGreat.Wr

end
section
namespace Go.Proofs.YtgemfpnlnipfnaaGreat.Wr
open Go.RowKit Go.Proofs.YtgemfpnlnipfnaaGreat Go.Proofs.YtgemfpnlnipfnaaGreat.Sy
set_option maxRecDepth 100000
set_option maxHeartbeats 4000000

def rep64 (_ : Rdr) (cs : List Value) (n : Nat) : Prop := cs = [.int .u64 (n : Int)] ∧ n < 18446744073709551616
def repDG (_ : Rdr) (cs : List Value) (x : Byt) : Prop := cs = x.map bv ∧ x.length = 32
def Z32 : List Value := (List.replicate 32 (0 : UInt8)).map bv
theorem long_r : GetC 91 1 [.int .u64 0] rep64 (numP 8) := fun w0 gc gr gx f tx A Z sl s R S hS hA he hl hv w hw => by
  have item : ∀ w, St w0.inn w (CRS gc gr gx tx (A ++ ([Value.int .u64 0] ++ Z)) sl s.e R) → Calls Tryz.prog 134 #[ptr gc, .pointer (some ⟨gx, f, none⟩), .func (.func 135) #[] #[], .func (.func 136) #[] #[]] w (Turns w0.inn (RdT 1 rep64 (numP 8) w0.inn gc gr gx tx A Z s R S)) := fun w hw => by
    refine Sy.enterT (args := [ptr gc, .pointer (some ⟨gx, f, none⟩), .func (.func 135) #[] #[], .func (.func 136) #[] #[]]) hw Tryz.func134 rfl kL ?_
    refine sC ?_
    refine sp rfl <| sS (.bool true) (qg (fun w hw => reads_r w0.inn gc gr _ _ (List.mem_cons_self ..) w hw)) ?_
    refine sG ?_
    refine sT ?_
    refine Sy.region ?_
    refine sp rfl <| sp rfl <| sp rfl <| sp rfl <| sP (.pointer (some ⟨gc, 1, none⟩)) <| sS (ptr gr) (qc 0 1 rfl rfl Tryz.underlying153) ?_
    refine Sy.callT (fun w hw => long9_any w0.inn gr sl s ((gc, 155, #[.pointer none, ptr gr, .bool false]) :: (gx, tx, (A ++ ([Value.int .u64 0] ++ Z)).toArray) :: R) S (fun b h => List.mem_cons_of_mem _ (List.mem_cons_of_mem _ (hS b h))) he hv w (hw.perm permCR)) (fun u M hM => ?_)
    obtain ⟨x, s', sl', q1, ⟨rfl, q2⟩, q3, q4, q5, rfl⟩ := hM
    refine Sy.permS permCR.symm ?_
    refine sp rfl <| sw 1 rfl (A ++ ([Value.int .u64 (x : Int)] ++ Z)).toArray (Writes.one f 22 (.int .u64 (x : Int)) _ _ rfl kR kR kR rfl rfl (by rw [List.size_toArray, List.length_append, hA]; exact Nat.lt_add_of_pos_right (Nat.succ_pos _)) (set_mid hA)) ?_
    refine Sy.nil ?_
    exact Sy.retT0 rfl (CRS gc gr gx tx (A ++ ([Value.int .u64 (x : Int)] ++ Z)) sl' s'.e R) (fun _ h => h) (fun _ => ⟨x, s', sl', [Value.int .u64 (x : Int)], [], q1, rfl, fun u hu => by rw [List.mem_singleton.1 hu]; rfl, ⟨rfl, q2⟩, q3, q4, q5, by rw [List.append_nil]⟩)
  refine Sy.enterT (args := [ptr gc, .pointer (some ⟨gx, f, none⟩)]) hw Tryz.func91 rfl kL ?_
  refine Sy.region ?_
  refine sp rfl <| sp rfl ?_
  refine Sy.callT (fun w hw => item w hw) (fun u M hM => ?_)
  refine Sy.nil ?_
  have hM' := hM
  obtain ⟨x, s', sl', cs, N, q1, q2, q3, q4, q5, q6, q7, rfl⟩ := hM'
  exact Sy.retT0 rfl _ (fun _ h => h) (fun _ => hM)

theorem Z32_len : Z32.length = 32 := rfl
theorem z32_is (x : Byt) (h : x.length = 32) : Z32.length = (x.map bv).length := by rw [List.length_map, h]; rfl
theorem raw_r (w0 : Base) (gc gr gx f : Nat) (tx : TypeId) (A Z : List Value) (sl : Value) (s : RS) (R S : Blocks) (hS : ∀ b ∈ S, b ∈ R) (hA : A.length = f) (he : s.e ≤ 200) (hl : s.rest.length ≤ 70368744177664) (hv : BytR (rdC w0 S) sl s.rest) (w : World) (hw : St w0 w (CRS gc gr gx tx (A ++ (Z32 ++ Z)) sl s.e R)) :
    Calls Tryz.prog 162 #[ptr gc, .slice (some ⟨gx, f, none⟩) 32 32] w (Turns w0 (RdT 32 repDG (takeP 32) w0 gc gr gx tx A Z s R S)) := by
  refine Sy.enterT (args := [ptr gc, .slice (some ⟨gx, f, none⟩) 32 32]) hw Tryz.func162 rfl kL ?_
  refine sC ?_
  refine sp rfl <| sS (.bool true) (qg (fun w hw => reads_r w0.inn gc gr _ _ (List.mem_cons_self ..) w hw)) ?_
  refine sG ?_
  refine sT ?_
  refine Sy.region ?_
  refine sp rfl <| sp rfl <| sp rfl <| sP (.pointer (some ⟨gc, 1, none⟩)) <| sS (ptr gr) (qc 0 1 rfl rfl Tryz.underlying153) <| sp rfl <| sP (.int .i64 32) ?_
  refine Sy.callT (fun w hw => raw9_any w0.inn gr sl s ((gc, 155, #[.pointer none, ptr gr, .bool false]) :: (gx, tx, (A ++ (Z32 ++ Z)).toArray) :: R) S (fun b h => List.mem_cons_of_mem _ (List.mem_cons_of_mem _ (hS b h))) 32 (by decide) he hl hv w (hw.perm permCR)) (fun u M hM => ?_)
  obtain ⟨x, s', sl', N, q1, ⟨q2, q2'⟩, q3, q4, q5, rfl⟩ := hM
  refine Sy.permS (M := CRS gc gr gx tx (A ++ (Z32 ++ Z)) sl' s'.e (R ++ N)) permCR.symm ?_
  rcases q2' with ⟨rfl, rfl, rfl⟩ | hx
  · refine sS (.int .i64 0) (Quiet.pure (fun w => copyNil w _ _ _ _ gx f 32 rfl rfl rfl)) ?_
    refine Sy.nil ?_
    exact Sy.retT0 rfl (CRS gc gr gx tx (A ++ (Z32 ++ Z)) sl' s'.e (R ++ [])) (fun _ h => h) (fun _ => ⟨List.replicate 32 0, s', sl', Z32, [], q1.as (fun r hp => by have := (take_len hp).1; cases this), rfl, fun u hu => by obtain ⟨y, _, rfl⟩ := List.mem_map.1 hu; rfl, ⟨rfl, rfl⟩, q3, q4, q5, rfl⟩)
  · have hb := q2.byt
    obtain ⟨B, n, cp, rfl, h2, h3, h4, h5⟩ := hb
    obtain ⟨gb, ob, rfl, hq⟩ := h5 (by intro e; rw [e] at hx; cases hx)
    obtain rfl : 32 = n := by omega
    refine Sy.writeV kR 1 gx tx _ (A ++ (x.map bv ++ Z)).toArray (.int .i64 32) rfl (copyC (R := N) _ _ 27 27 5 rfl Tryz.underlying27 kR 1 gx f 32 32 tx _ _ rfl rfl gb ob 32 cp rfl x (fun j u hj => .inr (by
      rw [List.getElem?_map] at hj
      cases hxj : x[j]? with
      | none => rw [hxj] at hj; cases hj
      | some y => rw [hxj] at hj; cases hj; exact hq j y hxj)) (fun b h => inCR b (List.mem_append_right _ h)) hx rfl (by rw [List.size_toArray, List.length_append, List.length_append, hA, Z32_len]; omega) (setAll_mid hA (z32_is x hx))) ?_
    refine Sy.nil ?_
    exact Sy.retT0 rfl (CRS gc gr gx tx (A ++ (x.map bv ++ Z)) sl' s'.e (R ++ N)) (fun _ h => h) (fun _ => ⟨x, s', sl', x.map bv, N, q1, by rw [List.length_map, hx], fun u hu => by obtain ⟨y, _, rfl⟩ := List.mem_map.1 hu; rfl, ⟨rfl, hx⟩, q3, q4, q5, rfl⟩)
theorem digest_r : GetC 105 32 Z32 repDG (takeP 32) := fun w0 gc gr gx f tx A Z sl s R S hS hA he hl hv w hw => by
  refine Sy.enterT (args := [ptr gc, .pointer (some ⟨gx, f, none⟩)]) hw Tryz.func105 rfl kL ?_
  refine Sy.region ?_
  refine sp rfl <| sp rfl <| sp rfl <| sP (.slice (some ⟨gx, f, none⟩) 32 32) ?_
  refine Sy.callT (fun w hw => raw_r w0.inn gc gr gx f tx A Z sl s R S hS hA he hl hv w hw) (fun u M hM => ?_)
  refine Sy.nil ?_
  exact Sy.retT0 rfl _ (fun _ h => h) (fun _ => hM)
end Go.Proofs.YtgemfpnlnipfnaaGreat.Wr

end
section
namespace Go.Proofs.YtgemfpnlnipfnaaGreat.Sy
open Go.RowKit Go.Proofs.YtgemfpnlnipfnaaGreat

section
variable {r : Nat → Slc} {n i : Nat} {pre A B C D M N T : Blocks} {b b' : Nat × TypeId × Array Value} {v : Value} {w0 : Base} {w : World}
end
end Go.Proofs.YtgemfpnlnipfnaaGreat.Sy

end
section
namespace Go.Proofs.YtgemfpnlnipfnaaGreat.Sy
open Go.RowKit Go.Proofs.YtgemfpnlnipfnaaGreat

section
variable {L M : Blocks} {w0 : Base} {w : World}
theorem flat_perm {ls ms : List Blocks} (is : List Nat) (hi : is.isPerm (List.range ls.length) = true) (hm : is.map (fun i => ls[i]?) = ms.map some) (hL : L = ls.flatten) (hM : M = ms.flatten) : L.Perm M := by
  rw [hL, hM]
  exact (perm_at is hi hm).flatten
theorem St.parts {ls ms : List Blocks} (os : List Blocks) (is : List Nat) (hi : is.isPerm (List.range ls.length) = true) (hm : is.map (fun i => ls[i]?) = (ms ++ os).map some) (hL : L = ls.flatten) (hM : M = ms.flatten) (hw : St w0 w L) : St w0 w M := by
  have h1 : L.Perm (M ++ os.flatten) := by
    rw [hL, hM, ← List.flatten_append]
    exact (perm_at is hi hm).flatten
  exact (hw.perm h1).less (List.sublist_append_left _ _)
end
section
variable {f : Nat → List Value} {s m k o : Nat} {sp : List Value}
end
section
variable {r : Nat → Slc} {n i : Nat} {pre M R D E : Blocks} {b : Nat × TypeId × Array Value} {v : Value} {w0 : Base} {w : World}
end
end Go.Proofs.YtgemfpnlnipfnaaGreat.Sy

end
section
namespace Go.Proofs.YtgemfpnlnipfnaaGreat.Wr
open Go.RowKit Go.Proofs.YtgemfpnlnipfnaaGreat Go.Proofs.YtgemfpnlnipfnaaGreat.Sy
set_option maxRecDepth 100000
set_option maxHeartbeats 4000000

abbrev CRN (gc gr : Nat) (sl : Value) (e : Nat) (R : Blocks) : Blocks := (gc, 155, #[.pointer none, ptr gr, .bool false]) :: RQ gr sl e R
theorem permEl {c r a b : Nat × TypeId × Array Value} {R : Blocks} : ((c :: r :: R) ++ [a] ++ [b]).Perm (c :: b :: r :: a :: R) := by
  have h1 : ((c :: r :: R) ++ [a] ++ [b]).Perm (b :: (a :: (c :: r :: R))) := by
    refine (List.perm_append_comm (l₁ := (c :: r :: R) ++ [a]) (l₂ := [b])).trans ?_
    exact List.Perm.cons b (List.perm_append_comm (l₁ := c :: r :: R) (l₂ := [a]))
  refine h1.trans ?_
  have h2 : ([b, a, c, r] ++ R).Perm ([c, b, r, a] ++ R) := (Sy.perm_at [2,0,3,1] (by kernel_rfl) (by rfl)).append_right R
  exact h2
def RdV {α : Type} (k : Nat) (rep : Rdr → List Value → α → Prop) (p : Ps α) (w0 : Base) (gc gr : Nat) (s : RS) (R S : Blocks) (v : Value) (M : Blocks) : Prop :=
  ∃ x s' sl' cs N, After p s x s' ∧ cs.length = k ∧ (∀ u ∈ cs, u.oneCell' = true) ∧ rep (rdB N) cs x ∧ v = .agg cs.toArray ∧ s'.e ≤ 200 ∧ s'.rest.length ≤ s.rest.length ∧ BytR (rdC w0 S) sl' s'.rest ∧ M = CRN gc gr sl' s'.e (R ++ N)
theorem swap12 {a b : Nat × TypeId × Array Value} {R : Blocks} : (a :: b :: R).Perm (b :: a :: R) := List.Perm.swap b a R
def RowsOk {α : Type} (e : TypeId) (k : Nat) (rep : Rdr → List Value → α → Prop) (r : Slc) (N : Blocks) (l : List α) : Prop :=
  ∃ xs : List (List Value), r.Is e k xs ∧ xs.length = l.length ∧ ∀ (j : Nat) (x : α), l[j]? = some x → ∃ cs, xs[j]? = some cs ∧ rep (rdB N) cs x
theorem RowsOk.nil {α : Type} {e : TypeId} {k : Nat} {rep : Rdr → List Value → α → Prop} {N : Blocks} : RowsOk e k rep nilS N ([] : List α) := ⟨[], Slc.Is.nil _ _, rfl, fun j x h => by cases h⟩
theorem RowsOk.more {α : Type} {e : TypeId} {k : Nat} {rep : Rdr → List Value → α → Prop} (hm : Mono rep) {r : Slc} {N N' : Blocks} {l : List α} (h : RowsOk e k rep r N l) (hN : ∀ b ∈ N, b ∈ N') : RowsOk e k rep r N' l := by
  obtain ⟨xs, h1, h2, h3⟩ := h
  refine ⟨xs, h1, h2, fun j x hx => ?_⟩
  obtain ⟨cs, q1, q2⟩ := h3 j x hx
  exact ⟨cs, q1, hm (rdB_le hN) q2⟩
theorem RowsOk.add {α : Type} {e : TypeId} {k : Nat} {rep : Rdr → List Value → α → Prop} {r' : Slc} {N : Blocks} {l : List α} {xs : List (List Value)} {cs : List Value} {x : α} (h2 : xs.length = l.length) (h3 : ∀ (j : Nat) (x : α), l[j]? = some x → ∃ cs, xs[j]? = some cs ∧ rep (rdB N) cs x) (hr : r'.Is e k (xs ++ [cs])) (hx : rep (rdB N) cs x) : RowsOk e k rep r' N (l ++ [x]) := by
  refine ⟨xs ++ [cs], hr, by simp [h2], fun j y hy => ?_⟩
  rcases Nat.lt_or_ge j l.length with hlt | hge
  · rw [List.getElem?_append_left hlt] at hy
    obtain ⟨c, q1, q2⟩ := h3 j y hy
    exact ⟨c, by rw [List.getElem?_append_left (by omega)]; exact q1, q2⟩
  · rw [List.getElem?_append_right hge] at hy
    have hj : j - l.length = 0 := by
      have := (List.getElem?_eq_some_iff.1 hy).1
      simp at this; omega
    rw [hj] at hy
    simp at hy
    subst hy
    exact ⟨cs, by rw [List.getElem?_append_right (by omega), show j - xs.length = 0 by omega]; rfl, hx⟩
theorem RowsOk.lst {α : Type} {e : TypeId} {k : Nat} {rep : Rdr → List Value → α → Prop} (hm : Mono rep) {r : Slc} {N : Blocks} {l : List α} (h : RowsOk e k rep r N l) : LstR (rdB (N ++ r.bl)) k rep r.v l := by
  obtain ⟨xs, h1, h2, h3⟩ := h
  rcases h1.row with ⟨rfl, rfl⟩ | ⟨g, cap, sp, rfl, q1, q2, q3⟩
  · have : l = [] := by cases l with | nil => rfl | cons => cases h2
    subst this
    exact ⟨none, 0, 0, rfl, rfl, Nat.le_refl _, Nat.zero_le _, fun h => (h rfl).elim⟩
  · rw [h2] at q2
    refine ⟨_, _, _, by rw [h2], rfl, q2, q3, fun _ => ⟨g, 0, rfl, fun j x hx => ?_⟩⟩
    obtain ⟨cs, c1, c2⟩ := h3 j x hx
    have hl := h1.len _ (List.mem_of_getElem? c1)
    refine ⟨cs, hl, h1.one _ (List.mem_of_getElem? c1), hm (rdB_le fun b hb => List.mem_append_left _ hb) c2, fun i u hu => ⟨e, _, List.mem_append_right _ (List.mem_singleton.2 rfl), ?_⟩⟩
    have q := flat_at' sp h1.len j cs c1
    have hi : i < k := by rw [← hl]; exact (List.getElem?_eq_some_iff.1 hu).1
    rw [← q, List.getElem?_take_of_lt hi, List.getElem?_drop] at hu
    rw [Nat.zero_add, List.getElem?_toArray]
    exact hu

structure YL (α : Type) where
  l : List α
  r : Slc
  s : RS
  sl : Value
  N : Blocks
  x : Option α
theorem apZ {Z : Type} {w0 fz : World} {lp n : Nat} {F : Slots} {L : Blocks} {FA : Z → Slots} {LA : Z → Blocks} (z : Z) (hF : ∀ p ∈ FA z, F.lookup p.1 = some p.2) (hL : ∀ w, St (rb w0 fz lp) w L → St (rb w0 fz lp) w (LA z)) : X (rb w0 fz lp) n (APZ w0 fz lp n FA LA) F L .normal := fun _ w ha hw => ⟨z, ha.all hF, hL w hw⟩
theorem bpZ {Y : Type} {w0 fz : World} {lp n : Nat} {F : Slots} {L : Blocks} {HR : Y → Prop} {LR : Y → Blocks} (y : Y) (h : HR y) (hL : ∀ w, St (rb w0 fz lp) w L → St (rb w0 fz lp) w (LR y)) : X (rb w0 fz lp) n (BPZ w0 fz lp HR LR) F L .normal := fun _ w _ hw => ⟨y, h, hL w hw⟩
structure InvL {α : Type} (e : TypeId) (k : Nat) (rep : Rdr → List Value → α → Prop) (p : Ps α) (w0 : Base) (S : Blocks) (m : Nat) (s1 : RS) (i : Nat) (y : YL α) : Prop where
  len : y.l.length = i
  rows : RowsOk e k rep y.r y.N y.l
  yes : y.s.e = 0 → s1.e = 0 ∧ repP p i s1.rest = some (y.l, y.s.rest)
  no : y.s.e ≠ 0 → s1.e ≠ 0 ∨ repP p m s1.rest = none
  e : y.s.e ≤ 200
  rest : y.s.rest.length ≤ s1.rest.length
  byt : BytR (rdC w0 S) y.sl y.s.rest
theorem rep_step {α : Type} {p : Ps α} {i : Nat} {s s1 s' : RS} {l : List α} {x : α} (h : repP p i s1.rest = some (l, s.rest)) (h0 : s.e = 0) (hA : After p s x s') : (s'.e = 0 → repP p (i + 1) s1.rest = some (l ++ [x], s'.rest)) ∧ (s'.e ≠ 0 → ∀ m, i < m → repP p m s1.rest = none) := by
  refine ⟨fun h1 => ?_, fun h1 m hm => ?_⟩
  · rw [repP_snoc, bind_some h, bind_some (hA.ok h0 h1)]; rfl
  · refine repP_none (i := i + 1) ?_ m hm
    rw [repP_snoc, bind_some h]
    cases hp : p s.rest with
    | none => exact bind_none hp
    | some u => obtain ⟨y, r⟩ := u; obtain ⟨_, hs⟩ := hA.yes y r h0 hp; rw [hs] at h1; exact (h1 rfl).elim
abbrev LBL (gc gr gl : Nat) (ts : TypeId) (r : Slc) (e : Nat) (sl : Value) (R N : Blocks) : Blocks := [(gc, 155, #[.pointer none, ptr gr, .bool false]), (gr, 275, #[sl, .int .i64 (e : Int)]), (gl, ts, #[r.v])] ++ (r.bl ++ (R ++ N))
theorem lbl_in {gc gr gl : Nat} {ts : TypeId} {r : Slc} {e : Nat} {sl : Value} {R N : Blocks} : ∀ b ∈ R, b ∈ LBL gc gr gl ts r e sl R N := fun b hb => List.mem_append_right _ (List.mem_append_right _ (List.mem_append_left _ hb))

def repL {α : Type} (k : Nat) (rep : Rdr → List Value → α → Prop) (C : Rdr) (cs : List Value) (l : List α) : Prop := ∃ v, cs = [v] ∧ LstR C k rep v l
theorem LstR.cells {α : Type} {C : Rdr} {k : Nat} {rep : Rdr → List Value → α → Prop} {v : Value} {l : List α} (h : LstR C k rep v l) : v.cells = #[v] ∧ v.oneCell' = true := by
  obtain ⟨A, n, cp, rfl, _⟩ := h; exact ⟨rfl, rfl⟩
def RdL {α : Type} (k : Nat) (rep : Rdr → List Value → α → Prop) (p : Ps (List α)) (w0 : Base) (gc gr : Nat) (s : RS) (R S : Blocks) (v : Value) (M : Blocks) : Prop :=
  ∃ l s' sl' N, After p s l s' ∧ LstR (rdB N) k rep v l ∧ s'.e ≤ 200 ∧ s'.rest.length ≤ s.rest.length ∧ BytR (rdC w0 S) sl' s'.rest ∧ M = CRN gc gr sl' s'.e (R ++ N)
theorem permLB {c r g : Nat × TypeId × Array Value} {R M : Blocks} : ((c :: r :: R) ++ [g] ++ M).Perm ([c, r, g] ++ (nilS.bl ++ ((R ++ M) ++ []))) :=
  Sy.flat_perm (ls := [[c, r], R, [g], M]) (ms := [[c, r], [g], R, M]) [0, 2, 1, 3] (by kernel_rfl) (by rfl) (by simp) (by simp [nilS])
theorem swap23 {a b c : Nat × TypeId × Array Value} {R : Blocks} : (a :: b :: c :: R).Perm (a :: c :: b :: R) := List.Perm.cons a (List.Perm.swap c b R)

section
variable {α : Type} {rep : Rdr → List Value → α → Prop} {p : Ps α}
theorem el_r_mo (hm : Mono rep) (hp : GetC 130 33 (([Value.int .u64 0] ++ Z32)) rep p) (w0 : Base) (gc gr g4 g7 : Nat) (sl : Value) (s : RS) (R S : Blocks) (hS : ∀ b ∈ S, b ∈ R) (h4 : (g4, 96, #[ptr gc]) ∈ R) (h7 : (g7, 232, #[.func (.func 130) #[] #[]]) ∈ R) (he : s.e ≤ 200) (hl : s.rest.length ≤ 70368744177664) (hv : BytR (rdC w0 S) sl s.rest) (u : Value) (w : World) (hw : St w0 w (CRN gc gr sl s.e R)) :
    Calls Tryz.prog 185 #[u, ptr g7, ptr g4] w (Turns w0 (RdV 33 rep p w0 gc gr s R S)) := by
  refine Sy.enterT (args := [u, ptr g7, ptr g4]) hw Tryz.func185 rfl kL ?_
  refine sC ?_
  refine sM 108 (([Value.int .u64 0] ++ Z32)).toArray (fun ga => ?_)
  refine sA ?_
  refine sM 108 (([Value.int .u64 0] ++ Z32)).toArray (fun gb => ?_)
  refine Sy.permS (M := CRS gc gr gb 108 ([] ++ ((([Value.int .u64 0] ++ Z32)) ++ [])) sl s.e ((ga, 108, (([Value.int .u64 0] ++ Z32)).toArray) :: R)) permEl ?_
  refine sA ?_
  refine sS (.func (.func 130) #[] #[]) (cellC (R := (ga, 108, (([Value.int .u64 0] ++ Z32)).toArray) :: R) (mem1 (List.mem_cons_of_mem _ h7)) inCR rfl Tryz.underlying232) <| sS (ptr gc) (cellC (R := (ga, 108, (([Value.int .u64 0] ++ Z32)).toArray) :: R) (mem1 (List.mem_cons_of_mem _ h4)) inCR rfl Tryz.underlying96) ?_
  refine Sy.callT (fun w hw => hp w0.inn gc gr gb 0 108 [] [] sl s ((ga, 108, (([Value.int .u64 0] ++ Z32)).toArray) :: R) S (fun b h => List.mem_cons_of_mem _ (hS b h)) rfl he hl hv w hw) (fun v M hM => ?_)
  obtain ⟨x, s', sl', cs, N, q1, q2, q3, q4, q5, q6, q7, rfl⟩ := hM
  rw [List.append_nil]
  refine sA ?_
  refine sS (.agg cs.toArray) (Quiet.mid 1 gb 0 33 108 108 cs cs _ _ rfl kR rfl Tryz.underlying108 rfl kR (by rw [List.drop_zero, List.take_of_length_le (by omega)]) (by omega)) <| sw 3 rfl cs.toArray (Writes.row 108 cs 33 _ _ rfl kR kR kR q2 (by kernel_rfl) q3) ?_
  refine sG ?_
  refine Sy.ret ?_
  exact Sy.retT1 (CRN gc gr sl' s'.e (R ++ N)) rfl (.inl (Sy.Res.cell (ty' := 108) ga 3 cs.toArray _ (by kernel_rfl) rfl Tryz.underlying108 rfl (by rw [List.size_toArray, q2]; kernel_rfl) rfl)) (fun w h => h.less (((List.Sublist.refl _).cons _ |>.cons_cons _).cons _ |>.cons_cons _)) ⟨x, s', sl', cs, N, q1, q2, q3, q4, rfl, q5, q6, q7, rfl⟩
theorem items_r_mo (w : World) (gr most g4 g7 : Nat) : Calls Tryz.prog 224 #[ptr gr, .int .i64 (most : Int), .func (.func 185) #[] #[ptr g7, ptr g4]] w (GetsN w (fun v M => ∃ a b c, v = .func (.func 265) #[] #[ptr a, ptr b, ptr c] ∧ M = [(a, 153, #[ptr gr]), (b, 3, #[.int .i64 (most : Int)]), (c, 302, #[.func (.func 185) #[] #[ptr g7, ptr g4]])])) := by
  refine Sy.enter (args := [ptr gr, .int .i64 (most : Int), .func (.func 185) #[] #[ptr g7, ptr g4]]) Tryz.func224 rfl kL ?_
  refine sC ?_
  refine sM 153 #[ptr gr] (fun a => ?_)
  refine sM 3 #[.int .i64 (most : Int)] (fun b => ?_)
  refine sM 302 #[.func (.func 185) #[] #[ptr g7, ptr g4]] (fun c => ?_)
  refine sP .nilFunc ?_
  refine sA ?_
  refine sP (.func (.func 265) #[] #[ptr a, ptr b, ptr c]) <| sp rfl ?_
  refine sG ?_
  refine Sy.ret ?_
  exact Sy.retGM _ rfl (.inl (show _ = _ by kernel_rfl)) (fun _ h => h) ⟨a, b, c, rfl, rfl⟩

noncomputable def inf_mo : TypeInfo := (Tryz.prog.info? 108).getD default
theorem info_mo : Tryz.prog.info? 108 = some inf_mo := by kernel_rfl
def HYL_mo (p : Ps α) (rep : Rdr → List Value → α → Prop) (w0 : Base) (S : Blocks) (m : Nat) (s1 : RS) (v : Nat × List Value) (y : YL α) : Prop := ∃ x, y.x = some x ∧ y.l.length = v.1 ∧ RowsOk 108 33 rep y.r y.N y.l ∧ rep (rdB y.N) v.2 x ∧ v.2.length = 33 ∧ (∀ u ∈ v.2, u.oneCell' = true) ∧ v.1 < 1000000
def HRL_mo (rep : Rdr → List Value → α → Prop) (y y' : YL α) : Prop := ∃ x r', y.x = some x ∧ RowsOk 108 33 rep r' y.N (y.l ++ [x]) ∧ y' = { y with l := y.l ++ [x], r := r', x := none }
theorem iter_r_mo (hm : Mono rep) (hp : GetC 130 33 (([Value.int .u64 0] ++ Z32)) rep p) (w0 : Base) (fz : World) (gc gr gl g4 g7 a b c most : Nat) (hmost : most < 1000000) (R S : Blocks) (s0 : RS) (sl0 : Value) (hS : ∀ x ∈ S, x ∈ R) (h4 : (g4, 96, #[ptr gc]) ∈ R) (h7 : (g7, 232, #[.func (.func 130) #[] #[]]) ∈ R) (ha : (a, 153, #[ptr gr]) ∈ R) (hb : (b, 3, #[.int .i64 (most : Int)]) ∈ R) (hc : (c, 302, #[.func (.func 185) #[] #[ptr g7, ptr g4]]) ∈ R) (he : s0.e ≤ 200) (hl : s0.rest.length ≤ 70368744177664) (hv : BytR (rdC w0 S) sl0 s0.rest) (lp : Nat) (w : World) (hw : St (ib w0.world fz) w (LBL gc gr gl 69 nilS s0.e sl0 R []))
    (hY : ∀ (v : Nat × List Value) (y : YL α) (W : World), (HYL_mo p rep w0 S 0 s0 v y) → St (ib w0.world fz) W (LBL gc gr gl 69 y.r y.s.e y.sl R y.N) → YieldAt Fence.wide 7 Tryz.prog lp #[.int .i64 (v.1 : Int), .agg v.2.toArray] W (RoundT w0.world fz (HRL_mo rep y) (fun y => LBL gc gr gl 69 y.r y.s.e y.sl R y.N))) :
    CallsIn Fence.wide 8 Tryz.prog 265 #[.func (.yield lp) #[] #[], ptr a, ptr b, ptr c] w (DoneT w0.world fz (fun y : YL α => ∃ m s1, After (varP most) s0 m s1 ∧ s1.rest.length ≤ s0.rest.length ∧ y.l.length ≤ most ∧ InvL 108 33 rep p w0 S m s1 y.l.length y ∧ (y.s.e = 0 → y.l.length = m)) (fun y => LBL gc gr gl 69 y.r y.s.e y.sl R y.N)) := by
  refine Sy.enterI (args := [.func (.yield lp) #[] #[], ptr a, ptr b, ptr c]) hw Tryz.func265 rfl kL ?_
  refine sC ?_
  refine sS (ptr gr) (cellC (R := R) (mem1 ha) lbl_in rfl Tryz.underlying153) <| sS (.int .i64 (most : Int)) (cellC (R := R) (mem1 hb) lbl_in rfl Tryz.underlying3) ?_
  refine Sy.callT (fun w hw => count_any (ib w0.world fz) gr sl0 s0 ((gc, 155, #[.pointer none, ptr gr, .bool false]) :: (gl, 69, #[.slice none 0 0]) :: (R ++ [])) S (fun x h => List.mem_cons_of_mem _ (List.mem_cons_of_mem _ (List.mem_append_left _ (hS x h)))) most hmost he hv w (hw.perm swap12)) (fun u M hM => ?_)
  obtain ⟨m, s1, sl1, hA1, ⟨rfl, hm1⟩, hs1e, hs1r, hs1b, rfl⟩ := hM
  refine Sy.permS (M := LBL gc gr gl 69 nilS s1.e sl1 R []) swap12.symm ?_
  refine sp rfl ?_
  refine sA ?_
  refine sP (.int .i64 0) ?_
  refine sG ?_
  refine Sy.block ?_
  refine Sy.loopT (Y := YL α) m (fun i y => [(0, .func (.yield lp) #[] #[]), (1, ptr a), (2, ptr b), (3, ptr c), (5, .int .i64 (m : Int)), (6, .int .i64 (i : Int))]) (fun i y => LBL gc gr gl 69 y.r y.s.e y.sl R y.N) (fun i y => InvL 108 33 rep p w0 S m s1 i y) ⟨[], nilS, s1, sl1, [], none⟩ ⟨rfl, RowsOk.nil, fun h => ⟨h, rfl⟩, fun h => .inl h, hs1e, Nat.le_refl _, hs1b⟩ (all_cons kR (all_cons kR (all_cons kR (all_cons kR (all_cons kR (all_cons kR all_nil)))))) (fun _ h => h) (fun i y hi hy => ?_)
  obtain ⟨l, r, s, sl, N, xo⟩ := y
  have hylen : l.length = i := hy.len
  refine Sy.seq ?_
  refine sC ?_
  obtain ⟨b1, hb1⟩ : ∃ z : Bool, z = decide (i < m) := ⟨_, rfl⟩
  refine sp rfl <| sp rfl <| sS (.bool b1) (Quiet.pure (exec_int .lss _ _ _ .i64 _ _ _ rfl rfl rfl (int_lss _ _ _ _ _ (by rw [hb1]; exact decide_eq_decide.2 (by omega))))) <| sp rfl ?_
  cases b1
  case' false =>
    have l1 : ¬ i < m := of_decide_eq_false hb1.symm
    obtain rfl : i = m := by omega
    refine sN <| sN <| sN <| sP (.bool false) ?_
    refine sG ?_
    refine sU ?_
    refine Sy.exit ?_
    refine Sy.then_exit ?_
    refine Sy.then_exit ?_
    refine Sy.in_exit ?_
    exact Sy.retI rfl (fun v w h => ⟨⟨_, rfl⟩, ⟨l, r, s, sl, N, xo⟩, ⟨i, s1, hA1, hs1r, by show l.length ≤ most; omega, by rw [show (⟨l, r, s, sl, N, xo⟩ : YL α).l.length = i from hylen]; exact hy, fun _ => hylen⟩, h⟩) (.inr rfl)
  have l1 : i < m := of_decide_eq_true hb1.symm
  obtain ⟨b2, hb2⟩ : ∃ z : Bool, z = decide (s.e = 0) := ⟨_, rfl⟩
  have hse : s.e ≤ 200 := hy.e
  refine sS (ptr gr) (cellC (R := R) (mem1 ha) lbl_in rfl Tryz.underlying153) <| sS (.int .i64 (s.e : Int)) (qg (fun w hw => err_any (ib w0.world fz) gr sl s.e [] (List.mem_cons_of_mem _ (List.mem_cons_self ..)) w hw)) <| sS (.bool b2) (Quiet.pure (exec_int .eql _ _ _ .i64 _ _ _ rfl rfl rfl (int_eql _ _ _ _ _ (by rw [hb2]; exact decide_eq_decide.2 (by omega))))) <| sP (.bool b2) ?_
  refine sG ?_
  cases b2
  case' false =>
    have l2 : s.e ≠ 0 := of_decide_eq_false hb2.symm
    refine sU ?_
    refine Sy.exit ?_
    refine Sy.then_exit ?_
    refine Sy.then_exit ?_
    refine Sy.in_exit ?_
    exact Sy.retI rfl (fun v w h => ⟨⟨_, rfl⟩, ⟨l, r, s, sl, N, xo⟩, ⟨m, s1, hA1, hs1r, by show l.length ≤ most; omega, by rw [show (⟨l, r, s, sl, N, xo⟩ : YL α).l.length = i from hylen]; exact hy, fun h => (l2 h).elim⟩, h⟩) (.inr rfl)
  have l2 : s.e = 0 := of_decide_eq_true hb2.symm
  obtain ⟨hs10, hrep⟩ := hy.yes l2
  refine sT ?_
  refine Sy.skip ?_
  refine Sy.then_ ?_
  refine Sy.seq ?_
  refine Sy.block ?_
  refine sC ?_
  refine sS (.func (.func 185) #[] #[ptr g7, ptr g4]) (cellC (R := R) (mem1 hc) lbl_in rfl Tryz.underlying302) <| sS (ptr gr) (cellC (R := R) (mem1 ha) lbl_in rfl Tryz.underlying153) ?_
  refine Sy.callT (fun w hw => el_r_mo (rep := rep) (p := p) hm hp (ib w0.world fz) gc gr g4 g7 sl s ((gl, 69, #[r.v]) :: (r.bl ++ (R ++ N))) S (fun x h => List.mem_cons_of_mem _ (List.mem_append_right _ (List.mem_append_left _ (hS x h)))) (List.mem_cons_of_mem _ (List.mem_append_right _ (List.mem_append_left _ h4))) (List.mem_cons_of_mem _ (List.mem_append_right _ (List.mem_append_left _ h7))) hse (Nat.le_trans (Nat.le_trans hy.rest hs1r) hl) hy.byt (ptr gr) w hw) (fun u M hM => ?_)
  obtain ⟨x, s', sl', cs, N1, q1, q2, q3, q4, rfl, q5, q6, q7, rfl⟩ := hM
  obtain ⟨st1, st2⟩ := rep_step hrep l2 q1
  refine sM 108 (([Value.int .u64 0] ++ Z32)).toArray (fun gb => ?_)
  refine Sy.permS (M := (gb, 108, (([Value.int .u64 0] ++ Z32)).toArray) :: LBL gc gr gl 69 r s'.e sl' R (N ++ N1)) ((List.perm_append_comm (l₂ := [(gb, 108, (([Value.int .u64 0] ++ Z32)).toArray)])).trans (List.Perm.cons _ (List.Perm.of_eq (by simp only [List.cons_append, List.append_assoc, List.nil_append]; rfl)))) ?_
  refine sw 0 rfl cs.toArray (Writes.row 108 cs 33 _ _ rfl kR kR kR q2 (by kernel_rfl) q3) ?_
  refine Sy.nil ?_
  refine Sy.then_ ?_
  have hR2 : RowsOk 108 33 rep r (N ++ N1) l := RowsOk.more (rep := rep) hm hy.rows (fun b h => List.mem_append_left _ h)
  have hx2 : rep (rdB (N ++ N1)) cs x := hm (rdB_le fun b h => List.mem_append_right _ h) q4
  have drop1 : ∀ {w : World}, St (ib w0.world fz) w ((gb, 108, cs.toArray) :: LBL gc gr gl 69 r s'.e sl' R (N ++ N1)) → St (ib w0.world fz) w (LBL gc gr gl 69 r s'.e sl' R (N ++ N1)) := fun h => h.less (List.sublist_cons_self _ _)
  obtain ⟨b3, hb3⟩ : ∃ z : Bool, z = decide (s'.e ≠ 0) := ⟨_, rfl⟩
  have inl : ∀ b ∈ R, b ∈ (gb, 108, cs.toArray) :: LBL gc gr gl 69 r s'.e sl' R (N ++ N1) := fun b h => List.mem_cons_of_mem _ (lbl_in b h)
  refine Sy.seq ?_
  cases b3
  case' true =>
    have l3 : s'.e ≠ 0 := of_decide_eq_true hb3.symm
    refine Sy.region ?_
    refine sS (ptr gr) (cellC (R := R) (mem1 ha) inl rfl Tryz.underlying153) <| sS (.int .i64 (s'.e : Int)) (qg (fun w hw => err_any (ib w0.world fz) gr sl' s'.e [] (List.mem_cons_of_mem _ (List.mem_cons_of_mem _ (List.mem_cons_self ..))) w hw)) <| sS (.bool true) (Quiet.pure (exec_int .neq _ _ _ .i64 _ _ _ rfl rfl rfl (int_neq _ _ _ _ _ (by rw [hb3]; exact decide_eq_decide.2 (by omega))))) <| sp rfl <| sN <| sN <| sN <| sN <| sN <| sP (.bool true) ?_
    refine sG ?_
    refine sT ?_
    refine Sy.ret ?_
    refine Sy.in_ret ?_
    refine Sy.then_ret ?_
    refine Sy.then_ret ?_
    refine Sy.in_ret ?_
    exact Sy.retI rfl (fun v w h => ⟨⟨_, rfl⟩, ⟨l, r, s', sl', N ++ N1, none⟩, ⟨m, s1, hA1, hs1r, by show l.length ≤ most; omega, ⟨rfl, hR2, fun h => (l3 h).elim, fun _ => .inr (st2 l3 m l1), q5, Nat.le_trans q6 hy.rest, q7⟩, fun h => (l3 h).elim⟩, drop1 h⟩) (.inl rfl)
  have l3 : s'.e = 0 := Decidable.of_not_not (of_decide_eq_false hb3.symm)
  refine Sy.regionI 7 (by rintro ⟨_, _, ⟨_, hv⟩, _⟩; cases hv) kR ?_
  refine sS (ptr gr) (cellC (R := R) (mem1 ha) inl rfl Tryz.underlying153) <| sS (.int .i64 (s'.e : Int)) (qg (fun w hw => err_any (ib w0.world fz) gr sl' s'.e [] (List.mem_cons_of_mem _ (List.mem_cons_of_mem _ (List.mem_cons_self ..))) w hw)) <| sS (.bool false) (Quiet.pure (exec_int .neq _ _ _ .i64 _ _ _ rfl rfl rfl (int_neq _ _ _ _ _ (by rw [hb3]; exact decide_eq_decide.2 (by omega))))) <| sp rfl <| sp rfl <| sp rfl <| sS (.agg cs.toArray) (Quiet.mid 0 gb 0 33 108 108 cs cs _ _ rfl kR rfl Tryz.underlying108 rfl kR (by rw [List.drop_zero, List.take_of_length_le (by omega)]) (by omega)) ?_
  refine Sy.nil ?_
  refine Sy.yieldI (HR := HRL_mo rep ⟨l, r, s', sl', N ++ N1, some x⟩) (LR := fun y => LBL gc gr gl 69 y.r y.s.e y.sl R y.N) rfl (by rintro ⟨_, _, ⟨_, hv⟩, _⟩; cases hv) kR kR lp #[.int .i64 (i : Int), .agg cs.toArray] kF (fun w hw => hY (i, cs) ⟨l, r, s', sl', N ++ N1, some x⟩ w ⟨x, rfl, hylen, hR2, hx2, q2, q3, by show i < 1000000; omega⟩ (drop1 hw)) (fun y' hy' => ?_)
  obtain ⟨x', r', hx', hr', rfl⟩ := hy'
  obtain rfl : x = x' := by injection hx'
  refine sP (.bool false) <| sP (.bool false) ?_
  refine sG ?_
  refine sU ?_
  refine Sy.skip ?_
  refine Sy.in_ ?_
  refine Sy.then_ ?_
  refine Sy.region ?_
  refine sp rfl <| sS (.int .i64 ((i + 1 : Nat) : Int)) (Quiet.pure (exec_int .add _ _ _ .i64 _ _ _ rfl rfl rfl (int_add _ _ _ _ _ ((wrap_i64 (by omega) (by omega)).trans (by omega))))) <| sp rfl ?_
  refine Sy.nil ?_
  exact Sy.againT ⟨l ++ [x], r', s', sl', N ++ N1, none⟩ l1 ⟨by simp [hylen], hr', fun _ => ⟨hs10, st1 l3⟩, fun h => (h l3).elim, q5, Nat.le_trans q6 hy.rest, q7⟩ (all_cons kR (all_cons kR (all_cons kR (all_cons kR (all_cons kR (all_cons kR all_nil)))))) (fun w h => h)

theorem list9_r_mo (hm : Mono rep) (hp : GetC 130 33 (([Value.int .u64 0] ++ Z32)) rep p) (w0 : Base) (gc gr g4 g7 most : Nat) (hmost : most < 1000000) (sl0 : Value) (s0 : RS) (R S : Blocks) (hS : ∀ x ∈ S, x ∈ R) (h4 : (g4, 96, #[ptr gc]) ∈ R) (h7 : (g7, 232, #[.func (.func 130) #[] #[]]) ∈ R) (he : s0.e ≤ 200) (hl : s0.rest.length ≤ 70368744177664) (hv : BytR (rdC w0 S) sl0 s0.rest) (w : World) (hw : St w0 w (CRN gc gr sl0 s0.e R)) :
    Calls Tryz.prog 184 #[ptr gr, .int .i64 (most : Int), .func (.func 185) #[] #[ptr g7, ptr g4]] w (Turns w0 (RdL 33 rep (listP most p) w0 gc gr s0 R S)) := by
  refine Sy.enterTM (args := [ptr gr, .int .i64 (most : Int), .func (.func 185) #[] #[ptr g7, ptr g4]]) hw Tryz.func184 rfl kL ?_
  refine sC ?_
  refine sP (.slice none 0 0) ?_
  refine sA ?_
  refine sM 69 #[.slice none 0 0] (fun gl => ?_)
  refine sG ?_
  refine Sy.seq ?_
  refine sC ?_
  refine sp rfl <| sp rfl <| sp rfl ?_
  refine Sy.callN kR 224 #[ptr gr, .int .i64 (most : Int), .func (.func 185) #[] #[ptr g7, ptr g4]] kF _ (fun w _ => items_r_mo w gr most g4 g7) (fun v M hM => ?_)
  obtain ⟨a, b, c, rfl, rfl⟩ := hM
  refine Sy.nil ?_
  refine Sy.then_ ?_
  refine Sy.block ?_
  obtain ⟨R1, hR1⟩ : ∃ R1, R1 = R ++ [(a, 153, #[ptr gr]), (b, 3, #[.int .i64 (most : Int)]), (c, 302, #[.func (.func 185) #[] #[ptr g7, ptr g4]])] := ⟨_, rfl⟩
  refine Sy.permC (M := LBL gc gr gl 69 nilS s0.e sl0 R1 []) (by rw [hR1]; exact permLB) ?_
  have mR : ∀ x ∈ R, x ∈ R1 := fun x hx => by rw [hR1]; exact List.mem_append_left _ hx
  have ma : (a, 153, #[ptr gr]) ∈ R1 := by rw [hR1]; simp
  have mb : (b, 3, #[.int .i64 (most : Int)]) ∈ R1 := by rw [hR1]; simp
  have mc : (c, 302, #[.func (.func 185) #[] #[ptr g7, ptr g4]]) ∈ R1 := by rw [hR1]; simp
  refine Sy.rangeT (α := Nat × List Value) (Y := YL α) (Z := Nat) 265 #[ptr a, ptr b, ptr c] kR kR (enters_of Tryz.func265 kR rfl) (fun v => #[.int .i64 (v.1 : Int), .agg v.2.toArray]) (fun _ => rfl) (by decide)
    (HYL_mo p rep w0 S 0 s0) (fun _ y => LBL gc gr gl 69 y.r y.s.e y.sl R1 y.N) (fun _ _ z => [(7, ptr gl), (9, ptr z)]) (fun v y z => (z, 108, v.2.toArray) :: LBL gc gr gl 69 y.r y.s.e y.sl R1 y.N) (fun _ y => HRL_mo rep y) (fun y => LBL gc gr gl 69 y.r y.s.e y.sl R1 y.N)
    (fun y : YL α => ∃ m s1, After (varP most) s0 m s1 ∧ s1.rest.length ≤ s0.rest.length ∧ y.l.length ≤ most ∧ InvL 108 33 rep p w0 S m s1 y.l.length y ∧ (y.s.e = 0 → y.l.length = m)) (fun y => LBL gc gr gl 69 y.r y.s.e y.sl R1 y.N) ?_ ?_ ?_ ?_
  · exact fun lp fz w hw hY => iter_r_mo (rep := rep) (p := p) hm hp w0 fz gc gr gl g4 g7 a b c most hmost R1 S s0 sl0 (fun x h => mR x (hS x h)) (mR _ h4) (mR _ h7) ma mb mc he hl hv lp w hw hY
  · rintro lp fz ⟨i, cs⟩ ⟨l, r, s, sl, N, xo⟩ ⟨x, rfl, _, _, _, c1, c2, _⟩
    dsimp only at c1 c2 ⊢
    refine Sy.regionR (by rintro ⟨_, _, h⟩; exact h) kR ⟨_, rfl⟩ ?_
    refine sM 108 (([Value.int .u64 0] ++ Z32)).toArray (fun z => ?_)
    refine Sy.permS (M := (z, 108, (([Value.int .u64 0] ++ Z32)).toArray) :: LBL gc gr gl 69 r s.e sl R1 N) (List.perm_append_comm (l₂ := [(z, 108, (([Value.int .u64 0] ++ Z32)).toArray)])) ?_
    refine sw 0 rfl cs.toArray (Writes.row 108 cs 33 _ _ rfl kR kR kR c1 (by kernel_rfl) c2) ?_
    refine Sy.nil ?_
    exact apZ z (all_cons kR (all_cons kR all_nil)) (fun _ h => h)
  · rintro lp fz ⟨i, cs⟩ ⟨l, r, s, sl, N, xo⟩ z ⟨x, rfl, hli, ⟨xs, x1, x2, x3⟩, hx, c1, c2, hi⟩
    dsimp only at c1 c2 hli x1 x2 x3 hx hi ⊢
    refine Sy.block ?_
    refine Sy.regionR (by rintro ⟨_, _, h⟩; exact h) kR ⟨_, rfl⟩ ?_
    refine sS r.v (qc 3 0 rfl rfl Tryz.underlying69) <| sS (.agg cs.toArray) (Quiet.mid 0 z 0 33 108 108 cs cs _ _ rfl kR rfl Tryz.underlying108 rfl kR (by rw [List.drop_zero, List.take_of_length_le (by omega)]) (by omega)) ?_
    refine Sy.make kR 108 cs.toArray (fun g => .slice (some ⟨g, 0, none⟩) 1 1) (Makes.one 69 108 _ _ 33 _ cs rfl kR Tryz.underlying69 info_mo rfl rfl c1 (by decide) (by decide)) (fun g8 => ?_)
    refine Sy.permS (M := [(z, 108, cs.toArray), (gc, 155, #[.pointer none, ptr gr, .bool false]), (gr, 275, #[sl, .int .i64 (s.e : Int)]), (gl, 69, #[r.v]), (g8, 108, cs.toArray)] ++ (r.bl ++ (R1 ++ N))) (Sy.flat_perm (ls := [[(z, 108, cs.toArray), (gc, 155, #[.pointer none, ptr gr, .bool false]), (gr, 275, #[sl, .int .i64 (s.e : Int)]), (gl, 69, #[r.v])], r.bl ++ (R1 ++ N), [(g8, 108, cs.toArray)]]) (ms := [[(z, 108, cs.toArray), (gc, 155, #[.pointer none, ptr gr, .bool false]), (gr, 275, #[sl, .int .i64 (s.e : Int)]), (gl, 69, #[r.v])], [(g8, 108, cs.toArray)], r.bl ++ (R1 ++ N)]) [0, 2, 1] (by kernel_rfl) (by rfl) (by simp) (by simp)) ?_
    refine Sy.appendR kR 69 108 _ _ 33 40 Tryz.underlying69 info_mo rfl rfl rfl rfl (by decide) _ _ rfl x1 kR cs c1 c2 4 g8 108 kR kR (by omega) (by simp only [maxLen]; omega) (fun r' hr' => ?_)
    refine sw 3 rfl #[r'.v] (Writes.one 0 69 r'.v _ _ rfl kR kR kR hr'.cells.1 hr'.cells.2 Nat.zero_lt_one kR) ?_
    refine Sy.setT ?_
    refine Sy.nil ?_
    refine Sy.in_ ?_
    exact bpZ ⟨l ++ [x], r', s, sl, N, none⟩ ⟨x, r', rfl, RowsOk.add (rep := rep) x2 x3 hr' hx, rfl⟩ (fun w h => Sy.St.parts (ls := [[(z, 108, cs.toArray)], [(gc, 155, #[.pointer none, ptr gr, .bool false]), (gr, 275, #[sl, .int .i64 (s.e : Int)]), (gl, 69, #[r'.v])], [(g8, 108, cs.toArray)], r'.bl ++ (R1 ++ N)]) (ms := [[(gc, 155, #[.pointer none, ptr gr, .bool false]), (gr, 275, #[sl, .int .i64 (s.e : Int)]), (gl, 69, #[r'.v])], r'.bl ++ (R1 ++ N)]) [[(z, 108, cs.toArray)], [(g8, 108, cs.toArray)]] [1, 3, 0, 2] (by kernel_rfl) (by rfl) (by simp) (by simp) h)
  · rintro D fz ⟨l, r, s, sl, N, xo⟩ ⟨m, s1, hA1, hs1, hlm, hI, hdn⟩ hD hD2 hmk h0
    dsimp only at hI hdn hlm ⊢
    have hse : s.e ≤ 200 := hI.e
    have hrest : s.rest.length ≤ s0.rest.length := Nat.le_trans hI.rest hs1
    refine Sy.in_ ?_
    refine Sy.then_ ?_
    refine Sy.seq ?_
    refine sC ?_
    obtain ⟨b1, hb1⟩ : ∃ z : Bool, z = decide (s.e ≠ 0) := ⟨_, rfl⟩
    refine sp rfl <| sS (.int .i64 (s.e : Int)) (qg (fun w hw => err_any (ab w0.world fz D) gr sl s.e [] (List.mem_cons_of_mem _ (List.mem_cons_self ..)) w hw)) <| sS (.bool b1) (Quiet.pure (exec_int .neq _ _ _ .i64 _ _ _ rfl rfl rfl (int_neq _ _ _ _ _ (by rw [hb1]; exact decide_eq_decide.2 (by omega))))) ?_
    refine sG ?_
    cases b1
    · have l1 : s.e = 0 := Decidable.of_not_not (of_decide_eq_false hb1.symm)
      obtain ⟨z1, z2⟩ := hI.yes l1
      rw [hdn l1] at z2
      refine sU ?_
      refine Sy.skip ?_
      refine sB ?_
      refine sS r.v (qc 2 0 rfl rfl Tryz.underlying69) <| sp rfl ?_
      refine sG ?_
      refine Sy.ret ?_
      refine Sy.retTM1 (b0 := w0) (M := CRN gc gr sl s.e (R ++ (N ++ r.bl))) rfl (.inl (show _ = _ by kernel_rfl)) (fun w h => Sy.St.parts (ls := [[(gc, 155, #[.pointer none, ptr gr, .bool false]), (gr, 275, #[sl, .int .i64 (s.e : Int)])], [(gl, 69, #[r.v])], r.bl, R, [(a, 153, #[ptr gr]), (b, 3, #[.int .i64 (most : Int)]), (c, 302, #[.func (.func 185) #[] #[ptr g7, ptr g4]])], N]) (ms := [[(gc, 155, #[.pointer none, ptr gr, .bool false]), (gr, 275, #[sl, .int .i64 (s.e : Int)])], R, N, r.bl]) [[(gl, 69, #[r.v])], [(a, 153, #[ptr gr]), (b, 3, #[.int .i64 (most : Int)]), (c, 302, #[.func (.func 185) #[] #[ptr g7, ptr g4]])]] [0, 3, 5, 2, 1, 4] (by kernel_rfl) (by rfl) (by rw [hR1]; simp) (by simp) h) ⟨l, s, sl, N ++ r.bl, hA1.bind ⟨fun h => (h z1).elim, fun y q _ hy => ?_, fun _ hy => ?_⟩, RowsOk.lst (rep := rep) hm hI.rows, hse, hrest, hI.byt, rfl⟩ hD hD2 hmk h0.out
      · rw [z2] at hy
        cases hy
        exact ⟨rfl, by rw [← l1]⟩
      · rw [z2] at hy; cases hy
    · have l1 : s.e ≠ 0 := of_decide_eq_true hb1.symm
      refine sT ?_
      refine sC ?_
      refine sP (.slice none 0 0) ?_
      refine sG ?_
      refine Sy.ret ?_
      refine Sy.then_ret ?_
      refine Sy.retTM1 (b0 := w0) (M := CRN gc gr sl s.e (R ++ [])) rfl (.inl (show _ = _ by kernel_rfl)) (fun w h => Sy.St.parts (ls := [[(gc, 155, #[.pointer none, ptr gr, .bool false]), (gr, 275, #[sl, .int .i64 (s.e : Int)])], [(gl, 69, #[r.v])], r.bl, R, [(a, 153, #[ptr gr]), (b, 3, #[.int .i64 (most : Int)]), (c, 302, #[.func (.func 185) #[] #[ptr g7, ptr g4]])], N]) (ms := [[(gc, 155, #[.pointer none, ptr gr, .bool false]), (gr, 275, #[sl, .int .i64 (s.e : Int)])], R]) [[(gl, 69, #[r.v])], r.bl, [(a, 153, #[ptr gr]), (b, 3, #[.int .i64 (most : Int)]), (c, 302, #[.func (.func 185) #[] #[ptr g7, ptr g4]])], N] [0, 3, 1, 2, 4, 5] (by kernel_rfl) (by rfl) (by rw [hR1]; simp) (by simp) h) ⟨[], s, sl, [], hA1.bind ⟨fun _ => l1, fun y q h1 hy => ?_, fun _ _ => l1⟩, ⟨none, 0, 0, rfl, rfl, Nat.le_refl _, Nat.zero_le _, fun h => (h rfl).elim⟩, hse, hrest, hI.byt, rfl⟩ hD hD2 hmk h0.out
      rcases hI.no l1 with h | h
      · exact (h h1).elim
      · rw [h] at hy; cases hy
theorem list_r_mo (hm : Mono rep) (hp : GetC 130 33 (([Value.int .u64 0] ++ Z32)) rep p) (w0 : Base) (gc gr gx f most : Nat) (hmost : most < 1000000) (tx : TypeId) (A Z : List Value) (sl : Value) (s : RS) (R S : Blocks) (hS : ∀ b ∈ S, b ∈ R) (hA : A.length = f) (he : s.e ≤ 200) (hl : s.rest.length ≤ 70368744177664) (hv : BytR (rdC w0 S) sl s.rest) (w : World) (hw : St w0 w (CRS gc gr gx tx (A ++ ([Value.slice none 0 0] ++ Z)) sl s.e R)) :
    Calls Tryz.prog 129 #[ptr gc, .pointer (some ⟨gx, f, none⟩), .int .i64 (most : Int), .func (.func 130) #[] #[]] w (Turns w0 (RdT 1 (repL 33 rep) (listP most p) w0 gc gr gx tx A Z s R S)) := by
  refine Sy.enterT (args := [ptr gc, .pointer (some ⟨gx, f, none⟩), .int .i64 (most : Int), .func (.func 130) #[] #[]]) hw Tryz.func129 rfl kL ?_
  refine sC ?_
  refine sM 96 #[ptr gc] (fun g4 => ?_)
  refine sM 232 #[.func (.func 130) #[] #[]] (fun g7 => ?_)
  obtain ⟨R1, hR1⟩ : ∃ R1, R1 = R ++ ([(g4, 96, #[ptr gc])] ++ [(g7, 232, #[.func (.func 130) #[] #[]])]) := ⟨_, rfl⟩
  refine Sy.permS (M := CRS gc gr gx tx (A ++ ([Value.slice none 0 0] ++ Z)) sl s.e R1) (List.Perm.of_eq (by rw [hR1]; simp)) ?_
  have mR : ∀ x ∈ R, x ∈ R1 := fun x hx => by rw [hR1]; exact List.mem_append_left _ hx
  have m4 : (g4, 96, #[ptr gc]) ∈ R1 := by rw [hR1]; simp
  have m7 : (g7, 232, #[.func (.func 130) #[] #[]]) ∈ R1 := by rw [hR1]; simp
  refine sG ?_
  refine Sy.seq ?_
  refine sC ?_
  refine sS (ptr gc) (cellC (R := R1) (mem1 m4) inCR rfl Tryz.underlying96) <| sS (.bool true) (qg (fun w hw => reads_r w0.inn gc gr _ _ (List.mem_cons_self ..) w hw)) ?_
  refine sG ?_
  refine sT ?_
  refine sC ?_
  refine sp rfl <| sS (ptr gc) (cellC (R := R1) (mem1 m4) inCR rfl Tryz.underlying96) <| sp rfl <| sP (.pointer (some ⟨gc, 1, none⟩)) <| sS (ptr gr) (qc 0 1 rfl rfl Tryz.underlying153) <| sp rfl <| sP (.func (.func 185) #[] #[ptr g7, ptr g4]) ?_
  refine Sy.callT (fun w hw => list9_r_mo (rep := rep) (p := p) hm hp w0.inn gc gr g4 g7 most hmost sl s ((gx, tx, (A ++ ([Value.slice none 0 0] ++ Z)).toArray) :: R1) S (fun x h => List.mem_cons_of_mem _ (mR x (hS x h))) (List.mem_cons_of_mem _ m4) (List.mem_cons_of_mem _ m7) he hl hv w (hw.perm swap23)) (fun v M hM => ?_)
  obtain ⟨l, s', sl', N, q1, q2, q3, q4, q5, rfl⟩ := hM
  refine Sy.permS (M := CRS gc gr gx tx (A ++ ([Value.slice none 0 0] ++ Z)) sl' s'.e (R1 ++ N)) swap23 ?_
  refine sp rfl <| sw 1 rfl (A ++ ([v] ++ Z)).toArray (Writes.one f 69 v _ _ rfl kR kR kR q2.cells.1 q2.cells.2 (by rw [List.size_toArray, List.length_append, hA]; exact Nat.lt_add_of_pos_right (Nat.succ_pos _)) (set_mid hA)) ?_
  refine sG ?_
  refine Sy.ret ?_
  refine Sy.then_ret ?_
  exact Sy.retT0 rfl (CRS gc gr gx tx (A ++ ([v] ++ Z)) sl' s'.e (R ++ N)) (fun w h => Sy.St.parts (ls := [[(gc, 155, #[.pointer none, ptr gr, .bool false]), (gx, tx, (A ++ ([v] ++ Z)).toArray), (gr, 275, #[sl', .int .i64 (s'.e : Int)])], R, [(g4, 96, #[ptr gc])] ++ [(g7, 232, #[.func (.func 130) #[] #[]])], N]) (ms := [[(gc, 155, #[.pointer none, ptr gr, .bool false]), (gx, tx, (A ++ ([v] ++ Z)).toArray), (gr, 275, #[sl', .int .i64 (s'.e : Int)])], R, N]) [[(g4, 96, #[ptr gc])] ++ [(g7, 232, #[.func (.func 130) #[] #[]])]] [0, 1, 3, 2] (by kernel_rfl) (by rfl) (by rw [hR1]; simp) (by simp) h) (fun _ => ⟨l, s', sl', [v], N, q1, rfl, fun u hu => by rw [List.mem_singleton.1 hu]; exact q2.cells.2, ⟨v, rfl, q2⟩, q3, q4, q5, rfl⟩)

end
end Go.Proofs.YtgemfpnlnipfnaaGreat.Wr

end
section
namespace Go.Proofs.YtgemfpnlnipfnaaGreat.Wr
open Go.RowKit Go.Proofs.YtgemfpnlnipfnaaGreat Go.Proofs.YtgemfpnlnipfnaaGreat.Sy
set_option maxRecDepth 100000
set_option maxHeartbeats 4000000

theorem ones_app {a b : List Value} (ha : ∀ u ∈ a, u.oneCell' = true) (hb : ∀ u ∈ b, u.oneCell' = true) : ∀ u ∈ a ++ b, u.oneCell' = true := fun u hu => (List.mem_append.1 hu).elim (ha u) (hb u)
theorem mainOut_r : GetC 130 33 ([Value.int .u64 0] ++ Z32) repMO rdMO := fun w0 gc gr gx f tx A Z sl s R S hS hA he hl hv w hw => by
  refine Sy.enterT (args := [ptr gc, .pointer (some ⟨gx, f, none⟩)]) hw Tryz.func130 rfl kL ?_
  refine sC ?_
  refine sp rfl <| sp rfl <| sp rfl <| sP (.pointer (some ⟨gx, f, none⟩)) ?_
  refine Sy.callT (fun w hw => long_r w0.inn gc gr gx f tx A (Z32 ++ Z) sl s R S hS hA he hl hv w hw) (fun u M hM => ?_)
  obtain ⟨x1, s1, sl1, cs1, N1, a1, a2, a3, ⟨rfl, a4⟩, a5, a6, a7, rfl⟩ := hM
  refine Sy.nil ?_
  refine Sy.then_ ?_
  refine Sy.region ?_
  refine sp rfl <| sp rfl <| sp rfl <| sP (.pointer (some ⟨gx, f + 1, none⟩)) ?_
  refine Sy.callT (fun w hw => digest_r w0.inn gc gr gx (f + 1) tx (A ++ [.int .u64 (x1 : Int)]) Z sl1 s1 (R ++ N1) S (fun b h => List.mem_append_left _ (hS b h)) (by rw [List.length_append, hA]; rfl) a5 (Nat.le_trans a6 hl) a7 w (by rw [List.append_assoc]; exact hw)) (fun u M hM => ?_)
  obtain ⟨x2, s2, sl2, cs2, N2, b1, b2, b3, ⟨rfl, b4⟩, b5, b6, b7, rfl⟩ := hM
  refine Sy.nil ?_
  exact Sy.retT0 rfl (CRS gc gr gx tx (A ++ (([.int .u64 (x1 : Int)] ++ x2.map bv) ++ Z)) sl2 s2.e (R ++ (N1 ++ N2))) (fun _ h => by simpa only [List.append_assoc] using h) (fun _ => ⟨⟨x1, x2⟩, s2, sl2, _, N1 ++ N2, a1.bind (b1.bind (After.ret _ _)), by rw [List.length_append, a2, b2], ones_app a3 b3, ⟨rfl, a4, b4⟩, b5, Nat.le_trans b6 a6, b7, rfl⟩)
theorem mainTx_r : GetC 70 2 ([Value.int .u64 0] ++ [Value.slice none 0 0]) repMT rdMT := fun w0 gc gr gx f tx A Z sl s R S hS hA he hl hv w hw => by
  refine Sy.enterT (args := [ptr gc, .pointer (some ⟨gx, f, none⟩)]) hw Tryz.func70 rfl kL ?_
  refine sC ?_
  refine sp rfl <| sp rfl <| sp rfl <| sP (.pointer (some ⟨gx, f, none⟩)) ?_
  refine Sy.callT (fun w hw => long_r w0.inn gc gr gx f tx A ([Value.slice none 0 0] ++ Z) sl s R S hS hA he hl hv w hw) (fun u M hM => ?_)
  obtain ⟨x1, s1, sl1, cs1, N1, a1, a2, a3, ⟨rfl, a4⟩, a5, a6, a7, rfl⟩ := hM
  refine Sy.nil ?_
  refine Sy.then_ ?_
  refine Sy.region ?_
  refine sp rfl <| sp rfl <| sp rfl <| sP (.pointer (some ⟨gx, f + 1, none⟩)) ?_
  refine Sy.callT (fun w hw => list_r_mo (rep := repMO) (p := rdMO) monoMO mainOut_r w0.inn gc gr gx (f + 1) 16 (by decide) tx (A ++ [.int .u64 (x1 : Int)]) Z sl1 s1 (R ++ N1) S (fun b h => List.mem_append_left _ (hS b h)) (by rw [List.length_append, hA]; rfl) a5 (Nat.le_trans a6 hl) a7 w (by rw [List.append_assoc]; exact hw)) (fun u M hM => ?_)
  obtain ⟨x2, s2, sl2, cs2, N2, b1, b2, b3, ⟨v, rfl, b4⟩, b5, b6, b7, rfl⟩ := hM
  refine Sy.nil ?_
  exact Sy.retT0 rfl (CRS gc gr gx tx (A ++ (([.int .u64 (x1 : Int)] ++ [v]) ++ Z)) sl2 s2.e (R ++ (N1 ++ N2))) (fun _ h => by simpa only [List.append_assoc] using h) (fun _ => ⟨⟨x1, x2⟩, s2, sl2, _, N1 ++ N2, a1.bind (b1.bind (After.ret _ _)), rfl, ones_app a3 b3, ⟨v, rfl, a4, LstR.le (rep := repMO) monoMO (rdB_le fun b h => List.mem_append_right _ h) b4⟩, b5, Nat.le_trans b6 a6, b7, rfl⟩)
def RdE {α : Type} (k : Nat) (zc : List Value) (rep : Rdr → List Value → α → Prop) (o : Option α) (u : Value) (M : Blocks) : Prop := (∃ x cs, o = some x ∧ u = .tuple #[.agg cs.toArray, .int .i64 0] ∧ cs.length = k ∧ rep (rdB M) cs x) ∨ (o = none ∧ u = .tuple #[.agg zc.toArray, .int .i64 120] ∧ M = [])
theorem all_of {α : Type} {p : Ps α} {b : Byt} {x : α} {s' : RS} (h : After p ⟨b, 0⟩ x s') : (s'.e = 0 → s'.rest = [] → allP p b = some x) ∧ (s'.e ≠ 0 ∨ s'.rest ≠ [] → allP p b = none) := by
  have e : allP p b = match p b with | some (x, []) => some x | _ => none := rfl
  refine ⟨fun h1 h2 => ?_, fun h1 => ?_⟩
  · rw [e, show p b = some (x, s'.rest) from h.ok rfl h1, h2]
  · rw [e]
    cases hp : p b with
    | none => rfl
    | some u =>
      obtain ⟨y, r⟩ := u
      obtain ⟨_, hs⟩ := h.yes y r rfl hp
      rw [hs] at h1
      cases r with
      | nil => rcases h1 with h1 | h1 <;> exact (h1 rfl).elim
      | cons => rfl

theorem oneMT {C : Rdr} {cs : List Value} {t : MTx} (h : repMT C cs t) : ∀ u ∈ cs, u.oneCell' = true := by
  obtain ⟨v, rfl, _, h⟩ := h
  intro u hu
  rcases List.mem_cons.1 hu with rfl | hu
  · rfl
  · rw [List.mem_singleton.1 hu]; exact h.cells.2
theorem read_mtx {α : Type} {rep : Rdr → List Value → α → Prop} {p : Ps α} (hm : Mono rep) (hp : GetC 70 2 (([Value.int .u64 0] ++ [Value.slice none 0 0])) rep p) (w : World) (v : Value) (b : Byt) (hv : BytR (rdW w) v b) (hl : b.length ≤ 70368744177664) :
    Calls Tryz.prog 72 #[v, .func (.func 70) #[] #[]] w (GetsN w (RdE 2 (([Value.int .u64 0] ++ [Value.slice none 0 0])) rep (allP p b))) := by
  refine Sy.enter (args := [v, .func (.func 70) #[] #[]]) Tryz.func72 rfl kL ?_
  refine sC ?_
  refine sM 71 (([Value.int .u64 0] ++ [Value.slice none 0 0])).toArray (fun g4 => ?_)
  refine sP (.int .i64 0) ?_
  refine sA ?_
  refine sM 71 (([Value.int .u64 0] ++ [Value.slice none 0 0])).toArray (fun g6 => ?_)
  refine sM 71 (([Value.int .u64 0] ++ [Value.slice none 0 0])).toArray (fun g7 => ?_)
  refine sA ?_
  refine sp rfl ?_
  refine Sy.callN kR 98 #[v] kF _ (fun w' hw => read_any w' v b (hv.at hw) hl) (fun u M hM => ?_)
  obtain ⟨gr, sl, N0, hN0, rfl, rfl⟩ := hM
  refine sP (.agg #[.pointer none, ptr gr, .bool false]) <| sM 155 #[.pointer none, ptr gr, .bool false] (fun gc => ?_)
  refine Sy.permS (M := CRS gc gr g6 71 ([] ++ ((([Value.int .u64 0] ++ [Value.slice none 0 0])) ++ [])) sl 0 ((g4, 71, (([Value.int .u64 0] ++ [Value.slice none 0 0])).toArray) :: (g7, 71, (([Value.int .u64 0] ++ [Value.slice none 0 0])).toArray) :: N0)) (Sy.flat_perm (ls := [[(g4, 71, (([Value.int .u64 0] ++ [Value.slice none 0 0])).toArray)], [(g6, 71, (([Value.int .u64 0] ++ [Value.slice none 0 0])).toArray)], [(g7, 71, (([Value.int .u64 0] ++ [Value.slice none 0 0])).toArray)], [(gr, 275, #[sl, .int .i64 0])], N0, [(gc, 155, #[.pointer none, ptr gr, .bool false])]]) (ms := [[(gc, 155, #[.pointer none, ptr gr, .bool false])], [(g6, 71, (([Value.int .u64 0] ++ [Value.slice none 0 0])).toArray)], [(gr, 275, #[sl, .int .i64 0])], [(g4, 71, (([Value.int .u64 0] ++ [Value.slice none 0 0])).toArray)], [(g7, 71, (([Value.int .u64 0] ++ [Value.slice none 0 0])).toArray)], N0]) [5, 1, 3, 0, 2, 4] (by kernel_rfl) (by rfl) (by simp) (by simp)) ?_
  refine sp rfl ?_
  refine sA ?_
  refine sp rfl <| sp rfl ?_
  refine Sy.callT (fun w' hw => hp (Base.of w) gc gr g6 0 71 [] [] sl ⟨b, 0⟩ ((g4, 71, (([Value.int .u64 0] ++ [Value.slice none 0 0])).toArray) :: (g7, 71, (([Value.int .u64 0] ++ [Value.slice none 0 0])).toArray) :: N0) N0 (fun x h => List.mem_cons_of_mem _ (List.mem_cons_of_mem _ h)) rfl (Nat.zero_le _) hl (hN0.byt.le rdB_base) w' hw) (fun u M hM => ?_)
  obtain ⟨x, s', sl', cs, N, q1, q2, q3, q4, q5, q6, q7, rfl⟩ := hM
  rw [List.append_nil]
  obtain ⟨o1, o2⟩ := all_of q1
  obtain ⟨e, hE⟩ : ∃ e, e = if s'.e = 0 ∧ 0 < s'.rest.length then 113 else s'.e := ⟨_, rfl⟩
  have hEl : e ≤ 200 := by rw [hE]; split <;> omega
  refine sG ?_
  refine Sy.seq ?_
  refine sC ?_
  obtain ⟨b1, hb1⟩ : ∃ z : Bool, z = decide (e ≠ 0) := ⟨_, rfl⟩
  refine sp rfl <| sp rfl <| sP (.pointer (some ⟨gc, 1, none⟩)) <| sS (ptr gr) (qc 0 1 rfl rfl Tryz.underlying153) <| sS (.int .i64 (e : Int)) (qg (fun w' hw => by rw [hE]; exact end_any (Base.of w) gr sl' s' N0 q5 q7 (List.mem_cons_of_mem _ (List.mem_cons_of_mem _ (List.mem_cons_self ..))) w' hw)) <| sS (.bool b1) (Quiet.pure (exec_int .neq _ _ _ .i64 _ _ _ rfl rfl rfl (int_neq _ _ _ _ _ (by rw [hb1]; exact decide_eq_decide.2 (by omega))))) ?_
  refine sG ?_
  cases b1
  · have l1 : e = 0 := Decidable.of_not_not (of_decide_eq_false hb1.symm)
    have l2 : s'.e = 0 ∧ s'.rest = [] := by
      by_cases h : s'.e = 0 ∧ 0 < s'.rest.length
      · rw [if_pos h] at hE; omega
      · rw [if_neg h] at hE
        exact ⟨by omega, List.eq_nil_of_length_eq_zero (by omega)⟩
    refine sU ?_
    refine Sy.skip ?_
    refine sB ?_
    refine sS (.agg cs.toArray) (Quiet.mid 1 g6 0 2 71 71 cs cs _ _ rfl kR rfl Tryz.underlying71 rfl kR (by rw [List.drop_zero, List.take_of_length_le (by omega)]) (by omega)) <| sw 3 rfl cs.toArray (Writes.row 71 cs 2 _ _ rfl kR kR kR q2 (by kernel_rfl) q3) <| sP (.int .i64 0) ?_
    refine sG ?_
    refine Sy.ret ?_
    exact Sy.retGM2 N rfl (.inl (Sy.Res.cell (ty' := 71) g4 3 cs.toArray _ (by kernel_rfl) rfl Tryz.underlying71 rfl (by rw [List.size_toArray, q2]; kernel_rfl) rfl)) (.inl (show _ = _ by kernel_rfl)) (fun _ h => h.less (List.sublist_append_right [(gc, 155, #[.pointer none, ptr gr, .bool false]), (g6, 71, cs.toArray), (gr, 275, #[sl', .int .i64 (s'.e : Int)]), (g4, 71, cs.toArray), (g7, 71, (([Value.int .u64 0] ++ [Value.slice none 0 0])).toArray)] (N0 ++ N) |> fun h1 => (List.sublist_append_right N0 N).trans h1)) (.inl ⟨x, cs, o1 l2.1 l2.2, rfl, q2, q4⟩)
  · have l1 : e ≠ 0 := of_decide_eq_true hb1.symm
    have l2 : s'.e ≠ 0 ∨ s'.rest ≠ [] := by
      by_cases h : s'.e = 0 ∧ 0 < s'.rest.length
      · exact .inr (fun e => by rw [e] at h; exact absurd h.2 (by decide))
      · rw [if_neg h] at hE; exact .inl (by omega)
    refine sT ?_
    refine sC ?_
    refine sS (.agg (([Value.int .u64 0] ++ [Value.slice none 0 0])).toArray) (qk 4 0 2 rfl rfl Tryz.underlying71) <| sw 3 rfl (([Value.int .u64 0] ++ [Value.slice none 0 0])).toArray (wA rfl) <| sP (.int .i64 120) ?_
    refine sG ?_
    refine Sy.ret ?_
    refine Sy.then_ret ?_
    exact Sy.retGM2 [] rfl (.inl (Sy.Res.cell (ty' := 71) g4 3 (([Value.int .u64 0] ++ [Value.slice none 0 0])).toArray _ (by kernel_rfl) rfl Tryz.underlying71 rfl (by kernel_rfl) rfl)) (.inl (show _ = _ by kernel_rfl)) (fun _ h => h.none) (.inr ⟨o2 l2, rfl, rfl⟩)
theorem rdx_mtx {α : Type} {rep : Rdr → List Value → α → Prop} {p : Ps α} (hm : Mono rep) (hone : ∀ {C : Rdr} {cs : List Value} {x : α}, rep C cs x → ∀ u ∈ cs, u.oneCell' = true) (hp : GetC 70 2 (([Value.int .u64 0] ++ [Value.slice none 0 0])) rep p) (w : World) (v : Value) (b : Byt) (hv : BytR (rdW w) v b) (hl : b.length ≤ 70368744177664) :
    Calls Tryz.prog 32 #[v] w (GetsN w (RdE 2 (([Value.int .u64 0] ++ [Value.slice none 0 0])) rep (allP p b))) := by
  refine Sy.enter (args := [v]) Tryz.func32 rfl kL ?_
  refine sC ?_
  refine sM 71 (([Value.int .u64 0] ++ [Value.slice none 0 0])).toArray (fun g2 => ?_)
  refine sP (.int .i64 0) ?_
  refine sA ?_
  refine sp rfl ?_
  refine Sy.callN kR 72 #[v, .func (.func 70) #[] #[]] kF _ (fun w' hw => read_mtx (rep := rep) (p := p) hm hp w' v b (hv.at hw) hl) (fun u M hM => ?_)
  rcases hM with ⟨x, cs, o1, rfl, q2, q4⟩ | ⟨o1, rfl, rfl⟩
  · have q3 : ∀ u ∈ cs, u.oneCell' = true := hone q4
    refine sp rfl <| sp rfl <| sw 0 rfl cs.toArray (Writes.row 71 cs 2 _ _ rfl kR kR kR q2 (by kernel_rfl) q3) <| sp rfl ?_
    refine sG ?_
    refine Sy.ret ?_
    exact Sy.retGM2 M rfl (.inl (Sy.Res.cell (ty' := 71) g2 0 cs.toArray _ (by kernel_rfl) rfl Tryz.underlying71 rfl (by rw [List.size_toArray, q2]; kernel_rfl) rfl)) (.inl (show _ = _ by kernel_rfl)) (fun _ h => h.less (List.sublist_cons_self _ _)) (.inl ⟨x, cs, o1, rfl, q2, q4⟩)
  · refine sp rfl <| sp rfl <| sw 0 rfl (([Value.int .u64 0] ++ [Value.slice none 0 0])).toArray (wA rfl) <| sp rfl ?_
    refine sG ?_
    refine Sy.ret ?_
    exact Sy.retGM2 [] rfl (.inl (Sy.Res.cell (ty' := 71) g2 0 (([Value.int .u64 0] ++ [Value.slice none 0 0])).toArray _ (by kernel_rfl) rfl Tryz.underlying71 rfl (by kernel_rfl) rfl)) (.inl (show _ = _ by kernel_rfl)) (fun _ h => h.none) (.inr ⟨o1, rfl, rfl⟩)

end Go.Proofs.YtgemfpnlnipfnaaGreat.Wr

end
section
namespace Go.Proofs.YtgemfpnlnipfnaaGreat.Wr
open Go.RowKit Go.Proofs.YtgemfpnlnipfnaaGreat Go.Proofs.YtgemfpnlnipfnaaGreat.Sy
set_option maxRecDepth 100000
set_option maxHeartbeats 4000000

open Go.ChangeShapes Go.WideShapes Go.ChangeAt Go.Deep
theorem bulk_pos {H : Type} (d : DataW H) : 1 ≤ Rows.uptoBulk d := by
  cases d with
  | lit l => cases l <;> simp [Rows.uptoBulk]
  | _ => simp [Rows.uptoBulk]
theorem bulk_app {H : Type} : ∀ a b : List (DataW H), Rows.uptoBulkAll (a ++ b) = Rows.uptoBulkAll a + Rows.uptoBulkAll b
  | [], b => by simp [Rows.uptoBulkAll]
  | d :: a, b => by
    have h := bulk_app a b
    simp only [List.cons_append, Rows.uptoBulkAll]
    omega
theorem cells_at {W : World} {base : Nat} {a : Addr} {n : Nat} {cs : List Value} (h : W.cells? base a n = some cs) : ∀ (j : Nat) (v : Value), cs[j]? = some v → W.cell? (a.add j) = some v := fun j v hj => by
  unfold World.cells? at h
  split at h
  · have hl := Lib.mapM_length h
    have hjl : j < n := by
      have := (List.getElem?_eq_some_iff.1 hj).1
      simp at hl
      omega
    obtain ⟨b, hb, hf⟩ := Lib.mapM_at h j j (by simp [hjl])
    rw [hb] at hj
    injection hj with hj
    rw [hf, hj]
  · cases h
theorem cells_ln {W : World} {base : Nat} {a : Addr} {n : Nat} {cs : List Value} (h : W.cells? base a n = some cs) : cs.length = n := by
  unfold World.cells? at h
  split at h
  · have hl := Lib.mapM_length h
    simpa using hl
  · cases h
theorem cell_in {w : World} {a : Addr} {v : Value} (h : w.cell? a = some v) : ∃ b o, a = ⟨b, o, none⟩ ∧ b < w.heap.size := by
  obtain ⟨b, o, k⟩ := a
  unfold World.cell? at h
  cases k with
  | none =>
    refine ⟨b, o, rfl, ?_⟩
    rcases Nat.lt_or_ge b w.heap.size with hl | hl
    · exact hl
    · simp [Array.getElem?_eq_none hl] at h
  | some k => exfalso; cases hw : w.heap[b]? with
    | none => simp [hw] at h
    | some ob => cases ob <;> simp [hw] at h
theorem add_in (b o n : Nat) : (⟨b, o, none⟩ : Addr).add n = ⟨b, o + n, none⟩ := by unfold Addr.add; split <;> simp_all
theorem list_of {α H : Type} {n : Nat} {p : Nat → α → Prop} {sz : α → Nat} {D : Nat → DataW H} (h : ∀ i, i < n → ∃ x, p i x ∧ sz x < Rows.uptoBulk (D i)) : ∃ l : List α, l.length = n ∧ (∀ i x, l[i]? = some x → p i x) ∧ l.length + (l.map sz).sum ≤ Rows.uptoBulkAll ((List.range n).map D) := by
  induction n with
  | zero => exact ⟨[], rfl, fun i x h => (by cases h), Nat.zero_le _⟩
  | succ n ih =>
    obtain ⟨l, h1, h2, h3⟩ := ih fun i hi => h i (by omega)
    obtain ⟨x, hx, hs⟩ := h n (by omega)
    refine ⟨l ++ [x], by rw [List.length_append, h1]; rfl, fun i y hy => ?_, ?_⟩
    · rcases Nat.lt_or_ge i l.length with hi | hi
      · rw [List.getElem?_append_left hi] at hy
        exact h2 i y hy
      · rw [List.getElem?_append_right hi] at hy
        cases hk : i - l.length with
        | zero =>
          rw [hk] at hy
          cases hy
          obtain rfl : i = n := by omega
          exact hx
        | succ k => rw [hk] at hy; cases hy
    · simp only [List.range_succ, List.map_append, bulk_app, List.sum_append, List.length_append, List.map_cons, List.map_nil, List.sum_cons, List.sum_nil, List.length_cons, List.length_nil, Rows.uptoBulkAll]
      omega
structure Opn {α : Type} (t : TypeId) (k : Nat) (rep : Rdr → List Value → α → Prop) (sz : α → Nat) : Prop where
  go : ∀ {H : Type} {enc : TypeId × Value → H} {W : World} {fuel : Nat} {cs : List Value} {x : DataW H × List MemPlace}, cs.length = k → DataW.trod enc Tryz.prog W 0 (fun _ => true) true fuel t cs = some x → ∃ y, rep (rdW W) cs y ∧ (∀ u ∈ cs, u.oneCell' = true) ∧ sz y < Rows.uptoBulk x.1
theorem Opn.as {α β : Type} {t : TypeId} {k : Nat} {rep : Rdr → List Value → α → Prop} {sz : α → Nat} {rep' : Rdr → List Value → β → Prop} {sz' : β → Nat} (h : Opn t k rep sz) (hr : ∀ C cs x, rep C cs x → ∃ y, rep' C cs y ∧ sz' y ≤ sz x) : Opn t k rep' sz' := ⟨fun hl hf => by
  obtain ⟨x, h1, h2, h3⟩ := h.go hl hf
  obtain ⟨y, h4, h5⟩ := hr _ _ _ h1
  exact ⟨y, h4, h2, by omega⟩⟩
def repU (_ : Rdr) (cs : List Value) (n : Nat) : Prop := cs = [.int .u64 (n : Int)] ∧ n < 18446744073709551616
def repZ (_ : Rdr) (cs : List Value) (z : Int) : Prop := cs = [.int .i64 z]
def repB (_ : Rdr) (cs : List Value) (b : Bool) : Prop := cs = [.bool b]
def repO (_ : Rdr) (cs : List Value) (u : UInt8) : Prop := cs = [bv u]
def repN (n : Nat) (_ : Rdr) (cs : List Value) (b : Byt) : Prop := cs = b.map bv ∧ b.length = n
def repT (C : Rdr) (cs : List Value) (b : Byt) : Prop := ∃ v, cs = [v] ∧ BytR C v b
theorem opn_u {t : TypeId} (ht : Tryz.prog.underlying t = some (.int .u64)) : Opn t 1 repU (fun _ => 0) := ⟨fun hl hf => by
  obtain ⟨z, rfl, hx, w⟩ := DataW.trod_int ht hf
  have hz : 0 ≤ z ∧ z < 18446744073709551616 := by
    simp [Lit.wf, IntKind.bits, IntKind.signed, IntKind.min, IntKind.max] at w
    omega
  refine ⟨z.toNat, ⟨by rw [show ((z.toNat : Nat) : Int) = z by omega], by omega⟩, fun u hu => by rw [List.mem_singleton.1 hu]; rfl, bulk_pos _⟩⟩
theorem opn_o {t : TypeId} (ht : Tryz.prog.underlying t = some (.int .u8)) : Opn t 1 repO (fun _ => 0) := ⟨fun hl hf => by
  obtain ⟨z, rfl, hx, w⟩ := DataW.trod_int ht hf
  have hz : 0 ≤ z ∧ z < 256 := by
    simp [Lit.wf, IntKind.bits, IntKind.signed, IntKind.min, IntKind.max] at w
    omega
  refine ⟨UInt8.ofNat z.toNat, ?_, fun u hu => by rw [List.mem_singleton.1 hu]; rfl, bulk_pos _⟩
  unfold repO bv
  rw [UInt8.toNat_ofNat', show ((z.toNat % 2 ^ 8 : Nat) : Int) = z by omega]⟩
theorem opn_i {t : TypeId} (ht : Tryz.prog.underlying t = some (.int .i64)) : Opn t 1 repZ (fun _ => 0) := ⟨fun hl hf => by
  obtain ⟨z, rfl, hx, w⟩ := DataW.trod_int ht hf
  exact ⟨z, rfl, fun u hu => by rw [List.mem_singleton.1 hu]; rfl, bulk_pos _⟩⟩
theorem opn_b {t : TypeId} (ht : Tryz.prog.underlying t = some .bool) : Opn t 1 repB (fun _ => 0) := ⟨fun hl hf => by
  obtain ⟨z, rfl, hx⟩ := DataW.trod_bool ht hf
  exact ⟨z, rfl, fun u hu => by rw [List.mem_singleton.1 hu]; rfl, bulk_pos _⟩⟩
theorem opn_n {t e : TypeId} {n : Nat} (ht : Tryz.prog.underlying t = some (.array n e)) (he : Tryz.prog.underlying e = some (.int .u8)) (hce : Tryz.prog.cellsOf e = 1) (hct : Tryz.prog.cellsOf t = n) : Opn t n (repN n) (fun _ => 0) := ⟨fun {H enc W fuel cs x} hl hf => by
  cases fuel with
  | zero => simp [DataW.trod] at hf
  | succ fuel =>
    simp only [DataW.trod, ht, hce, hct, Nat.mul_one] at hf
    rw [if_pos hl] at hf
    · obtain ⟨xs, hm, hx⟩ := Option.map_eq_some_iff.1 hf
      have hone : ∀ i, i < n → ∃ u : UInt8, cs[i]? = some (bv u) := by
        intro i hi
        obtain ⟨b, hb, hf⟩ := Lib.mapM_at hm i i (by simp [hi])
        obtain ⟨z, hc, rfl, hw⟩ := DataW.trod_int he hf
        have h1 : cs[i]? = some (.int .u8 z) := by
          have := congrArg (·[0]?) hc
          simpa [List.getElem?_take, List.getElem?_drop] using this
        have hz : 0 ≤ z ∧ z < 256 := by
          simp [Lit.wf, IntKind.bits, IntKind.signed, IntKind.min, IntKind.max] at hw
          omega
        refine ⟨UInt8.ofNat z.toNat, ?_⟩
        rw [h1]
        unfold bv
        congr 2
        rw [UInt8.toNat_ofNat']
        omega
      have hcs : ∃ b : Byt, cs = b.map bv := by
        refine ⟨cs.map (fun v => match v with | .int _ z => UInt8.ofNat z.toNat | _ => 0), List.ext_getElem? fun i => ?_⟩
        by_cases hi : i < n
        · obtain ⟨u, hu⟩ := hone i hi
          simp [hu, bv]
        · have : cs.length ≤ i := by omega
          simp [List.getElem?_eq_none this]
      obtain ⟨b, rfl⟩ := hcs
      exact ⟨b, ⟨rfl, by simpa using hl⟩, fun u hu => by obtain ⟨w, _, rfl⟩ := List.mem_map.1 hu; rfl, bulk_pos _⟩⟩
theorem opn_l {α : Type} {t e : TypeId} {k : Nat} {rep : Rdr → List Value → α → Prop} {sz : α → Nat} (ht : Tryz.prog.underlying t = some (.slice e)) (hce : Tryz.prog.cellsOf e = k) (hk : 0 < k) (h : Opn e k rep sz) : Opn t 1 (repL k rep) (fun l => l.length + (l.map sz).sum) := ⟨fun {H enc W fuel cs x} hl hf => by
  rcases open_slice ht hf with ⟨rfl, hx⟩ | ⟨a, len, cap, m, n, D, Pl, rfl, _, hlc, hm, hme, hx, hall⟩
  · exact ⟨[], ⟨_, rfl, none, 0, 0, rfl, rfl, Nat.le_refl _, Nat.zero_le _, fun h => (h rfl).elim⟩, fun u hu => by rw [List.mem_singleton.1 hu]; rfl, bulk_pos _⟩
  · simp only [if_true] at hme
    subst hme
    rw [hce] at hall
    obtain ⟨l, l1, l2, l3⟩ := list_of (α := α) (n := len) (sz := sz) (D := D) (p := fun i y => ∃ cs', W.cells? 0 (a.add (i * k)) k = some cs' ∧ rep (rdW W) cs' y ∧ ∀ u ∈ cs', u.oneCell' = true) (fun i hi => by
      obtain ⟨cs', h1, h2⟩ := hall i (by omega)
      obtain ⟨y, q1, q2, q3⟩ := h.go (cells_ln h1) h2
      exact ⟨y, ⟨cs', h1, q1, q2⟩, q3⟩)
    refine ⟨l, ⟨_, rfl, some a, len, m, rfl, l1, hlc, hm, fun hne => ?_⟩, fun u hu => by rw [List.mem_singleton.1 hu]; rfl, ?_⟩
    · have hpos : 0 < l.length := List.length_pos_iff.2 hne
      obtain ⟨cs0, c1, c2, c3⟩ := l2 0 l[0] (List.getElem?_eq_getElem hpos)
      have c4 := cells_ln c1
      have hcell := cells_at c1 0 cs0[0] (List.getElem?_eq_getElem (by omega))
      have e0 : (a.add (0 * k)).add 0 = a := by simp [Addr.add]
      rw [e0] at hcell
      obtain ⟨b, o, rfl, hlt⟩ := cell_in hcell
      refine ⟨b, o, rfl, fun j y hy => ?_⟩
      obtain ⟨cs', d1, d2, d3⟩ := l2 j y hy
      refine ⟨cs', cells_ln d1, d3, d2, fun i v hi => ⟨hlt, ?_⟩⟩
      have := cells_at d1 i v hi
      rwa [add_in, add_in] at this
    · subst hx
      simp only [Rows.uptoBulk]
      omega⟩
theorem opn_t {t e : TypeId} (ht : Tryz.prog.underlying t = some (.slice e)) (he : Tryz.prog.underlying e = some (.int .u8)) (hce : Tryz.prog.cellsOf e = 1) : Opn t 1 repT (fun b => b.length) := (opn_l ht hce Nat.zero_lt_one (opn_o he)).as fun C cs l ⟨v, h1, A, n, cp, h2, h3, h4, h5, h6⟩ => ⟨l, ⟨v, h1, A, n, cp, h2, h3, h4, h5, fun hne => by
  obtain ⟨g, o, e, hq⟩ := h6 hne
  refine ⟨g, o, e, fun j u hu => ?_⟩
  obtain ⟨cs', _, _, rfl, q⟩ := hq j u hu
  have := q 0 (bv u) rfl
  rwa [Nat.mul_one, Nat.add_zero] at this⟩, Nat.le_add_right _ _⟩
theorem opn_s3 {α0 α1 α2 : Type} {t : TypeId} {f0 f1 f2 : Field} {k0 k1 k2 : Nat} {r0 : Rdr → List Value → α0 → Prop} {r1 : Rdr → List Value → α1 → Prop} {r2 : Rdr → List Value → α2 → Prop} {z0 : α0 → Nat} {z1 : α1 → Nat} {z2 : α2 → Nat} (ht : Tryz.prog.underlying t = some (.struct #[f0, f1, f2])) (c0 : Tryz.prog.cellsOf f0.type = k0) (c1 : Tryz.prog.cellsOf f1.type = k1) (c2 : Tryz.prog.cellsOf f2.type = k2) (o0 : f0.offset = 0) (o1 : f1.offset = 0 + k0) (o2 : f2.offset = 0 + k0 + k1)
    (h0 : Opn f0.type k0 r0 z0) (h1 : Opn f1.type k1 r1 z1) (h2 : Opn f2.type k2 r2 z2) : Opn t (k0 + (k1 + (k2))) (fun C cs (y : α0 × α1 × α2) => ∃ a0 a1 a2 : List Value, cs = a0 ++ (a1 ++ (a2)) ∧ r0 C a0 y.1 ∧ r1 C a1 y.2.1 ∧ r2 C a2 y.2.2) (fun y => z0 y.1 + z1 y.2.1 + z2 y.2.2) := ⟨fun {H enc W fuel cs x} hl hf => by
  obtain ⟨xs, m, _, hx, _, hn, hg⟩ := DataW.trod_struct ht hf
  match xs, hn with
  | [y0, y1, y2], _ =>
    have g0 : DataW.trod enc Tryz.prog W 0 (fun _ => true) true m f0.type ((cs.drop f0.offset).take (Tryz.prog.cellsOf f0.type)) = some y0 := hg 0 f0 rfl
    rw [o0, c0] at g0
    obtain ⟨v0, p0, q0, s0⟩ := h0.go (by rw [List.length_take, List.length_drop]; omega) g0
    have g1 : DataW.trod enc Tryz.prog W 0 (fun _ => true) true m f1.type ((cs.drop f1.offset).take (Tryz.prog.cellsOf f1.type)) = some y1 := hg 1 f1 rfl
    rw [o1, c1] at g1
    obtain ⟨v1, p1, q1, s1⟩ := h1.go (by rw [List.length_take, List.length_drop]; omega) g1
    have g2 : DataW.trod enc Tryz.prog W 0 (fun _ => true) true m f2.type ((cs.drop f2.offset).take (Tryz.prog.cellsOf f2.type)) = some y2 := hg 2 f2 rfl
    rw [o2, c2] at g2
    obtain ⟨v2, p2, q2, s2⟩ := h2.go (by rw [List.length_take, List.length_drop]; omega) g2
    have e0 : cs.drop (0) = (cs.drop (0)).take k0 ++ cs.drop (0 + k0) := by have q := (List.take_append_drop k0 (cs.drop (0))).symm; rwa [List.drop_drop] at q
    have e1 : cs.drop (0 + k0) = (cs.drop (0 + k0)).take k1 ++ cs.drop (0 + k0 + k1) := by have q := (List.take_append_drop k1 (cs.drop (0 + k0))).symm; rwa [List.drop_drop] at q
    have e2 : cs.drop (0 + k0 + k1) = (cs.drop (0 + k0 + k1)).take k2 := (List.take_of_length_le (by rw [List.length_drop]; omega)).symm
    have e : cs = (cs.drop (0)).take k0 ++ ((cs.drop (0 + k0)).take k1 ++ ((cs.drop (0 + k0 + k1)).take k2)) := (List.drop_zero (l := cs)).symm.trans (e0.trans (congrArg ((cs.drop (0)).take k0 ++ ·) (e1.trans (congrArg ((cs.drop (0 + k0)).take k1 ++ ·) (e2)))))
    refine ⟨(v0, v1, v2), ⟨_, _, _, e, p0, p1, p2⟩, fun u hu => by rw [e] at hu; exact (ones_app q0 (ones_app q1 (q2))) u hu, ?_⟩
    subst hx
    simp only [Rows.uptoBulk, List.map_cons, List.map_nil, Rows.uptoBulkAll]
    omega⟩
theorem opn_s7 {α0 α1 α2 α3 α4 α5 α6 : Type} {t : TypeId} {f0 f1 f2 f3 f4 f5 f6 : Field} {k0 k1 k2 k3 k4 k5 k6 : Nat} {r0 : Rdr → List Value → α0 → Prop} {r1 : Rdr → List Value → α1 → Prop} {r2 : Rdr → List Value → α2 → Prop} {r3 : Rdr → List Value → α3 → Prop} {r4 : Rdr → List Value → α4 → Prop} {r5 : Rdr → List Value → α5 → Prop} {r6 : Rdr → List Value → α6 → Prop} {z0 : α0 → Nat} {z1 : α1 → Nat} {z2 : α2 → Nat} {z3 : α3 → Nat} {z4 : α4 → Nat} {z5 : α5 → Nat} {z6 : α6 → Nat} (ht : Tryz.prog.underlying t = some (.struct #[f0, f1, f2, f3, f4, f5, f6])) (c0 : Tryz.prog.cellsOf f0.type = k0) (c1 : Tryz.prog.cellsOf f1.type = k1) (c2 : Tryz.prog.cellsOf f2.type = k2) (c3 : Tryz.prog.cellsOf f3.type = k3) (c4 : Tryz.prog.cellsOf f4.type = k4) (c5 : Tryz.prog.cellsOf f5.type = k5) (c6 : Tryz.prog.cellsOf f6.type = k6) (o0 : f0.offset = 0) (o1 : f1.offset = 0 + k0) (o2 : f2.offset = 0 + k0 + k1) (o3 : f3.offset = 0 + k0 + k1 + k2) (o4 : f4.offset = 0 + k0 + k1 + k2 + k3) (o5 : f5.offset = 0 + k0 + k1 + k2 + k3 + k4) (o6 : f6.offset = 0 + k0 + k1 + k2 + k3 + k4 + k5)
    (h0 : Opn f0.type k0 r0 z0) (h1 : Opn f1.type k1 r1 z1) (h2 : Opn f2.type k2 r2 z2) (h3 : Opn f3.type k3 r3 z3) (h4 : Opn f4.type k4 r4 z4) (h5 : Opn f5.type k5 r5 z5) (h6 : Opn f6.type k6 r6 z6) : Opn t (k0 + (k1 + (k2 + (k3 + (k4 + (k5 + (k6))))))) (fun C cs (y : α0 × α1 × α2 × α3 × α4 × α5 × α6) => ∃ a0 a1 a2 a3 a4 a5 a6 : List Value, cs = a0 ++ (a1 ++ (a2 ++ (a3 ++ (a4 ++ (a5 ++ (a6)))))) ∧ r0 C a0 y.1 ∧ r1 C a1 y.2.1 ∧ r2 C a2 y.2.2.1 ∧ r3 C a3 y.2.2.2.1 ∧ r4 C a4 y.2.2.2.2.1 ∧ r5 C a5 y.2.2.2.2.2.1 ∧ r6 C a6 y.2.2.2.2.2.2) (fun y => z0 y.1 + z1 y.2.1 + z2 y.2.2.1 + z3 y.2.2.2.1 + z4 y.2.2.2.2.1 + z5 y.2.2.2.2.2.1 + z6 y.2.2.2.2.2.2) := ⟨fun {H enc W fuel cs x} hl hf => by
  obtain ⟨xs, m, _, hx, _, hn, hg⟩ := DataW.trod_struct ht hf
  match xs, hn with
  | [y0, y1, y2, y3, y4, y5, y6], _ =>
    have g0 : DataW.trod enc Tryz.prog W 0 (fun _ => true) true m f0.type ((cs.drop f0.offset).take (Tryz.prog.cellsOf f0.type)) = some y0 := hg 0 f0 rfl
    rw [o0, c0] at g0
    obtain ⟨v0, p0, q0, s0⟩ := h0.go (by rw [List.length_take, List.length_drop]; omega) g0
    have g1 : DataW.trod enc Tryz.prog W 0 (fun _ => true) true m f1.type ((cs.drop f1.offset).take (Tryz.prog.cellsOf f1.type)) = some y1 := hg 1 f1 rfl
    rw [o1, c1] at g1
    obtain ⟨v1, p1, q1, s1⟩ := h1.go (by rw [List.length_take, List.length_drop]; omega) g1
    have g2 : DataW.trod enc Tryz.prog W 0 (fun _ => true) true m f2.type ((cs.drop f2.offset).take (Tryz.prog.cellsOf f2.type)) = some y2 := hg 2 f2 rfl
    rw [o2, c2] at g2
    obtain ⟨v2, p2, q2, s2⟩ := h2.go (by rw [List.length_take, List.length_drop]; omega) g2
    have g3 : DataW.trod enc Tryz.prog W 0 (fun _ => true) true m f3.type ((cs.drop f3.offset).take (Tryz.prog.cellsOf f3.type)) = some y3 := hg 3 f3 rfl
    rw [o3, c3] at g3
    obtain ⟨v3, p3, q3, s3⟩ := h3.go (by rw [List.length_take, List.length_drop]; omega) g3
    have g4 : DataW.trod enc Tryz.prog W 0 (fun _ => true) true m f4.type ((cs.drop f4.offset).take (Tryz.prog.cellsOf f4.type)) = some y4 := hg 4 f4 rfl
    rw [o4, c4] at g4
    obtain ⟨v4, p4, q4, s4⟩ := h4.go (by rw [List.length_take, List.length_drop]; omega) g4
    have g5 : DataW.trod enc Tryz.prog W 0 (fun _ => true) true m f5.type ((cs.drop f5.offset).take (Tryz.prog.cellsOf f5.type)) = some y5 := hg 5 f5 rfl
    rw [o5, c5] at g5
    obtain ⟨v5, p5, q5, s5⟩ := h5.go (by rw [List.length_take, List.length_drop]; omega) g5
    have g6 : DataW.trod enc Tryz.prog W 0 (fun _ => true) true m f6.type ((cs.drop f6.offset).take (Tryz.prog.cellsOf f6.type)) = some y6 := hg 6 f6 rfl
    rw [o6, c6] at g6
    obtain ⟨v6, p6, q6, s6⟩ := h6.go (by rw [List.length_take, List.length_drop]; omega) g6
    have e0 : cs.drop (0) = (cs.drop (0)).take k0 ++ cs.drop (0 + k0) := by have q := (List.take_append_drop k0 (cs.drop (0))).symm; rwa [List.drop_drop] at q
    have e1 : cs.drop (0 + k0) = (cs.drop (0 + k0)).take k1 ++ cs.drop (0 + k0 + k1) := by have q := (List.take_append_drop k1 (cs.drop (0 + k0))).symm; rwa [List.drop_drop] at q
    have e2 : cs.drop (0 + k0 + k1) = (cs.drop (0 + k0 + k1)).take k2 ++ cs.drop (0 + k0 + k1 + k2) := by have q := (List.take_append_drop k2 (cs.drop (0 + k0 + k1))).symm; rwa [List.drop_drop] at q
    have e3 : cs.drop (0 + k0 + k1 + k2) = (cs.drop (0 + k0 + k1 + k2)).take k3 ++ cs.drop (0 + k0 + k1 + k2 + k3) := by have q := (List.take_append_drop k3 (cs.drop (0 + k0 + k1 + k2))).symm; rwa [List.drop_drop] at q
    have e4 : cs.drop (0 + k0 + k1 + k2 + k3) = (cs.drop (0 + k0 + k1 + k2 + k3)).take k4 ++ cs.drop (0 + k0 + k1 + k2 + k3 + k4) := by have q := (List.take_append_drop k4 (cs.drop (0 + k0 + k1 + k2 + k3))).symm; rwa [List.drop_drop] at q
    have e5 : cs.drop (0 + k0 + k1 + k2 + k3 + k4) = (cs.drop (0 + k0 + k1 + k2 + k3 + k4)).take k5 ++ cs.drop (0 + k0 + k1 + k2 + k3 + k4 + k5) := by have q := (List.take_append_drop k5 (cs.drop (0 + k0 + k1 + k2 + k3 + k4))).symm; rwa [List.drop_drop] at q
    have e6 : cs.drop (0 + k0 + k1 + k2 + k3 + k4 + k5) = (cs.drop (0 + k0 + k1 + k2 + k3 + k4 + k5)).take k6 := (List.take_of_length_le (by rw [List.length_drop]; omega)).symm
    have e : cs = (cs.drop (0)).take k0 ++ ((cs.drop (0 + k0)).take k1 ++ ((cs.drop (0 + k0 + k1)).take k2 ++ ((cs.drop (0 + k0 + k1 + k2)).take k3 ++ ((cs.drop (0 + k0 + k1 + k2 + k3)).take k4 ++ ((cs.drop (0 + k0 + k1 + k2 + k3 + k4)).take k5 ++ ((cs.drop (0 + k0 + k1 + k2 + k3 + k4 + k5)).take k6)))))) := (List.drop_zero (l := cs)).symm.trans (e0.trans (congrArg ((cs.drop (0)).take k0 ++ ·) (e1.trans (congrArg ((cs.drop (0 + k0)).take k1 ++ ·) (e2.trans (congrArg ((cs.drop (0 + k0 + k1)).take k2 ++ ·) (e3.trans (congrArg ((cs.drop (0 + k0 + k1 + k2)).take k3 ++ ·) (e4.trans (congrArg ((cs.drop (0 + k0 + k1 + k2 + k3)).take k4 ++ ·) (e5.trans (congrArg ((cs.drop (0 + k0 + k1 + k2 + k3 + k4)).take k5 ++ ·) (e6)))))))))))))
    refine ⟨(v0, v1, v2, v3, v4, v5, v6), ⟨_, _, _, _, _, _, _, e, p0, p1, p2, p3, p4, p5, p6⟩, fun u hu => by rw [e] at hu; exact (ones_app q0 (ones_app q1 (ones_app q2 (ones_app q3 (ones_app q4 (ones_app q5 (q6))))))) u hu, ?_⟩
    subst hx
    simp only [Rows.uptoBulk, List.map_cons, List.map_nil, Rows.uptoBulkAll]
    omega⟩
theorem arg_s {α : Type} {t : TypeId} {k : Nat} {rep : Rdr → List Value → α → Prop} {sz : α → Nat} (h : Opn t k rep sz) {fs : Array Field} (ht : Tryz.prog.underlying t = some (.struct fs)) (hk : Tryz.prog.cellsOf t = k) {H : Type} {enc : TypeId × Value → H} {W : World} {r : Reach} {b0 : Nat} {v : Value} {d : DataW H} {ps : List MemPlace} (hval : Value.okWide Tryz.prog W r b0 t v) (hT : DataW.Trod enc Tryz.prog W 0 (fun _ => true) true t v d ps) :
    ∃ cs y, v = .agg cs.toArray ∧ cs.length = k ∧ rep (rdW W) cs y ∧ sz y < Rows.uptoBulk d := by
  obtain ⟨⟨cs⟩, rfl, hsz⟩ := okWide_struct ht hval
  rw [hk] at hsz
  obtain ⟨fuel, hf⟩ := hT
  obtain ⟨y, h1, h2, h3⟩ := h.go (by simpa using hsz) (show DataW.trod enc Tryz.prog W 0 (fun _ => true) true fuel t cs = some (d, ps) by simpa [Value.cells] using hf)
  exact ⟨cs, y, rfl, by simpa using hsz, h1, h3⟩
theorem arg_v {α : Type} {t e : TypeId} {rep : Rdr → List Value → α → Prop} {sz : α → Nat} (h : Opn t 1 rep sz) (ht : Tryz.prog.underlying t = some (.slice e)) {H : Type} {enc : TypeId × Value → H} {W : World} {r : Reach} {b0 : Nat} {v : Value} {d : DataW H} {ps : List MemPlace} (hval : Value.okWide Tryz.prog W r b0 t v) (hT : DataW.Trod enc Tryz.prog W 0 (fun _ => true) true t v d ps) :
    ∃ y, rep (rdW W) [v] y ∧ sz y < Rows.uptoBulk d := by
  obtain ⟨A, n, c, rfl⟩ := okWide_slice ht hval
  obtain ⟨fuel, hf⟩ := hT
  obtain ⟨y, h1, _, h3⟩ := h.go rfl (show DataW.trod enc Tryz.prog W 0 (fun _ => true) true fuel t [.slice A n c] = some (d, ps) by simpa [Value.cells] using hf)
  exact ⟨y, h1, h3⟩
theorem opn_raw : Opn 27 1 repT (fun b => b.length) := opn_t Tryz.underlying27 Tryz.underlying5 (by kernel_rfl)
theorem repT.one {C : Rdr} {v : Value} {b : Byt} (h : repT C [v] b) : BytR C v b := by
  obtain ⟨u, e, h⟩ := h
  injection e with e
  subst e
  exact h
theorem opn_dg : Opn 37 32 (repN 32) (fun _ => 0) := opn_n Tryz.underlying37 Tryz.underlying5 (by kernel_rfl) (by kernel_rfl)
theorem opn_u64 : Opn 22 1 repU (fun _ => 0) := opn_u Tryz.underlying22
end Go.Proofs.YtgemfpnlnipfnaaGreat.Wr

end
