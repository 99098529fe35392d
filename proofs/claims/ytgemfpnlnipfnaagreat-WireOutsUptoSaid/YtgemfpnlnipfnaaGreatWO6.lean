/-
  Texts of ours, put together: WirY, WirZ, WirBA, WirBB, WirXB, WirCA, WirCB, WirCC, WirXC, PLift, WirDA, WirDB, WirDC, WirDD, WirDE, WirXD, WirP, WirQ, WirR, WirS, WirT, WirU, WirV, WirW, WirAA, WirAB.
-/
import Derived.Test.YtgemfpnlnipfnaaGreatWO5
set_option linter.unusedVariables false
set_option linter.unusedSimpArgs false
section
namespace Go.Proofs.YtgemfpnlnipfnaaGreat.Wr
open Go.RowKit Go.Proofs.YtgemfpnlnipfnaaGreat Go.Proofs.YtgemfpnlnipfnaaGreat.Sy
set_option maxRecDepth 100000
set_option maxHeartbeats 4000000

theorem str_of {w : World} {A : Option Addr} {n cp : Nat} {b : Byt} (h : BytR (rdW w) (.slice A n cp) b) : (convert 27 9 (.slice A n cp)).run Tryz.prog w = .ok (.string ⟨b.toArray⟩) w := by
  obtain ⟨A', n', cp', e, h2, h3, h4, h5⟩ := h
  injection e with e1 e2 e3
  subst e1 e2 e3
  subst h2
  rcases b with _ | ⟨x, m⟩
  · cases A with
    | none =>
      rw [show ([] : List UInt8).length = 0 from rfl, run_convert_bytes_string w 27 9 5 none 0 cp Tryz.underlying27 Tryz.underlying5 Tryz.underlying9]
      rfl
    | some a => exact run_convert_bytes_back w 27 9 5 a cp [] Tryz.underlying27 Tryz.underlying5 Tryz.underlying9 (fun j hj => absurd hj (Nat.not_lt_zero _))
  · obtain ⟨g, o, rfl, hq⟩ := h5 (by simp)
    refine run_convert_bytes_back w 27 9 5 _ cp _ Tryz.underlying27 Tryz.underlying5 Tryz.underlying9 (fun j hj => ?_)
    rw [addr_off]
    exact (hq j _ (List.getElem?_eq_getElem hj)).2
theorem strC {w0 : Base} {F : Slots} {L : Blocks} {o : Oper} {v : Value} {b : Byt} (x : Operand) (ho : o.op = .convert 27 9 x) (hx : evF F x = v) (hv : ∀ w, St w0 w L → BytR (rdW w) v b) : Quiet Tryz.prog w0 F L o (.string ⟨b.toArray⟩) := fun w hw => by
  have q := hv w hw
  obtain ⟨A, n, cp, rfl, _⟩ := hv w hw
  unfold Gives execOp
  simp only [ho, hx, Sem.run_bind, str_of q, Result.andThen_ok, Sem.run_pure]
  exact ⟨trivial, Gr.refl _⟩
theorem eql_str (w : World) (F : Slots) (o : Oper) (x y : Operand) (a b : List UInt8) {yt : TypeId} (ho : o.op = .binOp .eql 9 x y yt) (hx : evF F x = .string ⟨a.toArray⟩) (hy : evF F y = .string ⟨b.toArray⟩) : (execOp (evF F) o).run Tryz.prog w = .ok (.value (.bool (decide (a = b)))) w := by
  have h1 : (eqGuard .eql 9 x y (.string ⟨a.toArray⟩) (.string ⟨b.toArray⟩)).run Tryz.prog w = .ok () w := by go_simp
  have h2 : (binOp .eql 9 (.string ⟨a.toArray⟩) (.string ⟨b.toArray⟩)).run Tryz.prog w = .ok (.bool (decide (a = b))) w := by
    by_cases e : a = b <;> simp [go_sem, ByteArray.toList_eq, e]
  unfold execOp
  simp only [ho, hx, hy, Sem.run_bind, h1, h2, Result.andThen_ok, Sem.run_pure]
theorem same_any (w : World) (v u : Value) (a b : Byt) (hv : BytR (rdW w) v a) (hu : BytR (rdW w) u b) : Calls Tryz.prog 17 #[v, u] w (Gets w (.bool (decide (a = b)))) := by
  refine Sy.enter (args := [v, u]) Tryz.func17 rfl kL ?_
  refine sC ?_
  refine sP (.bool false) ?_
  refine sA ?_
  refine sp rfl <| sS (.string ⟨a.toArray⟩) (strC _ rfl rfl (fun w' hw => hv.at hw)) <| sp rfl <| sS (.string ⟨b.toArray⟩) (strC _ rfl rfl (fun w' hw => hu.at hw)) <| sS (.bool (decide (a = b))) (Quiet.pure (fun w => eql_str w _ _ _ _ a b rfl rfl rfl)) <| sp rfl ?_
  refine sG ?_
  refine Sy.ret ?_
  exact rV (.bool (decide (a = b))) rfl
def erE (ok : Bool) : Int := if ok then 0 else 120
def byE (ok : Bool) (e : Byt) : Byt := if ok then e else []
theorem BytE.uni {ok : Bool} {e : Byt} {v : Value} {M : Blocks} (h : BytE ok e v M) : ∃ u, v = .tuple #[u, .int .i64 (erE ok)] ∧ BytR (rdB M) u (byE ok e) := by
  rcases h with ⟨rfl, u, rfl, h⟩ | ⟨rfl, rfl, rfl⟩
  · exact ⟨u, rfl, h.byt⟩
  · exact ⟨_, rfl, BytR.nil _⟩
theorem RdE.uni {α : Type} {k : Nat} {zc : List Value} {rep : Rdr → List Value → α → Prop} {o : Option α} {u : Value} {M : Blocks} (z : α) (hz : rep (rdB []) zc z) (hk : zc.length = k) (h : RdE k zc rep o u M) : ∃ cs, u = .tuple #[.agg cs.toArray, .int .i64 (erE o.isSome)] ∧ cs.length = k ∧ rep (rdB M) cs (o.getD z) := by
  rcases h with ⟨x, cs, rfl, rfl, h1, h2⟩ | ⟨rfl, rfl, rfl⟩
  · exact ⟨cs, rfl, h1, h2⟩
  · exact ⟨zc, rfl, hk, hz⟩
theorem rdB_world {w0 : Base} {w : World} {L R : Blocks} (hw : St w0 w L) (hR : ∀ b ∈ R, b ∈ L) : Le (rdB R) (rdW w) := fun g o v h => rdC_world hw hR g o v (.inr h)
end Go.Proofs.YtgemfpnlnipfnaaGreat.Wr

end
section
namespace Go.Proofs.YtgemfpnlnipfnaaGreat.Wr
open Go.RowKit Go.Proofs.YtgemfpnlnipfnaaGreat Go.Proofs.YtgemfpnlnipfnaaGreat.Sy
set_option maxRecDepth 100000
set_option maxHeartbeats 4000000

def octB (z : Int) : UInt8 := UInt8.ofNat (z % 256).toNat
def okO (z : Int) : Bool := decide (0 ≤ z) && decide (z ≤ 255)
theorem conv_i8 (w : World) (F : Slots) (o : Oper) (x : Operand) (z : Int) (ho : o.op = .convert 3 5 x) (hx : evF F x = .int .i64 z) : (execOp (evF F) o).run Tryz.prog w = .ok (.value (bv (octB z))) w := by
  have e : (octB z).toNat = (z % 256).toNat := by unfold octB; rw [UInt8.toNat_ofNat']; omega
  have h : (convert 3 5 (.int .i64 z)).run Tryz.prog w = .ok (bv (octB z)) w := by
    unfold bv
    rw [e]
    go_simp
    show z % 256 = max (z % 256) 0
    omega
  unfold execOp
  simp only [ho, hx, Sem.run_bind, h, Result.andThen_ok, Sem.run_pure]
theorem octet_w (w0 : Base) (gc gw gx f : Nat) (bad : Bool) (s : Slc) (R : Blocks) (b : Byt) (z : Int) (hc : rdC w0 R gx f (.int .i64 z)) (hb : BS s b) (hl : b.length + 1 ≤ 70368744177000) (w : World) (hw : St w0 w (CWS gc gw bad s R)) :
    Calls Tryz.prog 122 #[ptr gc, .pointer (some ⟨gx, f, none⟩)] w (Turns w0 (WrC gc gw R (okO z) [octB z] 1 bad b)) := by
  refine Sy.enterT (args := [ptr gc, .pointer (some ⟨gx, f, none⟩)]) hw Tryz.func122 rfl kL ?_
  refine sC ?_
  refine sp rfl <| sS (.bool false) (qg (fun w hw => reads_w w0.inn gc _ _ (List.mem_cons_self ..) w hw)) ?_
  refine sG ?_
  refine sU ?_
  refine sC ?_
  obtain ⟨ok, hok⟩ : ∃ ok, ok = okO z := ⟨_, rfl⟩
  obtain ⟨b1, hb1⟩ : ∃ b1 : Bool, b1 = decide (0 ≤ z) := ⟨_, rfl⟩
  obtain ⟨b2, hb2⟩ : ∃ b2 : Bool, b2 = decide (z ≤ 255) := ⟨_, rfl⟩
  have e : ok = (b1 && b2) := by rw [hok, hb1, hb2]; rfl
  rw [← hok]
  refine sp rfl <| sp rfl <| sp rfl <| sS (.int .i64 z) (cellC (R := R) hc inCW rfl Tryz.underlying3) <| sS (.bool b1) (Quiet.pure (exec_int .geq _ _ _ .i64 _ _ _ rfl rfl rfl (int_geq _ _ _ _ _ (by rw [hb1])))) <| sp rfl ?_
  cases b1
  case' false =>
    obtain rfl : ok = false := e
    refine sN <| sN <| sN <| sN <| sP (.bool false) ?_
    refine Sy.callT (fun w hw => must_w w0.inn gc gw bad false s R w hw) (fun u M hM => ?_)
  case' true =>
    obtain rfl : ok = b2 := e
    refine sp rfl <| sp rfl <| sS (.int .i64 z) (cellC (R := R) hc inCW rfl Tryz.underlying3) <| sS (.bool ok) (Quiet.pure (exec_int .leq _ _ _ .i64 _ _ _ rfl rfl rfl (int_leq _ _ _ _ _ (by rw [hb2])))) <| sP (.bool ok) ?_
    refine Sy.callT (fun w hw => must_w w0.inn gc gw bad ok s R w hw) (fun u M hM => ?_)
  all_goals
    subst hM
    refine Sy.nil ?_
    refine Sy.then_ ?_
    refine Sy.regionD (fun j => j == 8) kR ?_
    refine sa 0 rfl rfl <| sa 1 rfl rfl <| sb 2 rfl (.pointer (some ⟨gc, 0, none⟩)) <| sD 3 rfl (ptr gw) (qc 0 0 rfl rfl Tryz.underlying151) <| sa 4 rfl rfl <| sa 5 rfl rfl <| se 6 [7, 8] rfl (.int .i64 z) (cellC (R := R) hc inCW rfl Tryz.underlying3) <| sv 7 rfl (bv (octB z)) (fun w => conv_i8 w _ _ _ z rfl rfl) ?_
    refine Sy.soleD 8 rfl (fun Q2 hq2 => ?_)
  · refine Sy.callT (fun w hw => byte_any w0.inn gw s ((gc, 155, #[ptr gw, .pointer none, .bool (bad || !ok)]) :: R) b (octB z) hb (by omega) w (hw.perm permCW)) (fun u M hM => ?_)
    obtain ⟨s1, hs1, rfl⟩ := hM
    refine Sy.permS permCW.symm ?_
    refine hq2 _ _ ?_
    refine sE ?_
    exact Sy.retT0 rfl (CWS gc gw (bad || !ok) s1 R) (fun _ h => h) (fun _ => ⟨s1, bad || !ok, b ++ [octB z], ⟨rfl, fun _ => rfl, by rw [List.length_append]; exact Nat.le_refl _⟩, hs1, rfl⟩)
  · refine Sy.callT (fun w hw => byte_any w0.inn gw s ((gc, 155, #[ptr gw, .pointer none, .bool (bad || !false)]) :: R) b (octB z) hb (by omega) w (hw.perm permCW)) (fun u M hM => ?_)
    obtain ⟨s1, hs1, rfl⟩ := hM
    refine Sy.permS permCW.symm ?_
    refine hq2 _ _ ?_
    refine sE ?_
    exact Sy.retT0 rfl (CWS gc gw (bad || !false) s1 R) (fun _ h => h) (fun _ => ⟨s1, bad || !false, b ++ [octB z], ⟨rfl, fun h => (by cases bad <;> cases h), by rw [List.length_append]; exact Nat.le_refl _⟩, hs1, rfl⟩)
def zOut : List Value := (.int .i64 0 :: .bool false :: (List.replicate 32 (.int .u8 0) ++ (List.replicate 8 (.int .u64 0) ++ (.bool false :: .bool false :: (List.replicate 9 (.int .u64 0) ++ (.bool false :: List.replicate 4 (.slice none 0 0)))))))
def repOZ (_ : Rdr) (cs : List Value) (_ : Unit) : Prop := cs = zOut
theorem monoOZ : Mono repOZ := fun _ h => h
theorem outz_w : PutC 65 58 repOZ (fun _ => false) (fun _ => []) (fun _ => 1) := fun w0 gc gw gx f bad s R b cs x hx _ hc hb hl w hw => by
  obtain rfl : cs = zOut := hx
  have h0 : rdC w0 R gx f (.int .i64 0) := XAt.one hc
  refine Sy.enterT (args := [ptr gc, .pointer (some ⟨gx, f, none⟩)]) hw Tryz.func65 rfl kL ?_
  refine sC ?_
  refine sp rfl <| sp rfl <| sp rfl <| sP (.pointer (some ⟨gx, f, none⟩)) ?_
  refine Sy.callT (fun w hw => octet_w w0.inn gc gw gx f bad s R b 0 h0 hb (by omega) w hw) (fun u M hM => ?_)
  obtain ⟨s1, bad1, b1, q1, q2, rfl⟩ := hM
  refine sA ?_
  refine sp rfl <| sp rfl <| sP (.pointer (some ⟨gx, f, none⟩)) <| sS (.int .i64 0) (cellC (R := R) h0 inCW rfl Tryz.underlying3) ?_
  refine sG ?_
  refine Sy.block ?_
  refine Sy.seq ?_
  refine Sy.block ?_
  refine Sy.seq ?_
  refine Sy.block ?_
  refine Sy.block ?_
  refine Sy.block ?_
  refine Sy.block ?_
  refine Sy.seq ?_
  refine Sy.seq ?_
  refine sC ?_
  refine sP (.bool false) <| sp rfl ?_
  refine sG ?_
  refine sU ?_
  refine Sy.skip ?_
  refine Sy.then_ ?_
  refine Sy.seq ?_
  refine sC ?_
  refine sP (.bool false) <| sp rfl ?_
  refine sG ?_
  refine sU ?_
  refine Sy.skip ?_
  refine Sy.then_ ?_
  refine Sy.seq ?_
  refine sC ?_
  refine sP (.bool false) <| sp rfl ?_
  refine sG ?_
  refine sU ?_
  refine Sy.skip ?_
  refine Sy.then_ ?_
  refine sC ?_
  refine sP (.bool false) <| sp rfl ?_
  refine sG ?_
  refine sU ?_
  refine Sy.skip ?_
  refine Sy.then_ ?_
  refine Sy.exit ?_
  refine Sy.in_pass (by decide) ?_
  refine Sy.in_pass (by decide) ?_
  refine Sy.in_pass (by decide) ?_
  refine Sy.in_pass (by decide) ?_
  refine Sy.then_exit ?_
  refine Sy.in_exit ?_
  refine sB ?_
  refine sp rfl ?_
  refine Sy.callT (fun w hw => must_w w0.inn gc gw bad1 false s1 R w hw) (fun u M hM => ?_)
  subst hM
  refine sG ?_
  refine Sy.exit ?_
  refine Sy.in_exit ?_
  exact Sy.retT0 rfl (CWS gc gw (bad1 || !false) s1 R) (fun _ h => h) (fun _ => ⟨s1, bad1 || !false, b1, ⟨by cases bad1 <;> cases bad <;> rfl, fun h => (by cases bad1 <;> cases h), q1.len⟩, q2, rfl⟩)

theorem write_outz {α : Type} {rep : Rdr → List Value → α → Prop} {ok : α → Bool} {enc : α → Byt} {wt : α → Nat} (hm : Mono rep) (hp : PutC 65 58 rep ok enc wt) (w : World) (cs : List Value) (x : α) (hx : rep (rdW w) cs x) (hl : cs.length = 58) (hwt : wt x ≤ 70368744170000) :
    Calls Tryz.prog 64 #[.agg cs.toArray, .func (.func 65) #[] #[]] w (GetsN w (BytE (ok x) (enc x))) := by
  refine Sy.enter (args := [.agg cs.toArray, .func (.func 65) #[] #[]]) Tryz.func64 rfl kL ?_
  refine sC ?_
  refine sM 64 cs.toArray (fun gx => ?_) kR (fun w => run_boxR rfl rfl (by kernel_rfl) hl w)
  refine sP (.slice none 0 0) <| sP (.int .i64 0) ?_
  refine sA ?_
  refine Sy.callN kR 89 #[] kF _ (fun w _ => new_any w) (fun v M hM => ?_)
  obtain ⟨gw, rfl, rfl⟩ := hM
  refine sP (.agg #[ptr gw, .pointer none, .bool false]) <| sM 155 #[ptr gw, .pointer none, .bool false] (fun gc => ?_)
  refine sp rfl ?_
  refine sA ?_
  refine Sy.permS (M := CWS gc gw false nilS [(gx, 64, cs.toArray)]) (Sy.perm_at [2,1,0] (by kernel_rfl) (by rfl)) ?_
  refine sp rfl <| sp rfl ?_
  refine Sy.callT (fun w' hw => hp (Base.of w) gc gw gx 0 false nilS [(gx, 64, cs.toArray)] [] cs x (hm rdW_base hx) hl (memX (List.mem_singleton.2 rfl)) BS.nil (by show 0 + _ ≤ _; omega) w' hw) (fun v M hM => ?_)
  obtain ⟨s, bad, b, q1, q2, rfl⟩ := hM
  have hbl : b.length ≤ wt x := by have := q1.len; simpa using this
  refine sG ?_
  refine Sy.seq ?_
  refine sC ?_
  refine sp rfl <| sp rfl <| sP (.pointer (some ⟨gc, 2, none⟩)) <| sS (.bool bad) (qc 0 2 rfl rfl Tryz.underlying4) ?_
  refine sG ?_
  cases bad
  · have hok : ok x = true := by
      have e := q1.bad
      cases h : ok x with
      | true => rfl
      | false => rw [h] at e; cases e
    obtain rfl : b = enc x := by have := q1.bytes rfl; simpa using this
    refine sU ?_
    refine Sy.skip ?_
    refine sB ?_
    refine sp rfl <| sp rfl <| sP (.pointer (some ⟨gc, 0, none⟩)) <| sS (ptr gw) (qc 0 0 rfl rfl Tryz.underlying151) ?_
    refine Sy.callT (fun w' hw => bytes_any (Base.of w) gw s ((gc, 155, #[ptr gw, .pointer none, .bool false]) :: [(gx, 64, cs.toArray)]) (enc x) q2 (by omega) w' (hw.perm permCW)) (fun v M hM => ?_)
    obtain ⟨N, hN, rfl⟩ := hM
    refine sp rfl <| sP (.int .i64 0) ?_
    refine sG ?_
    refine Sy.ret ?_
    exact Sy.retGM2 N rfl (.inl (show _ = _ by kernel_rfl)) (.inl (show _ = _ by kernel_rfl)) (fun _ h => h.less (List.sublist_append_right _ _)) (.inl ⟨hok, v, rfl, hN⟩)
  · have hok : ok x = false := by
      have e := q1.bad
      cases h : ok x with
      | false => rfl
      | true => rw [h] at e; cases e
    refine sT ?_
    refine sC ?_
    refine sP (.slice none 0 0) <| sP (.int .i64 120) ?_
    refine sG ?_
    refine Sy.ret ?_
    refine Sy.then_ret ?_
    exact Sy.retGM2 [] rfl (.inl (show _ = _ by kernel_rfl)) (.inl (show _ = _ by kernel_rfl)) (fun _ h => h.none) (.inr ⟨hok, rfl, rfl⟩)

theorem ex_outz {α : Type} {rep : Rdr → List Value → α → Prop} {ok : α → Bool} {enc : α → Byt} {wt : α → Nat} (hm : Mono rep) (hp : PutC 65 58 rep ok enc wt) (w : World) (cs : List Value) (x : α) (hx : rep (rdW w) cs x) (hl : cs.length = 58) (hwt : wt x ≤ 70368744170000) :
    Calls Tryz.prog 26 #[.agg cs.toArray] w (GetsN w (BytE (ok x) (enc x))) := by
  refine Sy.enter (args := [.agg cs.toArray]) Tryz.func26 rfl kL ?_
  refine sC ?_
  refine sM 64 cs.toArray (fun gx => ?_) kR (fun w => run_boxR rfl rfl (by kernel_rfl) hl w)
  refine sP (.slice none 0 0) <| sP (.int .i64 0) ?_
  refine sA ?_
  refine sS (.agg cs.toArray) (rowC (R := [(gx, 64, cs.toArray)]) (memX (List.mem_singleton.2 rfl)) (fun _ h => h) hl rfl Tryz.underlying64) ?_
  refine Sy.callN kR 64 #[.agg cs.toArray, .func (.func 65) #[] #[]] kF (BytE (ok x) (enc x)) (fun w' hw => write_outz (rep := rep) hm hp w' cs x (hm (fun g o u h => rdC_world (R := []) hw (fun _ h => by cases h) g o u (.inl h)) hx) hl hwt) (fun v M hM => ?_)
  have hv : ∃ a e : Value, v = .tuple #[a, e] := by
    rcases hM with ⟨_, u, rfl, _⟩ | ⟨_, rfl, _⟩ <;> exact ⟨_, _, rfl⟩
  obtain ⟨a, e, rfl⟩ := hv
  refine sp rfl <| sp rfl <| sp rfl <| sp rfl ?_
  refine sG ?_
  refine Sy.ret ?_
  exact Sy.retGM2 M rfl (.inl (show _ = _ by kernel_rfl)) (.inl (show _ = _ by kernel_rfl)) (fun _ h => h.less (List.sublist_append_right _ _)) hM
end Go.Proofs.YtgemfpnlnipfnaaGreat.Wr

end
section
namespace Go.Proofs.YtgemfpnlnipfnaaGreat.Wr
open Go.RowKit Go.Proofs.YtgemfpnlnipfnaaGreat Go.Proofs.YtgemfpnlnipfnaaGreat.Sy
set_option maxRecDepth 100000
set_option maxHeartbeats 4000000

def octP : Ps Int := bindP (numP 1) fun n => retP (n : Int)
section
variable {α : Type} {rep : Rdr → List Value → α → Prop} {ok : α → Bool} {enc : α → Byt} {wt : α → Nat}
end

section
variable {α : Type} {rep : Rdr → List Value → α → Prop} {ok : α → Bool} {enc : α → Byt} {wt : α → Nat}
end

section
variable {α : Type} {rep : Rdr → List Value → α → Prop} {p : Ps α}
end
end Go.Proofs.YtgemfpnlnipfnaaGreat.Wr

end
section
namespace Go.Proofs.YtgemfpnlnipfnaaGreat.Wr
open Go.RowKit Go.Proofs.YtgemfpnlnipfnaaGreat Go.Proofs.YtgemfpnlnipfnaaGreat.Sy
set_option maxRecDepth 100000
set_option maxHeartbeats 4000000

theorem After.mustN {α : Type} (y : α) {s s' : RS} (h : s'.e ≠ 0) : After (bindP (mustP false) fun _ => retP y) s y s' := ⟨fun _ => h, fun z r _ hp => (by cases hp), fun _ _ => h⟩
theorem conv_8i (w : World) (F : Slots) (o : Oper) (x : Operand) (k : Nat) (hk : k < 256) (ho : o.op = .convert 5 3 x) (hx : evF F x = bv (UInt8.ofNat k)) : (execOp (evF F) o).run Tryz.prog w = .ok (.value (.int .i64 (k : Int))) w := by
  have e1 : (UInt8.ofNat k).toNat = k := by rw [UInt8.toNat_ofNat']; omega
  have e : (convert 5 3 (.int .u8 (k : Int))).run Tryz.prog w = .ok (.int .i64 (k : Int)) w := by
    go_simp
    exact wrap_i64 (by omega) (by omega)
  unfold execOp
  simp only [ho, hx, bv, e1, e, Sem.run_bind, Sem.run_pure, Result.andThen_ok]
def repI (_ : Rdr) (cs : List Value) (z : Int) : Prop := cs = [.int .i64 z]
theorem octet_r : GetC 122 1 [.int .i64 0] repI octP := fun w0 gc gr gx f tx A Z sl s R S hS hA he hl hv w hw => by
  refine Sy.enterT (args := [ptr gc, .pointer (some ⟨gx, f, none⟩)]) hw Tryz.func122 rfl kL ?_
  refine sC ?_
  refine sp rfl <| sS (.bool true) (qg (fun w hw => reads_r w0.inn gc gr _ _ (List.mem_cons_self ..) w hw)) ?_
  refine sG ?_
  refine sT ?_
  refine Sy.region ?_
  refine sp rfl <| sp rfl <| sp rfl <| sP (.pointer (some ⟨gc, 1, none⟩)) <| sS (ptr gr) (qc 0 1 rfl rfl Tryz.underlying153) ?_
  refine Sy.callT (fun w hw => byte9_any w0.inn gr sl s ((gc, 155, #[.pointer none, ptr gr, .bool false]) :: (gx, tx, (A ++ ([Value.int .i64 0] ++ Z)).toArray) :: R) S (fun b h => List.mem_cons_of_mem _ (List.mem_cons_of_mem _ (hS b h))) he hv w (hw.perm permCR)) (fun u M hM => ?_)
  obtain ⟨x, s', sl', q1, ⟨rfl, q2⟩, q3, q4, q5, rfl⟩ := hM
  refine Sy.permS permCR.symm ?_
  refine sS (.int .i64 (x : Int)) (Quiet.pure (fun w => conv_8i w _ _ _ x q2 rfl rfl)) <| sp rfl <| sw 1 rfl (A ++ ([Value.int .i64 (x : Int)] ++ Z)).toArray (Writes.one f 3 (.int .i64 (x : Int)) _ _ rfl kR kR kR rfl rfl (by rw [List.size_toArray, List.length_append, hA]; exact Nat.lt_add_of_pos_right (Nat.succ_pos _)) (set_mid hA)) ?_
  refine Sy.nil ?_
  exact Sy.retT0 rfl (CRS gc gr gx tx (A ++ ([Value.int .i64 (x : Int)] ++ Z)) sl' s'.e R) (fun _ h => h) (fun _ => ⟨(x : Int), s', sl', [Value.int .i64 (x : Int)], [], q1.bind (After.ret _ _), rfl, fun u hu => by rw [List.mem_singleton.1 hu]; rfl, rfl, q3, q4, q5, by rw [List.append_nil]⟩)
end Go.Proofs.YtgemfpnlnipfnaaGreat.Wr

end
section
namespace Go.Proofs.YtgemfpnlnipfnaaGreat.Wr
open Go.RowKit Go.Proofs.YtgemfpnlnipfnaaGreat Go.Proofs.YtgemfpnlnipfnaaGreat.Sy
set_option maxRecDepth 100000
set_option maxHeartbeats 4000000

end Go.Proofs.YtgemfpnlnipfnaaGreat.Wr

end
section
namespace Go.Proofs.YtgemfpnlnipfnaaGreat.Wr
open Go.RowKit Go.Proofs.YtgemfpnlnipfnaaGreat Go.Proofs.YtgemfpnlnipfnaaGreat.Sy
set_option maxRecDepth 100000
set_option maxHeartbeats 4000000

theorem vrN_le (b : Byt) (most : Nat) : (vrN b most).1 ≤ most := by
  by_cases h : (vrN b most).2.2 = 0
  · exact (vr_yes h).2.2
  · unfold vrN at h ⊢
    by_cases hc : (vrG b).2.2 = 0 ∧ most < (vrG b).1
    · rw [if_pos hc]; exact Nat.zero_le _
    · rw [if_neg hc] at h ⊢
      rw [vrG_zero h]; exact Nat.zero_le _
theorem text9_any (w0 : Base) (gr : Nat) (sl : Value) (s : RS) (R S : Blocks) (hS : ∀ b ∈ S, b ∈ R) (most : Nat) (hm : most < 1000000) (he0 : s.e ≤ 200) (hl : s.rest.length ≤ 70368744177664) (hv : BytR (rdC w0 S) sl s.rest) (w : World) (hw : St w0 w (RQ gr sl s.e R)) :
    Calls Tryz.prog 163 #[ptr gr, .int .i64 (most : Int)] w (Turns w0 (RddN (textP most) (fun x v N => ByN x v N) w0 gr R S s)) := by
  have hv0 := hv
  obtain ⟨A, m, cp, rfl, h2, h3, h4, h5⟩ := hv
  obtain ⟨f, hf⟩ : ∃ f, f = vrN s.rest most := ⟨_, rfl⟩
  obtain ⟨q1, q2, q3⟩ := vrN_fit s.rest most
  have hlt := vrN_le s.rest most
  have hy := @vr_yes s.rest most
  have hno := @vr_no s.rest most
  rw [← hf] at q1 q2 q3 hy hno hlt
  obtain ⟨e, he⟩ : ∃ e, e = if f.2.2 = 0 ∧ m - f.2.1 < f.1 then 110 else f.2.2 := ⟨_, rfl⟩
  have he2 : e ≤ 200 := by rw [he]; split <;> omega
  refine Sy.enterT (args := [ptr gr, .int .i64 (most : Int)]) hw Tryz.func163 rfl kL ?_
  refine sC ?_
  refine sP (.slice none 0 0) ?_
  refine sA ?_
  refine sp rfl <| sp rfl <| sP (.pointer (some ⟨gr, 0, none⟩)) <| sS (.slice A m cp) (qc 0 0 rfl rfl Tryz.underlying27) <| sp rfl <| sS (t3V f) (qg (fun w' hw => by rw [hf]; exact lengthR_any w' _ _ most (by omega) (hv0.le (rdC_world (w0 := w0.inn) hw (fun _ h => List.mem_cons_of_mem _ (hS _ h)))))) <| sp rfl <| sp rfl <| sp rfl <| sp rfl <| sp rfl <| sp rfl <| sp rfl ?_
  refine sG ?_
  refine Sy.seq ?_
  refine cutC [(0, ptr gr), (5, .int .u64 (f.1 : Int)), (6, .int .i64 (f.2.1 : Int)), (7, .int .i64 (e : Int))] (RQ gr (.slice A m cp) s.e R) ?_ ?_
  · refine sC ?_
    obtain ⟨b1, hb1⟩ : ∃ z : Bool, z = decide (f.2.2 = 0) := ⟨_, rfl⟩
    refine sp rfl <| sS (.bool b1) (Quiet.pure (exec_int .eql _ _ _ .i64 _ _ _ rfl rfl rfl (int_eql _ _ _ _ _ (by rw [hb1]; exact decide_eq_decide.2 (by omega))))) <| sp rfl ?_
    cases b1
    · have l1 : f.2.2 ≠ 0 := of_decide_eq_false hb1.symm
      rw [if_neg (fun h => l1 h.1)] at he
      rw [he]
      refine sN <| sN <| sN <| sN <| sN <| sN <| sN <| sN <| sN <| sN <| sP (.bool false) ?_
      refine sG ?_
      refine sU ?_
      refine Sy.skip ?_
      exact meet (all_cons kR (all_cons kR (all_cons kR (all_cons kR all_nil)))) (fun _ h => h)
    have l1 : f.2.2 = 0 := of_decide_eq_true hb1.symm
    obtain ⟨b2, hb2⟩ : ∃ z : Bool, z = decide (m - f.2.1 < f.1) := ⟨_, rfl⟩
    have l2 := (hy l1).2.1
    refine sp rfl <| sp rfl <| sp rfl <| sP (.pointer (some ⟨gr, 0, none⟩)) <| sS (.slice A m cp) (qc 0 0 rfl rfl Tryz.underlying27) <| sP (.int .i64 (m : Int)) <| sp rfl <| sS (.int .i64 ((m - f.2.1 : Nat) : Int)) (Quiet.pure (exec_int .sub _ _ _ .i64 _ _ _ rfl rfl rfl (int_sub _ _ _ _ _ ((wrap_i64 (by simp only [maxLen] at h4; omega) (by simp only [maxLen] at h4; omega)).trans (by omega))))) <| sS (.int .u64 ((m - f.2.1 : Nat) : Int)) (Quiet.pure (fun w => conv_i6 w _ _ _ (m - f.2.1) (by simp only [maxLen] at h4; omega) rfl rfl)) <| sS (.bool b2) (Quiet.pure (exec_int .gtr _ _ _ .u64 _ _ _ rfl rfl rfl (int_gtr _ _ _ _ _ (by rw [hb2]; exact decide_eq_decide.2 (by omega))))) <| sP (.bool b2) ?_
    refine sG ?_
    cases b2
    · have l3 : ¬ m - f.2.1 < f.1 := of_decide_eq_false hb2.symm
      rw [if_neg (fun h => l3 h.2)] at he
      rw [he]
      refine sU ?_
      refine Sy.skip ?_
      exact meet (all_cons kR (all_cons kR (all_cons kR (all_cons kR all_nil)))) (fun _ h => h)
    · have l3 : m - f.2.1 < f.1 := of_decide_eq_true hb2.symm
      rw [if_pos ⟨l1, l3⟩] at he
      rw [he]
      refine sT ?_
      refine Sy.region ?_
      refine sP (.int .i64 110) ?_
      refine Sy.nil ?_
      exact meet (all_cons kR (all_cons kR (all_cons kR (all_cons kR all_nil)))) (fun _ h => h)
  refine sB ?_
  refine sp rfl <| sp rfl <| sp rfl <| sp rfl <| sS (.int .i64 (f.1 : Int)) (Quiet.pure (fun w => conv_6i w _ _ _ f.1 (by omega) rfl rfl)) <| sS (.int .i64 ((f.2.1 + f.1 : Nat) : Int)) (Quiet.pure (exec_int .add _ _ _ .i64 _ _ _ rfl rfl rfl (int_add _ _ _ _ _ ((wrap_i64 (by omega) (by omega)).trans (by omega))))) <| sp rfl ?_
  refine Sy.callT (fun w hw => piece_any (textP most) w0.inn gr (.slice A m cp) s R S hS f.2.1 (f.2.1 + f.1) e he0 he2 hl (fun h => ?_) (fun h => ?_) hv0 w hw) (fun v M hM => ?_)
  · have hz : f.2.2 = 0 ∧ ¬ m - f.2.1 < f.1 := by
      by_cases h1 : f.2.2 = 0 ∧ m - f.2.1 < f.1
      · rw [if_pos h1] at he; omega
      · rw [if_neg h1] at he
        exact ⟨by omega, fun h2 => h1 ⟨by omega, h2⟩⟩
    obtain ⟨y1, y2, y3⟩ := hy hz.1
    refine ⟨Nat.le_add_right _ _, by omega, ?_⟩
    unfold textP
    rw [bind_some y1, Nat.add_sub_cancel_left, ← List.drop_drop]
    exact if_pos (by rw [List.length_drop]; omega)
  · by_cases h1 : f.2.2 = 0
    · have h3 : m - f.2.1 < f.1 := by
        by_cases h4 : m - f.2.1 < f.1
        · exact h4
        · rw [if_neg (fun h => h4 h.2)] at he; exact (h (by omega)).elim
      obtain ⟨y1, y2, y3⟩ := hy h1
      unfold textP
      rw [bind_some y1]
      exact if_neg (by rw [List.length_drop]; omega)
    · exact bind_none (hno h1)
  obtain ⟨x, s', sl', N, hA, ⟨hN, _⟩, r2, r3, r4, rfl⟩ := hM
  refine sp rfl ?_
  refine sG ?_
  refine Sy.ret ?_
  exact Sy.retT1 (RQ gr sl' s'.e (R ++ N)) rfl (.inl (show _ = _ by kernel_rfl)) (fun _ h => h) ⟨x, s', sl', N, hA, hN, r2, r3, r4, rfl⟩
def repY (C : Rdr) (cs : List Value) (b : Byt) : Prop := ∃ v, cs = [v] ∧ BytR C v b
theorem text_w (w0 : Base) (gc gw gx f : Nat) (bad : Bool) (s : Slc) (R : Blocks) (b x : Byt) (v : Value) (most : Nat) (hmo : most < 1000000) (hv : BytR (rdC w0 R) v x) (hc : rdC w0 R gx f v) (hb : BS s b) (hl : b.length + (9 + x.length) ≤ 70368744176000) (w : World) (hw : St w0 w (CWS gc gw bad s R)) :
    Calls Tryz.prog 106 #[ptr gc, .pointer (some ⟨gx, f, none⟩), .int .i64 (most : Int)] w (Turns w0 (WrC gc gw R (decide (x.length ≤ most)) (varB x.length ++ x) (9 + x.length) bad b)) := by
  have hv0 := hv
  obtain ⟨A, n, cp, rfl, h2, h3, h4, h5⟩ := hv
  have hn9 := varB_len x.length
  obtain ⟨ok, hok⟩ : ∃ ok, ok = decide (x.length ≤ most) := ⟨_, rfl⟩
  rw [← hok]
  rw [h2] at hok
  refine Sy.enterT (args := [ptr gc, .pointer (some ⟨gx, f, none⟩), .int .i64 (most : Int)]) hw Tryz.func106 rfl kL ?_
  refine sC ?_
  refine sp rfl <| sS (.bool false) (qg (fun w hw => reads_w w0.inn gc _ _ (List.mem_cons_self ..) w hw)) ?_
  refine sG ?_
  refine sU ?_
  refine sC ?_
  refine sp rfl <| sp rfl <| sp rfl <| sS (.slice A n cp) (cellC (R := R) hc inCW rfl Tryz.underlying27) <| sP (.int .i64 (n : Int)) <| sp rfl <| sS (.bool ok) (Quiet.pure (exec_int .leq _ _ _ .i64 _ _ _ rfl rfl rfl (int_leq _ _ _ _ _ (by rw [hok]; exact decide_eq_decide.2 (by omega))))) ?_
  refine Sy.callT (fun w hw => must_w w0.inn gc gw bad ok s R w hw) (fun u M hM => ?_)
  subst hM
  refine Sy.nil ?_
  refine Sy.then_ ?_
  refine Sy.regionD (fun j => j == 7) kR ?_
  refine sa 0 rfl rfl <| sa 1 rfl rfl <| sb 2 rfl (.pointer (some ⟨gc, 0, none⟩)) <| sD 3 rfl (ptr gw) (qc 0 0 rfl rfl Tryz.underlying151) <| sa 4 rfl rfl <| sa 5 rfl rfl <| sD 6 rfl (.slice A n cp) (cellC (R := R) hc inCW rfl Tryz.underlying27) ?_
  refine Sy.soleD 7 rfl (fun Q2 hq2 => ?_)
  refine Sy.callT (fun w hw => text_any w0.inn gw s ((gc, 155, #[ptr gw, .pointer none, .bool (bad || !ok)]) :: R) b x (.slice A n cp) (hv0.le (rdC_le (fun _ h => List.mem_cons_of_mem _ h))) hb (by omega) w (hw.perm permCW)) (fun u M hM => ?_)
  obtain ⟨s1, hs1, rfl⟩ := hM
  refine Sy.permS permCW.symm ?_
  refine hq2 _ _ ?_
  refine sE ?_
  have q := (Wrote.must ok bad b).then_ (Wrote.raw (varB x.length ++ x) (bad || !ok) b (k := 9 + x.length) (by rw [List.length_append]; omega))
  rw [Bool.and_true, List.nil_append, Nat.zero_add] at q
  exact Sy.retT0 rfl (CWS gc gw (bad || !ok) s1 R) (fun _ h => h) (fun _ => ⟨s1, bad || !ok, _, q, hs1, rfl⟩)
theorem text_r (most : Nat) (hmo : most < 1000000) (w0 : Base) (gc gr gx f : Nat) (tx : TypeId) (A Z : List Value) (sl : Value) (s : RS) (R S : Blocks) (hS : ∀ b ∈ S, b ∈ R) (hA : A.length = f) (he : s.e ≤ 200) (hl : s.rest.length ≤ 70368744177664) (hv : BytR (rdC w0 S) sl s.rest) (w : World) (hw : St w0 w (CRS gc gr gx tx (A ++ ([Value.slice none 0 0] ++ Z)) sl s.e R)) :
    Calls Tryz.prog 106 #[ptr gc, .pointer (some ⟨gx, f, none⟩), .int .i64 (most : Int)] w (Turns w0 (RdT 1 repY (textP most) w0 gc gr gx tx A Z s R S)) := by
  refine Sy.enterT (args := [ptr gc, .pointer (some ⟨gx, f, none⟩), .int .i64 (most : Int)]) hw Tryz.func106 rfl kL ?_
  refine sC ?_
  refine sp rfl <| sS (.bool true) (qg (fun w hw => reads_r w0.inn gc gr _ _ (List.mem_cons_self ..) w hw)) ?_
  refine sG ?_
  refine sT ?_
  refine Sy.region ?_
  refine sp rfl <| sp rfl <| sp rfl <| sP (.pointer (some ⟨gc, 1, none⟩)) <| sS (ptr gr) (qc 0 1 rfl rfl Tryz.underlying153) <| sp rfl ?_
  refine Sy.callT (fun w hw => text9_any w0.inn gr sl s ((gc, 155, #[.pointer none, ptr gr, .bool false]) :: (gx, tx, (A ++ ([Value.slice none 0 0] ++ Z)).toArray) :: R) S (fun b h => List.mem_cons_of_mem _ (List.mem_cons_of_mem _ (hS b h))) most hmo he hl hv w (hw.perm permCR)) (fun u M hM => ?_)
  obtain ⟨x, s', sl', N, q1, q2, q3, q4, q5, rfl⟩ := hM
  refine Sy.permS (M := CRS gc gr gx tx (A ++ ([Value.slice none 0 0] ++ Z)) sl' s'.e (R ++ N)) permCR.symm ?_
  have hc := q2.byt.cells
  refine sp rfl <| sw 1 rfl (A ++ ([u] ++ Z)).toArray (Writes.one f 27 u _ _ rfl kR kR kR hc.1 hc.2 (by rw [List.size_toArray, List.length_append, hA]; exact Nat.lt_add_of_pos_right (Nat.succ_pos _)) (set_mid hA)) ?_
  refine Sy.nil ?_
  exact Sy.retT0 rfl (CRS gc gr gx tx (A ++ ([u] ++ Z)) sl' s'.e (R ++ N)) (fun _ h => h) (fun _ => ⟨x, s', sl', [u], N, q1, rfl, fun y hy => by rw [List.mem_singleton.1 hy]; exact hc.2, ⟨u, rfl, q2.byt⟩, q3, q4, q5, rfl⟩)
end Go.Proofs.YtgemfpnlnipfnaaGreat.Wr

end
section
namespace Go.Proofs.YtgemfpnlnipfnaaGreat.Wr
open Go.RowKit Go.Proofs.YtgemfpnlnipfnaaGreat Go.Proofs.YtgemfpnlnipfnaaGreat.Sy
set_option maxRecDepth 100000
set_option maxHeartbeats 4000000

theorem must_r (w0 : Base) (gc gr : Nat) (sl : Value) (e : Nat) (he : e ≤ 200) (R : Blocks) (h : Bool) (w : World) (hw : St w0 w (CRN gc gr sl e R)) :
    Calls Tryz.prog 108 #[ptr gc, .bool h] w (Turns w0 (fun _ M => M = CRN gc gr sl (if h = true then e else if e = 0 then 120 else e) R)) := by
  refine Sy.enterT (args := [ptr gc, .bool h]) hw Tryz.func108 rfl kL ?_
  refine Sy.block ?_
  refine sC ?_
  refine sp rfl <| sp rfl ?_
  refine sG ?_
  cases h
  · rw [if_neg (by decide)]
    refine sU ?_
    refine sC ?_
    refine sp rfl <| sS (.bool true) (qg (fun w hw => reads_r w0.inn gc gr _ _ (List.mem_cons_self ..) w hw)) <| sp rfl ?_
    refine sG ?_
    refine sT ?_
    refine Sy.region ?_
    refine sp rfl <| sp rfl <| sP (.pointer (some ⟨gc, 1, none⟩)) <| sS (ptr gr) (qc 0 1 rfl rfl Tryz.underlying153) ?_
    refine Sy.callT (fun w hw => fail_any w0.inn gr sl e 120 he ((gc, 155, #[.pointer none, ptr gr, .bool false]) :: R) w (hw.perm (List.Perm.swap _ _ _))) (fun u M hM => ?_)
    subst hM
    refine Sy.permS (List.Perm.swap _ _ _) ?_
    refine Sy.nil ?_
    refine Sy.in_ ?_
    exact Sy.retT0 rfl (CRN gc gr sl (if e = 0 then 120 else e) R) (fun _ h => h) (fun _ => by rfl)
  · rw [if_pos rfl]
    refine sT ?_
    refine Sy.skip ?_
    refine Sy.in_ ?_
    exact Sy.retT0 rfl (CRN gc gr sl e R) (fun _ h => h) (fun _ => by rfl)
def OwnAt (R : Blocks) (gx f : Nat) (cs : List Value) : Prop := ∃ tx A Z, (gx, tx, (A ++ (cs ++ Z)).toArray) ∈ R ∧ A.length = f
theorem OwnAt.at {R : Blocks} {gx f : Nat} {cs : List Value} (h : OwnAt R gx f cs) (w0 : Base) : XAt (rdC w0 R) gx f cs := fun i u hu => by
  obtain ⟨tx, A, Z, hm, rfl⟩ := h
  refine .inr ⟨tx, _, hm, ?_⟩
  rw [List.getElem?_toArray, List.getElem?_append_right (by omega), Nat.add_sub_cancel_left, List.getElem?_append_left (List.getElem?_eq_some_iff.1 hu).1]
  exact hu
theorem OwnAt.left {R : Blocks} {gx f : Nat} {a b : List Value} (h : OwnAt R gx f (a ++ b)) : OwnAt R gx f a := by
  obtain ⟨tx, A, Z, hm, hA⟩ := h
  exact ⟨tx, A, b ++ Z, by rw [← List.append_assoc a]; exact hm, hA⟩
theorem OwnAt.right {R : Blocks} {gx f n : Nat} {a b : List Value} (h : OwnAt R gx f (a ++ b)) (hn : a.length = n) : OwnAt R gx (f + n) b := by
  obtain ⟨tx, A, Z, hm, hA⟩ := h
  exact ⟨tx, A ++ a, Z, by rw [List.append_assoc, ← List.append_assoc a]; exact hm, by rw [List.length_append, hA, hn]⟩
theorem swM {P : Program} {w0 : Base} {n : Nat} {ops : Array Oper} {Q : Exit → Act → World → Prop} {F : Slots} {L : Blocks} {l : List Oper} {o : Oper} {g : Nat} {t : TypeId} {cs : Array Value} (hm : (g, t, cs) ∈ L) (hw : Writes P F o g t cs cs) (h : wpS P w0 n ops Q (putF F o.dst undef) L l) (hg : good ops n F o = true := by kernel_rfl) : wpS P w0 n ops Q F L (o :: l) := by
  obtain ⟨i, hi⟩ := List.getElem?_of_mem hm
  refine Sy.write hg i g t cs cs hi hw ?_
  obtain ⟨hlt, he⟩ := List.getElem?_eq_some_iff.1 hi
  have e : L.set i (g, t, cs) = L := by rw [← he]; exact List.set_getElem_self hlt
  rw [e]
  exact h
theorem permB {b : Nat × TypeId × Array Value} {L : Blocks} : (b :: L).Perm (L ++ [b]) := List.perm_append_comm (l₁ := [b]) (l₂ := L)
def trB (x : Bool) : UInt8 := octB (if x = true then 1 else 0)
theorem truth_w (w0 : Base) (gc gw gx f : Nat) (bad : Bool) (s : Slc) (R : Blocks) (b : Byt) (x : Bool) (hc : OwnAt R gx f [.bool x]) (hb : BS s b) (hl : b.length + 1 ≤ 70368744177000) (w : World) (hw : St w0 w (CWS gc gw bad s R)) :
    Calls Tryz.prog 107 #[ptr gc, .pointer (some ⟨gx, f, none⟩)] w (Turns w0 (WrC gc gw R true [trB x] 1 bad b)) := by
  have hcell : rdC w0.inn R gx f (.bool x) := (hc.at w0.inn).one
  obtain ⟨tx, A, Z, hmem, hA⟩ := hc
  refine Sy.enterT (args := [ptr gc, .pointer (some ⟨gx, f, none⟩)]) hw Tryz.func107 rfl kL ?_
  refine sC ?_
  refine sM 3 #[.int .i64 0] (fun g4 => ?_)
  refine Sy.permS List.perm_append_comm ?_
  refine sw 0 rfl #[.int .i64 0] (wO 0 3 (.int .i64 0) rfl) ?_
  refine sG ?_
  obtain ⟨z, hz⟩ : ∃ z : Int, z = if x = true then 1 else 0 := ⟨_, rfl⟩
  have hz1 : decide (z ≤ 1) = true := by rw [hz]; cases x <;> rfl
  have hzx : x = decide (z = 1) := by rw [hz]; cases x <;> rfl
  have hzo : okO z = true := by rw [hz]; cases x <;> rfl
  refine Sy.seq ?_
  refine cutC [(0, ptr gc), (1, .pointer (some ⟨gx, f, none⟩)), (4, ptr g4)] ((g4, 3, #[.int .i64 z]) :: CWS gc gw bad s R) ?_ ?_
  · refine sC ?_
    refine sp rfl <| sp rfl <| sS (.bool x) (cellC (R := R) hcell (fun y hy => List.mem_cons_of_mem _ (inCW y hy)) rfl Tryz.underlying4) ?_
    refine sG ?_
    cases x
    · obtain rfl : z = 0 := hz
      refine sU ?_
      refine Sy.skip ?_
      exact meet (all_cons kR (all_cons kR (all_cons kR all_nil))) (fun _ h => h)
    · obtain rfl : z = 1 := hz
      refine sT ?_
      refine Sy.region ?_
      refine sw 0 rfl #[.int .i64 1] (wO 0 3 (.int .i64 1) rfl) ?_
      refine Sy.nil ?_
      exact meet (all_cons kR (all_cons kR (all_cons kR all_nil))) (fun _ h => h)
  refine sB ?_
  refine sp rfl ?_
  refine Sy.permS (M := CWS gc gw bad s (R ++ [(g4, 3, #[.int .i64 z])])) (permB.trans (List.Perm.of_eq eqCW)) ?_
  refine Sy.callT (fun w hw => octet_w w0.inn gc gw g4 0 bad s (R ++ [(g4, 3, #[.int .i64 z])]) b z (mem1 lastR) hb (by omega) w hw) (fun u M hM => ?_)
  obtain ⟨s1, bad1, b1, q1, q2, rfl⟩ := hM
  refine sA ?_
  refine sp rfl <| sS (.int .i64 z) (cellC (R := R ++ [(g4, 3, #[.int .i64 z])]) (mem1 lastR) inCW rfl Tryz.underlying3) <| sS (.bool true) (Quiet.pure (exec_int .leq _ _ _ .i64 _ _ _ rfl rfl rfl (int_leq _ _ _ _ _ (hz1)))) ?_
  refine Sy.callT (fun w hw => must_w w0.inn gc gw bad1 true s1 (R ++ [(g4, 3, #[.int .i64 z])]) w hw) (fun u M hM => ?_)
  subst hM
  rw [show (bad1 || !true) = bad1 by cases bad1 <;> rfl]
  refine Sy.nil ?_
  refine Sy.then_ ?_
  refine Sy.region ?_
  refine sp rfl <| sS (.int .i64 z) (cellC (R := R ++ [(g4, 3, #[.int .i64 z])]) (mem1 lastR) inCW rfl Tryz.underlying3) <| sS (.bool x) (Quiet.pure (exec_int .eql _ _ _ .i64 _ _ _ rfl rfl rfl (int_eql _ _ _ _ _ (hzx.symm)))) <| sp rfl ?_
  refine swM (inCW _ (inA hmem)) (Writes.one f 4 (.bool x) _ _ rfl kR kR kR rfl rfl (by rw [List.size_toArray, List.length_append, hA]; exact Nat.lt_add_of_pos_right (Nat.succ_pos _)) (set_mid hA)) ?_
  refine Sy.nil ?_
  rw [hzo, show octB z = trB x by rw [hz]; rfl] at q1
  exact Sy.retT0 rfl (CWS gc gw bad1 s1 R) (fun _ h => dropR h) (fun _ => ⟨s1, bad1, b1, q1, q2, rfl⟩)
def repTr (_ : Rdr) (cs : List Value) (b : Bool) : Prop := cs = [.bool b]
def truP : Ps Bool := bindP octP fun z => bindP (mustP (decide (z ≤ 1))) fun _ => retP (decide (z = 1))
theorem perm4 {a b c d : Nat × TypeId × Array Value} {R : Blocks} : (a :: b :: c :: d :: R).Perm (b :: a :: d :: c :: R) := by
  have h2 : ([a, b, c, d] ++ R).Perm ([b, a, d, c] ++ R) := (Sy.perm_at [1,0,3,2] (by kernel_rfl) (by rfl)).append_right R
  exact h2
theorem truth_r : GetC 107 1 [.bool false] repTr truP := fun w0 gc gr gx f tx A Z sl s R S hS hA he hl hv w hw => by
  refine Sy.enterT (args := [ptr gc, .pointer (some ⟨gx, f, none⟩)]) hw Tryz.func107 rfl kL ?_
  refine sC ?_
  refine sM 3 #[.int .i64 0] (fun g4 => ?_)
  refine Sy.permS List.perm_append_comm ?_
  refine sw 0 rfl #[.int .i64 0] (wO 0 3 (.int .i64 0) rfl) ?_
  refine sG ?_
  refine Sy.seq ?_
  refine sC ?_
  refine sp rfl <| sp rfl <| sS (.bool false) (Quiet.cell 2 gx f tx 4 (A ++ ([Value.bool false] ++ Z)).toArray _ _ rfl kR rfl Tryz.underlying4 rfl _ (by rw [List.getElem?_toArray, List.getElem?_append_right (by omega), hA, Nat.sub_self]; rfl)) ?_
  refine sG ?_
  refine sU ?_
  refine Sy.skip ?_
  refine sB ?_
  refine sp rfl ?_
  have p4 : ((g4, 3, #[Value.int .i64 0]) :: CRS gc gr gx tx (A ++ ([Value.bool false] ++ Z)) sl s.e R).Perm (CRS gc gr g4 3 ([] ++ ([Value.int .i64 0] ++ [])) sl s.e ((gx, tx, (A ++ ([Value.bool false] ++ Z)).toArray) :: R)) := perm4
  refine Sy.permS p4 ?_
  refine Sy.callT (fun w hw => octet_r w0.inn gc gr g4 0 3 [] [] sl s ((gx, tx, (A ++ ([Value.bool false] ++ Z)).toArray) :: R) S (fun b h => List.mem_cons_of_mem _ (hS b h)) rfl he hl hv w hw) (fun u M hM => ?_)
  obtain ⟨x1, s1, sl1, cs1, N1, a1, a2, a3, rfl, a5, a6, a7, rfl⟩ := hM
  obtain ⟨b1, hb1⟩ : ∃ b1 : Bool, b1 = decide (x1 ≤ 1) := ⟨_, rfl⟩
  obtain ⟨b2, hb2⟩ : ∃ b2 : Bool, b2 = decide (x1 = 1) := ⟨_, rfl⟩
  obtain ⟨e2, he2⟩ : ∃ e2, e2 = if b1 = true then s1.e else if s1.e = 0 then 120 else s1.e := ⟨_, rfl⟩
  refine sA ?_
  refine sp rfl <| sS (.int .i64 x1) (qc 1 0 rfl rfl Tryz.underlying3) <| sS (.bool b1) (Quiet.pure (exec_int .leq _ _ _ .i64 _ _ _ rfl rfl rfl (int_leq _ _ _ _ _ (hb1.symm)))) ?_
  refine Sy.permS (M := CRN gc gr sl1 s1.e ((g4, 3, ([] ++ ([Value.int .i64 x1] ++ [])).toArray) :: ((gx, tx, (A ++ ([Value.bool false] ++ Z)).toArray) :: (R ++ N1)))) swap23 ?_
  refine Sy.callT (fun w hw => must_r w0.inn gc gr sl1 s1.e a5 ((g4, 3, ([] ++ ([Value.int .i64 x1] ++ [])).toArray) :: ((gx, tx, (A ++ ([Value.bool false] ++ Z)).toArray) :: (R ++ N1))) b1 w hw) (fun u M hM => ?_)
  subst hM
  rw [← he2]
  refine Sy.nil ?_
  refine Sy.then_ ?_
  refine Sy.region ?_
  refine sp rfl <| sS (.int .i64 x1) (qc 2 0 rfl rfl Tryz.underlying3) <| sS (.bool b2) (Quiet.pure (exec_int .eql _ _ _ .i64 _ _ _ rfl rfl rfl (int_eql _ _ _ _ _ (hb2.symm)))) <| sp rfl <| sw 3 rfl (A ++ ([Value.bool b2] ++ Z)).toArray (Writes.one f 4 (.bool b2) _ _ rfl kR kR kR rfl rfl (by rw [List.size_toArray, List.length_append, hA]; exact Nat.lt_add_of_pos_right (Nat.succ_pos _)) (set_mid hA)) ?_
  refine Sy.nil ?_
  have hA2 : After truP s b2 ⟨s1.rest, e2⟩ := a1.bind (by
    rw [← hb1, ← hb2]
    cases b1
    · exact After.mustN b2 (by show e2 ≠ 0; rw [he2, if_neg (by decide)]; split <;> omega)
    · have e : (⟨s1.rest, e2⟩ : RS) = s1 := by rw [he2, if_pos rfl]
      rw [e]
      exact After.ret b2 s1)
  exact Sy.retT0 rfl (CRS gc gr gx tx (A ++ ([Value.bool b2] ++ Z)) sl1 e2 (R ++ N1)) (fun w h => Sy.St.parts (ls := [[(gc, 155, #[.pointer none, ptr gr, .bool false])], [(gr, 275, #[sl1, .int .i64 (e2 : Int)])], [(g4, 3, ([] ++ ([Value.int .i64 x1] ++ [])).toArray)], [(gx, tx, (A ++ ([Value.bool b2] ++ Z)).toArray)], R ++ N1]) (ms := [[(gc, 155, #[.pointer none, ptr gr, .bool false])], [(gx, tx, (A ++ ([Value.bool b2] ++ Z)).toArray)], [(gr, 275, #[sl1, .int .i64 (e2 : Int)])], R ++ N1]) [[(g4, 3, ([] ++ ([Value.int .i64 x1] ++ [])).toArray)]] [0, 3, 1, 4, 2] (by kernel_rfl) (by rfl) (by simp) (by simp) h) (fun _ => ⟨b2, ⟨s1.rest, e2⟩, sl1, [Value.bool b2], N1, hA2, rfl, fun u hu => by rw [List.mem_singleton.1 hu]; rfl, rfl, by show e2 ≤ 200; rw [he2]; split; exact a5; split <;> omega, a6, a7, rfl⟩)
end Go.Proofs.YtgemfpnlnipfnaaGreat.Wr

end
section
namespace Go.Proofs.YtgemfpnlnipfnaaGreat.Wr
open Go.RowKit Go.Proofs.YtgemfpnlnipfnaaGreat Go.Proofs.YtgemfpnlnipfnaaGreat.Sy
set_option maxRecDepth 100000
set_option maxHeartbeats 4000000

theorem Wrote.le {ok : Bool} {e : Byt} {k k' : Nat} {bad bad' : Bool} {b b' : Byt} (h : Wrote ok e k bad b bad' b') (hk : k ≤ k') : Wrote ok e k' bad b bad' b' := ⟨h.bad, h.bytes, by have := h.len; omega⟩
def PutO {α : Type} (fn : FuncId) (k : Nat) (rep : Rdr → List Value → α → Prop) (ok : α → Bool) (enc : α → Byt) (wt : α → Nat) : Prop :=
  ∀ (w0 : Base) (gc gw gx f : Nat) (bad : Bool) (s : Slc) (R : Blocks) (b : Byt) (cs : List Value) (x : α), rep (rdC w0 R) cs x → cs.length = k → OwnAt R gx f cs → BS s b → b.length + wt x ≤ 70368744170000 → ∀ w, St w0 w (CWS gc gw bad s R) →
    Calls Tryz.prog fn #[ptr gc, .pointer (some ⟨gx, f, none⟩)] w (Turns w0 (WrC gc gw R (ok x) (enc x) (wt x) bad b))
theorem ownX {R : Blocks} {g : Nat} {t : TypeId} {cs : List Value} (h : (g, t, cs.toArray) ∈ R) : OwnAt R g 0 cs := ⟨t, [], [], by rw [List.append_nil]; exact h, rfl⟩

end Go.Proofs.YtgemfpnlnipfnaaGreat.Wr

end
section
namespace Go.Proofs.YtgemfpnlnipfnaaGreat.Wr
open Go.RowKit Go.Proofs.YtgemfpnlnipfnaaGreat Go.Proofs.YtgemfpnlnipfnaaGreat.Sy
set_option maxRecDepth 100000
set_option maxHeartbeats 4000000

end Go.Proofs.YtgemfpnlnipfnaaGreat.Wr

end
section
namespace Go.Proofs.YtgemfpnlnipfnaaGreat.Cu
open Go.ChangeShapes Go.WideShapes Go.ChangeAt Go.RowKit Go.Proofs.YtgemfpnlnipfnaaGreat Go.Deep

theorem words_trod {H : Type} {enc : TypeId × Value → H} {P : Program} {W : World} {b : Nat} {sp : Nat → Bool} {held : Bool} {fuel : Nat} {t q : TypeId} {c0 c1 c2 c3 : Value} {x : DataW H × List MemPlace} (ht : P.underlying t = some (.array 4 q)) (hq : P.underlying q = some (.int .u64)) (hcq : P.cellsOf q = 1)
    (hf : DataW.trod enc P W b sp held fuel t [c0, c1, c2, c3] = some x) : ∃ n : Nat, n < K4 ∧ [c0, c1, c2, c3] = fws n := by
  obtain ⟨y0, y1, y2, y3, m, _, g0, g1, g2, g3⟩ := trod_array4 ht hcq hf
  obtain ⟨z0, e0, _, w0⟩ := DataW.trod_int hq g0
  obtain ⟨z1, e1, _, w1⟩ := DataW.trod_int hq g1
  obtain ⟨z2, e2, _, w2⟩ := DataW.trod_int hq g2
  obtain ⟨z3, e3, _, w3⟩ := DataW.trod_int hq g3
  obtain ⟨a, rfl, ha⟩ := u64_wf w0
  obtain ⟨b, rfl, hb⟩ := u64_wf w1
  obtain ⟨c, rfl, hc⟩ := u64_wf w2
  obtain ⟨e, rfl, he⟩ := u64_wf w3
  simp only [List.cons.injEq, and_true] at e0 e1 e2 e3
  subst e0 e1 e2 e3
  refine ⟨_, fv_lt a b c e ha hb hc he, ?_⟩
  have h := fv_mk a b c e ha hb hc he
  rw [fv_fws] at h
  injection h with h
  exact congrArg Array.toList h
end Go.Proofs.YtgemfpnlnipfnaaGreat.Cu

end
section
namespace Go.Proofs.YtgemfpnlnipfnaaGreat.Wr
open Go.RowKit Go.Proofs.YtgemfpnlnipfnaaGreat Go.Proofs.YtgemfpnlnipfnaaGreat.Sy
set_option maxRecDepth 100000
set_option maxHeartbeats 4000000

theorem passE {P : Program} {n : Nat} {F : Slots} {L : Blocks} {w0 : Base} {ops : Array Oper} {Q : Exit → Act → World → Prop} {ex : Nat → Bool} {fuel : Nat} {listed : Array Bool} (i : Nat) {oi : Oper} (hi0 : ops.toList[i]? = some oi) (h : wpD P w0 n ops Q ex (putF F oi.dst undef) L fuel (listed.setIfInBounds i true)) (hc : canTakeA .any ops listed i = true := by kernel_rfl) (hg : wantedF ops F oi = some false := by kernel_rfl) (hd : fits n oi.dst = true := by kernel_rfl)
    (hQ : ∀ c v a w, Q (.panic c) (a.put oi.dst v) w → Q (.panic c) a w := by exact fun _ _ _ _ h => h) : wpD P w0 n ops Q ex F L (fuel + 1) listed := fun a w ha hw =>
  wpAnyG_takeA i hi0 hc (fun c => hQ c undef) (fun w' => YieldsG.skip (ha.wanted hg)) (h _ _ (ha.put hd undef) hw)
theorem neq_pnt (w : World) (F : Slots) (o : Oper) (x y : Operand) (a b : Nat) (i : Bool) (c d : Nat) (j : Bool) {yt : TypeId} (ho : o.op = .binOp .neq 58 x y yt) (hx : evF F x = Cu.pv a b i) (hy : evF F y = Cu.pv c d j) (ha : a < Cu.K4) (hb : b < Cu.K4) (hc : c < Cu.K4) (hd : d < Cu.K4) : (execOp (evF F) o).run Tryz.prog w = .ok (.value (.bool (!Cu.sameB a b i c d j))) w := by
  have h1 := Cu.run_eqGuard_pv .neq x y a b i c d j w
  have h2 := Cu.run_eql_pv w a b i c d j ha hb hc hd
  have h3 : (binOp .neq 58 (Cu.pv a b i) (Cu.pv c d j)).run Tryz.prog w = .ok (.bool (!Cu.sameB a b i c d j)) w := by
    unfold Cu.pv at h2 ⊢
    rw [run_eql_struct] at h2
    rw [run_neq_struct]
    generalize (Op.equalIn 10000 58 (Value.agg (Cu.pcs a b i)) (Value.agg (Cu.pcs c d j))).run Tryz.prog w = r at h2 ⊢
    revert h2
    cases r <;> simp <;> intros <;> simp_all
  unfold execOp
  simp only [ho, hx, hy, Sem.run_bind, h1, h3, Result.andThen_ok, Sem.run_pure]
structure MPt where
  x : Nat
  y : Nat
  i : Bool
def lPT (p : MPt) : List Value := Cu.fws p.x ++ (Cu.fws p.y ++ [Value.bool p.i])
def repPT (_ : Rdr) (cs : List Value) (p : MPt) : Prop := cs = lPT p ∧ p.x < Cu.K4 ∧ p.y < Cu.K4
def okPT (p : MPt) : Bool := Cu.rightB p.x p.y p.i && !p.i
def encPT (p : MPt) : Byt := Cu.encS (Cu.dec p.x p.y p.i)
theorem encPT_len (p : MPt) : (encPT p).length = 33 := Cu.encS_length _
def mPt : Cu.Pt → MPt
  | none => ⟨0, 0, true⟩
  | some (x, y) => ⟨x.val, y.val, false⟩
theorem mPt_val (P : Cu.Pt) : Cu.ptv P = .agg (lPT (mPt P)).toArray := by cases P <;> rfl
theorem mPt_lt (P : Cu.Pt) : (mPt P).x < Cu.K4 ∧ (mPt P).y < Cu.K4 := by
  cases P with
  | none => exact ⟨by decide, by decide⟩
  | some p => exact ⟨Cu.lt4 p.1, Cu.lt4 p.2⟩
def ptP : Ps MPt := bindP (takeP 33) fun b => bindP (mustP (!(mPt (Cu.decP b)).i)) fun _ => retP (mPt (Cu.decP b))
theorem okPT_dec (b : Byt) : okPT (mPt (Cu.decP b)) = !(mPt (Cu.decP b)).i := by
  have hon := Cu.decP_on b
  unfold okPT
  cases hp : Cu.decP b with
  | none => rfl
  | some p =>
    rw [hp] at hon
    have h : Cu.rightB p.1.val p.2.val false = true := by
      unfold Cu.rightB
      rw [if_neg (by decide)]
      simp only [Bool.and_eq_true, decide_eq_true_eq]
      exact ⟨⟨p.1.isLt, p.2.isLt⟩, congrArg Fin.val hon⟩
    show (Cu.rightB p.1.val p.2.val false && !false) = _
    rw [h]
    rfl
theorem lPT_len (p : MPt) : (lPT p).length = 9 := rfl
theorem lPT_one (p : MPt) : ∀ u ∈ lPT p, u.oneCell' = true := fun u hu => by
  simp only [lPT, Cu.fws, List.mem_append, List.mem_cons, List.not_mem_nil, or_false] at hu
  rcases hu with ((rfl | rfl | rfl | rfl) | (rfl | rfl | rfl | rfl) | rfl) <;> rfl
theorem same_zero (x y : Nat) (i : Bool) (h : Cu.rightB x y i = true) : (!Cu.sameB x y i 0 0 true) = !i := by
  cases i with
  | false => unfold Cu.sameB; rw [show (false == true) = false from rfl, Bool.and_false, Bool.and_false]
  | true =>
    unfold Cu.rightB at h
    rw [if_pos rfl, Bool.and_eq_true, decide_eq_true_eq, decide_eq_true_eq] at h
    obtain ⟨rfl, rfl⟩ := h
    rfl
theorem ones_bW (x : Byt) : ∀ u ∈ x.map bv, u.oneCell' = true := fun u hu => by obtain ⟨y, _, rfl⟩ := List.mem_map.1 hu; rfl
theorem point_w : PutC 181 9 repPT okPT encPT (fun _ => 33) := fun w0 gc gw gx f bad s R b cs p hx _ hc hb hl w hw => by
  obtain ⟨rfl, h1, h2⟩ := hx
  obtain ⟨E, hE⟩ : ∃ E, E = encPT p := ⟨_, rfl⟩
  have hEl : E.length = 33 := by rw [hE]; exact encPT_len p
  have hEm : (E.map bv).length = 33 := by rw [List.length_map, hEl]
  rw [← hE]
  refine Sy.enterT (args := [ptr gc, .pointer (some ⟨gx, f, none⟩)]) hw Tryz.func181 rfl kL ?_
  refine sC ?_
  refine sp rfl <| sp rfl <| sS (Cu.pv p.x p.y p.i) (rowC (R := R) (cs := lPT p) hc inCW rfl rfl Tryz.underlying58) <| sS (.agg (E.map bv).toArray) (qg (fun w' _ => by rw [hE]; exact Cu.enc_any w' p.x p.y p.i h1 h2)) ?_
  refine sM 343 ((List.replicate 33 (0 : UInt8)).map bv).toArray (fun g4 => ?_)
  refine Sy.permS List.perm_append_comm ?_
  refine sw 0 rfl (E.map bv).toArray (Writes.row 343 (E.map bv) 33 _ _ rfl kR kR kR hEm (by kernel_rfl) (ones_bW E)) ?_
  refine Sy.permS (M := CWS gc gw bad s (R ++ [(g4, 343, (E.map bv).toArray)])) (permB.trans (List.Perm.of_eq eqCW)) ?_
  refine sA ?_
  refine sp rfl <| sP (.slice (some ⟨g4, 0, none⟩) 33 33) ?_
  refine Sy.callT (fun w hw => raw_w w0.inn gc gw bad s (R ++ [(g4, 343, (E.map bv).toArray)]) b E _ ((memX lastR).byt hEl (by decide)) hb (by rw [hEl]; omega) w hw) (fun u M hM => ?_)
  obtain ⟨s1, bad1, b1, q1, q2, rfl⟩ := hM
  rw [hEl] at q1
  refine sG ?_
  refine Sy.seq ?_
  refine sC ?_
  refine sp rfl <| sS (.bool false) (qg (fun w hw => reads_w w0.inn gc _ _ (List.mem_cons_self ..) w hw)) ?_
  refine sG ?_
  refine sU ?_
  refine Sy.skip ?_
  refine Sy.then_ ?_
  obtain ⟨b2, hb2⟩ : ∃ z, z = Cu.rightB p.x p.y p.i := ⟨_, rfl⟩
  have ld : ∀ {F : Slots} {L : Blocks} {o : Oper} {x : Operand}, (∀ y ∈ R, y ∈ L) → o.op = .load 58 x → evF F x = .pointer (some ⟨gx, f, none⟩) → Quiet Tryz.prog w0.inn F L o (Cu.pv p.x p.y p.i) := fun hR ho hx => rowC (R := R) (cs := lPT p) hc hR rfl ho Tryz.underlying58 hx
  refine Sy.regionD (fun j => j == 12) kR ?_
  refine sa 0 rfl rfl <| sa 1 rfl rfl <| sa 2 rfl rfl <| se 3 [4, 5, 6, 7, 8, 9, 10, 11, 12] rfl (Cu.pv p.x p.y p.i) (ld (fun y hy => inCW y (inA hy)) rfl rfl) <| se 4 [5, 6, 7, 8, 9, 10, 11, 12] rfl (.bool b2) (qg (fun w' _ => by rw [hb2]; exact Cu.right_b w' p.x p.y p.i h1 h2)) <| sa 5 rfl rfl ?_
  cases b2
  case' false =>
    have ho : okPT p = false := by unfold okPT; rw [← hb2]; rfl
    refine passE 6 rfl <| passE 7 rfl <| passE 8 rfl <| passE 9 rfl <| passE 10 rfl <| sb 11 rfl (.bool false) ?_
    refine Sy.soleD 12 rfl (fun Q2 hq2 => ?_)
    refine Sy.callT (fun w hw => must_w w0.inn gc gw bad1 false s1 (R ++ [(g4, 343, (E.map bv).toArray)]) w hw) (fun u M hM => ?_)
  case' true =>
    have ho : okPT p = !p.i := by unfold okPT; rw [← hb2]; rfl
    obtain ⟨b3, hb3⟩ : ∃ z, z = !p.i := ⟨_, rfl⟩
    refine sa 6 rfl rfl <| sa 7 rfl rfl <| se 8 [10, 11, 12] rfl (Cu.pv p.x p.y p.i) (ld (fun y hy => inCW y (inA hy)) rfl rfl) <| se 9 [10, 11, 12] rfl (Cu.pv 0 0 true) (qg (fun w' _ => Cu.zero_c w')) <| sv 10 rfl (.bool b3) (fun w' => by rw [hb3, ← same_zero p.x p.y p.i hb2.symm]; exact neq_pnt w' _ _ _ _ p.x p.y p.i 0 0 true rfl rfl rfl h1 h2 (by decide) (by decide)) <| sb 11 rfl (.bool b3) ?_
    refine Sy.soleD 12 rfl (fun Q2 hq2 => ?_)
    refine Sy.callT (fun w hw => must_w w0.inn gc gw bad1 b3 s1 (R ++ [(g4, 343, (E.map bv).toArray)]) w hw) (fun u M hM => ?_)
  all_goals
    subst hM
    refine hq2 _ _ ?_
    refine sE ?_
  · have q := q1.then_ (Wrote.must b3 bad1 b1)
    rw [Bool.true_and, List.append_nil, hb3, ← ho] at q
    exact Sy.retT0 rfl (CWS gc gw (bad1 || !b3) s1 R) (fun _ h => dropR h) (fun _ => ⟨s1, bad1 || !b3, b1, by rw [hb3, ← ho]; exact q, q2, rfl⟩)
  · have q := q1.then_ (Wrote.must false bad1 b1)
    rw [Bool.true_and, List.append_nil] at q
    exact Sy.retT0 rfl (CWS gc gw (bad1 || !false) s1 R) (fun _ h => dropR h) (fun _ => ⟨s1, bad1 || !false, b1, by rw [ho]; exact q, q2, rfl⟩)
end Go.Proofs.YtgemfpnlnipfnaaGreat.Wr

end
section
namespace Go.Proofs.YtgemfpnlnipfnaaGreat.Wr
open Go.RowKit Go.Proofs.YtgemfpnlnipfnaaGreat Go.Proofs.YtgemfpnlnipfnaaGreat.Sy
set_option maxRecDepth 100000
set_option maxHeartbeats 4000000

theorem wMd {P : Program} {F : Slots} {o : Oper} {g : Nat} {t : TypeId} (ty : TypeId) (A z v Z : List Value) (k f : Nat) (x y : Operand) (ho : o.op = .store ty x y) (hx : evF F x = .pointer (some ⟨g, f, none⟩)) (hy : evF F y = .agg v.toArray) (hi : (P.info? ty).map (·.size) = some k) (hA : A.length = f) (hz : z.length = k) (hv : v.length = k) (h1 : ∀ u ∈ v, u.oneCell' = true) : Sy.Writes P F o g t (A ++ (z ++ Z)).toArray (A ++ (v ++ Z)).toArray :=
  Sy.Writes.store f ty v.toArray x y ho hx hy (by rw [hi, List.size_toArray, hv]) (by rw [List.size_toArray, List.size_toArray, List.length_append, List.length_append]; omega) (by rw [List.all_toArray, List.all_eq_true]; exact h1) (by show setAll _ f v = _; exact setAll_mid hA (by omega))
theorem mid_cells {A v Z : List Value} {f k : Nat} (hA : A.length = f) (hv : v.length = k) : ((A ++ (v ++ Z)).drop f).take k = v := by
  subst hA hv
  rw [List.drop_left, List.take_left]
def repRw (n : Nat) (_ : Rdr) (cs : List Value) (b : Byt) : Prop := cs = b.map bv ∧ b.length = n
theorem rawN_r (n : Nat) (hn : n ≤ 1000000) (hn0 : 0 < n) (w0 : Base) (gc gr gx f : Nat) (tx : TypeId) (A Z : List Value) (y : Byt) (hy : y.length = n) (sl : Value) (s : RS) (R S : Blocks) (hS : ∀ b ∈ S, b ∈ R) (hA : A.length = f) (he : s.e ≤ 200) (hl : s.rest.length ≤ 70368744177664) (hv : BytR (rdC w0 S) sl s.rest) (w : World) (hw : St w0 w (CRS gc gr gx tx (A ++ (y.map bv ++ Z)) sl s.e R)) :
    Calls Tryz.prog 162 #[ptr gc, .slice (some ⟨gx, f, none⟩) n n] w (Turns w0 (RdT n (repRw n) (takeP n) w0 gc gr gx tx A Z s R S)) := by
  refine Sy.enterT (args := [ptr gc, .slice (some ⟨gx, f, none⟩) n n]) hw Tryz.func162 rfl kL ?_
  refine sC ?_
  refine sp rfl <| sS (.bool true) (qg (fun w hw => reads_r w0.inn gc gr _ _ (List.mem_cons_self ..) w hw)) ?_
  refine sG ?_
  refine sT ?_
  refine Sy.region ?_
  refine sp rfl <| sp rfl <| sp rfl <| sP (.pointer (some ⟨gc, 1, none⟩)) <| sS (ptr gr) (qc 0 1 rfl rfl Tryz.underlying153) <| sp rfl <| sP (.int .i64 (n : Int)) ?_
  refine Sy.callT (fun w hw => raw9_any w0.inn gr sl s ((gc, 155, #[.pointer none, ptr gr, .bool false]) :: (gx, tx, (A ++ (y.map bv ++ Z)).toArray) :: R) S (fun b h => List.mem_cons_of_mem _ (List.mem_cons_of_mem _ (hS b h))) n hn he hl hv w (hw.perm permCR)) (fun u M hM => ?_)
  obtain ⟨x, s', sl', N, q1, ⟨q2, q2'⟩, q3, q4, q5, rfl⟩ := hM
  refine Sy.permS (M := CRS gc gr gx tx (A ++ (y.map bv ++ Z)) sl' s'.e (R ++ N)) permCR.symm ?_
  have hyb : ∀ u ∈ y.map bv, u.oneCell' = true := ones_bW y
  rcases q2' with ⟨rfl, rfl, rfl⟩ | hx
  · refine sS (.int .i64 0) (Quiet.pure (fun w => copyNil w _ _ _ _ gx f n rfl rfl rfl)) ?_
    refine Sy.nil ?_
    exact Sy.retT0 rfl (CRS gc gr gx tx (A ++ (y.map bv ++ Z)) sl' s'.e (R ++ [])) (fun _ h => h) (fun _ => ⟨y, s', sl', y.map bv, [], q1.as (fun r hp => by have := (take_len hp).1; rw [List.length_nil] at this; omega), by rw [List.length_map, hy], hyb, ⟨rfl, hy⟩, q3, q4, q5, rfl⟩)
  · have hb := q2.byt
    obtain ⟨B, m, cp, rfl, h2, h3, h4, h5⟩ := hb
    obtain ⟨gb, ob, rfl, hq⟩ := h5 (by intro e; rw [e] at hx; rw [List.length_nil] at hx; omega)
    obtain rfl : n = m := by omega
    refine Sy.writeV kR 1 gx tx _ (A ++ (x.map bv ++ Z)).toArray (.int .i64 (n : Int)) rfl (copyC (R := N) _ _ 27 27 5 rfl Tryz.underlying27 kR 1 gx f n n tx _ _ rfl rfl gb ob n cp rfl x (fun j u hj => .inr (by
      rw [List.getElem?_map] at hj
      cases hxj : x[j]? with
      | none => rw [hxj] at hj; cases hj
      | some y => rw [hxj] at hj; cases hj; exact hq j y hxj)) (fun b h => inCR b (List.mem_append_right _ h)) hx rfl (by rw [List.size_toArray, List.length_append, List.length_append, hA, List.length_map, hy]; omega) (setAll_mid hA (by rw [List.length_map, List.length_map, hy, hx]))) ?_
    refine Sy.nil ?_
    exact Sy.retT0 rfl (CRS gc gr gx tx (A ++ (x.map bv ++ Z)) sl' s'.e (R ++ N)) (fun _ h => h) (fun _ => ⟨x, s', sl', x.map bv, N, q1, by rw [List.length_map, hx], fun u hu => by obtain ⟨y, _, rfl⟩ := List.mem_map.1 hu; rfl, ⟨rfl, hx⟩, q3, q4, q5, rfl⟩)
theorem point_r : GetC 181 9 (lPT ⟨0, 0, false⟩) repPT ptP := fun w0 gc gr gx f tx A Z sl s R S hS hA he hl hv w hw => by
  obtain ⟨E, hE⟩ : ∃ E, E = encPT ⟨0, 0, false⟩ := ⟨_, rfl⟩
  have hEl : E.length = 33 := by rw [hE]; exact encPT_len _
  have hEm : (E.map bv).length = 33 := by rw [List.length_map, hEl]
  refine Sy.enterT (args := [ptr gc, .pointer (some ⟨gx, f, none⟩)]) hw Tryz.func181 rfl kL ?_
  refine sC ?_
  refine sp rfl <| sp rfl <| sS (Cu.pv 0 0 false) (Quiet.mid 1 gx f 9 tx 58 (A ++ (lPT ⟨0, 0, false⟩ ++ Z)) (lPT ⟨0, 0, false⟩) _ _ rfl kR rfl Tryz.underlying58 rfl kR (mid_cells hA rfl) (by rw [List.length_append, List.length_append, hA, lPT_len]; omega)) <| sS (.agg (E.map bv).toArray) (qg (fun w' _ => by rw [hE]; exact Cu.enc_any w' 0 0 false (by decide) (by decide))) ?_
  refine sM 343 ((List.replicate 33 (0 : UInt8)).map bv).toArray (fun g4 => ?_)
  refine Sy.permS List.perm_append_comm ?_
  refine sw 0 rfl ([] ++ (E.map bv ++ [])).toArray (by rw [List.nil_append, List.append_nil]; exact Writes.row 343 (E.map bv) 33 _ _ rfl kR kR kR hEm (by kernel_rfl) (ones_bW E)) ?_
  refine sA ?_
  refine sp rfl <| sP (.slice (some ⟨g4, 0, none⟩) 33 33) ?_
  have p4 : ((g4, 343, ([] ++ (E.map bv ++ [])).toArray) :: CRS gc gr gx tx (A ++ (lPT ⟨0, 0, false⟩ ++ Z)) sl s.e R).Perm (CRS gc gr g4 343 ([] ++ (E.map bv ++ [])) sl s.e ((gx, tx, (A ++ (lPT ⟨0, 0, false⟩ ++ Z)).toArray) :: R)) := perm4
  refine Sy.permS p4 ?_
  refine Sy.callT (fun w hw => rawN_r 33 (by decide) (by decide) w0.inn gc gr g4 0 343 [] [] E hEl sl s ((gx, tx, (A ++ (lPT ⟨0, 0, false⟩ ++ Z)).toArray) :: R) S (fun b h => List.mem_cons_of_mem _ (hS b h)) rfl he hl hv w hw) (fun u M hM => ?_)
  obtain ⟨x, s1, sl1, cs1, N1, a1, a2, a3, ⟨rfl, a4⟩, a5, a6, a7, rfl⟩ := hM
  obtain ⟨m, hm⟩ : ∃ m, m = mPt (Cu.decP x) := ⟨_, rfl⟩
  have hlt := mPt_lt (Cu.decP x)
  have hokm := okPT_dec x
  rw [← hm] at hlt hokm
  refine sG ?_
  refine Sy.seq ?_
  refine sC ?_
  refine sp rfl <| sS (.bool true) (qg (fun w hw => reads_r w0.inn gc gr _ _ (List.mem_cons_self ..) w hw)) ?_
  refine sG ?_
  refine sT ?_
  refine Sy.region ?_
  refine sp rfl <| sP (.slice (some ⟨g4, 0, none⟩) 33 33) <| sS (.tuple #[.agg (lPT m).toArray, .bool (Cu.decOk x)]) (qg (fun w' hw' => by
    rw [hm, ← mPt_val]
    refine Cu.decode_any w' (some ⟨g4, 0, none⟩) x 33 33 a4 (fun _ => ?_) (Nat.le_refl _)
    have hf := rdB_world hw' (R := [(g4, 343, ([] ++ (x.map bv ++ [])).toArray)]) (fun y hy => by rw [List.mem_singleton.1 hy]; exact List.mem_cons_of_mem _ (List.mem_cons_self ..))
    have hc : ∀ j u, x[j]? = some u → g4 < w'.heap.size ∧ w'.cell? ⟨g4, 0 + j, none⟩ = some (bv u) := fun j u hu => hf _ _ _ ⟨343, _, List.mem_singleton.2 rfl, by rw [Nat.zero_add, List.getElem?_toArray, List.nil_append, List.append_nil, List.getElem?_map, hu]; rfl⟩
    exact ⟨g4, 0, rfl, (hc 0 _ (List.getElem?_eq_getElem (by omega))).1, fun j u hu => (hc j u hu).2⟩)) <| sp rfl <| sp rfl <| sp rfl <| sp rfl <| sw 3 rfl (A ++ (lPT m ++ Z)).toArray (wMd 58 A (lPT ⟨0, 0, false⟩) (lPT m) Z 9 f _ _ rfl kR kR kR hA rfl rfl (lPT_one m)) ?_
  refine Sy.nil ?_
  refine Sy.then_ ?_
  obtain ⟨b2, hb2⟩ : ∃ z, z = Cu.rightB m.x m.y m.i := ⟨_, rfl⟩
  obtain ⟨ok, hok⟩ : ∃ z, z = !m.i := ⟨_, rfl⟩
  obtain ⟨e2, he2⟩ : ∃ e2, e2 = if ok = true then s1.e else if s1.e = 0 then 120 else s1.e := ⟨_, rfl⟩
  have hA2 : After ptP s m ⟨s1.rest, e2⟩ := a1.bind (by
    rw [← hm, ← hok]
    cases ok
    · exact After.mustN m (by show e2 ≠ 0; rw [he2, if_neg (by decide)]; split <;> omega)
    · have e : (⟨s1.rest, e2⟩ : RS) = s1 := by rw [he2, if_pos rfl]
      rw [e]
      exact After.ret m s1)
  have he22 : e2 ≤ 200 := by rw [he2]; split; exact a5; split <;> omega
  have ld : ∀ {F : Slots} {o : Oper} {x' : Operand}, o.op = .load 58 x' → evF F x' = .pointer (some ⟨gx, f, none⟩) → Quiet Tryz.prog w0.inn F (CRS gc gr g4 343 ([] ++ (x.map bv ++ [])) sl1 s1.e ((gx, tx, (A ++ (lPT m ++ Z)).toArray) :: (R ++ N1))) o (Cu.pv m.x m.y m.i) := fun ho hx => Quiet.mid 3 gx f 9 tx 58 (A ++ (lPT m ++ Z)) (lPT m) _ _ ho hx rfl Tryz.underlying58 rfl kR (mid_cells hA rfl) (by rw [List.length_append, List.length_append, hA, lPT_len]; omega)
  have p5 : (CRS gc gr g4 343 ([] ++ (x.map bv ++ [])) sl1 s1.e ((gx, tx, (A ++ (lPT m ++ Z)).toArray) :: (R ++ N1))).Perm (CRN gc gr sl1 s1.e ((g4, 343, ([] ++ (x.map bv ++ [])).toArray) :: ((gx, tx, (A ++ (lPT m ++ Z)).toArray) :: (R ++ N1)))) := swap23
  refine Sy.regionD (fun j => j == 12) kR ?_
  refine sa 0 rfl rfl <| sa 1 rfl rfl <| sa 2 rfl rfl <| se 3 [4, 5, 6, 7, 8, 9, 10, 11, 12] rfl (Cu.pv m.x m.y m.i) (ld rfl kR) <| se 4 [5, 6, 7, 8, 9, 10, 11, 12] rfl (.bool b2) (qg (fun w' _ => by rw [hb2]; exact Cu.right_b w' m.x m.y m.i hlt.1 hlt.2)) <| sa 5 rfl rfl ?_
  cases b2
  case' false =>
    have ho : okPT m = false := by unfold okPT; rw [← hb2]; rfl
    obtain rfl : ok = false := by rw [hok, ← hokm, ho]
    refine passE 6 rfl <| passE 7 rfl <| passE 8 rfl <| passE 9 rfl <| passE 10 rfl <| sb 11 rfl (.bool false) ?_
    refine Sy.soleD 12 rfl (fun Q2 hq2 => ?_)
    refine Sy.permS p5 ?_
    refine Sy.callT (fun w hw => must_r w0.inn gc gr sl1 s1.e a5 ((g4, 343, ([] ++ (x.map bv ++ [])).toArray) :: ((gx, tx, (A ++ (lPT m ++ Z)).toArray) :: (R ++ N1))) false w hw) (fun u M hM => ?_)
  case' true =>
    refine sa 6 rfl rfl <| sa 7 rfl rfl <| se 8 [10, 11, 12] rfl (Cu.pv m.x m.y m.i) (ld rfl kR) <| se 9 [10, 11, 12] rfl (Cu.pv 0 0 true) (qg (fun w' _ => Cu.zero_c w')) <| sv 10 rfl (.bool ok) (fun w' => by rw [hok, ← same_zero m.x m.y m.i hb2.symm]; exact neq_pnt w' _ _ _ _ m.x m.y m.i 0 0 true rfl rfl rfl hlt.1 hlt.2 (by decide) (by decide)) <| sb 11 rfl (.bool ok) ?_
    refine Sy.soleD 12 rfl (fun Q2 hq2 => ?_)
    refine Sy.permS p5 ?_
    refine Sy.callT (fun w hw => must_r w0.inn gc gr sl1 s1.e a5 ((g4, 343, ([] ++ (x.map bv ++ [])).toArray) :: ((gx, tx, (A ++ (lPT m ++ Z)).toArray) :: (R ++ N1))) ok w hw) (fun u M hM => ?_)
  all_goals
    subst hM
    rw [← he2]
    refine hq2 _ _ ?_
    refine sE ?_
    exact Sy.retT0 rfl (CRS gc gr gx tx (A ++ (lPT m ++ Z)) sl1 e2 (R ++ N1)) (fun w h => Sy.St.parts (ls := [[(gc, 155, #[.pointer none, ptr gr, .bool false])], [(gr, 275, #[sl1, .int .i64 (e2 : Int)])], [(g4, 343, ([] ++ (x.map bv ++ [])).toArray)], [(gx, tx, (A ++ (lPT m ++ Z)).toArray)], R ++ N1]) (ms := [[(gc, 155, #[.pointer none, ptr gr, .bool false])], [(gx, tx, (A ++ (lPT m ++ Z)).toArray)], [(gr, 275, #[sl1, .int .i64 (e2 : Int)])], R ++ N1]) [[(g4, 343, ([] ++ (x.map bv ++ [])).toArray)]] [0, 3, 1, 4, 2] (by kernel_rfl) (by rfl) (by simp) (by simp) h) (fun _ => ⟨m, ⟨s1.rest, e2⟩, sl1, lPT m, N1, hA2, rfl, lPT_one m, ⟨rfl, hlt.1, hlt.2⟩, he22, a6, a7, rfl⟩)
end Go.Proofs.YtgemfpnlnipfnaaGreat.Wr

end
section
namespace Go.Proofs.YtgemfpnlnipfnaaGreat.Wr
open Go.RowKit Go.Proofs.YtgemfpnlnipfnaaGreat Go.Proofs.YtgemfpnlnipfnaaGreat.Sy
set_option maxRecDepth 100000
set_option maxHeartbeats 4000000

theorem eql_dgs (w : World) (F : Slots) (o : Oper) (x y : Operand) (a b : List UInt8) (ha : a.length = 32) (hb : b.length = 32) {yt : TypeId} (ho : o.op = .binOp .eql 37 x y yt) (hx : evF F x = .agg (a.map bv).toArray) (hy : evF F y = .agg (b.map bv).toArray) : (execOp (evF F) o).run Tryz.prog w = .ok (.value (.bool (decide (a = b)))) w := by
  have h1 : (eqGuard .eql 37 x y (.agg (a.map bv).toArray) (.agg (b.map bv).toArray)).run Tryz.prog w = .ok () w := by go_simp
  have h2 : (binOp .eql 37 (.agg (a.map bv).toArray) (.agg (b.map bv).toArray)).run Tryz.prog w = .ok (.bool (decide (a = b))) w := by
    have h := run_equalIn_bytes (P := Tryz.prog) w 9998 37 5 32 Tryz.underlying37 Tryz.underlying5 (fun W => by kernel_rfl) a b ha hb
    rw [run_eql_struct, show (10000 : Nat) = 9998 + 2 from rfl, show (Op.equalIn (9998 + 2) 37 (.agg (a.map bv).toArray) (.agg (b.map bv).toArray)).run Tryz.prog w = _ from h]
    by_cases e : a = b <;> simp [e]
  unfold execOp
  simp only [ho, hx, hy, Sem.run_bind, h1, h2, Result.andThen_ok, Sem.run_pure]
def z32 : Byt := List.replicate 32 0
def nulPT (p : MPt) : Bool := Cu.sameB p.x p.y p.i 0 0 false
structure MTag where
  blind : Bool
  id : Byt
  pt : MPt
def cTG (t : MTag) : List Value := [.bool t.blind] ++ (t.id.map bv ++ lPT t.pt)
def repTG (_ : Rdr) (cs : List Value) (t : MTag) : Prop := cs = cTG t ∧ t.id.length = 32 ∧ t.pt.x < Cu.K4 ∧ t.pt.y < Cu.K4
def okTG (t : MTag) : Bool := if t.blind = true then okPT t.pt && decide (t.id = z32) else nulPT t.pt
def encTG (t : MTag) : Byt := [trB t.blind] ++ (if t.blind = true then encPT t.pt else t.id)
def rdTG : Ps MTag := bindP truP fun b => if b = true then bindP ptP fun p => retP ⟨true, z32, p⟩ else bindP (takeP 32) fun d => retP ⟨false, d, ⟨0, 0, false⟩⟩
structure MAmt where
  blind : Bool
  value : Nat
  pt : MPt
def cAM (t : MAmt) : List Value := [.bool t.blind] ++ ([.int .u64 (t.value : Int)] ++ lPT t.pt)
def repAM (_ : Rdr) (cs : List Value) (t : MAmt) : Prop := cs = cAM t ∧ t.value < 18446744073709551616 ∧ t.pt.x < Cu.K4 ∧ t.pt.y < Cu.K4
def okAM (t : MAmt) : Bool := if t.blind = true then okPT t.pt && decide (t.value = 0) else nulPT t.pt
def encAM (t : MAmt) : Byt := [trB t.blind] ++ (if t.blind = true then encPT t.pt else nb 8 t.value)
def rdAM : Ps MAmt := bindP truP fun b => if b = true then bindP ptP fun p => retP ⟨true, 0, p⟩ else bindP (numP 8) fun d => retP ⟨false, d, ⟨0, 0, false⟩⟩
theorem tag_w : PutO 123 42 repTG okTG encTG (fun _ => 34) := fun w0 gc gw gx f bad s R b cs x hx _ hc hb hl w hw => by
  obtain ⟨bl, id, p⟩ := x
  obtain ⟨rfl, h1, h2, h3⟩ := hx
  dsimp only at h1 h2 h3 hl
  have e1 : (id.map bv).length = 32 := by rw [List.length_map, h1]
  have c0 : OwnAt R gx f ([.bool bl] ++ (id.map bv ++ lPT p)) := hc
  have c1 : OwnAt R gx (f + 1) (id.map bv ++ lPT p) := c0.right (n := 1) rfl
  have c2 : OwnAt R gx (f + 33) (lPT p) := by have q := c1.right e1; rwa [Nat.add_assoc] at q
  have X0 : rdC w0.inn R gx f (.bool bl) := (c0.at w0.inn).one
  have X1 : XAt (rdC w0.inn R) gx (f + 1) (id.map bv) := (c1.at w0.inn).left
  have X2 : XAt (rdC w0.inn R) gx (f + 33) (lPT p) := c2.at w0.inn
  refine Sy.enterT (args := [ptr gc, .pointer (some ⟨gx, f, none⟩)]) hw Tryz.func123 rfl kL ?_
  refine sC ?_
  refine sp rfl <| sp rfl <| sp rfl <| sP (.pointer (some ⟨gx, f, none⟩)) ?_
  refine Sy.callT (fun w hw => truth_w w0.inn gc gw gx f bad s R b bl c0.left hb (by omega) w hw) (fun u M hM => ?_)
  obtain ⟨s1, bad1, b1, q1, p1, rfl⟩ := hM
  have l1 := q1.len
  refine sA ?_
  refine sp rfl <| sp rfl <| sP (.pointer (some ⟨gx, f, none⟩)) <| sS (.bool bl) (cellC (R := R) X0 inCW rfl Tryz.underlying4) ?_
  refine sG ?_
  cases bl
  case' true =>
    refine sT ?_
    refine sC ?_
    refine sp rfl <| sp rfl <| sp rfl <| sP (.pointer (some ⟨gx, f + 33, none⟩)) ?_
    refine Sy.callT (fun w hw => point_w w0.inn gc gw gx (f + 33) bad1 s1 R b1 (lPT p) p ⟨rfl, h2, h3⟩ rfl X2 p1 (by show _ + 33 ≤ _; omega) w hw) (fun u M hM => ?_)
    obtain ⟨s2, bad2, b2, q2, p2, rfl⟩ := hM
    obtain ⟨ok, hok⟩ : ∃ z : Bool, z = decide (id = z32) := ⟨_, rfl⟩
    refine Sy.nil ?_
    refine Sy.then_ ?_
    refine Sy.region ?_
    refine sp rfl <| sp rfl <| sp rfl <| sP (.pointer (some ⟨gx, f + 1, none⟩)) <| sS (.agg (id.map bv).toArray) (rowC (R := R) (cs := id.map bv) X1 inCW e1 rfl Tryz.underlying37) <| sP (.agg (z32.map bv).toArray) <| sS (.bool ok) (Quiet.pure (fun w => by rw [hok]; exact eql_dgs w _ _ _ _ id z32 h1 rfl rfl rfl rfl)) ?_
    refine Sy.callT (fun w hw => must_w w0.inn gc gw bad2 ok s2 R w hw) (fun u M hM => ?_)
    subst hM
    refine Sy.nil ?_
    have q := q1.then_ (q2.then_ (Wrote.must ok bad2 b2))
    rw [Bool.true_and, List.append_nil, hok] at q
    exact Sy.retT0 rfl (CWS gc gw (bad2 || !ok) s2 R) (fun _ h => h) (fun _ => ⟨s2, bad2 || !ok, b2, by rw [hok]; exact q, p2, rfl⟩)
  refine sU ?_
  refine sC ?_
  refine sp rfl <| sp rfl <| sp rfl <| sP (.pointer (some ⟨gx, f + 1, none⟩)) ?_
  refine Sy.callT (fun w hw => digest_w w0.inn gc gw gx (f + 1) bad1 s1 R b1 id h1 X1 p1 (by omega) w hw) (fun u M hM => ?_)
  obtain ⟨s2, bad2, b2, q2, p2, rfl⟩ := hM
  obtain ⟨ok, hok⟩ : ∃ z : Bool, z = nulPT p := ⟨_, rfl⟩
  refine Sy.nil ?_
  refine Sy.then_ ?_
  refine Sy.region ?_
  refine sp rfl <| sp rfl <| sp rfl <| sP (.pointer (some ⟨gx, f + 33, none⟩)) <| sS (Cu.pv p.x p.y p.i) (rowC (R := R) (cs := lPT p) X2 inCW rfl rfl Tryz.underlying58) <| sP (Cu.pv 0 0 false) <| sS (.bool ok) (Quiet.pure (fun w => by rw [hok]; exact Cu.eql_pt w _ _ _ _ p.x p.y p.i 0 0 false rfl rfl rfl h2 h3 (by decide) (by decide))) ?_
  refine Sy.callT (fun w hw => must_w w0.inn gc gw bad2 ok s2 R w hw) (fun u M hM => ?_)
  subst hM
  refine Sy.nil ?_
  have q := (q1.then_ (q2.then_ (Wrote.must ok bad2 b2))).le (k' := 34) (by omega)
  rw [Bool.true_and, Bool.true_and, List.append_nil, hok] at q
  exact Sy.retT0 rfl (CWS gc gw (bad2 || !ok) s2 R) (fun _ h => h) (fun _ => ⟨s2, bad2 || !ok, b2, by rw [hok]; exact q, p2, rfl⟩)
theorem amount_w : PutO 124 11 repAM okAM encAM (fun _ => 34) := fun w0 gc gw gx f bad s R b cs x hx _ hc hb hl w hw => by
  obtain ⟨bl, va, p⟩ := x
  obtain ⟨rfl, h1, h2, h3⟩ := hx
  dsimp only at h1 h2 h3 hl
  have c0 : OwnAt R gx f ([.bool bl] ++ ([.int .u64 (va : Int)] ++ lPT p)) := hc
  have c1 : OwnAt R gx (f + 1) ([.int .u64 (va : Int)] ++ lPT p) := c0.right (n := 1) rfl
  have c2 : OwnAt R gx (f + 2) (lPT p) := c1.right (n := 1) rfl
  have X0 : rdC w0.inn R gx f (.bool bl) := (c0.at w0.inn).one
  have X1 : rdC w0.inn R gx (f + 1) (.int .u64 (va : Int)) := (c1.at w0.inn).one
  have X2 : XAt (rdC w0.inn R) gx (f + 2) (lPT p) := c2.at w0.inn
  refine Sy.enterT (args := [ptr gc, .pointer (some ⟨gx, f, none⟩)]) hw Tryz.func124 rfl kL ?_
  refine sC ?_
  refine sp rfl <| sp rfl <| sp rfl <| sP (.pointer (some ⟨gx, f, none⟩)) ?_
  refine Sy.callT (fun w hw => truth_w w0.inn gc gw gx f bad s R b bl c0.left hb (by omega) w hw) (fun u M hM => ?_)
  obtain ⟨s1, bad1, b1, q1, p1, rfl⟩ := hM
  have l1 := q1.len
  refine sA ?_
  refine sp rfl <| sp rfl <| sP (.pointer (some ⟨gx, f, none⟩)) <| sS (.bool bl) (cellC (R := R) X0 inCW rfl Tryz.underlying4) ?_
  refine sG ?_
  cases bl
  case' true =>
    refine sT ?_
    refine sC ?_
    refine sp rfl <| sp rfl <| sp rfl <| sP (.pointer (some ⟨gx, f + 2, none⟩)) ?_
    refine Sy.callT (fun w hw => point_w w0.inn gc gw gx (f + 2) bad1 s1 R b1 (lPT p) p ⟨rfl, h2, h3⟩ rfl X2 p1 (by show _ + 33 ≤ _; omega) w hw) (fun u M hM => ?_)
    obtain ⟨s2, bad2, b2, q2, p2, rfl⟩ := hM
    obtain ⟨ok, hok⟩ : ∃ z : Bool, z = decide (va = 0) := ⟨_, rfl⟩
    refine Sy.nil ?_
    refine Sy.then_ ?_
    refine Sy.region ?_
    refine sp rfl <| sp rfl <| sp rfl <| sP (.pointer (some ⟨gx, f + 1, none⟩)) <| sS (.int .u64 (va : Int)) (cellC (R := R) X1 inCW rfl Tryz.underlying22) <| sS (.bool ok) (Quiet.pure (exec_int .eql _ _ _ .u64 _ _ _ rfl rfl rfl (int_eql _ _ _ _ _ (by rw [hok]; exact decide_eq_decide.2 (by omega))))) ?_
    refine Sy.callT (fun w hw => must_w w0.inn gc gw bad2 ok s2 R w hw) (fun u M hM => ?_)
    subst hM
    refine Sy.nil ?_
    have q := q1.then_ (q2.then_ (Wrote.must ok bad2 b2))
    rw [Bool.true_and, List.append_nil, hok] at q
    exact Sy.retT0 rfl (CWS gc gw (bad2 || !ok) s2 R) (fun _ h => h) (fun _ => ⟨s2, bad2 || !ok, b2, by rw [hok]; exact q, p2, rfl⟩)
  refine sU ?_
  refine sC ?_
  refine sp rfl <| sp rfl <| sp rfl <| sP (.pointer (some ⟨gx, f + 1, none⟩)) ?_
  refine Sy.callT (fun w hw => long_w w0.inn gc gw gx (f + 1) bad1 s1 R b1 va h1 X1 p1 (by omega) w hw) (fun u M hM => ?_)
  obtain ⟨s2, bad2, b2, q2, p2, rfl⟩ := hM
  obtain ⟨ok, hok⟩ : ∃ z : Bool, z = nulPT p := ⟨_, rfl⟩
  refine Sy.nil ?_
  refine Sy.then_ ?_
  refine Sy.region ?_
  refine sp rfl <| sp rfl <| sp rfl <| sP (.pointer (some ⟨gx, f + 2, none⟩)) <| sS (Cu.pv p.x p.y p.i) (rowC (R := R) (cs := lPT p) X2 inCW rfl rfl Tryz.underlying58) <| sP (Cu.pv 0 0 false) <| sS (.bool ok) (Quiet.pure (fun w => by rw [hok]; exact Cu.eql_pt w _ _ _ _ p.x p.y p.i 0 0 false rfl rfl rfl h2 h3 (by decide) (by decide))) ?_
  refine Sy.callT (fun w hw => must_w w0.inn gc gw bad2 ok s2 R w hw) (fun u M hM => ?_)
  subst hM
  refine Sy.nil ?_
  have q := (q1.then_ (q2.then_ (Wrote.must ok bad2 b2))).le (k' := 34) (by omega)
  rw [Bool.true_and, Bool.true_and, List.append_nil, hok] at q
  exact Sy.retT0 rfl (CWS gc gw (bad2 || !ok) s2 R) (fun _ h => h) (fun _ => ⟨s2, bad2 || !ok, b2, by rw [hok]; exact q, p2, rfl⟩)
end Go.Proofs.YtgemfpnlnipfnaaGreat.Wr

end
section
namespace Go.Proofs.YtgemfpnlnipfnaaGreat.Wr
open Go.RowKit Go.Proofs.YtgemfpnlnipfnaaGreat Go.Proofs.YtgemfpnlnipfnaaGreat.Sy
set_option maxRecDepth 100000
set_option maxHeartbeats 4000000

theorem mid_fit {A v Z : List Value} {f k : Nat} (hA : A.length = f) (hv : v.length = k) : f + k ≤ (A ++ (v ++ Z)).length := by rw [List.length_append, List.length_append, hA, hv]; omega
theorem tag_r : GetC 123 42 ([Value.bool false] ++ (Z32 ++ lPT ⟨0, 0, false⟩)) repTG rdTG := fun w0 gc gr gx f tx A Z sl s R S hS hA he hl hv w hw => by
  refine Sy.enterT (args := [ptr gc, .pointer (some ⟨gx, f, none⟩)]) hw Tryz.func123 rfl kL ?_
  refine sC ?_
  refine sp rfl <| sp rfl <| sp rfl <| sP (.pointer (some ⟨gx, f, none⟩)) ?_
  refine Sy.callT (fun w hw => truth_r w0.inn gc gr gx f tx A (Z32 ++ (lPT ⟨0, 0, false⟩ ++ Z)) sl s R S hS hA he hl hv w (by simpa only [List.append_assoc] using hw)) (fun u M hM => ?_)
  obtain ⟨x1, s1, sl1, cs1, N1, a1, n1, o1, rfl, e1, h1, y1, rfl⟩ := hM
  have hS1 : ∀ b ∈ S, b ∈ R ++ N1 := fun b h => List.mem_append_left _ (hS b h)
  refine sA ?_
  refine sp rfl <| sp rfl <| sP (.pointer (some ⟨gx, f, none⟩)) <| sS (.bool x1) (Quiet.cell 1 gx f tx 4 (A ++ ([Value.bool x1] ++ (Z32 ++ (lPT ⟨0, 0, false⟩ ++ Z)))).toArray _ _ rfl kR rfl Tryz.underlying4 rfl _ (by rw [List.getElem?_toArray, List.getElem?_append_right (by omega), hA, Nat.sub_self]; rfl)) ?_
  refine sG ?_
  cases x1
  case' true =>
    have A1 : (A ++ [Value.bool true]).length = f + 1 := by rw [List.length_append, hA]; rfl
    have A2 : (A ++ [Value.bool true] ++ Z32).length = f + 33 := by rw [List.length_append, A1, Z32_len]
    refine sT ?_
    refine sC ?_
    refine sp rfl <| sp rfl <| sp rfl <| sP (.pointer (some ⟨gx, f + 33, none⟩)) ?_
    refine Sy.callT (fun w hw => point_r w0.inn gc gr gx (f + 33) tx (A ++ [Value.bool true] ++ Z32) Z sl1 s1 (R ++ N1) S hS1 A2 e1 (Nat.le_trans h1 hl) y1 w (by simpa only [List.append_assoc] using hw)) (fun u M hM => ?_)
    obtain ⟨m, s2, sl2, cs2, N2, a2, n2, o2, ⟨rfl, b1, b2⟩, e2, h2, y2, rfl⟩ := hM
    refine Sy.permS (M := CRS gc gr gx tx ((A ++ [Value.bool true]) ++ (Z32 ++ (lPT m ++ Z))) sl2 s2.e (R ++ N1 ++ N2)) (List.Perm.of_eq (by rw [List.append_assoc (A ++ [Value.bool true])])) ?_
    refine Sy.nil ?_
    refine Sy.then_ ?_
    refine Sy.region ?_
    refine sp rfl <| sp rfl <| sp rfl <| sP (.pointer (some ⟨gx, f + 1, none⟩)) <| sS (.agg (z32.map bv).toArray) (Quiet.mid 1 gx (f + 1) 32 tx 37 ((A ++ [Value.bool true]) ++ (Z32 ++ (lPT m ++ Z))) Z32 _ _ rfl kR rfl Tryz.underlying37 rfl kR (mid_cells A1 Z32_len) (mid_fit A1 Z32_len)) <| sP (.agg (z32.map bv).toArray) <| sS (.bool true) (Quiet.pure (fun w => (eql_dgs w _ _ _ _ z32 z32 rfl rfl rfl rfl rfl).trans (by rw [decide_eq_true rfl]))) ?_
    have p5 : (CRS gc gr gx tx ((A ++ [Value.bool true]) ++ (Z32 ++ (lPT m ++ Z))) sl2 s2.e (R ++ N1 ++ N2)).Perm (CRN gc gr sl2 s2.e ((gx, tx, ((A ++ [Value.bool true]) ++ (Z32 ++ (lPT m ++ Z))).toArray) :: (R ++ N1 ++ N2))) := swap23
    refine Sy.permS p5 ?_
    refine Sy.callT (fun w hw => must_r w0.inn gc gr sl2 s2.e e2 ((gx, tx, ((A ++ [Value.bool true]) ++ (Z32 ++ (lPT m ++ Z))).toArray) :: (R ++ N1 ++ N2)) true w hw) (fun u M hM => ?_)
    subst hM
    rw [if_pos rfl]
    refine Sy.permS p5.symm ?_
    refine Sy.nil ?_
    have hAf : After rdTG s ⟨true, z32, m⟩ s2 := a1.bind (by rw [if_pos rfl]; exact a2.bind (After.ret _ _))
    have hLn : ([Value.bool true] ++ (Z32 ++ lPT m)).length = 42 := rfl
    have hOn : ∀ u ∈ ([Value.bool true] ++ (Z32 ++ lPT m)), u.oneCell' = true := ones_app o1 (ones_app (ones_bW z32) o2)
    exact Sy.retT0 rfl (CRS gc gr gx tx (A ++ (([Value.bool true] ++ (Z32 ++ lPT m)) ++ Z)) sl2 s2.e (R ++ (N1 ++ N2))) (fun _ h => by simpa only [List.append_assoc, List.cons_append, List.nil_append] using h) (fun _ => ⟨_, s2, sl2, _, N1 ++ N2, hAf, hLn, hOn, ⟨rfl, rfl, b1, b2⟩, e2, Nat.le_trans h2 h1, y2, rfl⟩)
  have A1 : (A ++ [Value.bool false]).length = f + 1 := by rw [List.length_append, hA]; rfl
  refine sU ?_
  refine sC ?_
  refine sp rfl <| sp rfl <| sp rfl <| sP (.pointer (some ⟨gx, f + 1, none⟩)) ?_
  refine Sy.callT (fun w hw => digest_r w0.inn gc gr gx (f + 1) tx (A ++ [Value.bool false]) (lPT ⟨0, 0, false⟩ ++ Z) sl1 s1 (R ++ N1) S hS1 A1 e1 (Nat.le_trans h1 hl) y1 w (by simpa only [List.append_assoc] using hw)) (fun u M hM => ?_)
  obtain ⟨m, s2, sl2, cs2, N2, a2, n2, o2, ⟨rfl, b1⟩, e2, h2, y2, rfl⟩ := hM
  have A2 : (A ++ [Value.bool false] ++ m.map bv).length = f + 33 := by rw [List.length_append, A1, n2]
  refine Sy.permS (M := CRS gc gr gx tx ((A ++ [Value.bool false] ++ m.map bv) ++ (lPT ⟨0, 0, false⟩ ++ Z)) sl2 s2.e (R ++ N1 ++ N2)) (List.Perm.of_eq (by rw [List.append_assoc (A ++ [Value.bool false])])) ?_
  refine Sy.nil ?_
  refine Sy.then_ ?_
  refine Sy.region ?_
  refine sp rfl <| sp rfl <| sp rfl <| sP (.pointer (some ⟨gx, f + 33, none⟩)) <| sS (Cu.pv 0 0 false) (Quiet.mid 1 gx (f + 33) 9 tx 58 ((A ++ [Value.bool false] ++ m.map bv) ++ (lPT ⟨0, 0, false⟩ ++ Z)) (lPT ⟨0, 0, false⟩) _ _ rfl kR rfl Tryz.underlying58 rfl kR (mid_cells A2 rfl) (mid_fit A2 rfl)) <| sP (Cu.pv 0 0 false) <| sS (.bool true) (Quiet.pure (fun w => Cu.eql_pt w _ _ _ _ 0 0 false 0 0 false rfl rfl rfl (by decide) (by decide) (by decide) (by decide))) ?_
  have p5 : (CRS gc gr gx tx ((A ++ [Value.bool false] ++ m.map bv) ++ (lPT ⟨0, 0, false⟩ ++ Z)) sl2 s2.e (R ++ N1 ++ N2)).Perm (CRN gc gr sl2 s2.e ((gx, tx, ((A ++ [Value.bool false] ++ m.map bv) ++ (lPT ⟨0, 0, false⟩ ++ Z)).toArray) :: (R ++ N1 ++ N2))) := swap23
  refine Sy.permS p5 ?_
  refine Sy.callT (fun w hw => must_r w0.inn gc gr sl2 s2.e e2 ((gx, tx, ((A ++ [Value.bool false] ++ m.map bv) ++ (lPT ⟨0, 0, false⟩ ++ Z)).toArray) :: (R ++ N1 ++ N2)) true w hw) (fun u M hM => ?_)
  subst hM
  rw [if_pos rfl]
  refine Sy.permS p5.symm ?_
  refine Sy.nil ?_
  · have hAf : After rdTG s ⟨false, m, ⟨0, 0, false⟩⟩ s2 := a1.bind (by rw [if_neg (by decide)]; exact a2.bind (After.ret _ _))
    have hLn : ([Value.bool false] ++ (m.map bv ++ lPT ⟨0, 0, false⟩)).length = 42 := by rw [List.length_append, List.length_append, n2]; rfl
    have hOn : ∀ u ∈ ([Value.bool false] ++ (m.map bv ++ lPT ⟨0, 0, false⟩)), u.oneCell' = true := ones_app o1 (ones_app o2 (lPT_one _))
    exact Sy.retT0 rfl (CRS gc gr gx tx (A ++ (([Value.bool false] ++ (m.map bv ++ lPT ⟨0, 0, false⟩)) ++ Z)) sl2 s2.e (R ++ (N1 ++ N2))) (fun _ h => by simpa only [List.append_assoc, List.cons_append, List.nil_append] using h) (fun _ => ⟨_, s2, sl2, _, N1 ++ N2, hAf, hLn, hOn, ⟨rfl, b1, (show 0 < Cu.K4 by decide), (show 0 < Cu.K4 by decide)⟩, e2, Nat.le_trans h2 h1, y2, rfl⟩)

theorem amount_r : GetC 124 11 ([Value.bool false] ++ ([Value.int .u64 0] ++ lPT ⟨0, 0, false⟩)) repAM rdAM := fun w0 gc gr gx f tx A Z sl s R S hS hA he hl hv w hw => by
  refine Sy.enterT (args := [ptr gc, .pointer (some ⟨gx, f, none⟩)]) hw Tryz.func124 rfl kL ?_
  refine sC ?_
  refine sp rfl <| sp rfl <| sp rfl <| sP (.pointer (some ⟨gx, f, none⟩)) ?_
  refine Sy.callT (fun w hw => truth_r w0.inn gc gr gx f tx A ([Value.int .u64 0] ++ (lPT ⟨0, 0, false⟩ ++ Z)) sl s R S hS hA he hl hv w (by simpa only [List.append_assoc] using hw)) (fun u M hM => ?_)
  obtain ⟨x1, s1, sl1, cs1, N1, a1, n1, o1, rfl, e1, h1, y1, rfl⟩ := hM
  have hS1 : ∀ b ∈ S, b ∈ R ++ N1 := fun b h => List.mem_append_left _ (hS b h)
  refine sA ?_
  refine sp rfl <| sp rfl <| sP (.pointer (some ⟨gx, f, none⟩)) <| sS (.bool x1) (Quiet.cell 1 gx f tx 4 (A ++ ([Value.bool x1] ++ ([Value.int .u64 0] ++ (lPT ⟨0, 0, false⟩ ++ Z)))).toArray _ _ rfl kR rfl Tryz.underlying4 rfl _ (by rw [List.getElem?_toArray, List.getElem?_append_right (by omega), hA, Nat.sub_self]; rfl)) ?_
  refine sG ?_
  cases x1
  case' true =>
    have A1 : (A ++ [Value.bool true]).length = f + 1 := by rw [List.length_append, hA]; rfl
    have A2 : (A ++ [Value.bool true] ++ [Value.int .u64 0]).length = f + 2 := by rw [List.length_append, A1]; rfl
    refine sT ?_
    refine sC ?_
    refine sp rfl <| sp rfl <| sp rfl <| sP (.pointer (some ⟨gx, f + 2, none⟩)) ?_
    refine Sy.callT (fun w hw => point_r w0.inn gc gr gx (f + 2) tx (A ++ [Value.bool true] ++ [Value.int .u64 0]) Z sl1 s1 (R ++ N1) S hS1 A2 e1 (Nat.le_trans h1 hl) y1 w (by simpa only [List.append_assoc] using hw)) (fun u M hM => ?_)
    obtain ⟨m, s2, sl2, cs2, N2, a2, n2, o2, ⟨rfl, b1, b2⟩, e2, h2, y2, rfl⟩ := hM
    refine Sy.permS (M := CRS gc gr gx tx ((A ++ [Value.bool true]) ++ ([Value.int .u64 0] ++ (lPT m ++ Z))) sl2 s2.e (R ++ N1 ++ N2)) (List.Perm.of_eq (by rw [List.append_assoc (A ++ [Value.bool true])])) ?_
    refine Sy.nil ?_
    refine Sy.then_ ?_
    refine Sy.region ?_
    refine sp rfl <| sp rfl <| sp rfl <| sP (.pointer (some ⟨gx, f + 1, none⟩)) <| sS (.int .u64 0) (Quiet.cell 1 gx (f + 1) tx 22 ((A ++ [Value.bool true]) ++ ([Value.int .u64 0] ++ (lPT m ++ Z))).toArray _ _ rfl kR rfl Tryz.underlying22 rfl _ (by rw [List.getElem?_toArray, List.getElem?_append_right (by omega), A1, Nat.sub_self]; rfl)) <| sP (.bool true) ?_
    have p5 : (CRS gc gr gx tx ((A ++ [Value.bool true]) ++ ([Value.int .u64 0] ++ (lPT m ++ Z))) sl2 s2.e (R ++ N1 ++ N2)).Perm (CRN gc gr sl2 s2.e ((gx, tx, ((A ++ [Value.bool true]) ++ ([Value.int .u64 0] ++ (lPT m ++ Z))).toArray) :: (R ++ N1 ++ N2))) := swap23
    refine Sy.permS p5 ?_
    refine Sy.callT (fun w hw => must_r w0.inn gc gr sl2 s2.e e2 ((gx, tx, ((A ++ [Value.bool true]) ++ ([Value.int .u64 0] ++ (lPT m ++ Z))).toArray) :: (R ++ N1 ++ N2)) true w hw) (fun u M hM => ?_)
    subst hM
    rw [if_pos rfl]
    refine Sy.permS p5.symm ?_
    refine Sy.nil ?_
    have hAf : After rdAM s ⟨true, 0, m⟩ s2 := a1.bind (by rw [if_pos rfl]; exact a2.bind (After.ret _ _))
    have hLn : ([Value.bool true] ++ ([Value.int .u64 0] ++ lPT m)).length = 11 := rfl
    have hOn : ∀ u ∈ ([Value.bool true] ++ ([Value.int .u64 0] ++ lPT m)), u.oneCell' = true := ones_app o1 (ones_app (fun u hu => by rw [List.mem_singleton.1 hu]; rfl) o2)
    exact Sy.retT0 rfl (CRS gc gr gx tx (A ++ (([Value.bool true] ++ ([Value.int .u64 0] ++ lPT m)) ++ Z)) sl2 s2.e (R ++ (N1 ++ N2))) (fun _ h => by simpa only [List.append_assoc, List.cons_append, List.nil_append] using h) (fun _ => ⟨_, s2, sl2, _, N1 ++ N2, hAf, hLn, hOn, ⟨rfl, (show (0 : Nat) < 18446744073709551616 by decide), b1, b2⟩, e2, Nat.le_trans h2 h1, y2, rfl⟩)
  have A1 : (A ++ [Value.bool false]).length = f + 1 := by rw [List.length_append, hA]; rfl
  refine sU ?_
  refine sC ?_
  refine sp rfl <| sp rfl <| sp rfl <| sP (.pointer (some ⟨gx, f + 1, none⟩)) ?_
  refine Sy.callT (fun w hw => long_r w0.inn gc gr gx (f + 1) tx (A ++ [Value.bool false]) (lPT ⟨0, 0, false⟩ ++ Z) sl1 s1 (R ++ N1) S hS1 A1 e1 (Nat.le_trans h1 hl) y1 w (by simpa only [List.append_assoc] using hw)) (fun u M hM => ?_)
  obtain ⟨m, s2, sl2, cs2, N2, a2, n2, o2, ⟨rfl, b1⟩, e2, h2, y2, rfl⟩ := hM
  have A2 : (A ++ [Value.bool false] ++ [Value.int .u64 (m : Int)]).length = f + 2 := by rw [List.length_append, A1, n2]
  refine Sy.permS (M := CRS gc gr gx tx ((A ++ [Value.bool false] ++ [Value.int .u64 (m : Int)]) ++ (lPT ⟨0, 0, false⟩ ++ Z)) sl2 s2.e (R ++ N1 ++ N2)) (List.Perm.of_eq (by rw [List.append_assoc (A ++ [Value.bool false])])) ?_
  refine Sy.nil ?_
  refine Sy.then_ ?_
  refine Sy.region ?_
  refine sp rfl <| sp rfl <| sp rfl <| sP (.pointer (some ⟨gx, f + 2, none⟩)) <| sS (Cu.pv 0 0 false) (Quiet.mid 1 gx (f + 2) 9 tx 58 ((A ++ [Value.bool false] ++ [Value.int .u64 (m : Int)]) ++ (lPT ⟨0, 0, false⟩ ++ Z)) (lPT ⟨0, 0, false⟩) _ _ rfl kR rfl Tryz.underlying58 rfl kR (mid_cells A2 rfl) (mid_fit A2 rfl)) <| sP (Cu.pv 0 0 false) <| sS (.bool true) (Quiet.pure (fun w => Cu.eql_pt w _ _ _ _ 0 0 false 0 0 false rfl rfl rfl (by decide) (by decide) (by decide) (by decide))) ?_
  have p5 : (CRS gc gr gx tx ((A ++ [Value.bool false] ++ [Value.int .u64 (m : Int)]) ++ (lPT ⟨0, 0, false⟩ ++ Z)) sl2 s2.e (R ++ N1 ++ N2)).Perm (CRN gc gr sl2 s2.e ((gx, tx, ((A ++ [Value.bool false] ++ [Value.int .u64 (m : Int)]) ++ (lPT ⟨0, 0, false⟩ ++ Z)).toArray) :: (R ++ N1 ++ N2))) := swap23
  refine Sy.permS p5 ?_
  refine Sy.callT (fun w hw => must_r w0.inn gc gr sl2 s2.e e2 ((gx, tx, ((A ++ [Value.bool false] ++ [Value.int .u64 (m : Int)]) ++ (lPT ⟨0, 0, false⟩ ++ Z)).toArray) :: (R ++ N1 ++ N2)) true w hw) (fun u M hM => ?_)
  subst hM
  rw [if_pos rfl]
  refine Sy.permS p5.symm ?_
  refine Sy.nil ?_
  · have hAf : After rdAM s ⟨false, m, ⟨0, 0, false⟩⟩ s2 := a1.bind (by rw [if_neg (by decide)]; exact a2.bind (After.ret _ _))
    have hLn : ([Value.bool false] ++ ([Value.int .u64 (m : Int)] ++ lPT ⟨0, 0, false⟩)).length = 11 := by rw [List.length_append, List.length_append, n2]; rfl
    have hOn : ∀ u ∈ ([Value.bool false] ++ ([Value.int .u64 (m : Int)] ++ lPT ⟨0, 0, false⟩)), u.oneCell' = true := ones_app o1 (ones_app o2 (lPT_one _))
    exact Sy.retT0 rfl (CRS gc gr gx tx (A ++ (([Value.bool false] ++ ([Value.int .u64 (m : Int)] ++ lPT ⟨0, 0, false⟩)) ++ Z)) sl2 s2.e (R ++ (N1 ++ N2))) (fun _ h => by simpa only [List.append_assoc, List.cons_append, List.nil_append] using h) (fun _ => ⟨_, s2, sl2, _, N1 ++ N2, hAf, hLn, hOn, ⟨rfl, b1, (show 0 < Cu.K4 by decide), (show 0 < Cu.K4 by decide)⟩, e2, Nat.le_trans h2 h1, y2, rfl⟩)
end Go.Proofs.YtgemfpnlnipfnaaGreat.Wr

end
section
namespace Go.Proofs.YtgemfpnlnipfnaaGreat.Wr
open Go.RowKit Go.Proofs.YtgemfpnlnipfnaaGreat Go.Proofs.YtgemfpnlnipfnaaGreat.Sy
set_option maxRecDepth 100000
set_option maxHeartbeats 4000000

structure MOu where
  kind : Int
  asset : MTag
  amount : MAmt
  range : Byt
  surject : Byt
  note : Byt
  script : Byt
def okK (k : Int) : Bool := decide (1 ≤ k) && decide (k ≤ 4)
def cOU (o : MOu) (vr vs vn vc : Value) : List Value := [.int .i64 o.kind] ++ (cTG o.asset ++ (cAM o.amount ++ ([vr] ++ ([vs] ++ ([vn] ++ [vc])))))
def repOU (C : Rdr) (cs : List Value) (o : MOu) : Prop := ∃ vr vs vn vc, cs = cOU o vr vs vn vc ∧ (o.asset.id.length = 32 ∧ o.asset.pt.x < Cu.K4 ∧ o.asset.pt.y < Cu.K4) ∧ (o.amount.value < 18446744073709551616 ∧ o.amount.pt.x < Cu.K4 ∧ o.amount.pt.y < Cu.K4) ∧ BytR C vr o.range ∧ BytR C vs o.surject ∧ BytR C vn o.note ∧ BytR C vc o.script
theorem monoOU : Mono repOU := fun hl ⟨vr, vs, vn, vc, h1, h2, h3, h4, h5, h6, h7⟩ => ⟨vr, vs, vn, vc, h1, h2, h3, h4.le hl, h5.le hl, h6.le hl, h7.le hl⟩
def encT (b : Byt) : Byt := varB b.length ++ b
def okOU (o : MOu) : Bool := okK o.kind && (okTG o.asset && (okAM o.amount && (decide (o.range.length ≤ 6000) && (decide (o.surject.length ≤ 6000) && (decide (o.note.length ≤ 128) && decide (o.script.length ≤ 256))))))
def encOU (o : MOu) : Byt := [octB o.kind] ++ (encTG o.asset ++ (encAM o.amount ++ (encT o.range ++ (encT o.surject ++ (encT o.note ++ encT o.script)))))
def wtOU (o : MOu) : Nat := 1 + (34 + (34 + ((9 + o.range.length) + ((9 + o.surject.length) + ((9 + o.note.length) + (9 + o.script.length))))))
def rdOU : Ps MOu := bindP octP fun k => bindP (mustP (okK k)) fun _ => bindP rdTG fun a => bindP rdAM fun b => bindP (textP 6000) fun r => bindP (textP 6000) fun s => bindP (textP 128) fun n => bindP (textP 256) fun c => retP ⟨k, a, b, r, s, n, c⟩
theorem okK_of {z : Int} (h : ¬ (z = 1 ∨ z = 2 ∨ z = 3 ∨ z = 4)) : okK z = false := by
  cases hb : okK z with
  | false => rfl
  | true =>
    unfold okK at hb
    rw [Bool.and_eq_true, decide_eq_true_eq, decide_eq_true_eq] at hb
    exact (h (by omega)).elim
theorem okK_yes {z : Int} (h : z = 1 ∨ z = 2 ∨ z = 3 ∨ z = 4) : okK z = true ∧ okO z = true := by rcases h with rfl | rfl | rfl | rfl <;> exact ⟨rfl, rfl⟩

theorem cTG_len {t : MTag} (h : t.id.length = 32) : (cTG t).length = 42 := by unfold cTG; rw [List.length_append, List.length_append, List.length_map, h]; rfl
theorem out_w : PutO 65 58 repOU okOU encOU wtOU := fun w0 gc gw gx f bad s R b cs x hx _ hc hb hl w hw => by
  obtain ⟨z, ta, am, rg, su, nt, sc⟩ := x
  obtain ⟨vr, vs, vn, vc, rfl, h1, h2, h3, h4, h5, h6⟩ := hx
  dsimp only at h1 h2 h3 h4 h5 h6
  unfold wtOU at hl
  dsimp only at hl
  have c0 : OwnAt R gx f ([.int .i64 z] ++ (cTG ta ++ (cAM am ++ ([vr] ++ ([vs] ++ ([vn] ++ [vc])))))) := hc
  have c1 : OwnAt R gx (f + 1) (cTG ta ++ (cAM am ++ ([vr] ++ ([vs] ++ ([vn] ++ [vc]))))) := c0.right (n := 1) rfl
  have c2 : OwnAt R gx (f + 43) (cAM am ++ ([vr] ++ ([vs] ++ ([vn] ++ [vc])))) := by have q := c1.right (cTG_len h1.1); rwa [Nat.add_assoc] at q
  have c3 : OwnAt R gx (f + 54) ([vr] ++ ([vs] ++ ([vn] ++ [vc]))) := by have q := c2.right (n := 11) rfl; rwa [Nat.add_assoc] at q
  have c4 : OwnAt R gx (f + 55) ([vs] ++ ([vn] ++ [vc])) := c3.right (n := 1) rfl
  have c5 : OwnAt R gx (f + 56) ([vn] ++ [vc]) := c4.right (n := 1) rfl
  have c6 : OwnAt R gx (f + 57) [vc] := c5.right (n := 1) rfl
  have X0 : rdC w0.inn R gx f (.int .i64 z) := (c0.at w0.inn).one
  refine Sy.enterT (args := [ptr gc, .pointer (some ⟨gx, f, none⟩)]) hw Tryz.func65 rfl kL ?_
  refine sC ?_
  refine sp rfl <| sp rfl <| sp rfl <| sP (.pointer (some ⟨gx, f, none⟩)) ?_
  refine Sy.callT (fun w hw => octet_w w0.inn gc gw gx f bad s R b z X0 hb (by omega) w hw) (fun u M hM => ?_)
  obtain ⟨s1, bad1, b1, q1, p1, rfl⟩ := hM
  have l1 := q1.len
  refine sA ?_
  refine sp rfl <| sp rfl <| sP (.pointer (some ⟨gx, f, none⟩)) <| sS (.int .i64 z) (cellC (R := R) X0 inCW rfl Tryz.underlying3) ?_
  refine sG ?_
  refine Sy.block ?_
  refine Sy.seq ?_
  refine Sy.block ?_
  by_cases hk : z = 1 ∨ z = 2 ∨ z = 3 ∨ z = 4
  · obtain ⟨k1, k2⟩ := okK_yes hk
    refine Sy.seq ?_
    refine cutC [(0, ptr gc), (1, .pointer (some ⟨gx, f, none⟩))] (CWS gc gw bad1 s1 R) ?_ ?_
    · clear hl X0 c0 q1 k1 k2 hc
      rcases hk with rfl | rfl | rfl | rfl
      · refine Sy.block ?_
        refine Sy.block ?_
        refine Sy.block ?_
        refine Sy.block ?_
        refine Sy.seq ?_
        refine Sy.seq ?_
        refine sC ?_
        refine sP (.bool true) <| sp rfl ?_
        refine sG ?_
        refine sT ?_
        refine Sy.exit ?_
        refine Sy.then_exit ?_
        refine Sy.then_exit ?_
        refine Sy.in_exit ?_
        refine Sy.in_ ?_
        refine Sy.in_ ?_
        refine Sy.in_ ?_
        exact meet (all_cons kR (all_cons kR all_nil)) (fun _ h => h)
      · refine Sy.block ?_
        refine Sy.block ?_
        refine Sy.block ?_
        refine Sy.block ?_
        refine Sy.seq ?_
        refine Sy.seq ?_
        refine sC ?_
        refine sP (.bool false) <| sp rfl ?_
        refine sG ?_
        refine sU ?_
        refine Sy.skip ?_
        refine Sy.then_ ?_
        refine Sy.seq ?_
        refine sC ?_
        refine sP (.bool true) <| sp rfl ?_
        refine sG ?_
        refine sT ?_
        refine Sy.exit ?_
        refine Sy.then_exit ?_
        refine Sy.then_exit ?_
        refine Sy.in_pass (by decide) ?_
        refine Sy.in_exit ?_
        refine Sy.in_ ?_
        refine Sy.in_ ?_
        exact meet (all_cons kR (all_cons kR all_nil)) (fun _ h => h)
      · refine Sy.block ?_
        refine Sy.block ?_
        refine Sy.block ?_
        refine Sy.block ?_
        refine Sy.seq ?_
        refine Sy.seq ?_
        refine sC ?_
        refine sP (.bool false) <| sp rfl ?_
        refine sG ?_
        refine sU ?_
        refine Sy.skip ?_
        refine Sy.then_ ?_
        refine Sy.seq ?_
        refine sC ?_
        refine sP (.bool false) <| sp rfl ?_
        refine sG ?_
        refine sU ?_
        refine Sy.skip ?_
        refine Sy.then_ ?_
        refine Sy.seq ?_
        refine sC ?_
        refine sP (.bool true) <| sp rfl ?_
        refine sG ?_
        refine sT ?_
        refine Sy.exit ?_
        refine Sy.then_exit ?_
        refine Sy.then_exit ?_
        refine Sy.in_pass (by decide) ?_
        refine Sy.in_pass (by decide) ?_
        refine Sy.in_exit ?_
        refine Sy.in_ ?_
        exact meet (all_cons kR (all_cons kR all_nil)) (fun _ h => h)
      · refine Sy.block ?_
        refine Sy.block ?_
        refine Sy.block ?_
        refine Sy.block ?_
        refine Sy.seq ?_
        refine Sy.seq ?_
        refine sC ?_
        refine sP (.bool false) <| sp rfl ?_
        refine sG ?_
        refine sU ?_
        refine Sy.skip ?_
        refine Sy.then_ ?_
        refine Sy.seq ?_
        refine sC ?_
        refine sP (.bool false) <| sp rfl ?_
        refine sG ?_
        refine sU ?_
        refine Sy.skip ?_
        refine Sy.then_ ?_
        refine Sy.seq ?_
        refine sC ?_
        refine sP (.bool false) <| sp rfl ?_
        refine sG ?_
        refine sU ?_
        refine Sy.skip ?_
        refine Sy.then_ ?_
        refine sC ?_
        refine sP (.bool true) <| sp rfl ?_
        refine sG ?_
        refine sT ?_
        refine Sy.exit ?_
        refine Sy.then_exit ?_
        refine Sy.in_pass (by decide) ?_
        refine Sy.in_pass (by decide) ?_
        refine Sy.in_pass (by decide) ?_
        refine Sy.in_exit ?_
        exact meet (all_cons kR (all_cons kR all_nil)) (fun _ h => h)
    refine Sy.then_ ?_
    refine Sy.seq ?_
    refine sC ?_
    refine sp rfl <| sp rfl <| sp rfl <| sP (.pointer (some ⟨gx, f + 1, none⟩)) ?_
    refine Sy.callT (fun w hw => tag_w w0.inn gc gw gx (f + 1) bad1 s1 R b1 (cTG ta) ta ⟨rfl, h1⟩ (cTG_len h1.1) c1.left p1 (by show _ + 34 ≤ _; omega) w hw) (fun u M hM => ?_)
    obtain ⟨s2, bad2, b2, q2, p2, rfl⟩ := hM
    have l2 : b2.length ≤ b1.length + 34 := q2.len
    refine sA ?_
    refine sp rfl <| sp rfl <| sp rfl <| sP (.pointer (some ⟨gx, f + 43, none⟩)) ?_
    refine Sy.callT (fun w hw => amount_w w0.inn gc gw gx (f + 43) bad2 s2 R b2 (cAM am) am ⟨rfl, h2⟩ rfl c2.left p2 (by show _ + 34 ≤ _; omega) w hw) (fun u M hM => ?_)
    obtain ⟨s3, bad3, b3, q3, p3, rfl⟩ := hM
    have l3 : b3.length ≤ b2.length + 34 := q3.len
    refine sA ?_
    refine sp rfl <| sp rfl <| sp rfl <| sP (.pointer (some ⟨gx, f + 54, none⟩)) ?_
    refine Sy.callT (fun w hw => text_w w0.inn gc gw gx (f + 54) bad3 s3 R b3 rg vr 6000 (by decide) h3 (c3.at w0.inn).one p3 (by omega) w hw) (fun u M hM => ?_)
    obtain ⟨s4, bad4, b4, q4, p4, rfl⟩ := hM
    have l4 : b4.length ≤ b3.length + (9 + rg.length) := q4.len
    refine sA ?_
    refine sp rfl <| sp rfl <| sp rfl <| sP (.pointer (some ⟨gx, f + 55, none⟩)) ?_
    refine Sy.callT (fun w hw => text_w w0.inn gc gw gx (f + 55) bad4 s4 R b4 su vs 6000 (by decide) h4 (c4.at w0.inn).one p4 (by omega) w hw) (fun u M hM => ?_)
    obtain ⟨s5, bad5, b5, q5, p5, rfl⟩ := hM
    have l5 : b5.length ≤ b4.length + (9 + su.length) := q5.len
    refine sA ?_
    refine sp rfl <| sp rfl <| sp rfl <| sP (.pointer (some ⟨gx, f + 56, none⟩)) ?_
    refine Sy.callT (fun w hw => text_w w0.inn gc gw gx (f + 56) bad5 s5 R b5 nt vn 128 (by decide) h5 (c5.at w0.inn).one p5 (by omega) w hw) (fun u M hM => ?_)
    obtain ⟨s6, bad6, b6, q6, p6, rfl⟩ := hM
    have l6 : b6.length ≤ b5.length + (9 + nt.length) := q6.len
    refine Sy.nil ?_
    refine Sy.then_ ?_
    refine Sy.region ?_
    refine sp rfl <| sp rfl <| sp rfl <| sP (.pointer (some ⟨gx, f + 57, none⟩)) ?_
    refine Sy.callT (fun w hw => text_w w0.inn gc gw gx (f + 57) bad6 s6 R b6 sc vc 256 (by decide) h6 (c6.at w0.inn).one p6 (by omega) w hw) (fun u M hM => ?_)
    obtain ⟨s7, bad7, b7, q7, p7, rfl⟩ := hM
    have l7 : b7.length ≤ b6.length + (9 + sc.length) := q7.len
    refine Sy.nil ?_
    refine Sy.then_ ?_
    refine Sy.exit ?_
    refine Sy.in_pass (by decide) ?_
    refine Sy.then_exit ?_
    refine Sy.in_exit ?_
    have q := q1.then_ (q2.then_ (q3.then_ (q4.then_ (q5.then_ (q6.then_ q7)))))
    rw [k2, ← k1] at q
    exact Sy.retT0 rfl (CWS gc gw bad7 s7 R) (fun _ h => h) (fun _ => ⟨s7, bad7, b7, q, p7, rfl⟩)
  refine Sy.seq ?_
  refine Sy.block ?_
  refine Sy.block ?_
  refine Sy.block ?_
  refine Sy.block ?_
  refine Sy.seq ?_
  refine Sy.seq ?_
  refine sC ?_
  refine sS (.bool false) (Quiet.pure (exec_int .eql _ _ _ .i64 _ _ _ rfl rfl rfl (int_eql _ _ _ _ _ (decide_eq_false (fun e => hk (by simp [e])))))) <| sp rfl ?_
  refine sG ?_
  refine sU ?_
  refine Sy.skip ?_
  refine Sy.then_ ?_
  refine Sy.seq ?_
  refine sC ?_
  refine sS (.bool false) (Quiet.pure (exec_int .eql _ _ _ .i64 _ _ _ rfl rfl rfl (int_eql _ _ _ _ _ (decide_eq_false (fun e => hk (by simp [e])))))) <| sp rfl ?_
  refine sG ?_
  refine sU ?_
  refine Sy.skip ?_
  refine Sy.then_ ?_
  refine Sy.seq ?_
  refine sC ?_
  refine sS (.bool false) (Quiet.pure (exec_int .eql _ _ _ .i64 _ _ _ rfl rfl rfl (int_eql _ _ _ _ _ (decide_eq_false (fun e => hk (by simp [e])))))) <| sp rfl ?_
  refine sG ?_
  refine sU ?_
  refine Sy.skip ?_
  refine Sy.then_ ?_
  refine sC ?_
  refine sS (.bool false) (Quiet.pure (exec_int .eql _ _ _ .i64 _ _ _ rfl rfl rfl (int_eql _ _ _ _ _ (decide_eq_false (fun e => hk (by simp [e])))))) <| sp rfl ?_
  refine sG ?_
  refine sU ?_
  refine Sy.skip ?_
  refine Sy.then_ ?_
  refine Sy.exit ?_
  refine Sy.in_pass (by decide) ?_
  refine Sy.in_pass (by decide) ?_
  refine Sy.in_pass (by decide) ?_
  refine Sy.in_pass (by decide) ?_
  refine Sy.then_exit ?_
  refine Sy.in_exit ?_
  refine sB ?_
  refine sp rfl ?_
  refine Sy.callT (fun w hw => must_w w0.inn gc gw bad1 false s1 R w hw) (fun u M hM => ?_)
  subst hM
  refine sG ?_
  refine Sy.exit ?_
  refine Sy.in_exit ?_
  have hno : okOU ⟨z, ta, am, rg, su, nt, sc⟩ = false := by unfold okOU; rw [okK_of hk]; rfl
  exact Sy.retT0 rfl (CWS gc gw (bad1 || !false) s1 R) (fun _ h => h) (fun _ => ⟨s1, bad1 || !false, b1, ⟨by rw [hno]; cases bad1 <;> cases bad <;> rfl, fun h => (by cases bad1 <;> cases h), by unfold wtOU; dsimp only; omega⟩, p1, rfl⟩)
end Go.Proofs.YtgemfpnlnipfnaaGreat.Wr

end
section
namespace Go.Proofs.YtgemfpnlnipfnaaGreat.Wr
open Go.RowKit Go.Proofs.YtgemfpnlnipfnaaGreat Go.Proofs.YtgemfpnlnipfnaaGreat.Sy
set_option maxRecDepth 100000
set_option maxHeartbeats 4000000

theorem opn_fe : Opn 56 4 (fun _ cs n => cs = Cu.fws n ∧ n < Cu.K4) (fun _ => 0) := ⟨fun {H enc W fuel cs x} hl hf => by
  match cs, hl with
  | [c0, c1, c2, c3], _ =>
    obtain ⟨n, h1, h2⟩ := Cu.words_trod Tryz.underlying56 Tryz.underlying22 (by kernel_rfl) hf
    refine ⟨n, ⟨h2, h1⟩, fun u hu => ?_, bulk_pos _⟩
    rw [h2] at hu
    simp only [Cu.fws, List.mem_cons, List.not_mem_nil, or_false] at hu
    rcases hu with rfl | rfl | rfl | rfl <;> rfl⟩
theorem opn_pt : Opn 58 9 repPT (fun _ => 0) := (opn_s3 Tryz.underlying58 (by kernel_rfl) (by kernel_rfl) (by kernel_rfl) (by kernel_rfl) (by kernel_rfl) (by kernel_rfl) opn_fe opn_fe (opn_b Tryz.underlying4)).as fun C cs (x, y, i) ⟨a0, a1, a2, e, ⟨e0, h0⟩, ⟨e1, h1⟩, e2⟩ => by
  obtain rfl : a2 = [.bool i] := e2
  subst e0 e1 e
  exact ⟨⟨x, y, i⟩, ⟨rfl, h0, h1⟩, Nat.zero_le _⟩
theorem opn_tag : Opn 60 42 repTG (fun _ => 0) := (opn_s3 Tryz.underlying60 (by kernel_rfl) (by kernel_rfl) (by kernel_rfl) (by kernel_rfl) (by kernel_rfl) (by kernel_rfl) (opn_b Tryz.underlying4) opn_dg opn_pt).as fun C cs (b, d, p) ⟨a0, a1, a2, e, e0, ⟨e1, h1⟩, ⟨e2, h2⟩⟩ => by
  obtain rfl : a0 = [.bool b] := e0
  subst e1 e2 e
  exact ⟨⟨b, d, p⟩, ⟨rfl, h1, h2⟩, Nat.zero_le _⟩
theorem opn_amt : Opn 62 11 repAM (fun _ => 0) := (opn_s3 Tryz.underlying62 (by kernel_rfl) (by kernel_rfl) (by kernel_rfl) (by kernel_rfl) (by kernel_rfl) (by kernel_rfl) (opn_b Tryz.underlying4) opn_u64 opn_pt).as fun C cs (b, d, p) ⟨a0, a1, a2, e, e0, ⟨e1, h1⟩, ⟨e2, h2⟩⟩ => by
  obtain rfl : a0 = [.bool b] := e0
  subst e1 e2 e
  exact ⟨⟨b, d, p⟩, ⟨rfl, h1, h2⟩, Nat.zero_le _⟩
theorem opn_out : Opn 64 58 repOU (fun o => o.range.length + o.surject.length + o.note.length + o.script.length) := (opn_s7 Tryz.underlying64 (by kernel_rfl) (by kernel_rfl) (by kernel_rfl) (by kernel_rfl) (by kernel_rfl) (by kernel_rfl) (by kernel_rfl) (by kernel_rfl) (by kernel_rfl) (by kernel_rfl) (by kernel_rfl) (by kernel_rfl) (by kernel_rfl) (by kernel_rfl) (opn_i Tryz.underlying3) opn_tag opn_amt opn_raw opn_raw opn_raw opn_raw).as fun C cs (k, t, a, r, s, n, c) ⟨a0, a1, a2, a3, a4, a5, a6, ec, e0, ⟨e1, h1⟩, ⟨e2, h2⟩, ⟨v3, e3, h3⟩, ⟨v4, e4, h4⟩, ⟨v5, e5, h5⟩, ⟨v6, e6, h6⟩⟩ => by
  obtain rfl : a0 = [.int .i64 k] := e0
  dsimp only at e1 e2 e3 e4 e5 e6 h1 h2 h3 h4 h5 h6
  subst e1 e2 e3 e4 e5 e6 ec
  exact ⟨⟨k, t, a, r, s, n, c⟩, ⟨v3, v4, v5, v6, rfl, h1, h2, h3, h4, h5, h6⟩, by dsimp only; omega⟩
end Go.Proofs.YtgemfpnlnipfnaaGreat.Wr

end
section
namespace Go.Proofs.YtgemfpnlnipfnaaGreat.Wr
open Go.RowKit Go.Proofs.YtgemfpnlnipfnaaGreat Go.Proofs.YtgemfpnlnipfnaaGreat.Sy
set_option maxRecDepth 100000
set_option maxHeartbeats 4000000

theorem saidR_any (w : World) (v : Value) (b : Byt) (hl : b.length ≤ 8) (hv : BytR (rdW w) v b) : Calls Tryz.prog 158 #[v] w (Gets w (.int .u64 ((said b : Nat) : Int))) := by
  obtain ⟨A, n, cp, rfl, h2, h3, h4, h5⟩ := hv
  refine Sy.enter (args := [.slice A n cp]) Tryz.func158 rfl kL ?_
  refine sC ?_
  refine sP (.int .u64 0) ?_
  refine sA ?_
  refine sP (.int .u64 0) ?_
  refine sG ?_
  refine Sy.seq ?_
  refine sC ?_
  refine sP (.int .i64 0) ?_
  refine sG ?_
  refine Sy.block ?_
  refine Sy.loopT (Y := Nat) n (fun i a => [(0, .slice A n cp), (3, .int .u64 (a : Int)), (4, .int .i64 (i : Int))]) (fun _ _ => []) (fun i a => a = said (b.take i)) 0 rfl (all_cons kR (all_cons kR (all_cons kR all_nil))) (fun _ h => h) (fun i a hi ha => ?_)
  refine Sy.seq ?_
  refine sC ?_
  obtain ⟨b2, hb2⟩ : ∃ z : Bool, z = decide (i < n) := ⟨_, rfl⟩
  refine sp rfl <| sp rfl <| sP (.int .i64 (n : Int)) <| sS (.bool b2) (Quiet.pure (exec_int .lss _ _ _ .i64 _ _ _ rfl rfl rfl (int_lss _ _ _ _ _ (by rw [hb2]; exact decide_eq_decide.2 (by omega))))) ?_
  refine sG ?_
  cases b2
  case' false =>
    have l2 : ¬ i < n := of_decide_eq_false hb2.symm
    obtain rfl : i = n := by omega
    refine sU ?_
    refine Sy.exit ?_
    refine Sy.then_exit ?_
    refine Sy.then_exit ?_
    refine Sy.in_exit ?_
    refine Sy.then_ ?_
    refine sC ?_
    refine sp rfl <| sp rfl ?_
    refine sG ?_
    refine Sy.ret ?_
    rw [show said b = a by rw [ha, List.take_of_length_le (by omega)]]
    exact rV (.int .u64 (a : Int)) rfl
  have l2 : i < n := of_decide_eq_true hb2.symm
  obtain ⟨u, hu⟩ : ∃ u, b[i]? = some u := ⟨_, List.getElem?_eq_getElem (by omega)⟩
  obtain ⟨g, o, hA, hq⟩ := h5 (by intro e; rw [e] at hu; cases hu)
  have ha2 : a < 72057594037927936 := by rw [ha]; exact said_lt8 b i (by omega)
  have hu2 := u.toNat_lt
  refine sT ?_
  refine Sy.skip ?_
  refine Sy.then_ ?_
  refine Sy.seq ?_
  refine Sy.block ?_
  refine Sy.region ?_
  refine sp rfl <| sS (.int .u64 ((256 * a : Nat) : Int)) (Quiet.pure (exec_int .mul _ _ _ .u64 _ _ _ rfl rfl rfl (int_mul _ _ _ _ _ (by rw [show (256 : Int) * (a : Int) = ((256 * a : Nat) : Int) by omega]; exact wrap_u64 (by omega) (by omega))))) <| sp rfl <| sp rfl <| sS (.pointer (some ⟨g, o + i * 1, none⟩)) (Quiet.pure (exec_atO 27 _ _ _ A g o n cp i 1 .i64 hA rfl rfl rfl Tryz.underlying27 kF l2)) <| sS (bv u) (Quiet.thereOne g (o + i * 1) 5 _ _ rfl kR (hq i u hu).1 _ (by rw [Nat.mul_one]; exact (hq i u hu).2) Tryz.underlying5 rfl) <| sS (.int .u64 ((u.toNat : Nat) : Int)) (Quiet.pure (fun w => conv_86 w _ _ _ u rfl rfl)) <| sS (.int .u64 ((256 * a + u.toNat : Nat) : Int)) (Quiet.pure (exec_int .add _ _ _ .u64 _ _ _ rfl rfl rfl (int_add _ _ _ _ _ (by rw [← Int.natCast_add]; exact wrap_u64 (by omega) (by omega))))) <| sp rfl ?_
  refine Sy.nil ?_
  refine Sy.in_ ?_
  refine Sy.then_ ?_
  refine Sy.region ?_
  refine sp rfl <| sS (.int .i64 ((i + 1 : Nat) : Int)) (Quiet.pure (exec_int .add _ _ _ .i64 _ _ _ rfl rfl rfl (int_add _ _ _ _ _ ((wrap_i64 (by omega) (by omega)).trans (by omega))))) <| sp rfl ?_
  refine Sy.nil ?_
  exact Sy.againT (256 * a + u.toNat) l2 (by show 256 * a + u.toNat = _; rw [ha, said_take b i u hu]) (all_cons kR (all_cons kR (all_cons kR all_nil))) (fun w h => h)
abbrev rrV (sl : Value) (at_ e : Nat) : Value := .agg #[sl, .int .i64 (at_ : Int), .int .i64 (e : Int)]
abbrev rrC (sl : Value) (at_ e : Nat) : Array Value := #[sl, .int .i64 (at_ : Int), .int .i64 (e : Int)]
def rawN (b : Byt) (at_ e n : Nat) : Nat × Nat × Byt := if e ≠ 0 then (at_, e, []) else if b.length - at_ < n then (at_, 110, []) else (at_ + n, 0, (b.drop at_).take n)
theorem rawR_any (w : World) (sl : Value) (b : Byt) (at_ e n : Nat) (hat : at_ ≤ b.length) (hn : n ≤ 70368744177664) (hl : b.length ≤ 70368744177664) (hv : BytR (rdW w) sl b) :
    Calls Tryz.prog 178 #[rrV sl at_ e, .int .i64 (n : Int)] w (GetsN w (fun v M => ∃ u, v = .tuple #[rrV sl (rawN b at_ e n).1 (rawN b at_ e n).2.1, u] ∧ ByN (rawN b at_ e n).2.2 u M)) := by
  have hv0 := hv
  obtain ⟨A, m, cp, rfl, h2, h3, h4, h5⟩ := hv
  refine Sy.enter (args := [rrV (.slice A m cp) at_ e, .int .i64 (n : Int)]) Tryz.func178 rfl kL ?_
  refine sC ?_
  refine sM 184 (rrC (.slice A m cp) at_ e) (fun g2 => ?_)
  refine sM 184 (rrC (.slice none 0 0) 0 0) (fun g4 => ?_)
  refine sP (.slice none 0 0) ?_
  refine sG ?_
  refine Sy.seq ?_
  refine Sy.block ?_
  refine sC ?_
  obtain ⟨b1, hb1⟩ : ∃ z : Bool, z = decide (e ≠ 0) := ⟨_, rfl⟩
  refine sP (.pointer (some ⟨g2, 2, none⟩)) <| sS (.int .i64 (e : Int)) (qc 0 2 rfl rfl Tryz.underlying28) <| sS (.bool b1) (Quiet.pure (exec_int .neq _ _ _ .i64 _ _ _ rfl rfl rfl (int_neq _ _ _ _ _ (by rw [hb1]; exact decide_eq_decide.2 (by omega))))) <| sp rfl ?_
  refine sG ?_
  cases b1
  case' true =>
    have l1 : e ≠ 0 := of_decide_eq_true hb1.symm
    have er : rawN b at_ e n = (at_, e, []) := if_pos l1
    rw [er]
    refine sT ?_
    refine sC ?_
    refine sS (rrV (.slice A m cp) at_ e) (qk 0 0 3 rfl rfl Tryz.underlying184) <| sw 1 rfl (rrC (.slice A m cp) at_ e) (wA rfl) <| sP (.slice none 0 0) ?_
    refine sG ?_
    refine Sy.ret ?_
    refine Sy.in_ret ?_
    refine Sy.then_ret ?_
    exact Sy.retGM2 [] rfl (.inl (Sy.Res.cell (ty' := 184) g4 1 (rrC (.slice A m cp) at_ e) _ (by kernel_rfl) rfl Tryz.underlying184 rfl (by kernel_rfl) rfl)) (.inl (show _ = _ by kernel_rfl)) (fun _ h => h.none) ⟨_, rfl, none, 0, 0, rfl, BS.nil⟩
  have l1 : e = 0 := Decidable.of_not_not (of_decide_eq_false hb1.symm)
  refine sU ?_
  refine sC ?_
  refine sp rfl <| sS (.bool false) (Quiet.pure (exec_int .lss _ _ _ .i64 _ _ _ rfl rfl rfl (int_lss _ _ _ _ _ (decide_eq_false (by omega))))) <| sp rfl ?_
  refine sG ?_
  refine sU ?_
  refine sC ?_
  obtain ⟨b2, hb2⟩ : ∃ z : Bool, z = decide (m - at_ < n) := ⟨_, rfl⟩
  refine sp rfl <| sP (.pointer (some ⟨g2, 0, none⟩)) <| sS (.slice A m cp) (qc 0 0 rfl rfl Tryz.underlying27) <| sP (.int .i64 (m : Int)) <| sP (.pointer (some ⟨g2, 1, none⟩)) <| sS (.int .i64 (at_ : Int)) (qc 0 1 rfl rfl Tryz.underlying3) <| sS (.int .i64 ((m - at_ : Nat) : Int)) (Quiet.pure (exec_int .sub _ _ _ .i64 _ _ _ rfl rfl rfl (int_sub _ _ _ _ _ ((wrap_i64 (by omega) (by omega)).trans (by omega))))) <| sS (.bool b2) (Quiet.pure (exec_int .gtr _ _ _ .i64 _ _ _ rfl rfl rfl (int_gtr _ _ _ _ _ (by rw [hb2]; exact decide_eq_decide.2 (by omega))))) <| sp rfl ?_
  refine sG ?_
  cases b2
  case' true =>
    have l2 : m - at_ < n := of_decide_eq_true hb2.symm
    have er : rawN b at_ e n = (at_, 110, []) := by unfold rawN; rw [if_neg (fun h => h l1), if_pos (by omega)]
    rw [er]
    refine sT ?_
    refine sC ?_
    refine sP (.pointer (some ⟨g2, 2, none⟩)) <| sw 0 rfl (rrC (.slice A m cp) at_ 110) (wO 2 28 (.int .i64 110) rfl) ?_
    refine sA ?_
    refine sS (rrV (.slice A m cp) at_ 110) (qk 0 0 3 rfl rfl Tryz.underlying184) <| sw 1 rfl (rrC (.slice A m cp) at_ 110) (wA rfl) <| sP (.slice none 0 0) ?_
    refine sG ?_
    refine Sy.ret ?_
    refine Sy.in_ret ?_
    refine Sy.then_ret ?_
    exact Sy.retGM2 [] rfl (.inl (Sy.Res.cell (ty' := 184) g4 1 (rrC (.slice A m cp) at_ 110) _ (by kernel_rfl) rfl Tryz.underlying184 rfl (by kernel_rfl) rfl)) (.inl (show _ = _ by kernel_rfl)) (fun _ h => h.none) ⟨_, rfl, none, 0, 0, rfl, BS.nil⟩
  have l2 : ¬ m - at_ < n := of_decide_eq_false hb2.symm
  obtain ⟨x, hx⟩ : ∃ x, x = (b.drop at_).take n := ⟨_, rfl⟩
  have er : rawN b at_ e n = (at_ + n, 0, x) := by unfold rawN; rw [if_neg (fun h => h l1), if_neg (by omega), hx]
  rw [er]
  have hxl : x.length = n := by rw [hx, List.length_take, List.length_drop]; omega
  obtain ⟨A2, hA2⟩ : ∃ A2, sliced A at_ (at_ + n) cp 1 = .slice A2 (at_ + n - at_) (cp - at_) := ⟨_, rfl⟩
  have hv2 : BytR (rdC (Base.of w) []) (.slice A2 (at_ + n - at_) (cp - at_)) x := by
    have q := (hv0.slice (l := at_) (m := at_ + n) (by omega) (by omega)).le (rdW_base (R := []))
    rw [hA2, Nat.add_sub_cancel_left] at q
    rw [hx, Nat.add_sub_cancel_left]; exact q
  subst l1
  refine sU ?_
  refine Sy.skip ?_
  refine Sy.in_ ?_
  refine sB ?_
  refine sP (.slice none 0 0) ?_
  refine sA ?_
  refine sp rfl <| sP (.pointer (some ⟨g2, 0, none⟩)) <| sS (.slice A m cp) (qc 0 0 rfl rfl Tryz.underlying27) <| sP (.pointer (some ⟨g2, 1, none⟩)) <| sS (.int .i64 (at_ : Int)) (qc 0 1 rfl rfl Tryz.underlying3) <| sP (.pointer (some ⟨g2, 1, none⟩)) <| sS (.int .i64 (at_ : Int)) (qc 0 1 rfl rfl Tryz.underlying3) <| sp rfl <| sS (.int .i64 ((at_ + n : Nat) : Int)) (Quiet.pure (exec_int .add _ _ _ .i64 _ _ _ rfl rfl rfl (int_add _ _ _ _ _ ((wrap_i64 (by omega) (by omega)).trans (by omega))))) <| sS (.slice A2 (at_ + n - at_) (cp - at_)) (Quiet.pure (fun w => by rw [← hA2]; exact exec_slh _ _ _ _ m cp at_ (at_ + n) rfl rfl rfl rfl (by omega) (by omega) w)) ?_
  refine Sy.appendM (pre := [(g2, 184, rrC (.slice A m cp) at_ 0), (g4, 184, rrC (.slice none 0 0) 0 0)]) (r := nilS) (T := []) kR 27 5 _ _ 1 1 Tryz.underlying27 Cu.info_u8 rfl rfl rfl rfl (by decide) _ _ rfl BS.nil kR (byL_one x) (byL_oneC x) A2 (at_ + n - at_) (cp - at_) (by rw [byL_len, hxl]; omega) (by omega) kR (fun r => BytR.from hv2 (fun y hy => by cases hy)) (by rw [byL_len]; show (0 + _) * 1 ≤ _; omega) (by rw [byL_len]; show 0 + _ ≤ _; simp only [maxLen]; omega) (fun r hr => ?_)
  have hr' : BS r x := hr
  refine sp rfl ?_
  refine sA ?_
  refine sP (.pointer (some ⟨g2, 1, none⟩)) <| sS (.int .i64 (at_ : Int)) (qc 0 1 rfl rfl Tryz.underlying3) <| sp rfl <| sS (.int .i64 ((at_ + n : Nat) : Int)) (Quiet.pure (exec_int .add _ _ _ .i64 _ _ _ rfl rfl rfl (int_add _ _ _ _ _ ((wrap_i64 (by omega) (by omega)).trans (by omega))))) <| sP (.pointer (some ⟨g2, 1, none⟩)) <| sw 0 rfl (rrC (.slice A m cp) (at_ + n) 0) (wO 1 3 (.int .i64 ((at_ + n : Nat) : Int)) rfl) ?_
  refine sA ?_
  refine sS (rrV (.slice A m cp) (at_ + n) 0) (qk 0 0 3 rfl rfl Tryz.underlying184) <| sp rfl <| sw 1 rfl (rrC (.slice A m cp) (at_ + n) 0) (wA rfl) <| sp rfl ?_
  refine sG ?_
  refine Sy.ret ?_
  exact Sy.retGM2 r.bl rfl (.inl (Sy.Res.cell (ty' := 184) g4 1 (rrC (.slice A m cp) (at_ + n) 0) _ (by kernel_rfl) rfl Tryz.underlying184 rfl (by kernel_rfl) rfl)) (.inl (show _ = _ by kernel_rfl)) (fun _ h => Sy.St.less (L := [(g2, 184, rrC (.slice A m cp) (at_ + n) 0), (g4, 184, rrC (.slice A m cp) (at_ + n) 0)] ++ (r.bl ++ [])) h (by rw [List.append_nil]; exact List.sublist_append_right _ _)) ⟨_, rfl, hr'.as⟩
theorem rawN_len (b : Byt) (at_ e n : Nat) : (rawN b at_ e n).2.2.length ≤ n := by
  unfold rawN
  split
  · exact Nat.zero_le _
  · split
    · exact Nat.zero_le _
    · show (List.take _ _).length ≤ _; rw [List.length_take]; omega
theorem getR_any (w : World) (sl : Value) (b : Byt) (at_ e n : Nat) (hat : at_ ≤ b.length) (hn : n ≤ 8) (hl : b.length ≤ 70368744177664) (hv : BytR (rdW w) sl b) :
    Calls Tryz.prog 209 #[rrV sl at_ e, .int .i64 (n : Int)] w (Gets w (.tuple #[rrV sl (rawN b at_ e n).1 (rawN b at_ e n).2.1, .int .u64 ((said (rawN b at_ e n).2.2 : Nat) : Int)])) := by
  have hv0 := hv
  have hxl := rawN_len b at_ e n
  obtain ⟨f, hf⟩ : ∃ f, f = rawN b at_ e n := ⟨_, rfl⟩
  rw [← hf] at hxl ⊢
  obtain ⟨A, m, cp, rfl, h2, h3, h4, h5⟩ := hv
  refine Sy.enter (args := [rrV (.slice A m cp) at_ e, .int .i64 (n : Int)]) Tryz.func209 rfl kL ?_
  refine sC ?_
  refine sM 184 (rrC (.slice A m cp) at_ e) (fun g2 => ?_)
  refine sM 184 (rrC (.slice none 0 0) 0 0) (fun g4 => ?_)
  refine sP (.int .u64 0) ?_
  refine sA ?_
  refine sS (rrV (.slice A m cp) at_ e) (qk 0 0 3 rfl rfl Tryz.underlying184) <| sp rfl ?_
  refine Sy.callN kR 178 #[rrV (.slice A m cp) at_ e, .int .i64 (n : Int)] kF _ (fun w' hw => rawR_any w' (.slice A m cp) b at_ e n hat (by omega) hl (hv0.at hw)) (fun u M hM => ?_)
  rw [← hf] at hM
  obtain ⟨u, rfl, hu⟩ := hM
  refine sp rfl <| sp rfl <| sp rfl <| sw 0 rfl (rrC (.slice A m cp) f.1 f.2.1) (wA rfl) <| sp rfl ?_
  refine Sy.nil ?_
  refine sR (fun j => j == 3) ?_
  refine sa 1 rfl rfl <| sD 2 rfl (.int .u64 ((said f.2.2 : Nat) : Int)) (qg (fun w' hw => saidR_any w' u f.2.2 (by omega) (hu.byt.le (fun g o v h => rdC_world (w0 := Base.of w) hw (R := M) (fun b hb => List.mem_cons_of_mem _ (List.mem_cons_of_mem _ hb)) g o v (.inr h))))) <| sD 0 rfl (rrV (.slice A m cp) f.1 f.2.1) (qk 0 0 3 rfl rfl Tryz.underlying184) <| sx 3 rfl 1 rfl (rrC (.slice A m cp) f.1 f.2.1) (wA rfl) <| sa 4 rfl rfl ?_
  refine sI ?_
  refine Sy.ret ?_
  exact Sy.ret2 rfl (.inl (Sy.Res.cell (ty' := 184) g4 1 (rrC (.slice A m cp) f.1 f.2.1) _ (by kernel_rfl) rfl Tryz.underlying184 rfl (by kernel_rfl) rfl)) (.inl (show _ = _ by kernel_rfl))
end Go.Proofs.YtgemfpnlnipfnaaGreat.Wr

end
section
namespace Go.Proofs.YtgemfpnlnipfnaaGreat.Wr
open Go.RowKit Go.Proofs.YtgemfpnlnipfnaaGreat Go.Proofs.YtgemfpnlnipfnaaGreat.Sy
set_option maxRecDepth 100000
set_option maxHeartbeats 4000000

theorem BS.one (g : Nat) (x : UInt8) : BS ⟨.slice (some ⟨g, 0, none⟩) 1 1, [(g, 5, #[bv x])]⟩ [x] := ⟨byL_one [x], byL_oneC [x], .inr ⟨g, 1, [], rfl, rfl, Nat.le_refl _, by decide⟩⟩
theorem ofNat_mod (q : Nat) : UInt8.ofNat (q % 256) = UInt8.ofNat q := by apply UInt8.toNat_inj.1; simp [UInt8.toNat_ofNat']
theorem numberR_any (w : World) (n k : Nat) (hn : n < 18446744073709551616) (hk : k ≤ 8) : Calls Tryz.prog 152 #[.int .u64 (n : Int), .int .i64 (k : Int)] w (GetsN w (ByN (nb k n))) := by
  refine Sy.enter (args := [.int .u64 (n : Int), .int .i64 (k : Int)]) Tryz.func152 rfl kL ?_
  refine sC ?_
  refine sP (.slice none 0 0) ?_
  refine sA ?_
  refine sP (.slice none 0 0) ?_
  refine sG ?_
  refine Sy.seq ?_
  refine sC ?_
  refine sp rfl <| sS (.int .i64 ((k : Int) - 1)) (Quiet.pure (exec_int .sub _ _ _ .i64 _ _ _ rfl rfl rfl (int_sub _ _ _ _ _ (wrap_i64 (by omega) (by omega))))) <| sp rfl ?_
  refine sG ?_
  refine Sy.block ?_
  refine Sy.loopT (Y := Slc × Int) k (fun i y => [(0, .int .u64 (n : Int)), (1, .int .i64 (k : Int)), (5, y.1.v), (6, .int .i64 y.2)]) (fun i y => y.1.bl ++ []) (fun i y => BS y.1 ((nb k n).take i) ∧ y.2 = (k : Int) - 1 - (i : Int)) (nilS, (k : Int) - 1) ⟨BS.nil, by show _ = (k : Int) - 1 - ((0 : Nat) : Int); omega⟩ (all_cons kR (all_cons kR (all_cons kR (all_cons kR all_nil)))) (fun _ h => h) (fun i y hi hy => ?_)
  obtain ⟨s, z⟩ := y
  obtain ⟨hs, hz⟩ := hy
  dsimp only at hs hz ⊢
  refine Sy.seq ?_
  refine sC ?_
  obtain ⟨b1, hb1⟩ : ∃ z : Bool, z = decide (i < k) := ⟨_, rfl⟩
  refine sp rfl <| sS (.bool b1) (Quiet.pure (exec_int .geq _ _ _ .i64 _ _ _ rfl rfl rfl (int_geq _ _ _ _ _ (by rw [hb1]; exact decide_eq_decide.2 (by omega))))) ?_
  refine sG ?_
  cases b1
  case' false =>
    have l1 : ¬ i < k := of_decide_eq_false hb1.symm
    obtain rfl : i = k := by omega
    refine sU ?_
    refine Sy.exit ?_
    refine Sy.then_exit ?_
    refine Sy.then_exit ?_
    refine Sy.in_exit ?_
    refine Sy.then_ ?_
    refine sC ?_
    refine sp rfl <| sp rfl ?_
    refine sG ?_
    refine Sy.ret ?_
    rw [List.take_of_length_le (by rw [nb_len]; exact Nat.le_refl _)] at hs
    exact Sy.retGM s.bl rfl (.inl (show _ = _ by kernel_rfl)) (fun _ h => by rw [List.append_nil] at h; exact h) hs.as
  have l1 : i < k := of_decide_eq_true hb1.symm
  obtain ⟨m, hm⟩ : ∃ m : Nat, m = k - 1 - i := ⟨_, rfl⟩
  obtain rfl : z = (m : Int) := by omega
  refine sT ?_
  refine Sy.skip ?_
  refine Sy.then_ ?_
  refine Sy.seq ?_
  refine Sy.block ?_
  refine sC ?_
  refine sp rfl <| sp rfl ?_
  refine sG ?_
  refine Sy.seq ?_
  refine sC ?_
  refine sP (.int .i64 0) ?_
  refine sG ?_
  refine Sy.block ?_
  refine Sy.loopT (Y := Nat) m (fun j q => [(0, .int .u64 (n : Int)), (1, .int .i64 (k : Int)), (5, s.v), (6, .int .i64 (m : Int)), (7, .int .u64 (q : Int)), (8, .int .i64 (j : Int))]) (fun _ _ => s.bl ++ []) (fun j q => q = n / 256 ^ j) n (by rw [Nat.pow_zero, Nat.div_one]) (all_cons kR (all_cons kR (all_cons kR (all_cons kR (all_cons kR (all_cons kR all_nil)))))) (fun _ h => h) (fun j q hj hq => ?_)
  dsimp only at hq ⊢
  have hq2 : q < 18446744073709551616 := by rw [hq]; exact Nat.lt_of_le_of_lt (Nat.div_le_self _ _) hn
  refine Sy.seq ?_
  refine sC ?_
  obtain ⟨b2, hb2⟩ : ∃ z : Bool, z = decide (j < m) := ⟨_, rfl⟩
  refine sp rfl <| sp rfl <| sS (.bool b2) (Quiet.pure (exec_int .lss _ _ _ .i64 _ _ _ rfl rfl rfl (int_lss _ _ _ _ _ (by rw [hb2]; exact decide_eq_decide.2 (by omega))))) ?_
  refine sG ?_
  cases b2
  case' true =>
    have l2 : j < m := of_decide_eq_true hb2.symm
    refine sT ?_
    refine Sy.skip ?_
    refine Sy.then_ ?_
    refine Sy.seq ?_
    refine Sy.block ?_
    refine Sy.region ?_
    refine sp rfl <| sS (.int .u64 ((q / 256 : Nat) : Int)) (Quiet.pure (exec_int .quo _ _ _ .u64 _ _ _ rfl rfl rfl (int_quo _ _ _ _ _ (by decide) (by rw [show (q : Int).tdiv 256 = ((q / 256 : Nat) : Int) from rfl]; exact wrap_u64 (by omega) (by omega))))) <| sp rfl ?_
    refine Sy.nil ?_
    refine Sy.in_ ?_
    refine Sy.then_ ?_
    refine Sy.region ?_
    refine sp rfl <| sS (.int .i64 ((j + 1 : Nat) : Int)) (Quiet.pure (exec_int .add _ _ _ .i64 _ _ _ rfl rfl rfl (int_add _ _ _ _ _ ((wrap_i64 (by omega) (by omega)).trans (by omega))))) <| sp rfl ?_
    refine Sy.nil ?_
    exact Sy.againT (q / 256) l2 (by show q / 256 = n / 256 ^ (j + 1); rw [hq, Nat.div_div_eq_div_mul, Nat.pow_succ]) (all_cons kR (all_cons kR (all_cons kR (all_cons kR (all_cons kR (all_cons kR all_nil)))))) (fun w h => h)
  have l2 : ¬ j < m := of_decide_eq_false hb2.symm
  obtain rfl : j = m := by omega
  obtain ⟨x, hx⟩ : ∃ x, x = UInt8.ofNat (q % 256) := ⟨_, rfl⟩
  have hln : ((nb k n).take i).length ≤ 8 := by rw [List.length_take, nb_len]; omega
  refine sU ?_
  refine Sy.exit ?_
  refine Sy.then_exit ?_
  refine Sy.then_exit ?_
  refine Sy.in_exit ?_
  refine Sy.then_ ?_
  refine Sy.region ?_
  refine sp rfl <| sp rfl <| sS (.int .u64 ((q % 256 : Nat) : Int)) (Quiet.pure (exec_int .rem _ _ _ .u64 _ _ _ rfl rfl rfl (int_rem _ _ _ _ _ (by decide) rfl))) <| sS (bv x) (Quiet.pure (fun w => by rw [hx]; exact conv_6u8 w _ _ _ _ (by omega) rfl rfl)) ?_
  refine Sy.make kR 5 #[bv x] (fun g => .slice (some ⟨g, 0, none⟩) 1 1) kF (fun g1 => ?_)
  refine Sy.movT (pre := []) (T := s.bl ++ []) ?_
  refine Sy.appendR (pre := [(g1, 5, #[bv x])]) (T := []) kR 27 5 _ _ 1 1 Tryz.underlying27 Cu.info_u8 rfl rfl rfl rfl (by decide) _ _ rfl hs kR [bv x] rfl (fun u hu => by rw [List.mem_singleton.1 hu]; rfl) 0 g1 5 kR kR (by rw [byL_len]; omega) (by rw [byL_len]; simp only [maxLen]; omega) (fun r hr => ?_)
  refine sp rfl ?_
  refine Sy.nil ?_
  refine Sy.in_ ?_
  refine Sy.then_ ?_
  refine Sy.region ?_
  refine sp rfl <| sS (.int .i64 ((j : Int) - 1)) (Quiet.pure (exec_int .sub _ _ _ .i64 _ _ _ rfl rfl rfl (int_sub _ _ _ _ _ (wrap_i64 (by omega) (by omega))))) <| sp rfl ?_
  refine Sy.nil ?_
  have hr' : BS r ((nb k n).take (i + 1)) := by
    have e : byL ((nb k n).take (i + 1)) = byL ((nb k n).take i) ++ [[bv x]] := by
      rw [nb_take k n i l1, byL_app, hx, hq, ofNat_mod, hm]
      rfl
    show r.Is 5 1 _
    rw [e]
    exact hr
  exact Sy.againT (r, (j : Int) - 1) l1 ⟨hr', by show (j : Int) - 1 = _; omega⟩ (all_cons kR (all_cons kR (all_cons kR (all_cons kR all_nil)))) (fun w h => h.less (List.sublist_cons_self _ _))
theorem varR_any (w : World) (n : Nat) (hn : n < 18446744073709551616) : Calls Tryz.prog 153 #[.int .u64 (n : Int)] w (GetsN w (ByN (varB n))) := by
  refine Sy.enter (args := [.int .u64 (n : Int)]) Tryz.func153 rfl kL ?_
  refine sC ?_
  refine sP (.slice none 0 0) ?_
  refine sG ?_
  refine Sy.seq ?_
  refine sC ?_
  obtain ⟨b1, hb1⟩ : ∃ z : Bool, z = decide (n < 253) := ⟨_, rfl⟩
  refine sp rfl <| sS (.bool b1) (Quiet.pure (exec_int .lss _ _ _ .u64 _ _ _ rfl rfl rfl (int_lss _ _ _ _ _ (by rw [hb1]; exact decide_eq_decide.2 (by omega))))) ?_
  refine sG ?_
  cases b1
  case' true =>
    have l1 : n < 253 := of_decide_eq_true hb1.symm
    obtain ⟨x, hx⟩ : ∃ x, x = UInt8.ofNat n := ⟨_, rfl⟩
    refine sT ?_
    refine sC ?_
    refine sp rfl <| sS (bv x) (Quiet.pure (fun w => by rw [hx]; exact conv_6u8 w _ _ _ _ hn rfl rfl)) ?_
    refine Sy.make kR 5 #[bv x] (fun g => .slice (some ⟨g, 0, none⟩) 1 1) kF (fun g1 => ?_)
    refine sp rfl ?_
    refine sG ?_
    refine Sy.ret ?_
    refine Sy.then_ret ?_
    rw [show varB n = [x] by unfold varB; rw [if_pos l1, hx]]
    exact Sy.retGM [(g1, 5, #[bv x])] rfl (.inl (show _ = _ by kernel_rfl)) (fun _ h => h) (BS.one g1 x).as
  have l1 : ¬ n < 253 := of_decide_eq_false hb1.symm
  refine sU ?_
  refine Sy.skip ?_
  refine sB ?_
  refine sP (bv 253) ?_
  refine sA ?_
  refine sP (.int .i64 2) ?_
  refine sG ?_
  obtain ⟨c1, hc1⟩ : ∃ c : UInt8 × Nat, c = if 65536 ≤ n then (254, 4) else (253, 2) := ⟨_, rfl⟩
  obtain ⟨c2, hc2⟩ : ∃ c : UInt8 × Nat, c = if 4294967296 ≤ n then (255, 8) else c1 := ⟨_, rfl⟩
  have hv : varB n = c2.1 :: nb c2.2 n := by
    unfold varB
    rw [if_neg l1, hc2, hc1]
    by_cases h1 : n < 65536
    · rw [if_pos h1, if_neg (show ¬ 4294967296 ≤ n by omega), if_neg (show ¬ 65536 ≤ n by omega)]
    · rw [if_neg h1]
      by_cases h2 : n < 4294967296
      · rw [if_pos h2, if_neg (show ¬ 4294967296 ≤ n by omega), if_pos (show 65536 ≤ n by omega)]
      · rw [if_neg h2, if_pos (show 4294967296 ≤ n by omega)]
  have hc8 : c2.2 ≤ 8 := by
    rw [hc2, hc1]
    split
    · exact Nat.le_refl _
    · split
      · show 4 ≤ 8; omega
      · show 2 ≤ 8; omega
  refine Sy.seq ?_
  refine cutC [(0, .int .u64 (n : Int)), (3, bv c1.1), (4, .int .i64 ((c1.2 : Nat) : Int))] [] ?_ ?_
  · refine sC ?_
    obtain ⟨b2, hb2⟩ : ∃ z : Bool, z = decide (65536 ≤ n) := ⟨_, rfl⟩
    refine sp rfl <| sS (.bool b2) (Quiet.pure (exec_int .geq _ _ _ .u64 _ _ _ rfl rfl rfl (int_geq _ _ _ _ _ (by rw [hb2]; exact decide_eq_decide.2 (by omega))))) ?_
    refine sG ?_
    cases b2
    · rw [if_neg (of_decide_eq_false hb2.symm)] at hc1
      rw [hc1]
      refine sU ?_
      refine Sy.skip ?_
      exact meet (all_cons kR (all_cons kR (all_cons kR all_nil))) (fun _ h => h)
    · rw [if_pos (of_decide_eq_true hb2.symm)] at hc1
      rw [hc1]
      refine sT ?_
      refine Sy.region ?_
      refine sP (bv 254) <| sP (.int .i64 4) ?_
      refine Sy.nil ?_
      exact meet (all_cons kR (all_cons kR (all_cons kR all_nil))) (fun _ h => h)
  clear hc1
  refine Sy.then_ ?_
  refine Sy.seq ?_
  refine cutC [(0, .int .u64 (n : Int)), (3, bv c2.1), (4, .int .i64 ((c2.2 : Nat) : Int))] [] ?_ ?_
  · refine sC ?_
    obtain ⟨b2, hb2⟩ : ∃ z : Bool, z = decide (4294967296 ≤ n) := ⟨_, rfl⟩
    refine sp rfl <| sS (.bool b2) (Quiet.pure (exec_int .geq _ _ _ .u64 _ _ _ rfl rfl rfl (int_geq _ _ _ _ _ (by rw [hb2]; exact decide_eq_decide.2 (by omega))))) ?_
    refine sG ?_
    cases b2
    · rw [if_neg (of_decide_eq_false hb2.symm)] at hc2
      rw [hc2]
      refine sU ?_
      refine Sy.skip ?_
      exact meet (all_cons kR (all_cons kR (all_cons kR all_nil))) (fun _ h => h)
    · rw [if_pos (of_decide_eq_true hb2.symm)] at hc2
      rw [hc2]
      refine sT ?_
      refine Sy.region ?_
      refine sP (bv 255) <| sP (.int .i64 8) ?_
      refine Sy.nil ?_
      exact meet (all_cons kR (all_cons kR (all_cons kR all_nil))) (fun _ h => h)
  clear hc2
  obtain ⟨x, k⟩ := c2
  dsimp only at hv hc8 ⊢
  rw [hv]
  refine Sy.then_ ?_
  refine sC ?_
  refine sp rfl ?_
  refine Sy.make kR 5 #[bv x] (fun g => .slice (some ⟨g, 0, none⟩) 1 1) kF (fun g1 => ?_)
  refine sp rfl ?_
  refine sA ?_
  refine sp rfl <| sp rfl <| sp rfl ?_
  refine Sy.callN kR 152 #[.int .u64 (n : Int), .int .i64 (k : Int)] kF _ (fun w' _ => numberR_any w' n k hn hc8) (fun u M hM => ?_)
  obtain ⟨A, m, cp, rfl, h2, h3, h4, h5⟩ := hM.byt
  rw [nb_len] at h2
  have hf : BytR (rdC (Base.of w) M) (.slice A m cp) (nb k n) := (hM.byt).le rdB_base
  refine Sy.appendM (pre := []) (r := ⟨.slice (some ⟨g1, 0, none⟩) 1 1, [(g1, 5, #[bv x])]⟩) (T := M) kR 27 5 _ _ 1 1 Tryz.underlying27 Cu.info_u8 rfl rfl rfl rfl (by decide) _ _ rfl (BS.one g1 x) kR (byL_one (nb k n)) (byL_oneC (nb k n)) A m cp (by rw [byL_len, nb_len, h2]) h3 kR (fun r => BytR.from hf (fun y hy => List.mem_append_right [] (List.mem_append_right _ hy))) (by rw [byL_len]; show (1 + m) * 1 ≤ _; omega) (by rw [byL_len]; show 1 + m ≤ _; simp only [maxLen]; omega) (fun r hr => ?_)
  have hr' : BS r (x :: nb k n) := hr
  refine sp rfl ?_
  refine sA ?_
  refine sp rfl <| sp rfl ?_
  refine sG ?_
  refine Sy.ret ?_
  exact Sy.retGM r.bl rfl (.inl (show _ = _ by kernel_rfl)) (fun _ h => h.less (List.sublist_append_left _ _)) hr'.as
end Go.Proofs.YtgemfpnlnipfnaaGreat.Wr

end
section
namespace Go.Proofs.YtgemfpnlnipfnaaGreat.Wr
open Go.RowKit Go.Proofs.YtgemfpnlnipfnaaGreat Go.Proofs.YtgemfpnlnipfnaaGreat.Sy
set_option maxRecDepth 100000
set_option maxHeartbeats 4000000

def gv1 (b : Byt) (at_ e : Nat) : Nat × Nat × Nat := ((rawN b at_ e 1).1, (rawN b at_ e 1).2.1, said (rawN b at_ e 1).2.2)
def gv2 (b : Byt) (at_ e : Nat) : Nat × Nat × Nat := if (gv1 b at_ e).2.1 = 0 ∧ 253 ≤ (gv1 b at_ e).2.2 then ((rawN b (gv1 b at_ e).1 (gv1 b at_ e).2.1 (wide (gv1 b at_ e).2.2)).1, (rawN b (gv1 b at_ e).1 (gv1 b at_ e).2.1 (wide (gv1 b at_ e).2.2)).2.1, said (rawN b (gv1 b at_ e).1 (gv1 b at_ e).2.1 (wide (gv1 b at_ e).2.2)).2.2) else gv1 b at_ e
def gvN (b : Byt) (at_ e most : Nat) : Nat × Nat × Nat := if (gv2 b at_ e).2.1 ≠ 0 then (at_, (gv2 b at_ e).2.1, 0) else if (varB (gv2 b at_ e).2.2).length ≠ (gv2 b at_ e).1 - at_ then (at_, 111, 0) else if most < (gv2 b at_ e).2.2 then (at_, 112, 0) else gv2 b at_ e
theorem rawN_at (b : Byt) (at_ e n : Nat) (h : at_ ≤ b.length) : at_ ≤ (rawN b at_ e n).1 ∧ (rawN b at_ e n).1 ≤ b.length := by
  unfold rawN
  split
  · exact ⟨Nat.le_refl _, h⟩
  · split
    · exact ⟨Nat.le_refl _, h⟩
    · exact ⟨Nat.le_add_right _ _, by show at_ + n ≤ _; omega⟩
theorem rawN_said (b : Byt) (at_ e n : Nat) (h : n ≤ 8) : said (rawN b at_ e n).2.2 < 18446744073709551616 := by
  have h1 := said_lt (rawN b at_ e n).2.2
  have h2 := rawN_len b at_ e n
  have h3 : 256 ^ (rawN b at_ e n).2.2.length ≤ 256 ^ 8 := Nat.pow_le_pow_right (by decide) (by omega)
  exact Nat.lt_of_lt_of_le h1 h3
theorem gv1_lt (b : Byt) (at_ e : Nat) : (gv1 b at_ e).2.2 < 256 := by
  have h1 := said_lt (rawN b at_ e 1).2.2
  have h2 := rawN_len b at_ e 1
  have h3 : 256 ^ (rawN b at_ e 1).2.2.length ≤ 256 ^ 1 := Nat.pow_le_pow_right (by decide) (by omega)
  exact Nat.lt_of_lt_of_le h1 h3
theorem gv2_at (b : Byt) (at_ e : Nat) (h : at_ ≤ b.length) : at_ ≤ (gv2 b at_ e).1 ∧ (gv2 b at_ e).1 ≤ b.length ∧ (gv2 b at_ e).2.2 < 18446744073709551616 := by
  have h1 := rawN_at b at_ e 1 h
  unfold gv2
  split
  · have h2 := rawN_at b (gv1 b at_ e).1 (gv1 b at_ e).2.1 (wide (gv1 b at_ e).2.2) h1.2
    exact ⟨Nat.le_trans h1.1 h2.1, h2.2, rawN_said _ _ _ _ (wide_le _).1⟩
  · exact ⟨h1.1, h1.2, Nat.lt_trans (gv1_lt b at_ e) (by decide)⟩
theorem getVarR_any (w : World) (sl : Value) (b : Byt) (at_ e most : Nat) (hat : at_ ≤ b.length) (hm : most < 18446744073709551616) (hl : b.length ≤ 70368744177664) (hv : BytR (rdW w) sl b) :
    Calls Tryz.prog 159 #[rrV sl at_ e, .int .u64 (most : Int), .bool false] w (Gets w (.tuple #[rrV sl (gvN b at_ e most).1 (gvN b at_ e most).2.1, .int .u64 (((gvN b at_ e most).2.2 : Nat) : Int)])) := by
  have hv0 := hv
  obtain ⟨A, m, cp, rfl, h2, h3, h4, h5⟩ := hv
  have hlt := gv1_lt b at_ e
  obtain ⟨f, hf⟩ : ∃ f, f = gv1 b at_ e := ⟨_, rfl⟩
  have hf1 : f.1 = (rawN b at_ e 1).1 := by rw [hf]; rfl
  have hf2 : f.2.1 = (rawN b at_ e 1).2.1 := by rw [hf]; rfl
  have hf3 : f.2.2 = said (rawN b at_ e 1).2.2 := by rw [hf]; rfl
  have hfa := rawN_at b at_ e 1 hat
  obtain ⟨q1, q2, hq3⟩ := gv2_at b at_ e hat
  obtain ⟨q, hq⟩ : ∃ q, q = gv2 b at_ e := ⟨_, rfl⟩
  have hqf : q = if f.2.1 = 0 ∧ 253 ≤ f.2.2 then ((rawN b f.1 f.2.1 (wide f.2.2)).1, (rawN b f.1 f.2.1 (wide f.2.2)).2.1, said (rawN b f.1 f.2.1 (wide f.2.2)).2.2) else f := by rw [hq, hf]; rfl
  have hg : gvN b at_ e most = if q.2.1 ≠ 0 then (at_, q.2.1, 0) else if (varB q.2.2).length ≠ q.1 - at_ then (at_, 111, 0) else if most < q.2.2 then (at_, 112, 0) else q := by rw [hq]; rfl
  rw [← hq] at q1 q2 hq3
  rw [← hf] at hlt
  rw [← hf1] at hfa
  rw [hg]
  clear hq hf hg
  refine Sy.enter (args := [rrV (.slice A m cp) at_ e, .int .u64 (most : Int), .bool false]) Tryz.func159 rfl kL ?_
  refine sC ?_
  refine sM 184 (rrC (.slice A m cp) at_ e) (fun g3 => ?_)
  refine sM 184 (rrC (.slice none 0 0) 0 0) (fun g6 => ?_)
  refine sP (.int .u64 0) ?_
  refine sA ?_
  refine sS (rrV (.slice A m cp) at_ e) (qk 0 0 3 rfl rfl Tryz.underlying184) <| sS (.tuple #[rrV (.slice A m cp) f.1 f.2.1, .int .u64 ((f.2.2 : Nat) : Int)]) (qg (fun w' hw => by rw [hf1, hf2, hf3]; exact getR_any w' (.slice A m cp) b at_ e 1 hat (by decide) hl (hv0.at hw))) <| sp rfl <| sp rfl <| sp rfl ?_
  refine sM 184 (rrC (.slice none 0 0) 0 0) (fun g8 => ?_)
  refine sw 2 rfl (rrC (.slice A m cp) f.1 f.2.1) (wA rfl) <| sp rfl ?_
  refine sA ?_
  refine sp rfl <| sp rfl ?_
  refine sG ?_
  refine Sy.seq ?_
  refine cutC [(1, .int .u64 (most : Int)), (2, .bool false), (3, ptr g3), (6, ptr g6), (8, ptr g8), (10, .int .u64 ((q.2.2 : Nat) : Int))] [(g3, 184, rrC (.slice A m cp) at_ e), (g6, 184, rrC (.slice none 0 0) 0 0), (g8, 184, rrC (.slice A m cp) q.1 q.2.1)] ?_ ?_
  · refine sC ?_
    obtain ⟨b1, hb1⟩ : ∃ z : Bool, z = decide (f.2.1 = 0) := ⟨_, rfl⟩
    refine sP (.pointer (some ⟨g8, 2, none⟩)) <| sS (.int .i64 ((f.2.1 : Nat) : Int)) (qc 2 2 rfl rfl Tryz.underlying28) <| sS (.bool b1) (Quiet.pure (exec_int .eql _ _ _ .i64 _ _ _ rfl rfl rfl (int_eql _ _ _ _ _ (by rw [hb1]; exact decide_eq_decide.2 (by omega))))) <| sp rfl ?_
    cases b1
    case' false =>
      have l1 : ¬ f.2.1 = 0 := of_decide_eq_false hb1.symm
      rw [if_neg (fun h => l1 h.1)] at hqf
      refine sN <| sN <| sP (.bool false) ?_
      refine sG ?_
      refine sU ?_
      refine Sy.skip ?_
      rw [hqf]
      exact meet (all_cons kR (all_cons kR (all_cons kR (all_cons kR (all_cons kR (all_cons kR all_nil)))))) (fun _ h => h)
    have l1 : f.2.1 = 0 := of_decide_eq_true hb1.symm
    obtain ⟨b2, hb2⟩ : ∃ z : Bool, z = decide (253 ≤ f.2.2) := ⟨_, rfl⟩
    refine sp rfl <| sS (.bool b2) (Quiet.pure (exec_int .geq _ _ _ .u64 _ _ _ rfl rfl rfl (int_geq _ _ _ _ _ (by rw [hb2]; exact decide_eq_decide.2 (by omega))))) <| sP (.bool b2) ?_
    refine sG ?_
    cases b2
    case' false =>
      have l2 : ¬ 253 ≤ f.2.2 := of_decide_eq_false hb2.symm
      rw [if_neg (fun h => l2 h.2)] at hqf
      refine sU ?_
      refine Sy.skip ?_
      rw [hqf]
      exact meet (all_cons kR (all_cons kR (all_cons kR (all_cons kR (all_cons kR (all_cons kR all_nil)))))) (fun _ h => h)
    have l2 : 253 ≤ f.2.2 := of_decide_eq_true hb2.symm
    rw [if_pos ⟨l1, l2⟩] at hqf
    have hqa : q.1 = (rawN b f.1 f.2.1 (wide f.2.2)).1 := by rw [hqf]
    have hqb : q.2.1 = (rawN b f.1 f.2.1 (wide f.2.2)).2.1 := by rw [hqf]
    have hqc : q.2.2 = said (rawN b f.1 f.2.1 (wide f.2.2)).2.2 := by rw [hqf]
    clear hqf
    obtain ⟨k1, hk1⟩ : ∃ k, k = if f.2.2 = 254 then 4 else 2 := ⟨_, rfl⟩
    obtain ⟨k2, hk2⟩ : ∃ k, k = if f.2.2 = 255 then 8 else k1 := ⟨_, rfl⟩
    have hk : wide f.2.2 = k2 := by
      rw [hk2, hk1]
      unfold wide
      repeat' split
      all_goals omega
    have hk8 := (wide_le f.2.2).1
    rw [hk] at hqa hqb hqc hk8
    clear hk
    refine sT ?_
    refine sC ?_
    refine sP (.int .i64 2) ?_
    refine sG ?_
    refine Sy.seq ?_
    refine cutC [(1, .int .u64 (most : Int)), (2, .bool false), (3, ptr g3), (6, ptr g6), (8, ptr g8), (9, .int .u64 ((f.2.2 : Nat) : Int)), (11, .int .i64 (k1 : Int))] [(g3, 184, rrC (.slice A m cp) at_ e), (g6, 184, rrC (.slice none 0 0) 0 0), (g8, 184, rrC (.slice A m cp) f.1 f.2.1)] ?_ ?_
    · refine sC ?_
      obtain ⟨b3, hb3⟩ : ∃ z : Bool, z = decide (f.2.2 = 254) := ⟨_, rfl⟩
      refine sp rfl <| sS (.bool b3) (Quiet.pure (exec_int .eql _ _ _ .u64 _ _ _ rfl rfl rfl (int_eql _ _ _ _ _ (by rw [hb3]; exact decide_eq_decide.2 (by omega))))) ?_
      refine sG ?_
      cases b3
      · rw [if_neg (of_decide_eq_false hb3.symm)] at hk1
        subst hk1
        refine sU ?_
        refine Sy.skip ?_
        exact meet (all_cons kR (all_cons kR (all_cons kR (all_cons kR (all_cons kR (all_cons kR (all_cons kR all_nil))))))) (fun _ h => h)
      · rw [if_pos (of_decide_eq_true hb3.symm)] at hk1
        subst hk1
        refine sT ?_
        refine Sy.region ?_
        refine sP (.int .i64 4) ?_
        refine Sy.nil ?_
        exact meet (all_cons kR (all_cons kR (all_cons kR (all_cons kR (all_cons kR (all_cons kR (all_cons kR all_nil))))))) (fun _ h => h)
    clear hk1
    refine Sy.then_ ?_
    refine Sy.seq ?_
    refine cutC [(1, .int .u64 (most : Int)), (2, .bool false), (3, ptr g3), (6, ptr g6), (8, ptr g8), (9, .int .u64 ((f.2.2 : Nat) : Int)), (11, .int .i64 (k2 : Int))] [(g3, 184, rrC (.slice A m cp) at_ e), (g6, 184, rrC (.slice none 0 0) 0 0), (g8, 184, rrC (.slice A m cp) f.1 f.2.1)] ?_ ?_
    · refine sC ?_
      obtain ⟨b3, hb3⟩ : ∃ z : Bool, z = decide (f.2.2 = 255) := ⟨_, rfl⟩
      refine sp rfl <| sS (.bool b3) (Quiet.pure (exec_int .eql _ _ _ .u64 _ _ _ rfl rfl rfl (int_eql _ _ _ _ _ (by rw [hb3]; exact decide_eq_decide.2 (by omega))))) ?_
      refine sG ?_
      cases b3
      · rw [if_neg (of_decide_eq_false hb3.symm)] at hk2
        subst hk2
        refine sU ?_
        refine Sy.skip ?_
        exact meet (all_cons kR (all_cons kR (all_cons kR (all_cons kR (all_cons kR (all_cons kR (all_cons kR all_nil))))))) (fun _ h => h)
      · rw [if_pos (of_decide_eq_true hb3.symm)] at hk2
        subst hk2
        refine sT ?_
        refine Sy.region ?_
        refine sP (.int .i64 8) ?_
        refine Sy.nil ?_
        exact meet (all_cons kR (all_cons kR (all_cons kR (all_cons kR (all_cons kR (all_cons kR (all_cons kR all_nil))))))) (fun _ h => h)
    clear hk2
    refine Sy.then_ ?_
    refine Sy.region ?_
    refine sS (rrV (.slice A m cp) f.1 f.2.1) (qk 2 0 3 rfl rfl Tryz.underlying184) <| sp rfl <| sS (.tuple #[rrV (.slice A m cp) q.1 q.2.1, .int .u64 ((q.2.2 : Nat) : Int)]) (qg (fun w' hw => by rw [hqa, hqb, hqc]; exact getR_any w' (.slice A m cp) b f.1 f.2.1 k2 hfa.2 hk8 hl (hv0.at hw))) <| sp rfl <| sp rfl <| sp rfl <| sw 2 rfl (rrC (.slice A m cp) q.1 q.2.1) (wA rfl) <| sp rfl ?_
    refine Sy.nil ?_
    exact meet (all_cons kR (all_cons kR (all_cons kR (all_cons kR (all_cons kR (all_cons kR all_nil)))))) (fun _ h => h)
  clear hqf hf1 hf2 hf3 hfa hlt
  refine Sy.then_ ?_
  refine Sy.seq ?_
  refine sC ?_
  obtain ⟨b1, hb1⟩ : ∃ z : Bool, z = decide (q.2.1 ≠ 0) := ⟨_, rfl⟩
  refine sP (.pointer (some ⟨g8, 2, none⟩)) <| sS (.int .i64 ((q.2.1 : Nat) : Int)) (qc 2 2 rfl rfl Tryz.underlying28) <| sS (.bool b1) (Quiet.pure (exec_int .neq _ _ _ .i64 _ _ _ rfl rfl rfl (int_neq _ _ _ _ _ (by rw [hb1]; exact decide_eq_decide.2 (by omega))))) ?_
  refine sG ?_
  cases b1
  case' true =>
    rw [if_pos (of_decide_eq_true hb1.symm)]
    refine sT ?_
    refine sC ?_
    refine sP (.pointer (some ⟨g8, 2, none⟩)) <| sS (.int .i64 ((q.2.1 : Nat) : Int)) (qc 2 2 rfl rfl Tryz.underlying28) <| sP (.pointer (some ⟨g3, 2, none⟩)) <| sw 0 rfl (rrC (.slice A m cp) at_ q.2.1) (wO 2 28 (.int .i64 ((q.2.1 : Nat) : Int)) rfl) ?_
    refine sA ?_
    refine sS (rrV (.slice A m cp) at_ q.2.1) (qk 0 0 3 rfl rfl Tryz.underlying184) <| sw 1 rfl (rrC (.slice A m cp) at_ q.2.1) (wA rfl) <| sP (.int .u64 0) ?_
    refine sG ?_
    refine Sy.ret ?_
    refine Sy.then_ret ?_
    exact Sy.ret2 rfl (.inl (Sy.Res.cell (ty' := 184) g6 1 (rrC (.slice A m cp) at_ q.2.1) _ (by kernel_rfl) rfl Tryz.underlying184 rfl (by kernel_rfl) rfl)) (.inl (show _ = _ by kernel_rfl))
  have l1 := of_decide_eq_false hb1.symm
  rw [if_neg l1]
  refine sU ?_
  refine Sy.skip ?_
  refine Sy.then_ ?_
  refine Sy.seq ?_
  refine Sy.seq ?_
  obtain ⟨b3, hb3⟩ : ∃ z : Bool, z = decide ((varB q.2.2).length ≠ q.1 - at_) := ⟨_, rfl⟩
  refine cutC [(1, .int .u64 (most : Int)), (2, .bool false), (3, ptr g3), (6, ptr g6), (8, ptr g8), (10, .int .u64 ((q.2.2 : Nat) : Int)), (50, .bool b3)] [(g3, 184, rrC (.slice A m cp) at_ e), (g6, 184, rrC (.slice none 0 0) 0 0), (g8, 184, rrC (.slice A m cp) q.1 q.2.1)] ?_ ?_
  · refine Sy.regionD (fun j => j == 1 || j == 4 || j == 6) kR ?_
    refine sa 0 rfl rfl <| sb 3 rfl (.pointer (some ⟨g8, 1, none⟩)) <| sb 5 rfl (.pointer (some ⟨g3, 1, none⟩)) ?_
    refine Sy.anyOf [1, 4, 6] (by kernel_rfl) (by decide) (Sy.each3 ?_ ?_ ?_)
    · refine Sy.oneCallN rfl (by kernel_rfl) 153 #[.int .u64 ((q.2.2 : Nat) : Int)] kF _ (fun w' _ => varR_any w' q.2.2 hq3) (fun u M hM => ?_)
      obtain ⟨A1, m1, c1, rfl, k2, _⟩ := hM.byt
      refine sb 2 rfl (.int .i64 (m1 : Int)) ?_
      refine Sy.anyOf [4, 6] (by kernel_rfl) (by decide) (Sy.each2 ?_ ?_)
      · refine Sy.oneQuiet rfl (by kernel_rfl) (.int .i64 ((q.1 : Nat) : Int)) (qc 2 1 rfl rfl Tryz.underlying3) ?_
        refine Sy.anyOf [6] (by kernel_rfl) (by decide) (Sy.each1 ?_)
        · refine Sy.oneQuiet rfl (by kernel_rfl) (.int .i64 (at_ : Int)) (qc 0 1 rfl rfl Tryz.underlying3) ?_
          refine sv 7 rfl (.int .i64 ((q.1 - at_ : Nat) : Int)) (exec_int .sub _ _ _ .i64 _ _ _ rfl rfl rfl (int_sub _ _ _ _ _ ((wrap_i64 (by omega) (by omega)).trans (by omega)))) ?_
          refine sv 8 rfl (.bool b3) (exec_int .neq _ _ _ .i64 _ _ _ rfl rfl rfl (int_neq _ _ _ _ _ (by rw [hb3]; exact decide_eq_decide.2 (by omega)))) ?_
          refine sE ?_
          exact meet (all_cons kR (all_cons kR (all_cons kR (all_cons kR (all_cons kR (all_cons kR (all_cons kR all_nil))))))) (fun _ h => h.less (List.sublist_append_left _ _))
      · refine Sy.oneQuiet rfl (by kernel_rfl) (.int .i64 (at_ : Int)) (qc 0 1 rfl rfl Tryz.underlying3) ?_
        refine Sy.anyOf [4] (by kernel_rfl) (by decide) (Sy.each1 ?_)
        · refine Sy.oneQuiet rfl (by kernel_rfl) (.int .i64 ((q.1 : Nat) : Int)) (qc 2 1 rfl rfl Tryz.underlying3) ?_
          refine sv 7 rfl (.int .i64 ((q.1 - at_ : Nat) : Int)) (exec_int .sub _ _ _ .i64 _ _ _ rfl rfl rfl (int_sub _ _ _ _ _ ((wrap_i64 (by omega) (by omega)).trans (by omega)))) ?_
          refine sv 8 rfl (.bool b3) (exec_int .neq _ _ _ .i64 _ _ _ rfl rfl rfl (int_neq _ _ _ _ _ (by rw [hb3]; exact decide_eq_decide.2 (by omega)))) ?_
          refine sE ?_
          exact meet (all_cons kR (all_cons kR (all_cons kR (all_cons kR (all_cons kR (all_cons kR (all_cons kR all_nil))))))) (fun _ h => h.less (List.sublist_append_left _ _))
    · refine Sy.oneQuiet rfl (by kernel_rfl) (.int .i64 ((q.1 : Nat) : Int)) (qc 2 1 rfl rfl Tryz.underlying3) ?_
      refine Sy.anyOf [1, 6] (by kernel_rfl) (by decide) (Sy.each2 ?_ ?_)
      · refine Sy.oneCallN rfl (by kernel_rfl) 153 #[.int .u64 ((q.2.2 : Nat) : Int)] kF _ (fun w' _ => varR_any w' q.2.2 hq3) (fun u M hM => ?_)
        obtain ⟨A1, m1, c1, rfl, k2, _⟩ := hM.byt
        refine sb 2 rfl (.int .i64 (m1 : Int)) ?_
        refine Sy.anyOf [6] (by kernel_rfl) (by decide) (Sy.each1 ?_)
        · refine Sy.oneQuiet rfl (by kernel_rfl) (.int .i64 (at_ : Int)) (qc 0 1 rfl rfl Tryz.underlying3) ?_
          refine sv 7 rfl (.int .i64 ((q.1 - at_ : Nat) : Int)) (exec_int .sub _ _ _ .i64 _ _ _ rfl rfl rfl (int_sub _ _ _ _ _ ((wrap_i64 (by omega) (by omega)).trans (by omega)))) ?_
          refine sv 8 rfl (.bool b3) (exec_int .neq _ _ _ .i64 _ _ _ rfl rfl rfl (int_neq _ _ _ _ _ (by rw [hb3]; exact decide_eq_decide.2 (by omega)))) ?_
          refine sE ?_
          exact meet (all_cons kR (all_cons kR (all_cons kR (all_cons kR (all_cons kR (all_cons kR (all_cons kR all_nil))))))) (fun _ h => h.less (List.sublist_append_left _ _))
      · refine Sy.oneQuiet rfl (by kernel_rfl) (.int .i64 (at_ : Int)) (qc 0 1 rfl rfl Tryz.underlying3) ?_
        refine sv 7 rfl (.int .i64 ((q.1 - at_ : Nat) : Int)) (exec_int .sub _ _ _ .i64 _ _ _ rfl rfl rfl (int_sub _ _ _ _ _ ((wrap_i64 (by omega) (by omega)).trans (by omega)))) ?_
        refine Sy.anyOf [1] (by kernel_rfl) (by decide) (Sy.each1 ?_)
        · refine Sy.oneCallN rfl (by kernel_rfl) 153 #[.int .u64 ((q.2.2 : Nat) : Int)] kF _ (fun w' _ => varR_any w' q.2.2 hq3) (fun u M hM => ?_)
          obtain ⟨A1, m1, c1, rfl, k2, _⟩ := hM.byt
          refine sb 2 rfl (.int .i64 (m1 : Int)) ?_
          refine sv 8 rfl (.bool b3) (exec_int .neq _ _ _ .i64 _ _ _ rfl rfl rfl (int_neq _ _ _ _ _ (by rw [hb3]; exact decide_eq_decide.2 (by omega)))) ?_
          refine sE ?_
          exact meet (all_cons kR (all_cons kR (all_cons kR (all_cons kR (all_cons kR (all_cons kR (all_cons kR all_nil))))))) (fun _ h => h.less (List.sublist_append_left _ _))
    · refine Sy.oneQuiet rfl (by kernel_rfl) (.int .i64 (at_ : Int)) (qc 0 1 rfl rfl Tryz.underlying3) ?_
      refine Sy.anyOf [1, 4] (by kernel_rfl) (by decide) (Sy.each2 ?_ ?_)
      · refine Sy.oneCallN rfl (by kernel_rfl) 153 #[.int .u64 ((q.2.2 : Nat) : Int)] kF _ (fun w' _ => varR_any w' q.2.2 hq3) (fun u M hM => ?_)
        obtain ⟨A1, m1, c1, rfl, k2, _⟩ := hM.byt
        refine sb 2 rfl (.int .i64 (m1 : Int)) ?_
        refine Sy.anyOf [4] (by kernel_rfl) (by decide) (Sy.each1 ?_)
        · refine Sy.oneQuiet rfl (by kernel_rfl) (.int .i64 ((q.1 : Nat) : Int)) (qc 2 1 rfl rfl Tryz.underlying3) ?_
          refine sv 7 rfl (.int .i64 ((q.1 - at_ : Nat) : Int)) (exec_int .sub _ _ _ .i64 _ _ _ rfl rfl rfl (int_sub _ _ _ _ _ ((wrap_i64 (by omega) (by omega)).trans (by omega)))) ?_
          refine sv 8 rfl (.bool b3) (exec_int .neq _ _ _ .i64 _ _ _ rfl rfl rfl (int_neq _ _ _ _ _ (by rw [hb3]; exact decide_eq_decide.2 (by omega)))) ?_
          refine sE ?_
          exact meet (all_cons kR (all_cons kR (all_cons kR (all_cons kR (all_cons kR (all_cons kR (all_cons kR all_nil))))))) (fun _ h => h.less (List.sublist_append_left _ _))
      · refine Sy.oneQuiet rfl (by kernel_rfl) (.int .i64 ((q.1 : Nat) : Int)) (qc 2 1 rfl rfl Tryz.underlying3) ?_
        refine sv 7 rfl (.int .i64 ((q.1 - at_ : Nat) : Int)) (exec_int .sub _ _ _ .i64 _ _ _ rfl rfl rfl (int_sub _ _ _ _ _ ((wrap_i64 (by omega) (by omega)).trans (by omega)))) ?_
        refine Sy.anyOf [1] (by kernel_rfl) (by decide) (Sy.each1 ?_)
        · refine Sy.oneCallN rfl (by kernel_rfl) 153 #[.int .u64 ((q.2.2 : Nat) : Int)] kF _ (fun w' _ => varR_any w' q.2.2 hq3) (fun u M hM => ?_)
          obtain ⟨A1, m1, c1, rfl, k2, _⟩ := hM.byt
          refine sb 2 rfl (.int .i64 (m1 : Int)) ?_
          refine sv 8 rfl (.bool b3) (exec_int .neq _ _ _ .i64 _ _ _ rfl rfl rfl (int_neq _ _ _ _ _ (by rw [hb3]; exact decide_eq_decide.2 (by omega)))) ?_
          refine sE ?_
          exact meet (all_cons kR (all_cons kR (all_cons kR (all_cons kR (all_cons kR (all_cons kR (all_cons kR all_nil))))))) (fun _ h => h.less (List.sublist_append_left _ _))
  refine Sy.then_ ?_
  cases b3
  case' true =>
    rw [if_pos (of_decide_eq_true hb3.symm)]
    refine sT ?_
    refine sC ?_
    refine sP (.pointer (some ⟨g3, 2, none⟩)) <| sw 0 rfl (rrC (.slice A m cp) at_ 111) (wO 2 28 (.int .i64 111) rfl) ?_
    refine sA ?_
    refine sS (rrV (.slice A m cp) at_ 111) (qk 0 0 3 rfl rfl Tryz.underlying184) <| sw 1 rfl (rrC (.slice A m cp) at_ 111) (wA rfl) <| sP (.int .u64 0) ?_
    refine sG ?_
    refine Sy.ret ?_
    refine Sy.then_ret ?_
    exact Sy.ret2 rfl (.inl (Sy.Res.cell (ty' := 184) g6 1 (rrC (.slice A m cp) at_ 111) _ (by kernel_rfl) rfl Tryz.underlying184 rfl (by kernel_rfl) rfl)) (.inl (show _ = _ by kernel_rfl))
  rw [if_neg (of_decide_eq_false hb3.symm)]
  refine sU ?_
  refine Sy.skip ?_
  refine Sy.then_ ?_
  refine Sy.seq ?_
  refine sC ?_
  obtain ⟨b4, hb4⟩ : ∃ z : Bool, z = decide (most < q.2.2) := ⟨_, rfl⟩
  refine sp rfl <| sp rfl <| sp rfl <| sp rfl <| sS (.bool b4) (Quiet.pure (exec_int .gtr _ _ _ .u64 _ _ _ rfl rfl rfl (int_gtr _ _ _ _ _ (by rw [hb4]; exact decide_eq_decide.2 (by omega))))) <| sP (.bool b4) ?_
  refine sG ?_
  cases b4
  case' true =>
    rw [if_pos (of_decide_eq_true hb4.symm)]
    refine sT ?_
    refine sC ?_
    refine sP (.pointer (some ⟨g3, 2, none⟩)) <| sw 0 rfl (rrC (.slice A m cp) at_ 112) (wO 2 28 (.int .i64 112) rfl) ?_
    refine sA ?_
    refine sS (rrV (.slice A m cp) at_ 112) (qk 0 0 3 rfl rfl Tryz.underlying184) <| sw 1 rfl (rrC (.slice A m cp) at_ 112) (wA rfl) <| sP (.int .u64 0) ?_
    refine sG ?_
    refine Sy.ret ?_
    refine Sy.then_ret ?_
    exact Sy.ret2 rfl (.inl (Sy.Res.cell (ty' := 184) g6 1 (rrC (.slice A m cp) at_ 112) _ (by kernel_rfl) rfl Tryz.underlying184 rfl (by kernel_rfl) rfl)) (.inl (show _ = _ by kernel_rfl))
  rw [if_neg (of_decide_eq_false hb4.symm)]
  refine sU ?_
  refine Sy.skip ?_
  refine sB ?_
  refine sS (rrV (.slice A m cp) q.1 q.2.1) (qk 2 0 3 rfl rfl Tryz.underlying184) <| sp rfl <| sw 1 rfl (rrC (.slice A m cp) q.1 q.2.1) (wA rfl) <| sp rfl ?_
  refine sG ?_
  refine Sy.ret ?_
  exact Sy.ret2 rfl (.inl (Sy.Res.cell (ty' := 184) g6 1 (rrC (.slice A m cp) q.1 q.2.1) _ (by kernel_rfl) rfl Tryz.underlying184 rfl (by kernel_rfl) rfl)) (.inl (show _ = _ by kernel_rfl))
end Go.Proofs.YtgemfpnlnipfnaaGreat.Wr

end
section
namespace Go.Proofs.YtgemfpnlnipfnaaGreat.Wr
open Go.RowKit Go.Proofs.YtgemfpnlnipfnaaGreat Go.Proofs.YtgemfpnlnipfnaaGreat.Sy
set_option maxRecDepth 100000
set_option maxHeartbeats 4000000

theorem raw_fx (b : Byt) (at_ k : Nat) (h : at_ ≤ b.length) : (rawN b at_ 0 k).1 = at_ + (fxN (b.drop at_) k).2.1 ∧ (rawN b at_ 0 k).2.1 = (fxN (b.drop at_) k).2.2 ∧ said (rawN b at_ 0 k).2.2 = (fxN (b.drop at_) k).1 := by
  unfold rawN fxN
  rw [if_neg (fun h => h rfl), List.length_drop]
  by_cases h : b.length - at_ < k
  · rw [if_pos h, if_pos h]; exact ⟨rfl, rfl, rfl⟩
  · rw [if_neg h, if_neg h]; exact ⟨rfl, rfl, rfl⟩
theorem fx_len {b : Byt} {k : Nat} (h : (fxN b k).2.2 = 0) : (fxN b k).2.1 = k := by
  unfold fxN at h ⊢
  split at h
  · cases h
  · rename_i hl; rw [if_neg hl]
theorem fx_zero {b : Byt} {k : Nat} (h : (fxN b k).2.2 ≠ 0) : (fxN b k).1 = 0 ∧ (fxN b k).2.1 = 0 := by
  unfold fxN at h ⊢
  split at h
  · rename_i hl; rw [if_pos hl]; exact ⟨rfl, rfl⟩
  · exact (h rfl).elim
theorem gvN_is (b : Byt) (at_ most : Nat) (h : at_ ≤ b.length) : gvN b at_ 0 most = (at_ + (vrN (b.drop at_) most).2.1, (vrN (b.drop at_) most).2.2, (vrN (b.drop at_) most).1) := by
  have r1 := raw_fx b at_ 1 h
  cases hl : b.drop at_ with
  | nil =>
    rw [hl] at r1
    have e1 : gv1 b at_ 0 = (at_, 110, 0) := by
      unfold gv1
      rw [r1.1, r1.2.1, r1.2.2]; rfl
    have e2 : gv2 b at_ 0 = (at_, 110, 0) := by unfold gv2; rw [e1]; exact if_neg (fun h => by cases h.1)
    unfold gvN
    rw [e2, if_pos (show (110 : Nat) ≠ 0 by decide)]
    rfl
  | cons u l =>
    have hu := u.toNat_lt
    rw [hl, fx_one (rfl : u :: l = u :: l)] at r1
    have e1 : gv1 b at_ 0 = (at_ + 1, 0, u.toNat) := by
      unfold gv1
      rw [r1.1, r1.2.1, r1.2.2]
    by_cases hc : 253 ≤ u.toNat
    · have hat1 : at_ + 1 ≤ b.length := by
        have := congrArg List.length hl
        rw [List.length_drop, List.length_cons] at this; omega
      have hd : b.drop (at_ + 1) = l := by rw [← List.drop_drop, hl]; rfl
      have r2 := raw_fx b (at_ + 1) (wide u.toNat) hat1
      rw [hd] at r2
      have hg : vrG (u :: l) = if (fxN l (wide u.toNat)).2.2 = 0 then (if (fxN l (wide u.toNat)).1 < least u.toNat then (0, 0, 111) else ((fxN l (wide u.toNat)).1, 1 + wide u.toNat, 0)) else (0, 0, (fxN l (wide u.toNat)).2.2) := by
        unfold vrG
        rw [fx_one (rfl : u :: l = u :: l), if_pos (show 253 ≤ (u.toNat, 1, 0).1 from hc)]
        rfl
      have hfl := fxN_fit l (wide u.toNat) (wide_le _).1
      have hfn : (fxN l (wide u.toNat)).1 < 256 ^ wide u.toNat := by
        unfold fxN
        split
        · exact Nat.pow_pos (by decide)
        · have h1 := said_lt (l.take (wide u.toNat))
          have h2 : 256 ^ (l.take (wide u.toNat)).length ≤ 256 ^ wide u.toNat := Nat.pow_le_pow_right (by decide) (by rw [List.length_take]; omega)
          exact Nat.lt_of_lt_of_le h1 h2
      have hz := @fx_zero l (wide u.toNat)
      have hln := @fx_len l (wide u.toNat)
      have hw := varB_wide hu hc hfn
      have e2 : gv2 b at_ 0 = (at_ + 1 + (fxN l (wide u.toNat)).2.1, (fxN l (wide u.toNat)).2.2, (fxN l (wide u.toNat)).1) := by
        unfold gv2
        rw [e1, if_pos ⟨rfl, hc⟩, r2.1, r2.2.1, r2.2.2]
      obtain ⟨f, hf⟩ : ∃ f, f = fxN l (wide u.toNat) := ⟨_, rfl⟩
      obtain ⟨wd, hwd⟩ : ∃ x, x = wide u.toNat := ⟨_, rfl⟩
      rw [← hwd] at hf
      rw [← hwd, ← hf] at e2 hg hz hln hw
      unfold gvN vrN
      rw [e2, hg]
      clear hg e2 r2 e1 r1
      by_cases h1 : f.2.2 = 0
      · rw [if_pos h1, if_neg (fun h => h h1)]
        have hk := hln h1
        by_cases h2 : f.1 < least u.toNat
        · rw [if_pos h2]
          dsimp only
          rw [if_pos (show (varB f.1).length ≠ at_ + 1 + f.2.1 - at_ by intro e; exact absurd (hw.1 (by omega)) (by omega)), if_neg (show ¬ ((111 : Nat) = 0 ∧ most < 0) from fun h => by cases h.1)]
          rfl
        · rw [if_neg h2]
          dsimp only
          rw [if_neg (show ¬ (varB f.1).length ≠ at_ + 1 + f.2.1 - at_ by intro e; exact e (by have := hw.2 (by omega); omega))]
          by_cases h3 : most < f.1
          · rw [if_pos h3, if_pos (show (0 : Nat) = 0 ∧ most < f.1 from ⟨rfl, h3⟩)]; rfl
          · rw [if_neg h3, if_neg (show ¬ ((0 : Nat) = 0 ∧ most < f.1) from fun h => h3 h.2)]
            refine Prod.ext ?_ (Prod.ext h1 rfl)
            show at_ + 1 + f.2.1 = at_ + (1 + wd); omega
      · rw [if_neg h1, if_pos h1, if_neg (fun h => h1 h.1)]
        rfl
    · have e2 : gv2 b at_ 0 = (at_ + 1, 0, u.toNat) := by unfold gv2; rw [e1]; exact if_neg (fun h => hc h.2)
      have hg : vrG (u :: l) = (u.toNat, 1, 0) := by
        unfold vrG
        rw [fx_one (rfl : u :: l = u :: l), if_neg (show ¬ 253 ≤ (u.toNat, 1, 0).1 from hc)]
      have hv : (varB u.toNat).length = 1 := by unfold varB; rw [if_pos (by omega)]; rfl
      unfold gvN vrN
      rw [e2, hg, if_neg (fun h => h rfl), if_neg (show ¬ (varB u.toNat).length ≠ at_ + 1 - at_ by intro e; exact e (by omega))]
      by_cases h3 : most < u.toNat
      · rw [if_pos h3, if_pos ⟨rfl, h3⟩]; rfl
      · rw [if_neg h3, if_neg (fun h => h3 h.2)]
theorem gvN_bad (b : Byt) (at_ e most : Nat) (he : e ≠ 0) : gvN b at_ e most = (at_, e, 0) := by
  have e0 : rawN b at_ e 1 = (at_, e, []) := if_pos he
  have e1 : gv1 b at_ e = (at_, e, 0) := by unfold gv1; rw [e0]; rfl
  have e2 : gv2 b at_ e = (at_, e, 0) := by unfold gv2; rw [e1]; exact if_neg (fun h => he h.1)
  unfold gvN
  rw [e2, if_pos he]
theorem gvN_after (b : Byt) (at_ e most : Nat) (h : at_ ≤ b.length) (he : e ≤ 200) : After (varP most) ⟨b.drop at_, e⟩ (gvN b at_ e most).2.2 ⟨b.drop (gvN b at_ e most).1, (gvN b at_ e most).2.1⟩ ∧ (gvN b at_ e most).1 ≤ b.length ∧ (gvN b at_ e most).2.1 ≤ 200 ∧ (gvN b at_ e most).2.2 ≤ most := by
  by_cases h0 : e = 0
  · subst h0
    rw [gvN_is b at_ most h]
    have hy := @vr_yes (b.drop at_) most
    have hn := @vr_no (b.drop at_) most
    have hf := vrN_fit (b.drop at_) most
    obtain ⟨f, hff⟩ : ∃ f, f = vrN (b.drop at_) most := ⟨_, rfl⟩
    have hz : f.2.2 ≠ 0 → f.1 = 0 ∧ f.2.1 = 0 := by
      rw [hff]
      have q := vrG_fit (b.drop at_)
      unfold vrN
      intro h1
      split at h1
      · rename_i hc; rw [if_pos hc]; exact ⟨rfl, rfl⟩
      · rename_i hc
        rw [if_neg hc]
        refine ⟨vrG_zero h1, ?_⟩
        have e3 := gvN_is b at_ most h
        unfold vrG at h1 ⊢
        split at h1
        · rename_i h2
          rw [if_pos h2]
          unfold lgN at h1 ⊢
          split at h1
          · rename_i h3
            split at h1
            · rename_i h4; rw [if_pos h3, if_pos h4]
            · exact (h1 rfl).elim
          · rename_i h3; rw [if_neg h3]
        · rename_i h2; rw [if_neg h2]; exact (fx_zero h1).2
    rw [← hff] at hy hn hf ⊢
    dsimp only
    by_cases h1 : f.2.2 = 0
    · obtain ⟨q1, q2, q3⟩ := hy h1
      rw [List.length_drop] at q2
      refine ⟨⟨fun h => (h rfl).elim, fun y r _ hp => ?_, fun _ hp => ?_⟩, by omega, by omega, q3⟩
      · rw [q1] at hp
        cases hp
        refine ⟨rfl, ?_⟩
        rw [List.drop_drop, h1]
      · rw [q1] at hp; cases hp
    · have q1 := hn h1
      obtain ⟨z1, z2⟩ := hz h1
      refine ⟨⟨fun h => (h rfl).elim, fun y r _ hp => ?_, fun _ _ => h1⟩, by omega, hf.2.2, by omega⟩
      rw [q1] at hp; cases hp
  · rw [gvN_bad b at_ e most h0]
    exact ⟨⟨fun _ => h0, fun _ _ h1 _ => (h0 h1).elim, fun h1 _ => (h0 h1).elim⟩, h, he, Nat.zero_le _⟩
def padN (x : Byt) (n : Nat) : Byt := if x.length < n then List.replicate n 0 else x
theorem padN_len (b : Byt) (at_ e n : Nat) : (padN (rawN b at_ e n).2.2 n).length = n := by
  have := rawN_len b at_ e n
  unfold padN
  split
  · exact List.length_replicate
  · omega
theorem rawN_after (b : Byt) (at_ e n : Nat) (h : at_ ≤ b.length) (he : e ≤ 200) : After (takeP n) ⟨b.drop at_, e⟩ (padN (rawN b at_ e n).2.2 n) ⟨b.drop (rawN b at_ e n).1, (rawN b at_ e n).2.1⟩ ∧ (rawN b at_ e n).1 ≤ b.length ∧ (rawN b at_ e n).2.1 ≤ 200 := by
  unfold rawN takeP
  by_cases h0 : e ≠ 0
  · rw [if_pos h0]
    exact ⟨⟨fun _ => h0, fun _ _ h1 _ => (h0 h1).elim, fun h1 _ => (h0 h1).elim⟩, h, he⟩
  · rw [if_neg h0]
    obtain rfl : e = 0 := Decidable.of_not_not h0
    by_cases h1 : b.length - at_ < n
    · rw [if_pos h1]
      refine ⟨⟨fun _ => (show (110 : Nat) ≠ 0 by decide), fun y r _ hp => ?_, fun _ _ => (show (110 : Nat) ≠ 0 by decide)⟩, h, by show (110 : Nat) ≤ 200; omega⟩
      rw [if_neg (by show ¬ n ≤ (b.drop at_).length; rw [List.length_drop]; omega)] at hp
      cases hp
    · rw [if_neg h1]
      refine ⟨⟨fun h => (h rfl).elim, fun y r _ hp => ?_, fun _ hp => ?_⟩, by show at_ + n ≤ _; omega, Nat.zero_le _⟩
      · rw [if_pos (by show n ≤ (b.drop at_).length; rw [List.length_drop]; omega)] at hp
        cases hp
        refine ⟨?_, by rw [List.drop_drop]⟩
        unfold padN
        rw [if_neg (by rw [List.length_take, List.length_drop]; omega)]
      · rw [if_pos (by show n ≤ (b.drop at_).length; rw [List.length_drop]; omega)] at hp
        cases hp
abbrev RB (gr : Nat) (sl : Value) (at_ e : Nat) (R : Blocks) : Blocks := (gr, 186, rrC sl at_ e) :: R
def Rfd {α : Type} (p : Ps α) (val : α → Value → Blocks → Prop) (gr : Nat) (sl : Value) (b : Byt) (R : Blocks) (at_ e : Nat) (v : Value) (M : Blocks) : Prop :=
  ∃ x a2 e2 N, After p ⟨b.drop at_, e⟩ x ⟨b.drop a2, e2⟩ ∧ val x v N ∧ a2 ≤ b.length ∧ e2 ≤ 200 ∧ M = RB gr sl a2 e2 (R ++ N)
theorem zeros_bs (g n : Nat) (hn : n ≤ 70368744177664) : BS ⟨.slice (some ⟨g, 0, none⟩) n n, [(g, 5, (flat (fun _ => [Value.int .u8 0]) n).toArray)]⟩ (List.replicate n 0) := by
  have e : (byL (List.replicate n (0 : UInt8))).flatten = flat (fun _ => [Value.int .u8 0]) n := by
    rw [byL_flat, List.map_replicate]
    induction n with
    | zero => rfl
    | succ n ih => rw [List.replicate_succ', flat_succ, ih (by omega)]; rfl
  refine ⟨byL_one _, byL_oneC _, .inr ⟨g, n, [], ?_, ?_, ?_, ?_⟩⟩
  · rw [byL_len, List.length_replicate, e, List.append_nil]
  · rw [byL_len, List.length_replicate]; exact Nat.zero_add _
  · rw [byL_len, List.length_replicate]; exact Nat.le_refl _
  · simp only [maxLen]; omega
theorem rawM_any (w0 : Base) (gr : Nat) (sl : Value) (b : Byt) (at_ e n : Nat) (R : Blocks) (hat : at_ ≤ b.length) (he : e ≤ 200) (hn : n ≤ 1000000) (hl : b.length ≤ 70368744177664) (hv : BytR (rdW w0.world) sl b) (w : World) (hw : St w0 w (RB gr sl at_ e R)) :
    Calls Tryz.prog 121 #[ptr gr, .int .i64 (n : Int)] w (Turns w0 (Rfd (takeP n) (fun x v N => ByN x v N ∧ x.length = n) gr sl b R at_ e)) := by
  obtain ⟨q1, q2, q3⟩ := rawN_after b at_ e n hat he
  have q4 := padN_len b at_ e n
  have hv0 := hv
  obtain ⟨A, m, cp, rfl, h2, h3, h4, h5⟩ := hv
  obtain ⟨f, hf⟩ : ∃ f, f = rawN b at_ e n := ⟨_, rfl⟩
  rw [← hf] at q1 q2 q3 q4
  refine Sy.enterT (args := [ptr gr, .int .i64 (n : Int)]) hw Tryz.func121 rfl kL ?_
  refine sC ?_
  refine sP (.slice none 0 0) ?_
  refine sA ?_
  refine sp rfl <| sp rfl <| sP (.pointer (some ⟨gr, 0, none⟩)) <| sS (rrV (.slice A m cp) at_ e) (qk 0 0 3 rfl rfl Tryz.underlying184) <| sp rfl ?_
  refine Sy.callN kR 178 #[rrV (.slice A m cp) at_ e, .int .i64 (n : Int)] kF _ (fun w' hw => rawR_any w' (.slice A m cp) b at_ e n hat (by omega) hl (hv0.le (fun g o u hu => rdC_world (w0 := w0.inn) (R := []) hw (fun _ h => by cases h) g o u (.inl hu)))) (fun u M hM => ?_)
  rw [← hf] at hM
  obtain ⟨u, rfl, hu⟩ := hM
  have hub := hu.byt
  obtain ⟨A2, n2, c2, rfl, k2, k3, k4, k5⟩ := hub
  refine sp rfl <| sp rfl <| sp rfl ?_
  refine sM 184 (rrC (.slice none 0 0) 0 0) (fun g5 => ?_)
  refine Sy.movT (pre := [(gr, 186, rrC (.slice A m cp) at_ e)]) (T := R ++ M) ?_
  refine sw 1 rfl (rrC (.slice A m cp) f.1 f.2.1) (wA rfl) <| sp rfl ?_
  refine sA ?_
  refine sp rfl <| sS (rrV (.slice A m cp) f.1 f.2.1) (qk 1 0 3 rfl rfl Tryz.underlying184) <| sp rfl <| sP (.pointer (some ⟨gr, 0, none⟩)) <| sw 0 rfl (rrC (.slice A m cp) f.1 f.2.1) (wA rfl) ?_
  refine sG ?_
  refine Sy.seq ?_
  refine sC ?_
  obtain ⟨b1, hb1⟩ : ∃ z : Bool, z = decide (n2 < n) := ⟨_, rfl⟩
  refine sp rfl <| sP (.int .i64 (n2 : Int)) <| sp rfl <| sS (.bool b1) (Quiet.pure (exec_int .lss _ _ _ .i64 _ _ _ rfl rfl rfl (int_lss _ _ _ _ _ (by rw [hb1]; exact decide_eq_decide.2 (by omega))))) ?_
  refine sG ?_
  cases b1
  case' false =>
    have l1 : ¬ n2 < n := of_decide_eq_false hb1.symm
    have ep : padN f.2.2 n = f.2.2 := if_neg (by omega)
    rw [ep] at q1 q4
    refine sU ?_
    refine Sy.skip ?_
    refine sB ?_
    refine sp rfl <| sp rfl ?_
    refine sG ?_
    refine Sy.ret ?_
    exact Sy.retT1 (RB gr (.slice A m cp) f.1 f.2.1 (R ++ M)) rfl (.inl (show _ = _ by kernel_rfl)) (fun _ h => keep1 h) ⟨_, _, _, M, q1, ⟨hu, q4⟩, q2, q3, rfl⟩
  have l1 : n2 < n := of_decide_eq_true hb1.symm
  have ep : padN f.2.2 n = List.replicate n 0 := if_pos (by omega)
  rw [ep] at q1 q4
  refine sT ?_
  refine Sy.region ?_
  refine sp rfl ?_
  refine Sy.make kR 5 (flat (fun _ => [Value.int .u8 0]) n).toArray (fun g => .slice (some ⟨g, 0, none⟩) n n) (Sy.Makes.slice 27 5 _ _ 1 1 _ _ .i64 .i64 n _ rfl rfl rfl Tryz.underlying27 Cu.info_u8 rfl rfl (by decide) rfl rfl rfl (by omega) (by omega)) (fun gz => ?_)
  refine sp rfl ?_
  refine Sy.nil ?_
  refine sB ?_
  refine sp rfl <| sp rfl ?_
  refine sG ?_
  refine Sy.ret ?_
  exact Sy.retT1 (RB gr (.slice A m cp) f.1 f.2.1 (R ++ [(gz, 5, (flat (fun _ => [Value.int .u8 0]) n).toArray)])) rfl (.inl (show _ = _ by kernel_rfl)) (fun _ h => h.less ((((List.sublist_append_left R M).append (List.Sublist.refl [(gz, 5, (flat (fun _ => [Value.int .u8 0]) n).toArray)])).cons (g5, 184, rrC (.slice A m cp) f.1 f.2.1)).cons_cons (gr, 186, rrC (.slice A m cp) f.1 f.2.1))) ⟨_, _, _, _, q1, ⟨(zeros_bs gz n (by omega)).as, q4⟩, q2, q3, rfl⟩
theorem numM_any (w0 : Base) (gr : Nat) (sl : Value) (b : Byt) (at_ e k : Nat) (R : Blocks) (hat : at_ ≤ b.length) (he : e ≤ 200) (hk : k ≤ 8) (hl : b.length ≤ 70368744177664) (hv : BytR (rdW w0.world) sl b) (w : World) (hw : St w0 w (RB gr sl at_ e R)) :
    Calls Tryz.prog 100 #[ptr gr, .int .i64 (k : Int)] w (Turns w0 (Rfd (numP k) (fun x v N => v = .int .u64 (x : Int) ∧ x < 18446744073709551616 ∧ N = []) gr sl b R at_ e)) := by
  refine Sy.enterT (args := [ptr gr, .int .i64 (k : Int)]) hw Tryz.func100 rfl kL ?_
  refine sC ?_
  refine sP (.int .u64 0) ?_
  refine sA ?_
  refine sp rfl <| sp rfl ?_
  refine Sy.callT (fun w hw => rawM_any w0.inn gr sl b at_ e k R hat he (by omega) hl hv w hw) (fun u M hM => ?_)
  obtain ⟨x, a2, e2, N, q1, ⟨q2, q3⟩, q4, q5, rfl⟩ := hM
  have hs : said x < 18446744073709551616 := by
    have h1 := said_lt x
    have h3 : 256 ^ x.length ≤ 256 ^ 8 := Nat.pow_le_pow_right (by decide) (by omega)
    exact Nat.lt_of_lt_of_le h1 h3
  refine sS (.int .u64 ((said x : Nat) : Int)) (qg (fun w' hw => saidR_any w' u x (by omega) (q2.byt.le (fun g o v h => rdC_world (w0 := w0.inn) hw (R := N) (fun b hb => List.mem_cons_of_mem _ (List.mem_append_right _ hb)) g o v (.inr h))))) <| sp rfl ?_
  refine sG ?_
  refine Sy.ret ?_
  exact Sy.retT1 (RB gr sl a2 e2 (R ++ [])) rfl (.inl (show _ = _ by kernel_rfl)) (fun _ h => h.less (((List.Sublist.refl R).append (List.nil_sublist N)).cons_cons _)) ⟨_, _, _, [], q1.bind (After.ret (said x) _), ⟨rfl, hs, rfl⟩, q4, q5, rfl⟩
end Go.Proofs.YtgemfpnlnipfnaaGreat.Wr

end
section
namespace Go.Proofs.YtgemfpnlnipfnaaGreat.Wr
open Go.RowKit Go.Proofs.YtgemfpnlnipfnaaGreat Go.Proofs.YtgemfpnlnipfnaaGreat.Sy
set_option maxRecDepth 100000
set_option maxHeartbeats 4000000

theorem wM {P : Program} {F : Slots} {o : Oper} {g : Nat} {t : TypeId} (ty : TypeId) (A z v Z : List Value) (k f : Nat) (x y : Operand) (ho : o.op = .store ty x y) (hx : evF F x = .pointer (some ⟨g, f, none⟩)) (hy : evF F y = .agg v.toArray) (hi : (P.info? ty).map (·.size) = some k) (hA : A.length = f) (hz : z.length = k) (hv : v.length = k) (h1 : ∀ u ∈ v, u.oneCell' = true) : Sy.Writes P F o g t (A ++ (z ++ Z)).toArray (A ++ (v ++ Z)).toArray :=
  Sy.Writes.store f ty v.toArray x y ho hx hy (by rw [hi, List.size_toArray, hv]) (by rw [List.size_toArray, List.size_toArray, List.length_append, List.length_append]; omega) (by rw [List.all_toArray, List.all_eq_true]; exact h1) (by show setAll _ f v = _; exact setAll_mid hA (by omega))
theorem ones_bv (x : Byt) : ∀ u ∈ x.map bv, u.oneCell' = true := fun u hu => by obtain ⟨y, _, rfl⟩ := List.mem_map.1 hu; rfl
theorem digM_any (w0 : Base) (gr : Nat) (sl : Value) (b : Byt) (at_ e : Nat) (R : Blocks) (hat : at_ ≤ b.length) (he : e ≤ 200) (hl : b.length ≤ 70368744177664) (hv : BytR (rdW w0.world) sl b) (w : World) (hw : St w0 w (RB gr sl at_ e R)) :
    Calls Tryz.prog 113 #[ptr gr] w (Turns w0 (Rfd (takeP 32) (fun x v N => v = .agg (x.map bv).toArray ∧ x.length = 32 ∧ N = []) gr sl b R at_ e)) := by
  refine Sy.enterT (args := [ptr gr]) hw Tryz.func113 rfl kL ?_
  refine sC ?_
  refine sM 37 Z32.toArray (fun g2 => ?_)
  refine Sy.movT (pre := [(gr, 186, rrC sl at_ e)]) (T := R) ?_
  refine sA ?_
  refine sp rfl ?_
  refine Sy.callT (fun w hw => rawM_any w0.inn gr sl b at_ e 32 ((g2, 37, Z32.toArray) :: R) hat he (by decide) hl hv w hw) (fun u M hM => ?_)
  obtain ⟨x, a2, e2, N, q1, ⟨q2, q3⟩, q4, q5, rfl⟩ := hM
  obtain ⟨A, n, cp, rfl, k2, k3, k4, k5⟩ := q2.byt
  obtain ⟨gb, ob, rfl, hq⟩ := k5 (by intro h; rw [h] at q3; cases q3)
  refine sp rfl ?_
  refine sA ?_
  refine sM 37 Z32.toArray (fun g4 => ?_)
  refine Sy.movT (pre := [(gr, 186, rrC sl a2 e2), (g2, 37, Z32.toArray)]) (T := R ++ N) ?_
  refine sG ?_
  refine Sy.seq ?_
  refine sC ?_
  refine sP (.int .i64 0) ?_
  refine sG ?_
  refine Sy.block ?_
  refine Sy.loopT (Y := Unit) 32 (fun i _ => [(0, ptr gr), (2, ptr g2), (3, .slice (some ⟨gb, ob, none⟩) n cp), (4, ptr g4), (5, .int .i64 (i : Int))]) (fun i _ => [(gr, 186, rrC sl a2 e2), (g2, 37, Z32.toArray), (g4, 37, ((x.map bv).take i ++ Z32.drop i).toArray)] ++ (R ++ N)) (fun _ _ => True) () trivial (all_cons kR (all_cons kR (all_cons kR (all_cons kR (all_cons kR all_nil))))) (fun _ h => h) (fun i _ hi _ => ?_)
  dsimp only
  refine Sy.seq ?_
  refine sC ?_
  obtain ⟨b2, hb2⟩ : ∃ z : Bool, z = decide (i < 32) := ⟨_, rfl⟩
  refine sp rfl <| sS (.bool b2) (Quiet.pure (exec_int .lss _ _ _ .i64 _ _ _ rfl rfl rfl (int_lss _ _ _ _ _ (by rw [hb2]; exact decide_eq_decide.2 (by omega))))) ?_
  refine sG ?_
  cases b2
  case' false =>
    have l2 : ¬ i < 32 := of_decide_eq_false hb2.symm
    obtain rfl : i = 32 := by omega
    have ec : (x.map bv).take 32 ++ Z32.drop 32 = x.map bv := by
      rw [List.take_of_length_le (by rw [List.length_map, q3]; exact Nat.le_refl _), show Z32.drop 32 = [] from rfl, List.append_nil]
    rw [ec]
    refine sU ?_
    refine Sy.exit ?_
    refine Sy.then_exit ?_
    refine Sy.then_exit ?_
    refine Sy.in_exit ?_
    refine Sy.then_ ?_
    refine sC ?_
    refine sS (.agg (x.map bv).toArray) (Quiet.mid 2 g4 0 32 37 37 (x.map bv) (x.map bv) _ _ rfl kR rfl Tryz.underlying37 rfl kR (by rw [List.drop_zero, List.take_of_length_le (by rw [List.length_map, q3]; exact Nat.le_refl _)]) (by rw [List.length_map, q3]; exact Nat.le_refl _)) <| sw 1 rfl (x.map bv).toArray (Writes.row 37 (x.map bv) 32 _ _ rfl kR kR kR (by rw [List.length_map, q3]) (by kernel_rfl) (ones_bv x)) ?_
    refine sG ?_
    refine Sy.ret ?_
    exact Sy.retT1 (RB gr sl a2 e2 (R ++ [])) rfl (.inl (Sy.Res.cell (ty' := 37) g2 1 (x.map bv).toArray _ (by kernel_rfl) rfl Tryz.underlying37 rfl (by rw [List.size_toArray, List.length_map, q3]; kernel_rfl) rfl)) (fun _ h => h.less (((((List.Sublist.refl R).append (List.nil_sublist N)).cons (g4, 37, (x.map bv).toArray)).cons (g2, 37, (x.map bv).toArray)).cons_cons (gr, 186, rrC sl a2 e2))) ⟨x, a2, e2, [], q1, ⟨rfl, q3, rfl⟩, q4, q5, rfl⟩
  have l2 : i < 32 := of_decide_eq_true hb2.symm
  obtain ⟨u, hu⟩ : ∃ u, x[i]? = some u := ⟨_, List.getElem?_eq_getElem (by omega)⟩
  have hAl : ((x.map bv).take i).length = i := by rw [List.length_take, List.length_map, q3]; omega
  obtain ⟨z0, Z1, hz⟩ : ∃ z0 Z1, Z32.drop i = z0 :: Z1 ∧ Z1 = Z32.drop (i + 1) := ⟨_, _, List.drop_eq_getElem_cons (by rw [Z32_len]; exact l2), rfl⟩
  obtain ⟨hz, hz1⟩ := hz
  have hnx : (x.map bv).take (i + 1) ++ Z32.drop (i + 1) = (x.map bv).take i ++ (bv u :: Z1) := by
    rw [List.take_add_one, List.getElem?_map, hu, ← hz1, List.append_assoc]; rfl
  rw [hz]
  refine sT ?_
  refine Sy.skip ?_
  refine Sy.then_ ?_
  refine Sy.seq ?_
  refine Sy.block ?_
  refine Sy.region ?_
  refine sp rfl <| sp rfl <| sp rfl <| sS (.pointer (some ⟨gb, ob + i * 1, none⟩)) (Quiet.pure (exec_atO 27 _ _ _ (some ⟨gb, ob, none⟩) gb ob n cp i 1 .i64 rfl rfl rfl rfl Tryz.underlying27 kF (by omega))) <| sS (bv u) (cellC (R := N) (g := gb) (f := ob + i * 1) (.inr (by rw [Nat.mul_one]; exact hq i u hu)) (fun b h => List.mem_append_right _ (List.mem_append_right _ h)) rfl Tryz.underlying5) <| sS (.pointer (some ⟨g4, 0 + i * 1, none⟩)) (Quiet.pure (exec_atA 37 _ _ _ g4 0 _ i 1 .i64 rfl rfl rfl Tryz.underlying37 kF l2)) <| sw 2 rfl ((x.map bv).take i ++ (bv u :: Z1)).toArray (Writes.one (0 + i * 1) 5 (bv u) _ _ rfl kR kR kR rfl rfl (by rw [List.size_toArray, List.length_append, hAl]; simp) (set_mid (by rw [hAl]; omega))) ?_
  refine Sy.nil ?_
  refine Sy.in_ ?_
  refine Sy.then_ ?_
  refine Sy.region ?_
  refine sp rfl <| sS (.int .i64 ((i + 1 : Nat) : Int)) (Quiet.pure (exec_int .add _ _ _ .i64 _ _ _ rfl rfl rfl (int_add _ _ _ _ _ ((wrap_i64 (by omega) (by omega)).trans (by omega))))) <| sp rfl ?_
  refine Sy.nil ?_
  exact Sy.againT () l2 trivial (all_cons kR (all_cons kR (all_cons kR (all_cons kR (all_cons kR all_nil))))) (fun w h => by rw [hnx]; exact h)
def rowV {α : Type} (k : Nat) (rep : Rdr → List Value → α → Prop) (x : α) (v : Value) (N : Blocks) : Prop := ∃ cs, v = .agg cs.toArray ∧ cs.length = k ∧ (∀ u ∈ cs, u.oneCell' = true) ∧ rep (rdB N) cs x
theorem endR_any (w : World) (sl : Value) (b : Byt) (at_ e : Nat) (hat : at_ ≤ b.length) (hl : b.length ≤ 70368744177664) (hv : BytR (rdW w) sl b) :
    Calls Tryz.prog 104 #[rrV sl at_ e] w (Gets w (.int .i64 ((if e = 0 ∧ at_ < b.length then 113 else e : Nat) : Int))) := by
  obtain ⟨A, m, cp, rfl, h2, h3, h4, h5⟩ := hv
  rw [h2]
  refine Sy.enter (args := [rrV (.slice A m cp) at_ e]) Tryz.func104 rfl kL ?_
  refine sC ?_
  refine sM 184 (rrC (.slice A m cp) at_ e) (fun g1 => ?_)
  refine sP (.int .i64 0) ?_
  refine sG ?_
  refine Sy.seq ?_
  refine sC ?_
  obtain ⟨b1, hb1⟩ : ∃ z : Bool, z = decide (e = 0) := ⟨_, rfl⟩
  refine sP (.pointer (some ⟨g1, 2, none⟩)) <| sS (.int .i64 (e : Int)) (qc 0 2 rfl rfl Tryz.underlying28) <| sS (.bool b1) (Quiet.pure (exec_int .eql _ _ _ .i64 _ _ _ rfl rfl rfl (int_eql _ _ _ _ _ (by rw [hb1]; exact decide_eq_decide.2 (by omega))))) <| sp rfl ?_
  cases b1
  · have l1 : ¬ e = 0 := of_decide_eq_false hb1.symm
    rw [if_neg (fun h => l1 h.1)]
    refine sN <| sN <| sN <| sN <| sN <| sN <| sP (.bool false) ?_
    refine sG ?_
    refine sU ?_
    refine Sy.skip ?_
    refine sB ?_
    refine sP (.pointer (some ⟨g1, 2, none⟩)) <| sS (.int .i64 (e : Int)) (qc 0 2 rfl rfl Tryz.underlying28) <| sp rfl ?_
    refine sG ?_
    refine Sy.ret ?_
    exact rV (.int .i64 (e : Int)) rfl
  · have l1 : e = 0 := of_decide_eq_true hb1.symm
    obtain ⟨b2, hb2⟩ : ∃ z : Bool, z = decide (at_ < m) := ⟨_, rfl⟩
    refine sP (.pointer (some ⟨g1, 1, none⟩)) <| sS (.int .i64 (at_ : Int)) (qc 0 1 rfl rfl Tryz.underlying3) <| sP (.pointer (some ⟨g1, 0, none⟩)) <| sS (.slice A m cp) (qc 0 0 rfl rfl Tryz.underlying27) <| sP (.int .i64 (m : Int)) <| sS (.bool b2) (Quiet.pure (exec_int .lss _ _ _ .i64 _ _ _ rfl rfl rfl (int_lss _ _ _ _ _ (by rw [hb2]; exact decide_eq_decide.2 (by omega))))) <| sP (.bool b2) ?_
    refine sG ?_
    cases b2
    · rw [if_neg (fun h => of_decide_eq_false hb2.symm h.2)]
      refine sU ?_
      refine Sy.skip ?_
      refine sB ?_
      refine sP (.pointer (some ⟨g1, 2, none⟩)) <| sS (.int .i64 (e : Int)) (qc 0 2 rfl rfl Tryz.underlying28) <| sp rfl ?_
      refine sG ?_
      refine Sy.ret ?_
      exact rV (.int .i64 (e : Int)) rfl
    · rw [if_pos ⟨l1, of_decide_eq_true hb2.symm⟩]
      refine sT ?_
      refine sC ?_
      refine sP (.int .i64 113) ?_
      refine sG ?_
      refine Sy.ret ?_
      refine Sy.then_ret ?_
      exact rV (.int .i64 113) rfl
def endN (b : Byt) (at_ e : Nat) : Nat := if e = 0 ∧ at_ < b.length then 113 else e
theorem endedR_any (w0 : Base) (gr : Nat) (sl : Value) (b : Byt) (at_ e : Nat) (R : Blocks) (he : e ≤ 200) (hat : at_ ≤ b.length) (hl : b.length ≤ 70368744177664) (hv : BytR (rdW w0.world) sl b) (w : World) (hw : St w0 w (RB gr sl at_ e R)) :
    Calls Tryz.prog 53 #[ptr gr] w (Turns w0 (fun v M => v = .int .i64 ((if endN b at_ e ≠ 0 then 120 else 0 : Nat) : Int) ∧ M = RB gr sl at_ e R)) := by
  have hv0 := hv
  obtain ⟨A, m, cp, rfl, h2, h3, h4, h5⟩ := hv
  obtain ⟨f, hf⟩ : ∃ f, f = endN b at_ e := ⟨_, rfl⟩
  have hfl : f ≤ 200 := by rw [hf]; unfold endN; split <;> omega
  rw [← hf]
  refine Sy.enterT (args := [ptr gr]) hw Tryz.func53 rfl kL ?_
  refine sC ?_
  refine sP (.int .i64 0) ?_
  refine sG ?_
  refine Sy.seq ?_
  refine sC ?_
  obtain ⟨b1, hb1⟩ : ∃ z : Bool, z = decide (f ≠ 0) := ⟨_, rfl⟩
  refine sp rfl <| sp rfl <| sP (.pointer (some ⟨gr, 0, none⟩)) <| sS (rrV (.slice A m cp) at_ e) (qk 0 0 3 rfl rfl Tryz.underlying184) <| sS (.int .i64 (f : Int)) (qg (fun w' hw => by rw [hf]; exact endR_any w' (.slice A m cp) b at_ e hat hl (hv0.le (fun g o u hu => rdC_world (w0 := w0.inn) (R := []) hw (fun _ h => by cases h) g o u (.inl hu))))) <| sS (.bool b1) (Quiet.pure (exec_int .neq _ _ _ .i64 _ _ _ rfl rfl rfl (int_neq _ _ _ _ _ (by rw [hb1]; exact decide_eq_decide.2 (by omega))))) ?_
  refine sG ?_
  cases b1
  · rw [if_neg (of_decide_eq_false hb1.symm)]
    refine sU ?_
    refine Sy.skip ?_
    refine sB ?_
    refine sP (.int .i64 0) ?_
    refine sG ?_
    refine Sy.ret ?_
    exact Sy.retT1 (RB gr (.slice A m cp) at_ e R) rfl (.inl (show _ = _ by kernel_rfl)) (fun _ h => h) ⟨rfl, rfl⟩
  · rw [if_pos (of_decide_eq_true hb1.symm)]
    refine sT ?_
    refine sC ?_
    refine sP (.int .i64 120) ?_
    refine sG ?_
    refine Sy.ret ?_
    refine Sy.then_ret ?_
    exact Sy.retT1 (RB gr (.slice A m cp) at_ e R) rfl (.inl (show _ = _ by kernel_rfl)) (fun _ h => h) ⟨rfl, rfl⟩
theorem beginR_any (w : World) (sl : Value) (b : Byt) (hv : BytR (rdW w) sl b) : Calls Tryz.prog 51 #[sl] w (GetsN w (fun v M => ∃ g, v = ptr g ∧ M = [(g, 186, rrC sl 0 0)])) := by
  obtain ⟨A, m, cp, rfl, h2, h3, h4, h5⟩ := hv
  refine Sy.enter (args := [.slice A m cp]) Tryz.func51 rfl kL ?_
  refine sC ?_
  refine sP (.pointer none) ?_
  refine sA ?_
  refine sp rfl <| sP (rrV (.slice A m cp) 0 0) <| sP (rrV (.slice A m cp) 0 0) <| sM 186 (rrC (.slice A m cp) 0 0) (fun g => ?_)
  refine sp rfl ?_
  refine sG ?_
  refine Sy.ret ?_
  exact Sy.retGM [(g, 186, rrC (.slice A m cp) 0 0)] rfl (.inl (show _ = _ by kernel_rfl)) (fun _ h => h) ⟨g, rfl, rfl⟩

end Go.Proofs.YtgemfpnlnipfnaaGreat.Wr

end
section
namespace Go.Proofs.YtgemfpnlnipfnaaGreat.Wr
open Go.RowKit Go.Proofs.YtgemfpnlnipfnaaGreat Go.Proofs.YtgemfpnlnipfnaaGreat.Sy
set_option maxRecDepth 100000
set_option maxHeartbeats 4000000

end Go.Proofs.YtgemfpnlnipfnaaGreat.Wr

end
section
namespace Go.Proofs.YtgemfpnlnipfnaaGreat.Wr
open Go.RowKit Go.Proofs.YtgemfpnlnipfnaaGreat Go.Proofs.YtgemfpnlnipfnaaGreat.Sy
set_option maxRecDepth 100000
set_option maxHeartbeats 4000000

abbrev WB (gw : Nat) (bad : Bool) (s : Slc) (R : Blocks) : Blocks := [(gw, 99, #[s.v, .bool bad])] ++ (s.bl ++ R)
theorem inWB {gw : Nat} {bad : Bool} {s : Slc} {R : Blocks} {x : Nat × TypeId × Array Value} (h : x ∈ R) : x ∈ WB gw bad s R := List.mem_append_right _ (List.mem_append_right _ h)
theorem dropW {w0 : Base} {gw : Nat} {bad : Bool} {s : Slc} {R X : Blocks} {w : World} (h : St w0 w (WB gw bad s (R ++ X))) : St w0 w (WB gw bad s R) := h.less ((List.Sublist.refl _).append ((List.Sublist.refl _).append (List.sublist_append_left _ _)))
def WRw (gw : Nat) (bad : Bool) (b x : Byt) (R : Blocks) (_ : Value) (M : Blocks) : Prop := ∃ r, BS r (b ++ x) ∧ M = WB gw bad r R
def Wd (gw : Nat) (R : Blocks) (ok : Bool) (e : Byt) (k : Nat) (bad : Bool) (b : Byt) (_ : Value) (M : Blocks) : Prop := ∃ s' bad' b', Wrote ok e k bad b bad' b' ∧ BS s' b' ∧ M = WB gw bad' s' R
theorem wrawW_any (w0 : Base) (gw : Nat) (bad : Bool) (s : Slc) (R : Blocks) (b : Byt) (v : Value) (x : Byt) (hb : BS s b) (hx : BytR (rdC w0 R) v x) (hl : b.length + x.length ≤ 70368744177664) (w : World) (hw : St w0 w (WB gw bad s R)) :
    Calls Tryz.prog 120 #[ptr gw, v] w (Turns w0 (WRw gw bad b x R)) := by
  have hx0 := hx
  obtain ⟨A, n, cp, rfl, h2, h3, h4, h5⟩ := hx
  refine Sy.enterT (args := [ptr gw, .slice A n cp]) hw Tryz.func120 rfl kL ?_
  refine Sy.region ?_
  refine sp rfl <| sp rfl <| sp rfl <| sP (.pointer (some ⟨gw, 0, none⟩)) <| sS s.v (qc 0 0 rfl rfl Tryz.underlying27) <| sp rfl ?_
  refine Sy.appendM (pre := [(gw, 99, #[s.v, .bool bad])]) (T := R) kR 27 5 _ _ 1 1 Tryz.underlying27 Cu.info_u8 rfl rfl rfl rfl (by decide) _ _ rfl hb kR (byL_one x) (byL_oneC x) A n cp (by rw [byL_len, h2]) h3 kR (fun r => BytR.from (w0 := w0.inn) hx0 (fun y hy => List.mem_append_right _ (List.mem_append_right _ hy))) (by rw [byL_len]; omega) (by rw [byL_len]; simp only [maxLen]; omega) (fun r hr => ?_)
  have hr' : BS r (b ++ x) := by show r.Is 5 1 _; rw [byL_app]; exact hr
  refine sp rfl <| sP (.pointer (some ⟨gw, 0, none⟩)) <| sw 0 rfl #[r.v, .bool bad] (Writes.one 0 27 r.v _ _ rfl kR kR kR hr.cells.1 hr.cells.2 (Nat.succ_pos _) kR) ?_
  refine Sy.nil ?_
  exact Sy.retT0 rfl (WB gw bad r R) (fun _ h => h) (fun _ => ⟨r, hr', rfl⟩)
theorem numW_any (w0 : Base) (gw : Nat) (bad : Bool) (s : Slc) (R : Blocks) (b : Byt) (n k : Nat) (hn : n < 18446744073709551616) (hk : k ≤ 8) (hb : BS s b) (hl : b.length + 8 ≤ 70368744177664) (w : World) (hw : St w0 w (WB gw bad s R)) :
    Calls Tryz.prog 95 #[ptr gw, .int .u64 (n : Int), .int .i64 (k : Int)] w (Turns w0 (WRw gw bad b (nb k n) R)) := by
  refine Sy.enterT (args := [ptr gw, .int .u64 (n : Int), .int .i64 (k : Int)]) hw Tryz.func95 rfl kL ?_
  refine Sy.region ?_
  refine sp rfl <| sp rfl <| sp rfl ?_
  refine Sy.callN kR 152 #[.int .u64 (n : Int), .int .i64 (k : Int)] kF _ (fun w' _ => numberR_any w' n k hn hk) (fun u M hM => ?_)
  refine Sy.permS (M := WB gw bad s (R ++ M)) (List.Perm.of_eq (by simp only [List.append_assoc])) ?_
  refine Sy.callT (fun w hw => wrawW_any w0.inn gw bad s (R ++ M) b u (nb k n) hb (hM.byt.le (fun g o v h => .inr (rdB_le (fun x hx => List.mem_append_right _ hx) g o v h))) (by rw [nb_len]; omega) w hw) (fun v M2 hM2 => ?_)
  obtain ⟨r, hr, rfl⟩ := hM2
  refine Sy.nil ?_
  exact Sy.retT0 rfl (WB gw bad r R) (fun _ h => dropW h) (fun _ => ⟨r, hr, rfl⟩)
theorem textD_any (w : World) (x : Byt) (hx : x.length = 32) : Calls Tryz.prog 166 #[.agg (x.map bv).toArray] w (GetsN w (ByN x)) := by
  have hxl : (x.map bv).length = 32 := by rw [List.length_map, hx]
  refine Sy.enter (args := [.agg (x.map bv).toArray]) Tryz.func166 rfl kL ?_
  refine sC ?_
  refine sM 37 (x.map bv).toArray (fun g1 => ?_) kR (fun w => run_boxR rfl rfl (by kernel_rfl) hxl w)
  refine sP (.slice none 0 0) ?_
  refine sA ?_
  refine sP (.slice none 0 0) ?_
  refine sG ?_
  refine Sy.seq ?_
  refine sC ?_
  refine sP (.int .i64 0) ?_
  refine sG ?_
  refine Sy.block ?_
  refine Sy.loopT (Y := Slc) 32 (fun i y => [(1, ptr g1), (3, y.v), (4, .int .i64 (i : Int))]) (fun i y => [(g1, 37, (x.map bv).toArray)] ++ (y.bl ++ [])) (fun i y => BS y (x.take i)) nilS BS.nil (all_cons kR (all_cons kR (all_cons kR all_nil))) (fun _ h => h) (fun i r hi hs => ?_)
  dsimp only at hs ⊢
  refine Sy.seq ?_
  refine sC ?_
  obtain ⟨b2, hb2⟩ : ∃ z : Bool, z = decide (i < 32) := ⟨_, rfl⟩
  refine sp rfl <| sS (.bool b2) (Quiet.pure (exec_int .lss _ _ _ .i64 _ _ _ rfl rfl rfl (int_lss _ _ _ _ _ (by rw [hb2]; exact decide_eq_decide.2 (by omega))))) ?_
  refine sG ?_
  cases b2
  case' false =>
    have l2 : ¬ i < 32 := of_decide_eq_false hb2.symm
    obtain rfl : i = 32 := by omega
    rw [List.take_of_length_le (by omega)] at hs
    refine sU ?_
    refine Sy.exit ?_
    refine Sy.then_exit ?_
    refine Sy.then_exit ?_
    refine Sy.in_exit ?_
    refine Sy.then_ ?_
    refine sC ?_
    refine sp rfl <| sp rfl ?_
    refine sG ?_
    refine Sy.ret ?_
    exact Sy.retGM r.bl rfl (.inl (show _ = _ by kernel_rfl)) (fun _ h => by rw [List.append_nil] at h; exact h.less (List.sublist_cons_self _ _)) hs.as
  have l2 : i < 32 := of_decide_eq_true hb2.symm
  obtain ⟨u, hu⟩ : ∃ u, x[i]? = some u := ⟨_, List.getElem?_eq_getElem (by omega)⟩
  refine sT ?_
  refine Sy.skip ?_
  refine Sy.then_ ?_
  refine Sy.seq ?_
  refine Sy.block ?_
  refine Sy.region ?_
  refine sp rfl <| sp rfl <| sS (.pointer (some ⟨g1, 0 + i * 1, none⟩)) (Quiet.pure (exec_atA 37 _ _ _ g1 0 _ i 1 .i64 rfl rfl rfl Tryz.underlying37 kF l2)) <| sS (bv u) (Quiet.cell 0 g1 (0 + i * 1) 37 5 (x.map bv).toArray _ _ rfl kR rfl Tryz.underlying5 rfl _ (by rw [Nat.zero_add, Nat.mul_one, List.getElem?_toArray, List.getElem?_map, hu]; rfl)) ?_
  refine Sy.make kR 5 #[bv u] (fun g => .slice (some ⟨g, 0, none⟩) 1 1) kF (fun g2 => ?_)
  refine Sy.movT (pre := [(g1, 37, (x.map bv).toArray)]) (T := r.bl ++ []) ?_
  refine Sy.appendR (pre := [(g1, 37, (x.map bv).toArray), (g2, 5, #[bv u])]) (T := []) kR 27 5 _ _ 1 1 Tryz.underlying27 Cu.info_u8 rfl rfl rfl rfl (by decide) _ _ rfl hs kR [bv u] rfl (fun u hu => by rw [List.mem_singleton.1 hu]; rfl) 1 g2 5 kR kR (by rw [byL_len, List.length_take]; omega) (by rw [byL_len, List.length_take]; simp only [maxLen]; omega) (fun r' hr => ?_)
  refine sp rfl ?_
  refine Sy.nil ?_
  refine Sy.in_ ?_
  refine Sy.then_ ?_
  refine Sy.region ?_
  refine sp rfl <| sS (.int .i64 ((i + 1 : Nat) : Int)) (Quiet.pure (exec_int .add _ _ _ .i64 _ _ _ rfl rfl rfl (int_add _ _ _ _ _ ((wrap_i64 (by omega) (by omega)).trans (by omega))))) <| sp rfl ?_
  refine Sy.nil ?_
  have hr' : BS r' (x.take (i + 1)) := by
    show r'.Is 5 1 _
    rw [List.take_add_one, hu, show byL (x.take i ++ (some u).toList) = byL (x.take i) ++ [[bv u]] from byL_app _ _]
    exact hr
  exact Sy.againT r' l2 hr' (all_cons kR (all_cons kR (all_cons kR all_nil))) (fun w h => h.less ((List.sublist_cons_self (g2, 5, #[bv u]) (r'.bl ++ [])).cons_cons (g1, 37, (x.map bv).toArray)))
theorem digW_any (w0 : Base) (gw : Nat) (bad : Bool) (s : Slc) (R : Blocks) (b : Byt) (x : Byt) (hx : x.length = 32) (hb : BS s b) (hl : b.length + 32 ≤ 70368744177664) (w : World) (hw : St w0 w (WB gw bad s R)) :
    Calls Tryz.prog 109 #[ptr gw, .agg (x.map bv).toArray] w (Turns w0 (WRw gw bad b x R)) := by
  have hxl : (x.map bv).length = 32 := by rw [List.length_map, hx]
  refine Sy.enterT (args := [ptr gw, .agg (x.map bv).toArray]) hw Tryz.func109 rfl kL ?_
  refine sC ?_
  refine sM 37 (x.map bv).toArray (fun g3 => ?_) kR (fun w => run_boxR rfl rfl (by kernel_rfl) hxl w)
  refine Sy.permS (M := WB gw bad s (R ++ [(g3, 37, (x.map bv).toArray)])) (List.Perm.of_eq (by simp only [List.append_assoc])) ?_
  refine Sy.nil ?_
  refine Sy.then_ ?_
  refine Sy.region ?_
  refine sp rfl <| sS (.agg (x.map bv).toArray) (rowC (R := [(g3, 37, (x.map bv).toArray)]) (g := g3) (f := 0) (k := 32) (cs := x.map bv) (fun i u hu => .inr ⟨_, _, List.mem_singleton.2 rfl, by rw [Nat.zero_add, List.getElem?_toArray]; exact hu⟩) (fun y hy => inWB (List.mem_append_right R hy)) hxl rfl Tryz.underlying37) ?_
  refine Sy.callN kR 166 #[.agg (x.map bv).toArray] kF _ (fun w' _ => textD_any w' x hx) (fun u M hM => ?_)
  refine Sy.permS (M := WB gw bad s (R ++ ([(g3, 37, (x.map bv).toArray)] ++ M))) (List.Perm.of_eq (by simp only [List.append_assoc])) ?_
  refine Sy.callT (fun w hw => wrawW_any w0.inn gw bad s (R ++ ([(g3, 37, (x.map bv).toArray)] ++ M)) b u x hb (hM.byt.le (fun g o v h => .inr (rdB_le (fun y hy => List.mem_append_right _ (List.mem_append_right _ hy)) g o v h))) (by omega) w hw) (fun v M2 hM2 => ?_)
  obtain ⟨r, hr, rfl⟩ := hM2
  refine Sy.nil ?_
  exact Sy.retT0 rfl (WB gw bad r R) (fun _ h => dropW h) (fun _ => ⟨r, hr, rfl⟩)
theorem mustW_any (w0 : Base) (gw : Nat) (bad ok : Bool) (s : Slc) (R : Blocks) (w : World) (hw : St w0 w (WB gw bad s R)) :
    Calls Tryz.prog 112 #[ptr gw, .bool ok] w (Turns w0 (fun _ M => M = WB gw (bad || !ok) s R)) := by
  refine Sy.enterT (args := [ptr gw, .bool ok]) hw Tryz.func112 rfl kL ?_
  refine sC ?_
  refine sp rfl <| sP (.bool (!ok)) ?_
  refine sG ?_
  cases ok
  · rw [show (bad || !false) = true by cases bad <;> rfl]
    refine sT ?_
    refine Sy.region ?_
    refine sp rfl <| sp rfl <| sP (.pointer (some ⟨gw, 1, none⟩)) <| sw 0 rfl #[s.v, .bool true] (wO 1 4 (.bool true) rfl) ?_
    refine Sy.nil ?_
    exact Sy.retT0 (R := fun _ M => M = WB gw true s R) rfl (WB gw true s R) (fun _ h => h) (fun _ => rfl)
  · rw [show (bad || !true) = bad by cases bad <;> rfl]
    refine sU ?_
    refine Sy.skip ?_
    exact Sy.retT0 (R := fun _ M => M = WB gw bad s R) rfl (WB gw bad s R) (fun _ h => h) (fun _ => rfl)
theorem doneW_any (w0 : Base) (gw : Nat) (bad : Bool) (s : Slc) (R : Blocks) (w : World) (hw : St w0 w (WB gw bad s R)) :
    Calls Tryz.prog 49 #[ptr gw] w (Turns w0 (fun v M => v = (if bad = true then .tuple #[.slice none 0 0, .int .i64 120] else .tuple #[s.v, .int .i64 0]) ∧ M = WB gw bad s R)) := by
  refine Sy.enterT (args := [ptr gw]) hw Tryz.func49 rfl kL ?_
  refine sC ?_
  refine sP (.slice none 0 0) <| sP (.int .i64 0) ?_
  refine sG ?_
  refine Sy.seq ?_
  refine sC ?_
  refine sp rfl <| sp rfl <| sP (.pointer (some ⟨gw, 1, none⟩)) <| sS (.bool bad) (qc 0 1 rfl rfl Tryz.underlying4) ?_
  refine sG ?_
  cases bad
  · rw [if_neg (by decide)]
    refine sU ?_
    refine Sy.skip ?_
    refine sB ?_
    refine sp rfl <| sp rfl <| sP (.pointer (some ⟨gw, 0, none⟩)) <| sS s.v (qc 0 0 rfl rfl Tryz.underlying27) <| sp rfl <| sP (.int .i64 0) ?_
    refine sG ?_
    refine Sy.ret ?_
    exact Sy.retT2 (WB gw false s R) rfl (.inl (show _ = _ by kernel_rfl)) (.inl (show _ = _ by kernel_rfl)) (fun _ h => h) ⟨rfl, rfl⟩
  · rw [if_pos rfl]
    refine sT ?_
    refine sC ?_
    refine sP (.slice none 0 0) <| sP (.int .i64 120) ?_
    refine sG ?_
    refine Sy.ret ?_
    refine Sy.then_ret ?_
    exact Sy.retT2 (WB gw true s R) rfl (.inl (show _ = _ by kernel_rfl)) (.inl (show _ = _ by kernel_rfl)) (fun _ h => h) ⟨rfl, rfl⟩
end Go.Proofs.YtgemfpnlnipfnaaGreat.Wr

end
section
namespace Go.Proofs.YtgemfpnlnipfnaaGreat.Wr
open Go.RowKit Go.Proofs.YtgemfpnlnipfnaaGreat Go.Proofs.YtgemfpnlnipfnaaGreat.Sy
set_option maxRecDepth 100000
set_option maxHeartbeats 4000000

end Go.Proofs.YtgemfpnlnipfnaaGreat.Wr

end
section
namespace Go.Proofs.YtgemfpnlnipfnaaGreat.Wr
open Go.RowKit Go.Proofs.YtgemfpnlnipfnaaGreat Go.Proofs.YtgemfpnlnipfnaaGreat.Sy
set_option maxRecDepth 100000
set_option maxHeartbeats 4000000

def m0 : MTx := ⟨1, [⟨2, List.replicate 32 0⟩]⟩
def b49 : Byt := encMT m0
theorem m0_ok : okMT m0 = true := by kernel_rfl
theorem b49_len : b49.length = 49 := by kernel_rfl
theorem m0_rd : allP rdMT b49 = some m0 := by kernel_rfl
theorem m0_at {w0 : Base} {w : World} {L : Blocks} {g : Nat} {t : TypeId} (hw : St w0 w L) (hL : (g, t, (Value.int .u64 2 :: Z32).toArray) ∈ L) : repMT (rdW w) [.int .u64 1, .slice (some ⟨g, 0, none⟩) 1 1] m0 := by
  refine ⟨_, rfl, (show 1 < 18446744073709551616 by decide), _, _, _, rfl, rfl, Nat.le_refl _, (by decide), fun _ => ⟨g, 0, rfl, fun j x hx => ?_⟩⟩
  cases j with
  | succ j => cases hx
  | zero =>
    cases hx
    refine ⟨Value.int .u64 2 :: Z32, rfl, fun u hu => ?_, ⟨rfl, by decide, rfl⟩, fun i u hu => ?_⟩
    · rcases List.mem_cons.1 hu with rfl | hu
      · rfl
      · obtain ⟨y, _, rfl⟩ := List.mem_map.1 hu; rfl
    · exact rdB_world hw (R := [(g, t, (Value.int .u64 2 :: Z32).toArray)]) (fun b hb => by rw [List.mem_singleton.1 hb]; exact hL) _ _ _ ⟨t, _, List.mem_singleton.2 rfl, by rw [Nat.zero_mul, Nat.add_zero, Nat.zero_add, List.getElem?_toArray]; exact hu⟩
theorem alive12 (w : World) : Calls Tryz.prog 16 #[] w (Gets w (.bool true)) := by
  refine Sy.enter (args := []) Tryz.func16 rfl kL ?_
  refine sC ?_
  refine sP (.bool false) ?_
  refine sA ?_
  refine sP (.agg (Value.int .u64 2 :: Z32).toArray) ?_
  refine Sy.make kR 108 (Value.int .u64 2 :: Z32).toArray (fun g => .slice (some ⟨g, 0, none⟩) 1 1) (Makes.one 69 108 _ _ 33 _ (Value.int .u64 2 :: Z32) rfl kR Tryz.underlying69 info_mo rfl rfl rfl (by decide) (by decide)) (fun g => ?_)
  refine sP (.agg #[.int .u64 1, .slice (some ⟨g, 0, none⟩) 1 1]) ?_
  refine Sy.callN kR 30 #[.agg #[.int .u64 1, .slice (some ⟨g, 0, none⟩) 1 1]] kF (BytE (okMT m0) b49) (fun w' hw => ex_mtx (rep := repMT) (ok := okMT) (enc := encMT) (wt := wtMT) monoMT mainTx_w w' [.int .u64 1, .slice (some ⟨g, 0, none⟩) 1 1] m0 (m0_at hw (List.mem_append_right _ (List.mem_singleton.2 rfl))) rfl (by decide)) (fun v M1 hM => ?_)
  rcases hM with ⟨_, u, rfl, hN⟩ | ⟨h, _⟩
  case inr => rw [m0_ok] at h; cases h
  have hN0 := hN.byt
  obtain ⟨A, n, cp, rfl, h2, h3, h4, h5⟩ := hN.byt
  obtain rfl : 49 = n := by rw [← h2]; exact b49_len.symm
  obtain ⟨gb, ob, rfl, hq⟩ := h5 (by intro e; have q := b49_len; rw [e] at q; cases q)
  refine sp rfl <| sp rfl <| sp rfl <| sp rfl <| sp rfl ?_
  refine sA ?_
  refine sp rfl ?_
  refine Sy.callN kR 32 #[.slice (some ⟨gb, ob, none⟩) 49 cp] kF (RdE 2 ([Value.int .u64 0] ++ [Value.slice none 0 0]) repMT (allP rdMT b49)) (fun w' hw => rdx_mtx (rep := repMT) (p := rdMT) monoMT (@oneMT) mainTx_r w' _ b49 (hN0.le (rdB_world hw (fun b hb => List.mem_append_right _ hb))) (by rw [b49_len]; decide)) (fun v M2 hM => ?_)
  rcases hM with ⟨x, cs, hx, rfl, hcs, hrep⟩ | ⟨h, _⟩
  case inr => rw [m0_rd] at h; cases h
  rw [m0_rd] at hx
  obtain rfl : m0 = x := by injection hx
  obtain ⟨v2, rfl, _, A2, n2, c2, rfl, k2, k3, k4, k5⟩ := hrep
  obtain rfl : 1 = n2 := k2
  obtain ⟨g2, o2, rfl, hq2⟩ := k5 (by intro e; cases e)
  obtain ⟨cs0, d1, d2, ⟨rfl, _, _⟩, d3⟩ := hq2 0 _ rfl
  refine sp rfl <| sp rfl <| sp rfl ?_
  refine sM 71 #[.int .u64 0, .slice none 0 0] (fun g3 => ?_)
  refine Sy.permS List.perm_append_comm ?_
  refine sw 0 rfl #[.int .u64 1, .slice (some ⟨g2, o2, none⟩) 1 c2] (wA rfl) <| sp rfl ?_
  refine sA ?_
  refine sP (.agg zOut.toArray) ?_
  refine Sy.callN kR 26 #[.agg zOut.toArray] kF (BytE false []) (fun w' hw => ex_outz (rep := repOZ) (ok := fun _ => false) (enc := fun _ => []) (wt := fun _ => 1) monoOZ outz_w w' zOut () rfl rfl (by decide)) (fun v M3 hM => ?_)
  rcases hM with ⟨h, _⟩ | ⟨_, rfl, rfl⟩
  case inl => cases h
  rw [List.append_nil]
  refine sp rfl <| sp rfl <| sp rfl <| sp rfl <| sp rfl ?_
  obtain ⟨X, hX⟩ : ∃ X, X = [(g, 108, (Value.int .u64 2 :: Z32).toArray)] ++ M1 ++ M2 := ⟨_, rfl⟩
  have i1 : ∀ b ∈ M1, b ∈ (g3, 71, #[.int .u64 1, .slice (some ⟨g2, o2, none⟩) 1 c2]) :: ([] ++ [(g, 108, (Value.int .u64 2 :: Z32).toArray)] ++ M1 ++ M2) := fun b hb => by simp [hb]
  have i2 : ∀ b ∈ M2, b ∈ (g3, 71, #[.int .u64 1, .slice (some ⟨g2, o2, none⟩) 1 c2]) :: ([] ++ [(g, 108, (Value.int .u64 2 :: Z32).toArray)] ++ M1 ++ M2) := fun b hb => by simp [hb]
  refine sA ?_
  refine sp rfl <| sP (.bool true) <| sp rfl <| sp rfl <| sP (.int .i64 49) <| sP (.bool true) <| sP (.bool true) ?_
  refine sp rfl <| sp rfl <| sS (.pointer (some ⟨gb, ob + 7 * 1, none⟩)) (Quiet.pure (exec_atO 27 _ _ _ (some ⟨gb, ob, none⟩) gb ob 49 cp 7 1 .i64 rfl rfl rfl rfl Tryz.underlying27 kF (by decide))) <| sS (bv 1) (cellC (w0 := Base.of w) (R := M1) (g := gb) (f := ob + 7 * 1) (v := bv 1) (.inr (hq 7 1 (by kernel_rfl))) i1 rfl Tryz.underlying5) <| sP (.bool true) <| sP (.bool true) ?_
  refine sp rfl <| sp rfl <| sS (.pointer (some ⟨gb, ob + 8 * 1, none⟩)) (Quiet.pure (exec_atO 27 _ _ _ (some ⟨gb, ob, none⟩) gb ob 49 cp 8 1 .i64 rfl rfl rfl rfl Tryz.underlying27 kF (by decide))) <| sS (bv 1) (cellC (w0 := Base.of w) (R := M1) (g := gb) (f := ob + 8 * 1) (v := bv 1) (.inr (hq 8 1 (by kernel_rfl))) i1 rfl Tryz.underlying5) <| sP (.bool true) <| sP (.bool true) ?_
  refine sp rfl <| sp rfl <| sP (.bool true) <| sP (.bool true) ?_
  refine sp rfl <| sP (.pointer (some ⟨g3, 0, none⟩)) <| sS (.int .u64 1) (qc 0 0 rfl rfl Tryz.underlying22) <| sP (.bool true) <| sP (.bool true) ?_
  refine sp rfl <| sP (.pointer (some ⟨g3, 1, none⟩)) <| sS (.slice (some ⟨g2, o2, none⟩) 1 c2) (qc 0 1 rfl rfl Tryz.underlying69) <| sP (.int .i64 1) <| sP (.bool true) <| sP (.bool true) ?_
  refine sp rfl <| sP (.pointer (some ⟨g3, 1, none⟩)) <| sS (.slice (some ⟨g2, o2, none⟩) 1 c2) (qc 0 1 rfl rfl Tryz.underlying69) <| sS (.pointer (some ⟨g2, o2 + 0 * 33, none⟩)) (Quiet.pure (exec_atO 69 _ _ _ (some ⟨g2, o2, none⟩) g2 o2 1 c2 0 33 .i64 rfl rfl rfl rfl Tryz.underlying69 kF (by decide))) <| sP (.pointer (some ⟨g2, o2 + 0 * 33, none⟩)) <| sS (.int .u64 2) (cellC (w0 := Base.of w) (R := M2) (g := g2) (f := o2 + 0 * 33) (v := .int .u64 2) (.inr d3.one) i2 rfl Tryz.underlying22) <| sP (.bool true) <| sP (.bool true) ?_
  refine sp rfl <| sp rfl <| sP (.bool true) <| sP (.bool true) <| sp rfl ?_
  refine sG ?_
  refine Sy.ret ?_
  exact rV (.bool true) rfl
end Go.Proofs.YtgemfpnlnipfnaaGreat.Wr

end
section
namespace Go.Proofs.YtgemfpnlnipfnaaGreat.Wr
open Go.RowKit Go.Proofs.YtgemfpnlnipfnaaGreat Go.Proofs.YtgemfpnlnipfnaaGreat.Sy
set_option maxRecDepth 100000
set_option maxHeartbeats 4000000

theorem var_le {most n : Nat} {l r : Byt} (h : varP most l = some (n, r)) : n ≤ most := by
  unfold varP at h
  cases hp : bindP (numP 1) (fun c => if c < 253 then retP c else longP c) l with
  | none => rw [bind_none hp] at h; cases h
  | some u =>
    obtain ⟨x, r1⟩ := u
    rw [bind_some hp] at h
    unfold bindP mustP at h
    by_cases hx : x ≤ most
    · simp only [hx, decide_true, if_true] at h
      cases h
      exact hx
    · simp only [hx, decide_false, Bool.false_eq_true, if_false] at h
      cases h
theorem all_some {α : Type} {p : Ps α} {l : Byt} {x : α} (h : allP p l = some x) : p l = some (x, []) := by
  unfold allP at h
  cases hp : p l with
  | none => rw [hp] at h; cases h
  | some u =>
    obtain ⟨y, r⟩ := u
    rw [hp] at h
    cases r with
    | nil => cases h; rfl
    | cons => cases h
end Go.Proofs.YtgemfpnlnipfnaaGreat.Wr

end
