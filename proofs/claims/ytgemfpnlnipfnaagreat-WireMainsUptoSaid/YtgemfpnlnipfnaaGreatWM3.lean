/-
  Texts of ours, put together: WirX, WirY, WirZ, WirP, WirQ, WirR, WirS, WirT, WirU, WirV, WirW, WirAA, WirAB, WireMainsL.
-/
import Derived.Test.YtgemfpnlnipfnaaGreatWM2
set_option linter.unusedVariables false
set_option linter.unusedSimpArgs false
section
namespace Go.Proofs.YtgemfpnlnipfnaaGreat.Wr
open Go.RowKit Go.Proofs.YtgemfpnlnipfnaaGreat Go.Proofs.YtgemfpnlnipfnaaGreat.Sy
set_option maxRecDepth 100000
set_option maxHeartbeats 4000000

open Go.ChangeShapes Go.WideShapes Go.ChangeAt Go.Deep
theorem bulk_pos {H : Type} (d : DataW H) : 1 ≤ Rows.uptoBulk d := by
  cases d with
  | lit l => cases l <;> simp [Rows.uptoBulk]
  | _ => simp [Rows.uptoBulk]
theorem bulk_app {H : Type} : ∀ a b : List (DataW H), Rows.uptoBulkAll (a ++ b) = Rows.uptoBulkAll a + Rows.uptoBulkAll b
  | [], b => by simp [Rows.uptoBulkAll]
  | d :: a, b => by
    have h := bulk_app a b
    simp only [List.cons_append, Rows.uptoBulkAll]
    omega
theorem cells_at {W : World} {base : Nat} {a : Addr} {n : Nat} {cs : List Value} (h : W.cells? base a n = some cs) : ∀ (j : Nat) (v : Value), cs[j]? = some v → W.cell? (a.add j) = some v := fun j v hj => by
  unfold World.cells? at h
  split at h
  · have hl := Lib.mapM_length h
    have hjl : j < n := by
      have := (List.getElem?_eq_some_iff.1 hj).1
      simp at hl
      omega
    obtain ⟨b, hb, hf⟩ := Lib.mapM_at h j j (by simp [hjl])
    rw [hb] at hj
    injection hj with hj
    rw [hf, hj]
  · cases h
theorem cells_ln {W : World} {base : Nat} {a : Addr} {n : Nat} {cs : List Value} (h : W.cells? base a n = some cs) : cs.length = n := by
  unfold World.cells? at h
  split at h
  · have hl := Lib.mapM_length h
    simpa using hl
  · cases h
theorem cell_in {w : World} {a : Addr} {v : Value} (h : w.cell? a = some v) : ∃ b o, a = ⟨b, o, none⟩ ∧ b < w.heap.size := by
  obtain ⟨b, o, k⟩ := a
  unfold World.cell? at h
  cases k with
  | none =>
    refine ⟨b, o, rfl, ?_⟩
    rcases Nat.lt_or_ge b w.heap.size with hl | hl
    · exact hl
    · simp [Array.getElem?_eq_none hl] at h
  | some k => exfalso; cases hw : w.heap[b]? with
    | none => simp [hw] at h
    | some ob => cases ob <;> simp [hw] at h
theorem add_in (b o n : Nat) : (⟨b, o, none⟩ : Addr).add n = ⟨b, o + n, none⟩ := by unfold Addr.add; split <;> simp_all
theorem list_of {α H : Type} {n : Nat} {p : Nat → α → Prop} {sz : α → Nat} {D : Nat → DataW H} (h : ∀ i, i < n → ∃ x, p i x ∧ sz x < Rows.uptoBulk (D i)) : ∃ l : List α, l.length = n ∧ (∀ i x, l[i]? = some x → p i x) ∧ l.length + (l.map sz).sum ≤ Rows.uptoBulkAll ((List.range n).map D) := by
  induction n with
  | zero => exact ⟨[], rfl, fun i x h => (by cases h), Nat.zero_le _⟩
  | succ n ih =>
    obtain ⟨l, h1, h2, h3⟩ := ih fun i hi => h i (by omega)
    obtain ⟨x, hx, hs⟩ := h n (by omega)
    refine ⟨l ++ [x], by rw [List.length_append, h1]; rfl, fun i y hy => ?_, ?_⟩
    · rcases Nat.lt_or_ge i l.length with hi | hi
      · rw [List.getElem?_append_left hi] at hy
        exact h2 i y hy
      · rw [List.getElem?_append_right hi] at hy
        cases hk : i - l.length with
        | zero =>
          rw [hk] at hy
          cases hy
          obtain rfl : i = n := by omega
          exact hx
        | succ k => rw [hk] at hy; cases hy
    · simp only [List.range_succ, List.map_append, bulk_app, List.sum_append, List.length_append, List.map_cons, List.map_nil, List.sum_cons, List.sum_nil, List.length_cons, List.length_nil, Rows.uptoBulkAll]
      omega
structure Opn {α : Type} (t : TypeId) (k : Nat) (rep : Rdr → List Value → α → Prop) (sz : α → Nat) : Prop where
  go : ∀ {H : Type} {enc : TypeId × Value → H} {W : World} {fuel : Nat} {cs : List Value} {x : DataW H × List MemPlace}, cs.length = k → DataW.trod enc Tryz.prog W 0 (fun _ => true) true fuel t cs = some x → ∃ y, rep (rdW W) cs y ∧ (∀ u ∈ cs, u.oneCell' = true) ∧ sz y < Rows.uptoBulk x.1
theorem Opn.as {α β : Type} {t : TypeId} {k : Nat} {rep : Rdr → List Value → α → Prop} {sz : α → Nat} {rep' : Rdr → List Value → β → Prop} {sz' : β → Nat} (h : Opn t k rep sz) (hr : ∀ C cs x, rep C cs x → ∃ y, rep' C cs y ∧ sz' y ≤ sz x) : Opn t k rep' sz' := ⟨fun hl hf => by
  obtain ⟨x, h1, h2, h3⟩ := h.go hl hf
  obtain ⟨y, h4, h5⟩ := hr _ _ _ h1
  exact ⟨y, h4, h2, by omega⟩⟩
def repU (_ : Rdr) (cs : List Value) (n : Nat) : Prop := cs = [.int .u64 (n : Int)] ∧ n < 18446744073709551616
def repO (_ : Rdr) (cs : List Value) (u : UInt8) : Prop := cs = [bv u]
def repN (n : Nat) (_ : Rdr) (cs : List Value) (b : Byt) : Prop := cs = b.map bv ∧ b.length = n
def repT (C : Rdr) (cs : List Value) (b : Byt) : Prop := ∃ v, cs = [v] ∧ BytR C v b
theorem opn_u {t : TypeId} (ht : Tryz.prog.underlying t = some (.int .u64)) : Opn t 1 repU (fun _ => 0) := ⟨fun hl hf => by
  obtain ⟨z, rfl, hx, w⟩ := DataW.trod_int ht hf
  have hz : 0 ≤ z ∧ z < 18446744073709551616 := by
    simp [Lit.wf, IntKind.bits, IntKind.signed, IntKind.min, IntKind.max] at w
    omega
  refine ⟨z.toNat, ⟨by rw [show ((z.toNat : Nat) : Int) = z by omega], by omega⟩, fun u hu => by rw [List.mem_singleton.1 hu]; rfl, bulk_pos _⟩⟩
theorem opn_o {t : TypeId} (ht : Tryz.prog.underlying t = some (.int .u8)) : Opn t 1 repO (fun _ => 0) := ⟨fun hl hf => by
  obtain ⟨z, rfl, hx, w⟩ := DataW.trod_int ht hf
  have hz : 0 ≤ z ∧ z < 256 := by
    simp [Lit.wf, IntKind.bits, IntKind.signed, IntKind.min, IntKind.max] at w
    omega
  refine ⟨UInt8.ofNat z.toNat, ?_, fun u hu => by rw [List.mem_singleton.1 hu]; rfl, bulk_pos _⟩
  unfold repO bv
  rw [UInt8.toNat_ofNat', show ((z.toNat % 2 ^ 8 : Nat) : Int) = z by omega]⟩
theorem opn_n {t e : TypeId} {n : Nat} (ht : Tryz.prog.underlying t = some (.array n e)) (he : Tryz.prog.underlying e = some (.int .u8)) (hce : Tryz.prog.cellsOf e = 1) (hct : Tryz.prog.cellsOf t = n) : Opn t n (repN n) (fun _ => 0) := ⟨fun {H enc W fuel cs x} hl hf => by
  cases fuel with
  | zero => simp [DataW.trod] at hf
  | succ fuel =>
    simp only [DataW.trod, ht, hce, hct, Nat.mul_one] at hf
    rw [if_pos hl] at hf
    · obtain ⟨xs, hm, hx⟩ := Option.map_eq_some_iff.1 hf
      have hone : ∀ i, i < n → ∃ u : UInt8, cs[i]? = some (bv u) := by
        intro i hi
        obtain ⟨b, hb, hf⟩ := Lib.mapM_at hm i i (by simp [hi])
        obtain ⟨z, hc, rfl, hw⟩ := DataW.trod_int he hf
        have h1 : cs[i]? = some (.int .u8 z) := by
          have := congrArg (·[0]?) hc
          simpa [List.getElem?_take, List.getElem?_drop] using this
        have hz : 0 ≤ z ∧ z < 256 := by
          simp [Lit.wf, IntKind.bits, IntKind.signed, IntKind.min, IntKind.max] at hw
          omega
        refine ⟨UInt8.ofNat z.toNat, ?_⟩
        rw [h1]
        unfold bv
        congr 2
        rw [UInt8.toNat_ofNat']
        omega
      have hcs : ∃ b : Byt, cs = b.map bv := by
        refine ⟨cs.map (fun v => match v with | .int _ z => UInt8.ofNat z.toNat | _ => 0), List.ext_getElem? fun i => ?_⟩
        by_cases hi : i < n
        · obtain ⟨u, hu⟩ := hone i hi
          simp [hu, bv]
        · have : cs.length ≤ i := by omega
          simp [List.getElem?_eq_none this]
      obtain ⟨b, rfl⟩ := hcs
      exact ⟨b, ⟨rfl, by simpa using hl⟩, fun u hu => by obtain ⟨w, _, rfl⟩ := List.mem_map.1 hu; rfl, bulk_pos _⟩⟩
theorem opn_l {α : Type} {t e : TypeId} {k : Nat} {rep : Rdr → List Value → α → Prop} {sz : α → Nat} (ht : Tryz.prog.underlying t = some (.slice e)) (hce : Tryz.prog.cellsOf e = k) (hk : 0 < k) (h : Opn e k rep sz) : Opn t 1 (repL k rep) (fun l => l.length + (l.map sz).sum) := ⟨fun {H enc W fuel cs x} hl hf => by
  rcases open_slice ht hf with ⟨rfl, hx⟩ | ⟨a, len, cap, m, n, D, Pl, rfl, _, hlc, hm, hme, hx, hall⟩
  · exact ⟨[], ⟨_, rfl, none, 0, 0, rfl, rfl, Nat.le_refl _, Nat.zero_le _, fun h => (h rfl).elim⟩, fun u hu => by rw [List.mem_singleton.1 hu]; rfl, bulk_pos _⟩
  · simp only [if_true] at hme
    subst hme
    rw [hce] at hall
    obtain ⟨l, l1, l2, l3⟩ := list_of (α := α) (n := len) (sz := sz) (D := D) (p := fun i y => ∃ cs', W.cells? 0 (a.add (i * k)) k = some cs' ∧ rep (rdW W) cs' y ∧ ∀ u ∈ cs', u.oneCell' = true) (fun i hi => by
      obtain ⟨cs', h1, h2⟩ := hall i (by omega)
      obtain ⟨y, q1, q2, q3⟩ := h.go (cells_ln h1) h2
      exact ⟨y, ⟨cs', h1, q1, q2⟩, q3⟩)
    refine ⟨l, ⟨_, rfl, some a, len, m, rfl, l1, hlc, hm, fun hne => ?_⟩, fun u hu => by rw [List.mem_singleton.1 hu]; rfl, ?_⟩
    · have hpos : 0 < l.length := List.length_pos_iff.2 hne
      obtain ⟨cs0, c1, c2, c3⟩ := l2 0 l[0] (List.getElem?_eq_getElem hpos)
      have c4 := cells_ln c1
      have hcell := cells_at c1 0 cs0[0] (List.getElem?_eq_getElem (by omega))
      have e0 : (a.add (0 * k)).add 0 = a := by simp [Addr.add]
      rw [e0] at hcell
      obtain ⟨b, o, rfl, hlt⟩ := cell_in hcell
      refine ⟨b, o, rfl, fun j y hy => ?_⟩
      obtain ⟨cs', d1, d2, d3⟩ := l2 j y hy
      refine ⟨cs', cells_ln d1, d3, d2, fun i v hi => ⟨hlt, ?_⟩⟩
      have := cells_at d1 i v hi
      rwa [add_in, add_in] at this
    · subst hx
      simp only [Rows.uptoBulk]
      omega⟩
theorem opn_t {t e : TypeId} (ht : Tryz.prog.underlying t = some (.slice e)) (he : Tryz.prog.underlying e = some (.int .u8)) (hce : Tryz.prog.cellsOf e = 1) : Opn t 1 repT (fun b => b.length) := (opn_l ht hce Nat.zero_lt_one (opn_o he)).as fun C cs l ⟨v, h1, A, n, cp, h2, h3, h4, h5, h6⟩ => ⟨l, ⟨v, h1, A, n, cp, h2, h3, h4, h5, fun hne => by
  obtain ⟨g, o, e, hq⟩ := h6 hne
  refine ⟨g, o, e, fun j u hu => ?_⟩
  obtain ⟨cs', _, _, rfl, q⟩ := hq j u hu
  have := q 0 (bv u) rfl
  rwa [Nat.mul_one, Nat.add_zero] at this⟩, Nat.le_add_right _ _⟩
theorem opn_s2 {α0 α1 : Type} {t : TypeId} {f0 f1 : Field} {k0 k1 : Nat} {r0 : Rdr → List Value → α0 → Prop} {r1 : Rdr → List Value → α1 → Prop} {z0 : α0 → Nat} {z1 : α1 → Nat} (ht : Tryz.prog.underlying t = some (.struct #[f0, f1])) (c0 : Tryz.prog.cellsOf f0.type = k0) (c1 : Tryz.prog.cellsOf f1.type = k1) (o0 : f0.offset = 0) (o1 : f1.offset = 0 + k0)
    (h0 : Opn f0.type k0 r0 z0) (h1 : Opn f1.type k1 r1 z1) : Opn t (k0 + (k1)) (fun C cs (y : α0 × α1) => ∃ a0 a1 : List Value, cs = a0 ++ (a1) ∧ r0 C a0 y.1 ∧ r1 C a1 y.2) (fun y => z0 y.1 + z1 y.2) := ⟨fun {H enc W fuel cs x} hl hf => by
  obtain ⟨xs, m, _, hx, _, hn, hg⟩ := DataW.trod_struct ht hf
  match xs, hn with
  | [y0, y1], _ =>
    have g0 : DataW.trod enc Tryz.prog W 0 (fun _ => true) true m f0.type ((cs.drop f0.offset).take (Tryz.prog.cellsOf f0.type)) = some y0 := hg 0 f0 rfl
    rw [o0, c0] at g0
    obtain ⟨v0, p0, q0, s0⟩ := h0.go (by rw [List.length_take, List.length_drop]; omega) g0
    have g1 : DataW.trod enc Tryz.prog W 0 (fun _ => true) true m f1.type ((cs.drop f1.offset).take (Tryz.prog.cellsOf f1.type)) = some y1 := hg 1 f1 rfl
    rw [o1, c1] at g1
    obtain ⟨v1, p1, q1, s1⟩ := h1.go (by rw [List.length_take, List.length_drop]; omega) g1
    have e0 : cs.drop (0) = (cs.drop (0)).take k0 ++ cs.drop (0 + k0) := by have q := (List.take_append_drop k0 (cs.drop (0))).symm; rwa [List.drop_drop] at q
    have e1 : cs.drop (0 + k0) = (cs.drop (0 + k0)).take k1 := (List.take_of_length_le (by rw [List.length_drop]; omega)).symm
    have e : cs = (cs.drop (0)).take k0 ++ ((cs.drop (0 + k0)).take k1) := (List.drop_zero (l := cs)).symm.trans (e0.trans (congrArg ((cs.drop (0)).take k0 ++ ·) (e1)))
    refine ⟨(v0, v1), ⟨_, _, e, p0, p1⟩, fun u hu => by rw [e] at hu; exact (ones_app q0 (q1)) u hu, ?_⟩
    subst hx
    simp only [Rows.uptoBulk, List.map_cons, List.map_nil, Rows.uptoBulkAll]
    omega⟩
theorem opn_s4 {α0 α1 α2 α3 : Type} {t : TypeId} {f0 f1 f2 f3 : Field} {k0 k1 k2 k3 : Nat} {r0 : Rdr → List Value → α0 → Prop} {r1 : Rdr → List Value → α1 → Prop} {r2 : Rdr → List Value → α2 → Prop} {r3 : Rdr → List Value → α3 → Prop} {z0 : α0 → Nat} {z1 : α1 → Nat} {z2 : α2 → Nat} {z3 : α3 → Nat} (ht : Tryz.prog.underlying t = some (.struct #[f0, f1, f2, f3])) (c0 : Tryz.prog.cellsOf f0.type = k0) (c1 : Tryz.prog.cellsOf f1.type = k1) (c2 : Tryz.prog.cellsOf f2.type = k2) (c3 : Tryz.prog.cellsOf f3.type = k3) (o0 : f0.offset = 0) (o1 : f1.offset = 0 + k0) (o2 : f2.offset = 0 + k0 + k1) (o3 : f3.offset = 0 + k0 + k1 + k2)
    (h0 : Opn f0.type k0 r0 z0) (h1 : Opn f1.type k1 r1 z1) (h2 : Opn f2.type k2 r2 z2) (h3 : Opn f3.type k3 r3 z3) : Opn t (k0 + (k1 + (k2 + (k3)))) (fun C cs (y : α0 × α1 × α2 × α3) => ∃ a0 a1 a2 a3 : List Value, cs = a0 ++ (a1 ++ (a2 ++ (a3))) ∧ r0 C a0 y.1 ∧ r1 C a1 y.2.1 ∧ r2 C a2 y.2.2.1 ∧ r3 C a3 y.2.2.2) (fun y => z0 y.1 + z1 y.2.1 + z2 y.2.2.1 + z3 y.2.2.2) := ⟨fun {H enc W fuel cs x} hl hf => by
  obtain ⟨xs, m, _, hx, _, hn, hg⟩ := DataW.trod_struct ht hf
  match xs, hn with
  | [y0, y1, y2, y3], _ =>
    have g0 : DataW.trod enc Tryz.prog W 0 (fun _ => true) true m f0.type ((cs.drop f0.offset).take (Tryz.prog.cellsOf f0.type)) = some y0 := hg 0 f0 rfl
    rw [o0, c0] at g0
    obtain ⟨v0, p0, q0, s0⟩ := h0.go (by rw [List.length_take, List.length_drop]; omega) g0
    have g1 : DataW.trod enc Tryz.prog W 0 (fun _ => true) true m f1.type ((cs.drop f1.offset).take (Tryz.prog.cellsOf f1.type)) = some y1 := hg 1 f1 rfl
    rw [o1, c1] at g1
    obtain ⟨v1, p1, q1, s1⟩ := h1.go (by rw [List.length_take, List.length_drop]; omega) g1
    have g2 : DataW.trod enc Tryz.prog W 0 (fun _ => true) true m f2.type ((cs.drop f2.offset).take (Tryz.prog.cellsOf f2.type)) = some y2 := hg 2 f2 rfl
    rw [o2, c2] at g2
    obtain ⟨v2, p2, q2, s2⟩ := h2.go (by rw [List.length_take, List.length_drop]; omega) g2
    have g3 : DataW.trod enc Tryz.prog W 0 (fun _ => true) true m f3.type ((cs.drop f3.offset).take (Tryz.prog.cellsOf f3.type)) = some y3 := hg 3 f3 rfl
    rw [o3, c3] at g3
    obtain ⟨v3, p3, q3, s3⟩ := h3.go (by rw [List.length_take, List.length_drop]; omega) g3
    have e0 : cs.drop (0) = (cs.drop (0)).take k0 ++ cs.drop (0 + k0) := by have q := (List.take_append_drop k0 (cs.drop (0))).symm; rwa [List.drop_drop] at q
    have e1 : cs.drop (0 + k0) = (cs.drop (0 + k0)).take k1 ++ cs.drop (0 + k0 + k1) := by have q := (List.take_append_drop k1 (cs.drop (0 + k0))).symm; rwa [List.drop_drop] at q
    have e2 : cs.drop (0 + k0 + k1) = (cs.drop (0 + k0 + k1)).take k2 ++ cs.drop (0 + k0 + k1 + k2) := by have q := (List.take_append_drop k2 (cs.drop (0 + k0 + k1))).symm; rwa [List.drop_drop] at q
    have e3 : cs.drop (0 + k0 + k1 + k2) = (cs.drop (0 + k0 + k1 + k2)).take k3 := (List.take_of_length_le (by rw [List.length_drop]; omega)).symm
    have e : cs = (cs.drop (0)).take k0 ++ ((cs.drop (0 + k0)).take k1 ++ ((cs.drop (0 + k0 + k1)).take k2 ++ ((cs.drop (0 + k0 + k1 + k2)).take k3))) := (List.drop_zero (l := cs)).symm.trans (e0.trans (congrArg ((cs.drop (0)).take k0 ++ ·) (e1.trans (congrArg ((cs.drop (0 + k0)).take k1 ++ ·) (e2.trans (congrArg ((cs.drop (0 + k0 + k1)).take k2 ++ ·) (e3)))))))
    refine ⟨(v0, v1, v2, v3), ⟨_, _, _, _, e, p0, p1, p2, p3⟩, fun u hu => by rw [e] at hu; exact (ones_app q0 (ones_app q1 (ones_app q2 (q3)))) u hu, ?_⟩
    subst hx
    simp only [Rows.uptoBulk, List.map_cons, List.map_nil, Rows.uptoBulkAll]
    omega⟩
theorem arg_s {α : Type} {t : TypeId} {k : Nat} {rep : Rdr → List Value → α → Prop} {sz : α → Nat} (h : Opn t k rep sz) {fs : Array Field} (ht : Tryz.prog.underlying t = some (.struct fs)) (hk : Tryz.prog.cellsOf t = k) {H : Type} {enc : TypeId × Value → H} {W : World} {r : Reach} {b0 : Nat} {v : Value} {d : DataW H} {ps : List MemPlace} (hval : Value.okWide Tryz.prog W r b0 t v) (hT : DataW.Trod enc Tryz.prog W 0 (fun _ => true) true t v d ps) :
    ∃ cs y, v = .agg cs.toArray ∧ cs.length = k ∧ rep (rdW W) cs y ∧ sz y < Rows.uptoBulk d := by
  obtain ⟨⟨cs⟩, rfl, hsz⟩ := okWide_struct ht hval
  rw [hk] at hsz
  obtain ⟨fuel, hf⟩ := hT
  obtain ⟨y, h1, h2, h3⟩ := h.go (by simpa using hsz) (show DataW.trod enc Tryz.prog W 0 (fun _ => true) true fuel t cs = some (d, ps) by simpa [Value.cells] using hf)
  exact ⟨cs, y, rfl, by simpa using hsz, h1, h3⟩
theorem arg_v {α : Type} {t e : TypeId} {rep : Rdr → List Value → α → Prop} {sz : α → Nat} (h : Opn t 1 rep sz) (ht : Tryz.prog.underlying t = some (.slice e)) {H : Type} {enc : TypeId × Value → H} {W : World} {r : Reach} {b0 : Nat} {v : Value} {d : DataW H} {ps : List MemPlace} (hval : Value.okWide Tryz.prog W r b0 t v) (hT : DataW.Trod enc Tryz.prog W 0 (fun _ => true) true t v d ps) :
    ∃ y, rep (rdW W) [v] y ∧ sz y < Rows.uptoBulk d := by
  obtain ⟨A, n, c, rfl⟩ := okWide_slice ht hval
  obtain ⟨fuel, hf⟩ := hT
  obtain ⟨y, h1, _, h3⟩ := h.go rfl (show DataW.trod enc Tryz.prog W 0 (fun _ => true) true fuel t [.slice A n c] = some (d, ps) by simpa [Value.cells] using hf)
  exact ⟨y, h1, h3⟩
theorem opn_raw : Opn 27 1 repT (fun b => b.length) := opn_t Tryz.underlying27 Tryz.underlying5 (by kernel_rfl)
theorem repT.one {C : Rdr} {v : Value} {b : Byt} (h : repT C [v] b) : BytR C v b := by
  obtain ⟨u, e, h⟩ := h
  injection e with e
  subst e
  exact h
theorem opn_dg : Opn 37 32 (repN 32) (fun _ => 0) := opn_n Tryz.underlying37 Tryz.underlying5 (by kernel_rfl) (by kernel_rfl)
theorem opn_u64 : Opn 22 1 repU (fun _ => 0) := opn_u Tryz.underlying22
theorem opn_mo : Opn 108 33 repMO (fun _ => 0) := (opn_s2 Tryz.underlying108 (by kernel_rfl) (by kernel_rfl) (by kernel_rfl) (by kernel_rfl) opn_u64 opn_dg).as fun C cs (a, b) ⟨a0, a1, e, ⟨e0, h1⟩, ⟨e1, h2⟩⟩ => by
  subst e0 e1 e
  exact ⟨⟨a, b⟩, ⟨rfl, h1, h2⟩, Nat.zero_le _⟩
theorem opn_mtx : Opn 71 2 repMT (fun t => t.outs.length) := (opn_s2 Tryz.underlying71 (by kernel_rfl) (by kernel_rfl) (by kernel_rfl) (by kernel_rfl) opn_u64 (opn_l Tryz.underlying69 (by kernel_rfl) (by decide) opn_mo)).as fun C cs (a, l) ⟨a0, a1, e, ⟨e0, h1⟩, ⟨v, e1, h2⟩⟩ => by
  subst e0 e1 e
  exact ⟨⟨a, l⟩, ⟨v, rfl, h1, h2⟩, by show l.length ≤ 0 + (l.length + _); omega⟩
theorem opn_mhd : Opn 73 66 repMH (fun _ => 0) := (opn_s4 Tryz.underlying73 (by kernel_rfl) (by kernel_rfl) (by kernel_rfl) (by kernel_rfl) (by kernel_rfl) (by kernel_rfl) (by kernel_rfl) (by kernel_rfl) opn_dg opn_dg opn_u64 opn_u64).as fun C cs (a, b, c, d) ⟨a0, a1, a2, a3, e, ⟨e0, h0⟩, ⟨e1, h1⟩, ⟨e2, h2⟩, ⟨e3, h3⟩⟩ => by
  subst e0 e1 e2 e3 e
  exact ⟨⟨a, b, c, d⟩, ⟨rfl, h0, h1, h2, h3⟩, Nat.zero_le _⟩
end Go.Proofs.YtgemfpnlnipfnaaGreat.Wr

end
section
namespace Go.Proofs.YtgemfpnlnipfnaaGreat.Wr
open Go.RowKit Go.Proofs.YtgemfpnlnipfnaaGreat Go.Proofs.YtgemfpnlnipfnaaGreat.Sy
set_option maxRecDepth 100000
set_option maxHeartbeats 4000000

theorem str_of {w : World} {A : Option Addr} {n cp : Nat} {b : Byt} (h : BytR (rdW w) (.slice A n cp) b) : (convert 27 9 (.slice A n cp)).run Tryz.prog w = .ok (.string ⟨b.toArray⟩) w := by
  obtain ⟨A', n', cp', e, h2, h3, h4, h5⟩ := h
  injection e with e1 e2 e3
  subst e1 e2 e3
  subst h2
  rcases b with _ | ⟨x, m⟩
  · cases A with
    | none =>
      rw [show ([] : List UInt8).length = 0 from rfl, run_convert_bytes_string w 27 9 5 none 0 cp Tryz.underlying27 Tryz.underlying5 Tryz.underlying9]
      rfl
    | some a => exact run_convert_bytes_back w 27 9 5 a cp [] Tryz.underlying27 Tryz.underlying5 Tryz.underlying9 (fun j hj => absurd hj (Nat.not_lt_zero _))
  · obtain ⟨g, o, rfl, hq⟩ := h5 (by simp)
    refine run_convert_bytes_back w 27 9 5 _ cp _ Tryz.underlying27 Tryz.underlying5 Tryz.underlying9 (fun j hj => ?_)
    rw [addr_off]
    exact (hq j _ (List.getElem?_eq_getElem hj)).2
theorem strC {w0 : Base} {F : Slots} {L : Blocks} {o : Oper} {v : Value} {b : Byt} (x : Operand) (ho : o.op = .convert 27 9 x) (hx : evF F x = v) (hv : ∀ w, St w0 w L → BytR (rdW w) v b) : Quiet Tryz.prog w0 F L o (.string ⟨b.toArray⟩) := fun w hw => by
  have q := hv w hw
  obtain ⟨A, n, cp, rfl, _⟩ := hv w hw
  unfold Gives execOp
  simp only [ho, hx, Sem.run_bind, str_of q, Result.andThen_ok, Sem.run_pure]
  exact ⟨trivial, Gr.refl _⟩
theorem eql_str (w : World) (F : Slots) (o : Oper) (x y : Operand) (a b : List UInt8) {yt : TypeId} (ho : o.op = .binOp .eql 9 x y yt) (hx : evF F x = .string ⟨a.toArray⟩) (hy : evF F y = .string ⟨b.toArray⟩) : (execOp (evF F) o).run Tryz.prog w = .ok (.value (.bool (decide (a = b)))) w := by
  have h1 : (eqGuard .eql 9 x y (.string ⟨a.toArray⟩) (.string ⟨b.toArray⟩)).run Tryz.prog w = .ok () w := by go_simp
  have h2 : (binOp .eql 9 (.string ⟨a.toArray⟩) (.string ⟨b.toArray⟩)).run Tryz.prog w = .ok (.bool (decide (a = b))) w := by
    by_cases e : a = b <;> simp [go_sem, ByteArray.toList_eq, e]
  unfold execOp
  simp only [ho, hx, hy, Sem.run_bind, h1, h2, Result.andThen_ok, Sem.run_pure]
theorem same_any (w : World) (v u : Value) (a b : Byt) (hv : BytR (rdW w) v a) (hu : BytR (rdW w) u b) : Calls Tryz.prog 17 #[v, u] w (Gets w (.bool (decide (a = b)))) := by
  refine Sy.enter (args := [v, u]) Tryz.func17 rfl kL ?_
  refine sC ?_
  refine sP (.bool false) ?_
  refine sA ?_
  refine sp rfl <| sS (.string ⟨a.toArray⟩) (strC _ rfl rfl (fun w' hw => hv.at hw)) <| sp rfl <| sS (.string ⟨b.toArray⟩) (strC _ rfl rfl (fun w' hw => hu.at hw)) <| sS (.bool (decide (a = b))) (Quiet.pure (fun w => eql_str w _ _ _ _ a b rfl rfl rfl)) <| sp rfl ?_
  refine sG ?_
  refine Sy.ret ?_
  exact rV (.bool (decide (a = b))) rfl
def erE (ok : Bool) : Int := if ok then 0 else 120
def byE (ok : Bool) (e : Byt) : Byt := if ok then e else []
theorem BytE.uni {ok : Bool} {e : Byt} {v : Value} {M : Blocks} (h : BytE ok e v M) : ∃ u, v = .tuple #[u, .int .i64 (erE ok)] ∧ BytR (rdB M) u (byE ok e) := by
  rcases h with ⟨rfl, u, rfl, h⟩ | ⟨rfl, rfl, rfl⟩
  · exact ⟨u, rfl, h.byt⟩
  · exact ⟨_, rfl, BytR.nil _⟩
theorem RdE.uni {α : Type} {k : Nat} {zc : List Value} {rep : Rdr → List Value → α → Prop} {o : Option α} {u : Value} {M : Blocks} (z : α) (hz : rep (rdB []) zc z) (hk : zc.length = k) (h : RdE k zc rep o u M) : ∃ cs, u = .tuple #[.agg cs.toArray, .int .i64 (erE o.isSome)] ∧ cs.length = k ∧ rep (rdB M) cs (o.getD z) := by
  rcases h with ⟨x, cs, rfl, rfl, h1, h2⟩ | ⟨rfl, rfl, rfl⟩
  · exact ⟨cs, rfl, h1, h2⟩
  · exact ⟨zc, rfl, hk, hz⟩
theorem rdB_world {w0 : Base} {w : World} {L R : Blocks} (hw : St w0 w L) (hR : ∀ b ∈ R, b ∈ L) : Le (rdB R) (rdW w) := fun g o v h => rdC_world hw hR g o v (.inr h)
end Go.Proofs.YtgemfpnlnipfnaaGreat.Wr

end
section
namespace Go.Proofs.YtgemfpnlnipfnaaGreat.Wr
open Go.RowKit Go.Proofs.YtgemfpnlnipfnaaGreat Go.Proofs.YtgemfpnlnipfnaaGreat.Sy
set_option maxRecDepth 100000
set_option maxHeartbeats 4000000

def octB (z : Int) : UInt8 := UInt8.ofNat (z % 256).toNat
def okO (z : Int) : Bool := decide (0 ≤ z) && decide (z ≤ 255)
theorem conv_i8 (w : World) (F : Slots) (o : Oper) (x : Operand) (z : Int) (ho : o.op = .convert 3 5 x) (hx : evF F x = .int .i64 z) : (execOp (evF F) o).run Tryz.prog w = .ok (.value (bv (octB z))) w := by
  have e : (octB z).toNat = (z % 256).toNat := by unfold octB; rw [UInt8.toNat_ofNat']; omega
  have h : (convert 3 5 (.int .i64 z)).run Tryz.prog w = .ok (bv (octB z)) w := by
    unfold bv
    rw [e]
    go_simp
    show z % 256 = max (z % 256) 0
    omega
  unfold execOp
  simp only [ho, hx, Sem.run_bind, h, Result.andThen_ok, Sem.run_pure]
theorem octet_w (w0 : Base) (gc gw gx f : Nat) (bad : Bool) (s : Slc) (R : Blocks) (b : Byt) (z : Int) (hc : rdC w0 R gx f (.int .i64 z)) (hb : BS s b) (hl : b.length + 1 ≤ 70368744177000) (w : World) (hw : St w0 w (CWS gc gw bad s R)) :
    Calls Tryz.prog 122 #[ptr gc, .pointer (some ⟨gx, f, none⟩)] w (Turns w0 (WrC gc gw R (okO z) [octB z] 1 bad b)) := by
  refine Sy.enterT (args := [ptr gc, .pointer (some ⟨gx, f, none⟩)]) hw Tryz.func122 rfl kL ?_
  refine sC ?_
  refine sp rfl <| sS (.bool false) (qg (fun w hw => reads_w w0.inn gc _ _ (List.mem_cons_self ..) w hw)) ?_
  refine sG ?_
  refine sU ?_
  refine sC ?_
  obtain ⟨ok, hok⟩ : ∃ ok, ok = okO z := ⟨_, rfl⟩
  obtain ⟨b1, hb1⟩ : ∃ b1 : Bool, b1 = decide (0 ≤ z) := ⟨_, rfl⟩
  obtain ⟨b2, hb2⟩ : ∃ b2 : Bool, b2 = decide (z ≤ 255) := ⟨_, rfl⟩
  have e : ok = (b1 && b2) := by rw [hok, hb1, hb2]; rfl
  rw [← hok]
  refine sp rfl <| sp rfl <| sp rfl <| sS (.int .i64 z) (cellC (R := R) hc inCW rfl Tryz.underlying3) <| sS (.bool b1) (Quiet.pure (exec_int .geq _ _ _ .i64 _ _ _ rfl rfl rfl (int_geq _ _ _ _ _ (by rw [hb1])))) <| sp rfl ?_
  cases b1
  case' false =>
    obtain rfl : ok = false := e
    refine sN <| sN <| sN <| sN <| sP (.bool false) ?_
    refine Sy.callT (fun w hw => must_w w0.inn gc gw bad false s R w hw) (fun u M hM => ?_)
  case' true =>
    obtain rfl : ok = b2 := e
    refine sp rfl <| sp rfl <| sS (.int .i64 z) (cellC (R := R) hc inCW rfl Tryz.underlying3) <| sS (.bool ok) (Quiet.pure (exec_int .leq _ _ _ .i64 _ _ _ rfl rfl rfl (int_leq _ _ _ _ _ (by rw [hb2])))) <| sP (.bool ok) ?_
    refine Sy.callT (fun w hw => must_w w0.inn gc gw bad ok s R w hw) (fun u M hM => ?_)
  all_goals
    subst hM
    refine Sy.nil ?_
    refine Sy.then_ ?_
    refine Sy.regionD (fun j => j == 8) kR ?_
    refine sa 0 rfl rfl <| sa 1 rfl rfl <| sb 2 rfl (.pointer (some ⟨gc, 0, none⟩)) <| sD 3 rfl (ptr gw) (qc 0 0 rfl rfl Tryz.underlying151) <| sa 4 rfl rfl <| sa 5 rfl rfl <| se 6 [7, 8] rfl (.int .i64 z) (cellC (R := R) hc inCW rfl Tryz.underlying3) <| sv 7 rfl (bv (octB z)) (fun w => conv_i8 w _ _ _ z rfl rfl) ?_
    refine Sy.soleD 8 rfl (fun Q2 hq2 => ?_)
  · refine Sy.callT (fun w hw => byte_any w0.inn gw s ((gc, 155, #[ptr gw, .pointer none, .bool (bad || !ok)]) :: R) b (octB z) hb (by omega) w (hw.perm permCW)) (fun u M hM => ?_)
    obtain ⟨s1, hs1, rfl⟩ := hM
    refine Sy.permS permCW.symm ?_
    refine hq2 _ _ ?_
    refine sE ?_
    exact Sy.retT0 rfl (CWS gc gw (bad || !ok) s1 R) (fun _ h => h) (fun _ => ⟨s1, bad || !ok, b ++ [octB z], ⟨rfl, fun _ => rfl, by rw [List.length_append]; exact Nat.le_refl _⟩, hs1, rfl⟩)
  · refine Sy.callT (fun w hw => byte_any w0.inn gw s ((gc, 155, #[ptr gw, .pointer none, .bool (bad || !false)]) :: R) b (octB z) hb (by omega) w (hw.perm permCW)) (fun u M hM => ?_)
    obtain ⟨s1, hs1, rfl⟩ := hM
    refine Sy.permS permCW.symm ?_
    refine hq2 _ _ ?_
    refine sE ?_
    exact Sy.retT0 rfl (CWS gc gw (bad || !false) s1 R) (fun _ h => h) (fun _ => ⟨s1, bad || !false, b ++ [octB z], ⟨rfl, fun h => (by cases bad <;> cases h), by rw [List.length_append]; exact Nat.le_refl _⟩, hs1, rfl⟩)
def zOut : List Value := (.int .i64 0 :: .bool false :: (List.replicate 32 (.int .u8 0) ++ (List.replicate 8 (.int .u64 0) ++ (.bool false :: .bool false :: (List.replicate 9 (.int .u64 0) ++ (.bool false :: List.replicate 4 (.slice none 0 0)))))))
def repOZ (_ : Rdr) (cs : List Value) (_ : Unit) : Prop := cs = zOut
theorem monoOZ : Mono repOZ := fun _ h => h
theorem outz_w : PutC 65 58 repOZ (fun _ => false) (fun _ => []) (fun _ => 1) := fun w0 gc gw gx f bad s R b cs x hx _ hc hb hl w hw => by
  obtain rfl : cs = zOut := hx
  have h0 : rdC w0 R gx f (.int .i64 0) := XAt.one hc
  refine Sy.enterT (args := [ptr gc, .pointer (some ⟨gx, f, none⟩)]) hw Tryz.func65 rfl kL ?_
  refine sC ?_
  refine sp rfl <| sp rfl <| sp rfl <| sP (.pointer (some ⟨gx, f, none⟩)) ?_
  refine Sy.callT (fun w hw => octet_w w0.inn gc gw gx f bad s R b 0 h0 hb (by omega) w hw) (fun u M hM => ?_)
  obtain ⟨s1, bad1, b1, q1, q2, rfl⟩ := hM
  refine sA ?_
  refine sp rfl <| sp rfl <| sP (.pointer (some ⟨gx, f, none⟩)) <| sS (.int .i64 0) (cellC (R := R) h0 inCW rfl Tryz.underlying3) ?_
  refine sG ?_
  refine Sy.block ?_
  refine Sy.seq ?_
  refine Sy.block ?_
  refine Sy.seq ?_
  refine Sy.block ?_
  refine Sy.block ?_
  refine Sy.block ?_
  refine Sy.block ?_
  refine Sy.seq ?_
  refine Sy.seq ?_
  refine sC ?_
  refine sP (.bool false) <| sp rfl ?_
  refine sG ?_
  refine sU ?_
  refine Sy.skip ?_
  refine Sy.then_ ?_
  refine Sy.seq ?_
  refine sC ?_
  refine sP (.bool false) <| sp rfl ?_
  refine sG ?_
  refine sU ?_
  refine Sy.skip ?_
  refine Sy.then_ ?_
  refine Sy.seq ?_
  refine sC ?_
  refine sP (.bool false) <| sp rfl ?_
  refine sG ?_
  refine sU ?_
  refine Sy.skip ?_
  refine Sy.then_ ?_
  refine sC ?_
  refine sP (.bool false) <| sp rfl ?_
  refine sG ?_
  refine sU ?_
  refine Sy.skip ?_
  refine Sy.then_ ?_
  refine Sy.exit ?_
  refine Sy.in_pass (by decide) ?_
  refine Sy.in_pass (by decide) ?_
  refine Sy.in_pass (by decide) ?_
  refine Sy.in_pass (by decide) ?_
  refine Sy.then_exit ?_
  refine Sy.in_exit ?_
  refine sB ?_
  refine sp rfl ?_
  refine Sy.callT (fun w hw => must_w w0.inn gc gw bad1 false s1 R w hw) (fun u M hM => ?_)
  subst hM
  refine sG ?_
  refine Sy.exit ?_
  refine Sy.in_exit ?_
  exact Sy.retT0 rfl (CWS gc gw (bad1 || !false) s1 R) (fun _ h => h) (fun _ => ⟨s1, bad1 || !false, b1, ⟨by cases bad1 <;> cases bad <;> rfl, fun h => (by cases bad1 <;> cases h), q1.len⟩, q2, rfl⟩)

theorem write_outz {α : Type} {rep : Rdr → List Value → α → Prop} {ok : α → Bool} {enc : α → Byt} {wt : α → Nat} (hm : Mono rep) (hp : PutC 65 58 rep ok enc wt) (w : World) (cs : List Value) (x : α) (hx : rep (rdW w) cs x) (hl : cs.length = 58) (hwt : wt x ≤ 70368744170000) :
    Calls Tryz.prog 64 #[.agg cs.toArray, .func (.func 65) #[] #[]] w (GetsN w (BytE (ok x) (enc x))) := by
  refine Sy.enter (args := [.agg cs.toArray, .func (.func 65) #[] #[]]) Tryz.func64 rfl kL ?_
  refine sC ?_
  refine sM 64 cs.toArray (fun gx => ?_) kR (fun w => run_boxR rfl rfl (by kernel_rfl) hl w)
  refine sP (.slice none 0 0) <| sP (.int .i64 0) ?_
  refine sA ?_
  refine Sy.callN kR 89 #[] kF _ (fun w _ => new_any w) (fun v M hM => ?_)
  obtain ⟨gw, rfl, rfl⟩ := hM
  refine sP (.agg #[ptr gw, .pointer none, .bool false]) <| sM 155 #[ptr gw, .pointer none, .bool false] (fun gc => ?_)
  refine sp rfl ?_
  refine sA ?_
  refine Sy.permS (M := CWS gc gw false nilS [(gx, 64, cs.toArray)]) (Sy.perm_at [2,1,0] (by kernel_rfl) (by rfl)) ?_
  refine sp rfl <| sp rfl ?_
  refine Sy.callT (fun w' hw => hp (Base.of w) gc gw gx 0 false nilS [(gx, 64, cs.toArray)] [] cs x (hm rdW_base hx) hl (memX (List.mem_singleton.2 rfl)) BS.nil (by show 0 + _ ≤ _; omega) w' hw) (fun v M hM => ?_)
  obtain ⟨s, bad, b, q1, q2, rfl⟩ := hM
  have hbl : b.length ≤ wt x := by have := q1.len; simpa using this
  refine sG ?_
  refine Sy.seq ?_
  refine sC ?_
  refine sp rfl <| sp rfl <| sP (.pointer (some ⟨gc, 2, none⟩)) <| sS (.bool bad) (qc 0 2 rfl rfl Tryz.underlying4) ?_
  refine sG ?_
  cases bad
  · have hok : ok x = true := by
      have e := q1.bad
      cases h : ok x with
      | true => rfl
      | false => rw [h] at e; cases e
    obtain rfl : b = enc x := by have := q1.bytes rfl; simpa using this
    refine sU ?_
    refine Sy.skip ?_
    refine sB ?_
    refine sp rfl <| sp rfl <| sP (.pointer (some ⟨gc, 0, none⟩)) <| sS (ptr gw) (qc 0 0 rfl rfl Tryz.underlying151) ?_
    refine Sy.callT (fun w' hw => bytes_any (Base.of w) gw s ((gc, 155, #[ptr gw, .pointer none, .bool false]) :: [(gx, 64, cs.toArray)]) (enc x) q2 (by omega) w' (hw.perm permCW)) (fun v M hM => ?_)
    obtain ⟨N, hN, rfl⟩ := hM
    refine sp rfl <| sP (.int .i64 0) ?_
    refine sG ?_
    refine Sy.ret ?_
    exact Sy.retGM2 N rfl (.inl (show _ = _ by kernel_rfl)) (.inl (show _ = _ by kernel_rfl)) (fun _ h => h.less (List.sublist_append_right _ _)) (.inl ⟨hok, v, rfl, hN⟩)
  · have hok : ok x = false := by
      have e := q1.bad
      cases h : ok x with
      | false => rfl
      | true => rw [h] at e; cases e
    refine sT ?_
    refine sC ?_
    refine sP (.slice none 0 0) <| sP (.int .i64 120) ?_
    refine sG ?_
    refine Sy.ret ?_
    refine Sy.then_ret ?_
    exact Sy.retGM2 [] rfl (.inl (show _ = _ by kernel_rfl)) (.inl (show _ = _ by kernel_rfl)) (fun _ h => h.none) (.inr ⟨hok, rfl, rfl⟩)

theorem ex_outz {α : Type} {rep : Rdr → List Value → α → Prop} {ok : α → Bool} {enc : α → Byt} {wt : α → Nat} (hm : Mono rep) (hp : PutC 65 58 rep ok enc wt) (w : World) (cs : List Value) (x : α) (hx : rep (rdW w) cs x) (hl : cs.length = 58) (hwt : wt x ≤ 70368744170000) :
    Calls Tryz.prog 26 #[.agg cs.toArray] w (GetsN w (BytE (ok x) (enc x))) := by
  refine Sy.enter (args := [.agg cs.toArray]) Tryz.func26 rfl kL ?_
  refine sC ?_
  refine sM 64 cs.toArray (fun gx => ?_) kR (fun w => run_boxR rfl rfl (by kernel_rfl) hl w)
  refine sP (.slice none 0 0) <| sP (.int .i64 0) ?_
  refine sA ?_
  refine sS (.agg cs.toArray) (rowC (R := [(gx, 64, cs.toArray)]) (memX (List.mem_singleton.2 rfl)) (fun _ h => h) hl rfl Tryz.underlying64) ?_
  refine Sy.callN kR 64 #[.agg cs.toArray, .func (.func 65) #[] #[]] kF (BytE (ok x) (enc x)) (fun w' hw => write_outz (rep := rep) hm hp w' cs x (hm (fun g o u h => rdC_world (R := []) hw (fun _ h => by cases h) g o u (.inl h)) hx) hl hwt) (fun v M hM => ?_)
  have hv : ∃ a e : Value, v = .tuple #[a, e] := by
    rcases hM with ⟨_, u, rfl, _⟩ | ⟨_, rfl, _⟩ <;> exact ⟨_, _, rfl⟩
  obtain ⟨a, e, rfl⟩ := hv
  refine sp rfl <| sp rfl <| sp rfl <| sp rfl ?_
  refine sG ?_
  refine Sy.ret ?_
  exact Sy.retGM2 M rfl (.inl (show _ = _ by kernel_rfl)) (.inl (show _ = _ by kernel_rfl)) (fun _ h => h.less (List.sublist_append_right _ _)) hM
end Go.Proofs.YtgemfpnlnipfnaaGreat.Wr

end
section
namespace Go.Proofs.YtgemfpnlnipfnaaGreat.Wr
open Go.RowKit Go.Proofs.YtgemfpnlnipfnaaGreat Go.Proofs.YtgemfpnlnipfnaaGreat.Sy
set_option maxRecDepth 100000
set_option maxHeartbeats 4000000

theorem saidR_any (w : World) (v : Value) (b : Byt) (hl : b.length ≤ 8) (hv : BytR (rdW w) v b) : Calls Tryz.prog 158 #[v] w (Gets w (.int .u64 ((said b : Nat) : Int))) := by
  obtain ⟨A, n, cp, rfl, h2, h3, h4, h5⟩ := hv
  refine Sy.enter (args := [.slice A n cp]) Tryz.func158 rfl kL ?_
  refine sC ?_
  refine sP (.int .u64 0) ?_
  refine sA ?_
  refine sP (.int .u64 0) ?_
  refine sG ?_
  refine Sy.seq ?_
  refine sC ?_
  refine sP (.int .i64 0) ?_
  refine sG ?_
  refine Sy.block ?_
  refine Sy.loopT (Y := Nat) n (fun i a => [(0, .slice A n cp), (3, .int .u64 (a : Int)), (4, .int .i64 (i : Int))]) (fun _ _ => []) (fun i a => a = said (b.take i)) 0 rfl (all_cons kR (all_cons kR (all_cons kR all_nil))) (fun _ h => h) (fun i a hi ha => ?_)
  refine Sy.seq ?_
  refine sC ?_
  obtain ⟨b2, hb2⟩ : ∃ z : Bool, z = decide (i < n) := ⟨_, rfl⟩
  refine sp rfl <| sp rfl <| sP (.int .i64 (n : Int)) <| sS (.bool b2) (Quiet.pure (exec_int .lss _ _ _ .i64 _ _ _ rfl rfl rfl (int_lss _ _ _ _ _ (by rw [hb2]; exact decide_eq_decide.2 (by omega))))) ?_
  refine sG ?_
  cases b2
  case' false =>
    have l2 : ¬ i < n := of_decide_eq_false hb2.symm
    obtain rfl : i = n := by omega
    refine sU ?_
    refine Sy.exit ?_
    refine Sy.then_exit ?_
    refine Sy.then_exit ?_
    refine Sy.in_exit ?_
    refine Sy.then_ ?_
    refine sC ?_
    refine sp rfl <| sp rfl ?_
    refine sG ?_
    refine Sy.ret ?_
    rw [show said b = a by rw [ha, List.take_of_length_le (by omega)]]
    exact rV (.int .u64 (a : Int)) rfl
  have l2 : i < n := of_decide_eq_true hb2.symm
  obtain ⟨u, hu⟩ : ∃ u, b[i]? = some u := ⟨_, List.getElem?_eq_getElem (by omega)⟩
  obtain ⟨g, o, hA, hq⟩ := h5 (by intro e; rw [e] at hu; cases hu)
  have ha2 : a < 72057594037927936 := by rw [ha]; exact said_lt8 b i (by omega)
  have hu2 := u.toNat_lt
  refine sT ?_
  refine Sy.skip ?_
  refine Sy.then_ ?_
  refine Sy.seq ?_
  refine Sy.block ?_
  refine Sy.region ?_
  refine sp rfl <| sS (.int .u64 ((256 * a : Nat) : Int)) (Quiet.pure (exec_int .mul _ _ _ .u64 _ _ _ rfl rfl rfl (int_mul _ _ _ _ _ (by rw [show (256 : Int) * (a : Int) = ((256 * a : Nat) : Int) by omega]; exact wrap_u64 (by omega) (by omega))))) <| sp rfl <| sp rfl <| sS (.pointer (some ⟨g, o + i * 1, none⟩)) (Quiet.pure (exec_atO 27 _ _ _ A g o n cp i 1 .i64 hA rfl rfl rfl Tryz.underlying27 kF l2)) <| sS (bv u) (Quiet.thereOne g (o + i * 1) 5 _ _ rfl kR (hq i u hu).1 _ (by rw [Nat.mul_one]; exact (hq i u hu).2) Tryz.underlying5 rfl) <| sS (.int .u64 ((u.toNat : Nat) : Int)) (Quiet.pure (fun w => conv_86 w _ _ _ u rfl rfl)) <| sS (.int .u64 ((256 * a + u.toNat : Nat) : Int)) (Quiet.pure (exec_int .add _ _ _ .u64 _ _ _ rfl rfl rfl (int_add _ _ _ _ _ (by rw [← Int.natCast_add]; exact wrap_u64 (by omega) (by omega))))) <| sp rfl ?_
  refine Sy.nil ?_
  refine Sy.in_ ?_
  refine Sy.then_ ?_
  refine Sy.region ?_
  refine sp rfl <| sS (.int .i64 ((i + 1 : Nat) : Int)) (Quiet.pure (exec_int .add _ _ _ .i64 _ _ _ rfl rfl rfl (int_add _ _ _ _ _ ((wrap_i64 (by omega) (by omega)).trans (by omega))))) <| sp rfl ?_
  refine Sy.nil ?_
  exact Sy.againT (256 * a + u.toNat) l2 (by show 256 * a + u.toNat = _; rw [ha, said_take b i u hu]) (all_cons kR (all_cons kR (all_cons kR all_nil))) (fun w h => h)
abbrev rrV (sl : Value) (at_ e : Nat) : Value := .agg #[sl, .int .i64 (at_ : Int), .int .i64 (e : Int)]
abbrev rrC (sl : Value) (at_ e : Nat) : Array Value := #[sl, .int .i64 (at_ : Int), .int .i64 (e : Int)]
def rawN (b : Byt) (at_ e n : Nat) : Nat × Nat × Byt := if e ≠ 0 then (at_, e, []) else if b.length - at_ < n then (at_, 110, []) else (at_ + n, 0, (b.drop at_).take n)
theorem rawR_any (w : World) (sl : Value) (b : Byt) (at_ e n : Nat) (hat : at_ ≤ b.length) (hn : n ≤ 70368744177664) (hl : b.length ≤ 70368744177664) (hv : BytR (rdW w) sl b) :
    Calls Tryz.prog 178 #[rrV sl at_ e, .int .i64 (n : Int)] w (GetsN w (fun v M => ∃ u, v = .tuple #[rrV sl (rawN b at_ e n).1 (rawN b at_ e n).2.1, u] ∧ ByN (rawN b at_ e n).2.2 u M)) := by
  have hv0 := hv
  obtain ⟨A, m, cp, rfl, h2, h3, h4, h5⟩ := hv
  refine Sy.enter (args := [rrV (.slice A m cp) at_ e, .int .i64 (n : Int)]) Tryz.func178 rfl kL ?_
  refine sC ?_
  refine sM 184 (rrC (.slice A m cp) at_ e) (fun g2 => ?_)
  refine sM 184 (rrC (.slice none 0 0) 0 0) (fun g4 => ?_)
  refine sP (.slice none 0 0) ?_
  refine sG ?_
  refine Sy.seq ?_
  refine Sy.block ?_
  refine sC ?_
  obtain ⟨b1, hb1⟩ : ∃ z : Bool, z = decide (e ≠ 0) := ⟨_, rfl⟩
  refine sP (.pointer (some ⟨g2, 2, none⟩)) <| sS (.int .i64 (e : Int)) (qc 0 2 rfl rfl Tryz.underlying28) <| sS (.bool b1) (Quiet.pure (exec_int .neq _ _ _ .i64 _ _ _ rfl rfl rfl (int_neq _ _ _ _ _ (by rw [hb1]; exact decide_eq_decide.2 (by omega))))) <| sp rfl ?_
  refine sG ?_
  cases b1
  case' true =>
    have l1 : e ≠ 0 := of_decide_eq_true hb1.symm
    have er : rawN b at_ e n = (at_, e, []) := if_pos l1
    rw [er]
    refine sT ?_
    refine sC ?_
    refine sS (rrV (.slice A m cp) at_ e) (qk 0 0 3 rfl rfl Tryz.underlying184) <| sw 1 rfl (rrC (.slice A m cp) at_ e) (wA rfl) <| sP (.slice none 0 0) ?_
    refine sG ?_
    refine Sy.ret ?_
    refine Sy.in_ret ?_
    refine Sy.then_ret ?_
    exact Sy.retGM2 [] rfl (.inl (Sy.Res.cell (ty' := 184) g4 1 (rrC (.slice A m cp) at_ e) _ (by kernel_rfl) rfl Tryz.underlying184 rfl (by kernel_rfl) rfl)) (.inl (show _ = _ by kernel_rfl)) (fun _ h => h.none) ⟨_, rfl, none, 0, 0, rfl, BS.nil⟩
  have l1 : e = 0 := Decidable.of_not_not (of_decide_eq_false hb1.symm)
  refine sU ?_
  refine sC ?_
  refine sp rfl <| sS (.bool false) (Quiet.pure (exec_int .lss _ _ _ .i64 _ _ _ rfl rfl rfl (int_lss _ _ _ _ _ (decide_eq_false (by omega))))) <| sp rfl ?_
  refine sG ?_
  refine sU ?_
  refine sC ?_
  obtain ⟨b2, hb2⟩ : ∃ z : Bool, z = decide (m - at_ < n) := ⟨_, rfl⟩
  refine sp rfl <| sP (.pointer (some ⟨g2, 0, none⟩)) <| sS (.slice A m cp) (qc 0 0 rfl rfl Tryz.underlying27) <| sP (.int .i64 (m : Int)) <| sP (.pointer (some ⟨g2, 1, none⟩)) <| sS (.int .i64 (at_ : Int)) (qc 0 1 rfl rfl Tryz.underlying3) <| sS (.int .i64 ((m - at_ : Nat) : Int)) (Quiet.pure (exec_int .sub _ _ _ .i64 _ _ _ rfl rfl rfl (int_sub _ _ _ _ _ ((wrap_i64 (by omega) (by omega)).trans (by omega))))) <| sS (.bool b2) (Quiet.pure (exec_int .gtr _ _ _ .i64 _ _ _ rfl rfl rfl (int_gtr _ _ _ _ _ (by rw [hb2]; exact decide_eq_decide.2 (by omega))))) <| sp rfl ?_
  refine sG ?_
  cases b2
  case' true =>
    have l2 : m - at_ < n := of_decide_eq_true hb2.symm
    have er : rawN b at_ e n = (at_, 110, []) := by unfold rawN; rw [if_neg (fun h => h l1), if_pos (by omega)]
    rw [er]
    refine sT ?_
    refine sC ?_
    refine sP (.pointer (some ⟨g2, 2, none⟩)) <| sw 0 rfl (rrC (.slice A m cp) at_ 110) (wO 2 28 (.int .i64 110) rfl) ?_
    refine sA ?_
    refine sS (rrV (.slice A m cp) at_ 110) (qk 0 0 3 rfl rfl Tryz.underlying184) <| sw 1 rfl (rrC (.slice A m cp) at_ 110) (wA rfl) <| sP (.slice none 0 0) ?_
    refine sG ?_
    refine Sy.ret ?_
    refine Sy.in_ret ?_
    refine Sy.then_ret ?_
    exact Sy.retGM2 [] rfl (.inl (Sy.Res.cell (ty' := 184) g4 1 (rrC (.slice A m cp) at_ 110) _ (by kernel_rfl) rfl Tryz.underlying184 rfl (by kernel_rfl) rfl)) (.inl (show _ = _ by kernel_rfl)) (fun _ h => h.none) ⟨_, rfl, none, 0, 0, rfl, BS.nil⟩
  have l2 : ¬ m - at_ < n := of_decide_eq_false hb2.symm
  obtain ⟨x, hx⟩ : ∃ x, x = (b.drop at_).take n := ⟨_, rfl⟩
  have er : rawN b at_ e n = (at_ + n, 0, x) := by unfold rawN; rw [if_neg (fun h => h l1), if_neg (by omega), hx]
  rw [er]
  have hxl : x.length = n := by rw [hx, List.length_take, List.length_drop]; omega
  obtain ⟨A2, hA2⟩ : ∃ A2, sliced A at_ (at_ + n) cp 1 = .slice A2 (at_ + n - at_) (cp - at_) := ⟨_, rfl⟩
  have hv2 : BytR (rdC (Base.of w) []) (.slice A2 (at_ + n - at_) (cp - at_)) x := by
    have q := (hv0.slice (l := at_) (m := at_ + n) (by omega) (by omega)).le (rdW_base (R := []))
    rw [hA2, Nat.add_sub_cancel_left] at q
    rw [hx, Nat.add_sub_cancel_left]; exact q
  subst l1
  refine sU ?_
  refine Sy.skip ?_
  refine Sy.in_ ?_
  refine sB ?_
  refine sP (.slice none 0 0) ?_
  refine sA ?_
  refine sp rfl <| sP (.pointer (some ⟨g2, 0, none⟩)) <| sS (.slice A m cp) (qc 0 0 rfl rfl Tryz.underlying27) <| sP (.pointer (some ⟨g2, 1, none⟩)) <| sS (.int .i64 (at_ : Int)) (qc 0 1 rfl rfl Tryz.underlying3) <| sP (.pointer (some ⟨g2, 1, none⟩)) <| sS (.int .i64 (at_ : Int)) (qc 0 1 rfl rfl Tryz.underlying3) <| sp rfl <| sS (.int .i64 ((at_ + n : Nat) : Int)) (Quiet.pure (exec_int .add _ _ _ .i64 _ _ _ rfl rfl rfl (int_add _ _ _ _ _ ((wrap_i64 (by omega) (by omega)).trans (by omega))))) <| sS (.slice A2 (at_ + n - at_) (cp - at_)) (Quiet.pure (fun w => by rw [← hA2]; exact exec_slh _ _ _ _ m cp at_ (at_ + n) rfl rfl rfl rfl (by omega) (by omega) w)) ?_
  refine Sy.appendM (pre := [(g2, 184, rrC (.slice A m cp) at_ 0), (g4, 184, rrC (.slice none 0 0) 0 0)]) (r := nilS) (T := []) kR 27 5 _ _ 1 1 Tryz.underlying27 Cu.info_u8 rfl rfl rfl rfl (by decide) _ _ rfl BS.nil kR (byL_one x) (byL_oneC x) A2 (at_ + n - at_) (cp - at_) (by rw [byL_len, hxl]; omega) (by omega) kR (fun r => BytR.from hv2 (fun y hy => by cases hy)) (by rw [byL_len]; show (0 + _) * 1 ≤ _; omega) (by rw [byL_len]; show 0 + _ ≤ _; simp only [maxLen]; omega) (fun r hr => ?_)
  have hr' : BS r x := hr
  refine sp rfl ?_
  refine sA ?_
  refine sP (.pointer (some ⟨g2, 1, none⟩)) <| sS (.int .i64 (at_ : Int)) (qc 0 1 rfl rfl Tryz.underlying3) <| sp rfl <| sS (.int .i64 ((at_ + n : Nat) : Int)) (Quiet.pure (exec_int .add _ _ _ .i64 _ _ _ rfl rfl rfl (int_add _ _ _ _ _ ((wrap_i64 (by omega) (by omega)).trans (by omega))))) <| sP (.pointer (some ⟨g2, 1, none⟩)) <| sw 0 rfl (rrC (.slice A m cp) (at_ + n) 0) (wO 1 3 (.int .i64 ((at_ + n : Nat) : Int)) rfl) ?_
  refine sA ?_
  refine sS (rrV (.slice A m cp) (at_ + n) 0) (qk 0 0 3 rfl rfl Tryz.underlying184) <| sp rfl <| sw 1 rfl (rrC (.slice A m cp) (at_ + n) 0) (wA rfl) <| sp rfl ?_
  refine sG ?_
  refine Sy.ret ?_
  exact Sy.retGM2 r.bl rfl (.inl (Sy.Res.cell (ty' := 184) g4 1 (rrC (.slice A m cp) (at_ + n) 0) _ (by kernel_rfl) rfl Tryz.underlying184 rfl (by kernel_rfl) rfl)) (.inl (show _ = _ by kernel_rfl)) (fun _ h => Sy.St.less (L := [(g2, 184, rrC (.slice A m cp) (at_ + n) 0), (g4, 184, rrC (.slice A m cp) (at_ + n) 0)] ++ (r.bl ++ [])) h (by rw [List.append_nil]; exact List.sublist_append_right _ _)) ⟨_, rfl, hr'.as⟩
theorem rawN_len (b : Byt) (at_ e n : Nat) : (rawN b at_ e n).2.2.length ≤ n := by
  unfold rawN
  split
  · exact Nat.zero_le _
  · split
    · exact Nat.zero_le _
    · show (List.take _ _).length ≤ _; rw [List.length_take]; omega
theorem getR_any (w : World) (sl : Value) (b : Byt) (at_ e n : Nat) (hat : at_ ≤ b.length) (hn : n ≤ 8) (hl : b.length ≤ 70368744177664) (hv : BytR (rdW w) sl b) :
    Calls Tryz.prog 209 #[rrV sl at_ e, .int .i64 (n : Int)] w (Gets w (.tuple #[rrV sl (rawN b at_ e n).1 (rawN b at_ e n).2.1, .int .u64 ((said (rawN b at_ e n).2.2 : Nat) : Int)])) := by
  have hv0 := hv
  have hxl := rawN_len b at_ e n
  obtain ⟨f, hf⟩ : ∃ f, f = rawN b at_ e n := ⟨_, rfl⟩
  rw [← hf] at hxl ⊢
  obtain ⟨A, m, cp, rfl, h2, h3, h4, h5⟩ := hv
  refine Sy.enter (args := [rrV (.slice A m cp) at_ e, .int .i64 (n : Int)]) Tryz.func209 rfl kL ?_
  refine sC ?_
  refine sM 184 (rrC (.slice A m cp) at_ e) (fun g2 => ?_)
  refine sM 184 (rrC (.slice none 0 0) 0 0) (fun g4 => ?_)
  refine sP (.int .u64 0) ?_
  refine sA ?_
  refine sS (rrV (.slice A m cp) at_ e) (qk 0 0 3 rfl rfl Tryz.underlying184) <| sp rfl ?_
  refine Sy.callN kR 178 #[rrV (.slice A m cp) at_ e, .int .i64 (n : Int)] kF _ (fun w' hw => rawR_any w' (.slice A m cp) b at_ e n hat (by omega) hl (hv0.at hw)) (fun u M hM => ?_)
  rw [← hf] at hM
  obtain ⟨u, rfl, hu⟩ := hM
  refine sp rfl <| sp rfl <| sp rfl <| sw 0 rfl (rrC (.slice A m cp) f.1 f.2.1) (wA rfl) <| sp rfl ?_
  refine Sy.nil ?_
  refine sR (fun j => j == 3) ?_
  refine sa 1 rfl rfl <| sD 2 rfl (.int .u64 ((said f.2.2 : Nat) : Int)) (qg (fun w' hw => saidR_any w' u f.2.2 (by omega) (hu.byt.le (fun g o v h => rdC_world (w0 := Base.of w) hw (R := M) (fun b hb => List.mem_cons_of_mem _ (List.mem_cons_of_mem _ hb)) g o v (.inr h))))) <| sD 0 rfl (rrV (.slice A m cp) f.1 f.2.1) (qk 0 0 3 rfl rfl Tryz.underlying184) <| sx 3 rfl 1 rfl (rrC (.slice A m cp) f.1 f.2.1) (wA rfl) <| sa 4 rfl rfl ?_
  refine sI ?_
  refine Sy.ret ?_
  exact Sy.ret2 rfl (.inl (Sy.Res.cell (ty' := 184) g4 1 (rrC (.slice A m cp) f.1 f.2.1) _ (by kernel_rfl) rfl Tryz.underlying184 rfl (by kernel_rfl) rfl)) (.inl (show _ = _ by kernel_rfl))
end Go.Proofs.YtgemfpnlnipfnaaGreat.Wr

end
section
namespace Go.Proofs.YtgemfpnlnipfnaaGreat.Wr
open Go.RowKit Go.Proofs.YtgemfpnlnipfnaaGreat Go.Proofs.YtgemfpnlnipfnaaGreat.Sy
set_option maxRecDepth 100000
set_option maxHeartbeats 4000000

theorem BS.one (g : Nat) (x : UInt8) : BS ⟨.slice (some ⟨g, 0, none⟩) 1 1, [(g, 5, #[bv x])]⟩ [x] := ⟨byL_one [x], byL_oneC [x], .inr ⟨g, 1, [], rfl, rfl, Nat.le_refl _, by decide⟩⟩
theorem ofNat_mod (q : Nat) : UInt8.ofNat (q % 256) = UInt8.ofNat q := by apply UInt8.toNat_inj.1; simp [UInt8.toNat_ofNat']
theorem numberR_any (w : World) (n k : Nat) (hn : n < 18446744073709551616) (hk : k ≤ 8) : Calls Tryz.prog 152 #[.int .u64 (n : Int), .int .i64 (k : Int)] w (GetsN w (ByN (nb k n))) := by
  refine Sy.enter (args := [.int .u64 (n : Int), .int .i64 (k : Int)]) Tryz.func152 rfl kL ?_
  refine sC ?_
  refine sP (.slice none 0 0) ?_
  refine sA ?_
  refine sP (.slice none 0 0) ?_
  refine sG ?_
  refine Sy.seq ?_
  refine sC ?_
  refine sp rfl <| sS (.int .i64 ((k : Int) - 1)) (Quiet.pure (exec_int .sub _ _ _ .i64 _ _ _ rfl rfl rfl (int_sub _ _ _ _ _ (wrap_i64 (by omega) (by omega))))) <| sp rfl ?_
  refine sG ?_
  refine Sy.block ?_
  refine Sy.loopT (Y := Slc × Int) k (fun i y => [(0, .int .u64 (n : Int)), (1, .int .i64 (k : Int)), (5, y.1.v), (6, .int .i64 y.2)]) (fun i y => y.1.bl ++ []) (fun i y => BS y.1 ((nb k n).take i) ∧ y.2 = (k : Int) - 1 - (i : Int)) (nilS, (k : Int) - 1) ⟨BS.nil, by show _ = (k : Int) - 1 - ((0 : Nat) : Int); omega⟩ (all_cons kR (all_cons kR (all_cons kR (all_cons kR all_nil)))) (fun _ h => h) (fun i y hi hy => ?_)
  obtain ⟨s, z⟩ := y
  obtain ⟨hs, hz⟩ := hy
  dsimp only at hs hz ⊢
  refine Sy.seq ?_
  refine sC ?_
  obtain ⟨b1, hb1⟩ : ∃ z : Bool, z = decide (i < k) := ⟨_, rfl⟩
  refine sp rfl <| sS (.bool b1) (Quiet.pure (exec_int .geq _ _ _ .i64 _ _ _ rfl rfl rfl (int_geq _ _ _ _ _ (by rw [hb1]; exact decide_eq_decide.2 (by omega))))) ?_
  refine sG ?_
  cases b1
  case' false =>
    have l1 : ¬ i < k := of_decide_eq_false hb1.symm
    obtain rfl : i = k := by omega
    refine sU ?_
    refine Sy.exit ?_
    refine Sy.then_exit ?_
    refine Sy.then_exit ?_
    refine Sy.in_exit ?_
    refine Sy.then_ ?_
    refine sC ?_
    refine sp rfl <| sp rfl ?_
    refine sG ?_
    refine Sy.ret ?_
    rw [List.take_of_length_le (by rw [nb_len]; exact Nat.le_refl _)] at hs
    exact Sy.retGM s.bl rfl (.inl (show _ = _ by kernel_rfl)) (fun _ h => by rw [List.append_nil] at h; exact h) hs.as
  have l1 : i < k := of_decide_eq_true hb1.symm
  obtain ⟨m, hm⟩ : ∃ m : Nat, m = k - 1 - i := ⟨_, rfl⟩
  obtain rfl : z = (m : Int) := by omega
  refine sT ?_
  refine Sy.skip ?_
  refine Sy.then_ ?_
  refine Sy.seq ?_
  refine Sy.block ?_
  refine sC ?_
  refine sp rfl <| sp rfl ?_
  refine sG ?_
  refine Sy.seq ?_
  refine sC ?_
  refine sP (.int .i64 0) ?_
  refine sG ?_
  refine Sy.block ?_
  refine Sy.loopT (Y := Nat) m (fun j q => [(0, .int .u64 (n : Int)), (1, .int .i64 (k : Int)), (5, s.v), (6, .int .i64 (m : Int)), (7, .int .u64 (q : Int)), (8, .int .i64 (j : Int))]) (fun _ _ => s.bl ++ []) (fun j q => q = n / 256 ^ j) n (by rw [Nat.pow_zero, Nat.div_one]) (all_cons kR (all_cons kR (all_cons kR (all_cons kR (all_cons kR (all_cons kR all_nil)))))) (fun _ h => h) (fun j q hj hq => ?_)
  dsimp only at hq ⊢
  have hq2 : q < 18446744073709551616 := by rw [hq]; exact Nat.lt_of_le_of_lt (Nat.div_le_self _ _) hn
  refine Sy.seq ?_
  refine sC ?_
  obtain ⟨b2, hb2⟩ : ∃ z : Bool, z = decide (j < m) := ⟨_, rfl⟩
  refine sp rfl <| sp rfl <| sS (.bool b2) (Quiet.pure (exec_int .lss _ _ _ .i64 _ _ _ rfl rfl rfl (int_lss _ _ _ _ _ (by rw [hb2]; exact decide_eq_decide.2 (by omega))))) ?_
  refine sG ?_
  cases b2
  case' true =>
    have l2 : j < m := of_decide_eq_true hb2.symm
    refine sT ?_
    refine Sy.skip ?_
    refine Sy.then_ ?_
    refine Sy.seq ?_
    refine Sy.block ?_
    refine Sy.region ?_
    refine sp rfl <| sS (.int .u64 ((q / 256 : Nat) : Int)) (Quiet.pure (exec_int .quo _ _ _ .u64 _ _ _ rfl rfl rfl (int_quo _ _ _ _ _ (by decide) (by rw [show (q : Int).tdiv 256 = ((q / 256 : Nat) : Int) from rfl]; exact wrap_u64 (by omega) (by omega))))) <| sp rfl ?_
    refine Sy.nil ?_
    refine Sy.in_ ?_
    refine Sy.then_ ?_
    refine Sy.region ?_
    refine sp rfl <| sS (.int .i64 ((j + 1 : Nat) : Int)) (Quiet.pure (exec_int .add _ _ _ .i64 _ _ _ rfl rfl rfl (int_add _ _ _ _ _ ((wrap_i64 (by omega) (by omega)).trans (by omega))))) <| sp rfl ?_
    refine Sy.nil ?_
    exact Sy.againT (q / 256) l2 (by show q / 256 = n / 256 ^ (j + 1); rw [hq, Nat.div_div_eq_div_mul, Nat.pow_succ]) (all_cons kR (all_cons kR (all_cons kR (all_cons kR (all_cons kR (all_cons kR all_nil)))))) (fun w h => h)
  have l2 : ¬ j < m := of_decide_eq_false hb2.symm
  obtain rfl : j = m := by omega
  obtain ⟨x, hx⟩ : ∃ x, x = UInt8.ofNat (q % 256) := ⟨_, rfl⟩
  have hln : ((nb k n).take i).length ≤ 8 := by rw [List.length_take, nb_len]; omega
  refine sU ?_
  refine Sy.exit ?_
  refine Sy.then_exit ?_
  refine Sy.then_exit ?_
  refine Sy.in_exit ?_
  refine Sy.then_ ?_
  refine Sy.region ?_
  refine sp rfl <| sp rfl <| sS (.int .u64 ((q % 256 : Nat) : Int)) (Quiet.pure (exec_int .rem _ _ _ .u64 _ _ _ rfl rfl rfl (int_rem _ _ _ _ _ (by decide) rfl))) <| sS (bv x) (Quiet.pure (fun w => by rw [hx]; exact conv_6u8 w _ _ _ _ (by omega) rfl rfl)) ?_
  refine Sy.make kR 5 #[bv x] (fun g => .slice (some ⟨g, 0, none⟩) 1 1) kF (fun g1 => ?_)
  refine Sy.movT (pre := []) (T := s.bl ++ []) ?_
  refine Sy.appendR (pre := [(g1, 5, #[bv x])]) (T := []) kR 27 5 _ _ 1 1 Tryz.underlying27 Cu.info_u8 rfl rfl rfl rfl (by decide) _ _ rfl hs kR [bv x] rfl (fun u hu => by rw [List.mem_singleton.1 hu]; rfl) 0 g1 5 kR kR (by rw [byL_len]; omega) (by rw [byL_len]; simp only [maxLen]; omega) (fun r hr => ?_)
  refine sp rfl ?_
  refine Sy.nil ?_
  refine Sy.in_ ?_
  refine Sy.then_ ?_
  refine Sy.region ?_
  refine sp rfl <| sS (.int .i64 ((j : Int) - 1)) (Quiet.pure (exec_int .sub _ _ _ .i64 _ _ _ rfl rfl rfl (int_sub _ _ _ _ _ (wrap_i64 (by omega) (by omega))))) <| sp rfl ?_
  refine Sy.nil ?_
  have hr' : BS r ((nb k n).take (i + 1)) := by
    have e : byL ((nb k n).take (i + 1)) = byL ((nb k n).take i) ++ [[bv x]] := by
      rw [nb_take k n i l1, byL_app, hx, hq, ofNat_mod, hm]
      rfl
    show r.Is 5 1 _
    rw [e]
    exact hr
  exact Sy.againT (r, (j : Int) - 1) l1 ⟨hr', by show (j : Int) - 1 = _; omega⟩ (all_cons kR (all_cons kR (all_cons kR (all_cons kR all_nil)))) (fun w h => h.less (List.sublist_cons_self _ _))
theorem varR_any (w : World) (n : Nat) (hn : n < 18446744073709551616) : Calls Tryz.prog 153 #[.int .u64 (n : Int)] w (GetsN w (ByN (varB n))) := by
  refine Sy.enter (args := [.int .u64 (n : Int)]) Tryz.func153 rfl kL ?_
  refine sC ?_
  refine sP (.slice none 0 0) ?_
  refine sG ?_
  refine Sy.seq ?_
  refine sC ?_
  obtain ⟨b1, hb1⟩ : ∃ z : Bool, z = decide (n < 253) := ⟨_, rfl⟩
  refine sp rfl <| sS (.bool b1) (Quiet.pure (exec_int .lss _ _ _ .u64 _ _ _ rfl rfl rfl (int_lss _ _ _ _ _ (by rw [hb1]; exact decide_eq_decide.2 (by omega))))) ?_
  refine sG ?_
  cases b1
  case' true =>
    have l1 : n < 253 := of_decide_eq_true hb1.symm
    obtain ⟨x, hx⟩ : ∃ x, x = UInt8.ofNat n := ⟨_, rfl⟩
    refine sT ?_
    refine sC ?_
    refine sp rfl <| sS (bv x) (Quiet.pure (fun w => by rw [hx]; exact conv_6u8 w _ _ _ _ hn rfl rfl)) ?_
    refine Sy.make kR 5 #[bv x] (fun g => .slice (some ⟨g, 0, none⟩) 1 1) kF (fun g1 => ?_)
    refine sp rfl ?_
    refine sG ?_
    refine Sy.ret ?_
    refine Sy.then_ret ?_
    rw [show varB n = [x] by unfold varB; rw [if_pos l1, hx]]
    exact Sy.retGM [(g1, 5, #[bv x])] rfl (.inl (show _ = _ by kernel_rfl)) (fun _ h => h) (BS.one g1 x).as
  have l1 : ¬ n < 253 := of_decide_eq_false hb1.symm
  refine sU ?_
  refine Sy.skip ?_
  refine sB ?_
  refine sP (bv 253) ?_
  refine sA ?_
  refine sP (.int .i64 2) ?_
  refine sG ?_
  obtain ⟨c1, hc1⟩ : ∃ c : UInt8 × Nat, c = if 65536 ≤ n then (254, 4) else (253, 2) := ⟨_, rfl⟩
  obtain ⟨c2, hc2⟩ : ∃ c : UInt8 × Nat, c = if 4294967296 ≤ n then (255, 8) else c1 := ⟨_, rfl⟩
  have hv : varB n = c2.1 :: nb c2.2 n := by
    unfold varB
    rw [if_neg l1, hc2, hc1]
    by_cases h1 : n < 65536
    · rw [if_pos h1, if_neg (show ¬ 4294967296 ≤ n by omega), if_neg (show ¬ 65536 ≤ n by omega)]
    · rw [if_neg h1]
      by_cases h2 : n < 4294967296
      · rw [if_pos h2, if_neg (show ¬ 4294967296 ≤ n by omega), if_pos (show 65536 ≤ n by omega)]
      · rw [if_neg h2, if_pos (show 4294967296 ≤ n by omega)]
  have hc8 : c2.2 ≤ 8 := by
    rw [hc2, hc1]
    split
    · exact Nat.le_refl _
    · split
      · show 4 ≤ 8; omega
      · show 2 ≤ 8; omega
  refine Sy.seq ?_
  refine cutC [(0, .int .u64 (n : Int)), (3, bv c1.1), (4, .int .i64 ((c1.2 : Nat) : Int))] [] ?_ ?_
  · refine sC ?_
    obtain ⟨b2, hb2⟩ : ∃ z : Bool, z = decide (65536 ≤ n) := ⟨_, rfl⟩
    refine sp rfl <| sS (.bool b2) (Quiet.pure (exec_int .geq _ _ _ .u64 _ _ _ rfl rfl rfl (int_geq _ _ _ _ _ (by rw [hb2]; exact decide_eq_decide.2 (by omega))))) ?_
    refine sG ?_
    cases b2
    · rw [if_neg (of_decide_eq_false hb2.symm)] at hc1
      rw [hc1]
      refine sU ?_
      refine Sy.skip ?_
      exact meet (all_cons kR (all_cons kR (all_cons kR all_nil))) (fun _ h => h)
    · rw [if_pos (of_decide_eq_true hb2.symm)] at hc1
      rw [hc1]
      refine sT ?_
      refine Sy.region ?_
      refine sP (bv 254) <| sP (.int .i64 4) ?_
      refine Sy.nil ?_
      exact meet (all_cons kR (all_cons kR (all_cons kR all_nil))) (fun _ h => h)
  clear hc1
  refine Sy.then_ ?_
  refine Sy.seq ?_
  refine cutC [(0, .int .u64 (n : Int)), (3, bv c2.1), (4, .int .i64 ((c2.2 : Nat) : Int))] [] ?_ ?_
  · refine sC ?_
    obtain ⟨b2, hb2⟩ : ∃ z : Bool, z = decide (4294967296 ≤ n) := ⟨_, rfl⟩
    refine sp rfl <| sS (.bool b2) (Quiet.pure (exec_int .geq _ _ _ .u64 _ _ _ rfl rfl rfl (int_geq _ _ _ _ _ (by rw [hb2]; exact decide_eq_decide.2 (by omega))))) ?_
    refine sG ?_
    cases b2
    · rw [if_neg (of_decide_eq_false hb2.symm)] at hc2
      rw [hc2]
      refine sU ?_
      refine Sy.skip ?_
      exact meet (all_cons kR (all_cons kR (all_cons kR all_nil))) (fun _ h => h)
    · rw [if_pos (of_decide_eq_true hb2.symm)] at hc2
      rw [hc2]
      refine sT ?_
      refine Sy.region ?_
      refine sP (bv 255) <| sP (.int .i64 8) ?_
      refine Sy.nil ?_
      exact meet (all_cons kR (all_cons kR (all_cons kR all_nil))) (fun _ h => h)
  clear hc2
  obtain ⟨x, k⟩ := c2
  dsimp only at hv hc8 ⊢
  rw [hv]
  refine Sy.then_ ?_
  refine sC ?_
  refine sp rfl ?_
  refine Sy.make kR 5 #[bv x] (fun g => .slice (some ⟨g, 0, none⟩) 1 1) kF (fun g1 => ?_)
  refine sp rfl ?_
  refine sA ?_
  refine sp rfl <| sp rfl <| sp rfl ?_
  refine Sy.callN kR 152 #[.int .u64 (n : Int), .int .i64 (k : Int)] kF _ (fun w' _ => numberR_any w' n k hn hc8) (fun u M hM => ?_)
  obtain ⟨A, m, cp, rfl, h2, h3, h4, h5⟩ := hM.byt
  rw [nb_len] at h2
  have hf : BytR (rdC (Base.of w) M) (.slice A m cp) (nb k n) := (hM.byt).le rdB_base
  refine Sy.appendM (pre := []) (r := ⟨.slice (some ⟨g1, 0, none⟩) 1 1, [(g1, 5, #[bv x])]⟩) (T := M) kR 27 5 _ _ 1 1 Tryz.underlying27 Cu.info_u8 rfl rfl rfl rfl (by decide) _ _ rfl (BS.one g1 x) kR (byL_one (nb k n)) (byL_oneC (nb k n)) A m cp (by rw [byL_len, nb_len, h2]) h3 kR (fun r => BytR.from hf (fun y hy => List.mem_append_right [] (List.mem_append_right _ hy))) (by rw [byL_len]; show (1 + m) * 1 ≤ _; omega) (by rw [byL_len]; show 1 + m ≤ _; simp only [maxLen]; omega) (fun r hr => ?_)
  have hr' : BS r (x :: nb k n) := hr
  refine sp rfl ?_
  refine sA ?_
  refine sp rfl <| sp rfl ?_
  refine sG ?_
  refine Sy.ret ?_
  exact Sy.retGM r.bl rfl (.inl (show _ = _ by kernel_rfl)) (fun _ h => h.less (List.sublist_append_left _ _)) hr'.as
end Go.Proofs.YtgemfpnlnipfnaaGreat.Wr

end
section
namespace Go.Proofs.YtgemfpnlnipfnaaGreat.Wr
open Go.RowKit Go.Proofs.YtgemfpnlnipfnaaGreat Go.Proofs.YtgemfpnlnipfnaaGreat.Sy
set_option maxRecDepth 100000
set_option maxHeartbeats 4000000

def gv1 (b : Byt) (at_ e : Nat) : Nat × Nat × Nat := ((rawN b at_ e 1).1, (rawN b at_ e 1).2.1, said (rawN b at_ e 1).2.2)
def gv2 (b : Byt) (at_ e : Nat) : Nat × Nat × Nat := if (gv1 b at_ e).2.1 = 0 ∧ 253 ≤ (gv1 b at_ e).2.2 then ((rawN b (gv1 b at_ e).1 (gv1 b at_ e).2.1 (wide (gv1 b at_ e).2.2)).1, (rawN b (gv1 b at_ e).1 (gv1 b at_ e).2.1 (wide (gv1 b at_ e).2.2)).2.1, said (rawN b (gv1 b at_ e).1 (gv1 b at_ e).2.1 (wide (gv1 b at_ e).2.2)).2.2) else gv1 b at_ e
def gvN (b : Byt) (at_ e most : Nat) : Nat × Nat × Nat := if (gv2 b at_ e).2.1 ≠ 0 then (at_, (gv2 b at_ e).2.1, 0) else if (varB (gv2 b at_ e).2.2).length ≠ (gv2 b at_ e).1 - at_ then (at_, 111, 0) else if most < (gv2 b at_ e).2.2 then (at_, 112, 0) else gv2 b at_ e
theorem rawN_at (b : Byt) (at_ e n : Nat) (h : at_ ≤ b.length) : at_ ≤ (rawN b at_ e n).1 ∧ (rawN b at_ e n).1 ≤ b.length := by
  unfold rawN
  split
  · exact ⟨Nat.le_refl _, h⟩
  · split
    · exact ⟨Nat.le_refl _, h⟩
    · exact ⟨Nat.le_add_right _ _, by show at_ + n ≤ _; omega⟩
theorem rawN_said (b : Byt) (at_ e n : Nat) (h : n ≤ 8) : said (rawN b at_ e n).2.2 < 18446744073709551616 := by
  have h1 := said_lt (rawN b at_ e n).2.2
  have h2 := rawN_len b at_ e n
  have h3 : 256 ^ (rawN b at_ e n).2.2.length ≤ 256 ^ 8 := Nat.pow_le_pow_right (by decide) (by omega)
  exact Nat.lt_of_lt_of_le h1 h3
theorem gv1_lt (b : Byt) (at_ e : Nat) : (gv1 b at_ e).2.2 < 256 := by
  have h1 := said_lt (rawN b at_ e 1).2.2
  have h2 := rawN_len b at_ e 1
  have h3 : 256 ^ (rawN b at_ e 1).2.2.length ≤ 256 ^ 1 := Nat.pow_le_pow_right (by decide) (by omega)
  exact Nat.lt_of_lt_of_le h1 h3
theorem gv2_at (b : Byt) (at_ e : Nat) (h : at_ ≤ b.length) : at_ ≤ (gv2 b at_ e).1 ∧ (gv2 b at_ e).1 ≤ b.length ∧ (gv2 b at_ e).2.2 < 18446744073709551616 := by
  have h1 := rawN_at b at_ e 1 h
  unfold gv2
  split
  · have h2 := rawN_at b (gv1 b at_ e).1 (gv1 b at_ e).2.1 (wide (gv1 b at_ e).2.2) h1.2
    exact ⟨Nat.le_trans h1.1 h2.1, h2.2, rawN_said _ _ _ _ (wide_le _).1⟩
  · exact ⟨h1.1, h1.2, Nat.lt_trans (gv1_lt b at_ e) (by decide)⟩
theorem getVarR_any (w : World) (sl : Value) (b : Byt) (at_ e most : Nat) (hat : at_ ≤ b.length) (hm : most < 18446744073709551616) (hl : b.length ≤ 70368744177664) (hv : BytR (rdW w) sl b) :
    Calls Tryz.prog 159 #[rrV sl at_ e, .int .u64 (most : Int), .bool false] w (Gets w (.tuple #[rrV sl (gvN b at_ e most).1 (gvN b at_ e most).2.1, .int .u64 (((gvN b at_ e most).2.2 : Nat) : Int)])) := by
  have hv0 := hv
  obtain ⟨A, m, cp, rfl, h2, h3, h4, h5⟩ := hv
  have hlt := gv1_lt b at_ e
  obtain ⟨f, hf⟩ : ∃ f, f = gv1 b at_ e := ⟨_, rfl⟩
  have hf1 : f.1 = (rawN b at_ e 1).1 := by rw [hf]; rfl
  have hf2 : f.2.1 = (rawN b at_ e 1).2.1 := by rw [hf]; rfl
  have hf3 : f.2.2 = said (rawN b at_ e 1).2.2 := by rw [hf]; rfl
  have hfa := rawN_at b at_ e 1 hat
  obtain ⟨q1, q2, hq3⟩ := gv2_at b at_ e hat
  obtain ⟨q, hq⟩ : ∃ q, q = gv2 b at_ e := ⟨_, rfl⟩
  have hqf : q = if f.2.1 = 0 ∧ 253 ≤ f.2.2 then ((rawN b f.1 f.2.1 (wide f.2.2)).1, (rawN b f.1 f.2.1 (wide f.2.2)).2.1, said (rawN b f.1 f.2.1 (wide f.2.2)).2.2) else f := by rw [hq, hf]; rfl
  have hg : gvN b at_ e most = if q.2.1 ≠ 0 then (at_, q.2.1, 0) else if (varB q.2.2).length ≠ q.1 - at_ then (at_, 111, 0) else if most < q.2.2 then (at_, 112, 0) else q := by rw [hq]; rfl
  rw [← hq] at q1 q2 hq3
  rw [← hf] at hlt
  rw [← hf1] at hfa
  rw [hg]
  clear hq hf hg
  refine Sy.enter (args := [rrV (.slice A m cp) at_ e, .int .u64 (most : Int), .bool false]) Tryz.func159 rfl kL ?_
  refine sC ?_
  refine sM 184 (rrC (.slice A m cp) at_ e) (fun g3 => ?_)
  refine sM 184 (rrC (.slice none 0 0) 0 0) (fun g6 => ?_)
  refine sP (.int .u64 0) ?_
  refine sA ?_
  refine sS (rrV (.slice A m cp) at_ e) (qk 0 0 3 rfl rfl Tryz.underlying184) <| sS (.tuple #[rrV (.slice A m cp) f.1 f.2.1, .int .u64 ((f.2.2 : Nat) : Int)]) (qg (fun w' hw => by rw [hf1, hf2, hf3]; exact getR_any w' (.slice A m cp) b at_ e 1 hat (by decide) hl (hv0.at hw))) <| sp rfl <| sp rfl <| sp rfl ?_
  refine sM 184 (rrC (.slice none 0 0) 0 0) (fun g8 => ?_)
  refine sw 2 rfl (rrC (.slice A m cp) f.1 f.2.1) (wA rfl) <| sp rfl ?_
  refine sA ?_
  refine sp rfl <| sp rfl ?_
  refine sG ?_
  refine Sy.seq ?_
  refine cutC [(1, .int .u64 (most : Int)), (2, .bool false), (3, ptr g3), (6, ptr g6), (8, ptr g8), (10, .int .u64 ((q.2.2 : Nat) : Int))] [(g3, 184, rrC (.slice A m cp) at_ e), (g6, 184, rrC (.slice none 0 0) 0 0), (g8, 184, rrC (.slice A m cp) q.1 q.2.1)] ?_ ?_
  · refine sC ?_
    obtain ⟨b1, hb1⟩ : ∃ z : Bool, z = decide (f.2.1 = 0) := ⟨_, rfl⟩
    refine sP (.pointer (some ⟨g8, 2, none⟩)) <| sS (.int .i64 ((f.2.1 : Nat) : Int)) (qc 2 2 rfl rfl Tryz.underlying28) <| sS (.bool b1) (Quiet.pure (exec_int .eql _ _ _ .i64 _ _ _ rfl rfl rfl (int_eql _ _ _ _ _ (by rw [hb1]; exact decide_eq_decide.2 (by omega))))) <| sp rfl ?_
    cases b1
    case' false =>
      have l1 : ¬ f.2.1 = 0 := of_decide_eq_false hb1.symm
      rw [if_neg (fun h => l1 h.1)] at hqf
      refine sN <| sN <| sP (.bool false) ?_
      refine sG ?_
      refine sU ?_
      refine Sy.skip ?_
      rw [hqf]
      exact meet (all_cons kR (all_cons kR (all_cons kR (all_cons kR (all_cons kR (all_cons kR all_nil)))))) (fun _ h => h)
    have l1 : f.2.1 = 0 := of_decide_eq_true hb1.symm
    obtain ⟨b2, hb2⟩ : ∃ z : Bool, z = decide (253 ≤ f.2.2) := ⟨_, rfl⟩
    refine sp rfl <| sS (.bool b2) (Quiet.pure (exec_int .geq _ _ _ .u64 _ _ _ rfl rfl rfl (int_geq _ _ _ _ _ (by rw [hb2]; exact decide_eq_decide.2 (by omega))))) <| sP (.bool b2) ?_
    refine sG ?_
    cases b2
    case' false =>
      have l2 : ¬ 253 ≤ f.2.2 := of_decide_eq_false hb2.symm
      rw [if_neg (fun h => l2 h.2)] at hqf
      refine sU ?_
      refine Sy.skip ?_
      rw [hqf]
      exact meet (all_cons kR (all_cons kR (all_cons kR (all_cons kR (all_cons kR (all_cons kR all_nil)))))) (fun _ h => h)
    have l2 : 253 ≤ f.2.2 := of_decide_eq_true hb2.symm
    rw [if_pos ⟨l1, l2⟩] at hqf
    have hqa : q.1 = (rawN b f.1 f.2.1 (wide f.2.2)).1 := by rw [hqf]
    have hqb : q.2.1 = (rawN b f.1 f.2.1 (wide f.2.2)).2.1 := by rw [hqf]
    have hqc : q.2.2 = said (rawN b f.1 f.2.1 (wide f.2.2)).2.2 := by rw [hqf]
    clear hqf
    obtain ⟨k1, hk1⟩ : ∃ k, k = if f.2.2 = 254 then 4 else 2 := ⟨_, rfl⟩
    obtain ⟨k2, hk2⟩ : ∃ k, k = if f.2.2 = 255 then 8 else k1 := ⟨_, rfl⟩
    have hk : wide f.2.2 = k2 := by
      rw [hk2, hk1]
      unfold wide
      repeat' split
      all_goals omega
    have hk8 := (wide_le f.2.2).1
    rw [hk] at hqa hqb hqc hk8
    clear hk
    refine sT ?_
    refine sC ?_
    refine sP (.int .i64 2) ?_
    refine sG ?_
    refine Sy.seq ?_
    refine cutC [(1, .int .u64 (most : Int)), (2, .bool false), (3, ptr g3), (6, ptr g6), (8, ptr g8), (9, .int .u64 ((f.2.2 : Nat) : Int)), (11, .int .i64 (k1 : Int))] [(g3, 184, rrC (.slice A m cp) at_ e), (g6, 184, rrC (.slice none 0 0) 0 0), (g8, 184, rrC (.slice A m cp) f.1 f.2.1)] ?_ ?_
    · refine sC ?_
      obtain ⟨b3, hb3⟩ : ∃ z : Bool, z = decide (f.2.2 = 254) := ⟨_, rfl⟩
      refine sp rfl <| sS (.bool b3) (Quiet.pure (exec_int .eql _ _ _ .u64 _ _ _ rfl rfl rfl (int_eql _ _ _ _ _ (by rw [hb3]; exact decide_eq_decide.2 (by omega))))) ?_
      refine sG ?_
      cases b3
      · rw [if_neg (of_decide_eq_false hb3.symm)] at hk1
        subst hk1
        refine sU ?_
        refine Sy.skip ?_
        exact meet (all_cons kR (all_cons kR (all_cons kR (all_cons kR (all_cons kR (all_cons kR (all_cons kR all_nil))))))) (fun _ h => h)
      · rw [if_pos (of_decide_eq_true hb3.symm)] at hk1
        subst hk1
        refine sT ?_
        refine Sy.region ?_
        refine sP (.int .i64 4) ?_
        refine Sy.nil ?_
        exact meet (all_cons kR (all_cons kR (all_cons kR (all_cons kR (all_cons kR (all_cons kR (all_cons kR all_nil))))))) (fun _ h => h)
    clear hk1
    refine Sy.then_ ?_
    refine Sy.seq ?_
    refine cutC [(1, .int .u64 (most : Int)), (2, .bool false), (3, ptr g3), (6, ptr g6), (8, ptr g8), (9, .int .u64 ((f.2.2 : Nat) : Int)), (11, .int .i64 (k2 : Int))] [(g3, 184, rrC (.slice A m cp) at_ e), (g6, 184, rrC (.slice none 0 0) 0 0), (g8, 184, rrC (.slice A m cp) f.1 f.2.1)] ?_ ?_
    · refine sC ?_
      obtain ⟨b3, hb3⟩ : ∃ z : Bool, z = decide (f.2.2 = 255) := ⟨_, rfl⟩
      refine sp rfl <| sS (.bool b3) (Quiet.pure (exec_int .eql _ _ _ .u64 _ _ _ rfl rfl rfl (int_eql _ _ _ _ _ (by rw [hb3]; exact decide_eq_decide.2 (by omega))))) ?_
      refine sG ?_
      cases b3
      · rw [if_neg (of_decide_eq_false hb3.symm)] at hk2
        subst hk2
        refine sU ?_
        refine Sy.skip ?_
        exact meet (all_cons kR (all_cons kR (all_cons kR (all_cons kR (all_cons kR (all_cons kR (all_cons kR all_nil))))))) (fun _ h => h)
      · rw [if_pos (of_decide_eq_true hb3.symm)] at hk2
        subst hk2
        refine sT ?_
        refine Sy.region ?_
        refine sP (.int .i64 8) ?_
        refine Sy.nil ?_
        exact meet (all_cons kR (all_cons kR (all_cons kR (all_cons kR (all_cons kR (all_cons kR (all_cons kR all_nil))))))) (fun _ h => h)
    clear hk2
    refine Sy.then_ ?_
    refine Sy.region ?_
    refine sS (rrV (.slice A m cp) f.1 f.2.1) (qk 2 0 3 rfl rfl Tryz.underlying184) <| sp rfl <| sS (.tuple #[rrV (.slice A m cp) q.1 q.2.1, .int .u64 ((q.2.2 : Nat) : Int)]) (qg (fun w' hw => by rw [hqa, hqb, hqc]; exact getR_any w' (.slice A m cp) b f.1 f.2.1 k2 hfa.2 hk8 hl (hv0.at hw))) <| sp rfl <| sp rfl <| sp rfl <| sw 2 rfl (rrC (.slice A m cp) q.1 q.2.1) (wA rfl) <| sp rfl ?_
    refine Sy.nil ?_
    exact meet (all_cons kR (all_cons kR (all_cons kR (all_cons kR (all_cons kR (all_cons kR all_nil)))))) (fun _ h => h)
  clear hqf hf1 hf2 hf3 hfa hlt
  refine Sy.then_ ?_
  refine Sy.seq ?_
  refine sC ?_
  obtain ⟨b1, hb1⟩ : ∃ z : Bool, z = decide (q.2.1 ≠ 0) := ⟨_, rfl⟩
  refine sP (.pointer (some ⟨g8, 2, none⟩)) <| sS (.int .i64 ((q.2.1 : Nat) : Int)) (qc 2 2 rfl rfl Tryz.underlying28) <| sS (.bool b1) (Quiet.pure (exec_int .neq _ _ _ .i64 _ _ _ rfl rfl rfl (int_neq _ _ _ _ _ (by rw [hb1]; exact decide_eq_decide.2 (by omega))))) ?_
  refine sG ?_
  cases b1
  case' true =>
    rw [if_pos (of_decide_eq_true hb1.symm)]
    refine sT ?_
    refine sC ?_
    refine sP (.pointer (some ⟨g8, 2, none⟩)) <| sS (.int .i64 ((q.2.1 : Nat) : Int)) (qc 2 2 rfl rfl Tryz.underlying28) <| sP (.pointer (some ⟨g3, 2, none⟩)) <| sw 0 rfl (rrC (.slice A m cp) at_ q.2.1) (wO 2 28 (.int .i64 ((q.2.1 : Nat) : Int)) rfl) ?_
    refine sA ?_
    refine sS (rrV (.slice A m cp) at_ q.2.1) (qk 0 0 3 rfl rfl Tryz.underlying184) <| sw 1 rfl (rrC (.slice A m cp) at_ q.2.1) (wA rfl) <| sP (.int .u64 0) ?_
    refine sG ?_
    refine Sy.ret ?_
    refine Sy.then_ret ?_
    exact Sy.ret2 rfl (.inl (Sy.Res.cell (ty' := 184) g6 1 (rrC (.slice A m cp) at_ q.2.1) _ (by kernel_rfl) rfl Tryz.underlying184 rfl (by kernel_rfl) rfl)) (.inl (show _ = _ by kernel_rfl))
  have l1 := of_decide_eq_false hb1.symm
  rw [if_neg l1]
  refine sU ?_
  refine Sy.skip ?_
  refine Sy.then_ ?_
  refine Sy.seq ?_
  refine Sy.seq ?_
  obtain ⟨b3, hb3⟩ : ∃ z : Bool, z = decide ((varB q.2.2).length ≠ q.1 - at_) := ⟨_, rfl⟩
  refine cutC [(1, .int .u64 (most : Int)), (2, .bool false), (3, ptr g3), (6, ptr g6), (8, ptr g8), (10, .int .u64 ((q.2.2 : Nat) : Int)), (50, .bool b3)] [(g3, 184, rrC (.slice A m cp) at_ e), (g6, 184, rrC (.slice none 0 0) 0 0), (g8, 184, rrC (.slice A m cp) q.1 q.2.1)] ?_ ?_
  · refine Sy.regionD (fun j => j == 1 || j == 4 || j == 6) kR ?_
    refine sa 0 rfl rfl <| sb 3 rfl (.pointer (some ⟨g8, 1, none⟩)) <| sb 5 rfl (.pointer (some ⟨g3, 1, none⟩)) ?_
    refine Sy.anyOf [1, 4, 6] (by kernel_rfl) (by decide) (Sy.each3 ?_ ?_ ?_)
    · refine Sy.oneCallN rfl (by kernel_rfl) 153 #[.int .u64 ((q.2.2 : Nat) : Int)] kF _ (fun w' _ => varR_any w' q.2.2 hq3) (fun u M hM => ?_)
      obtain ⟨A1, m1, c1, rfl, k2, _⟩ := hM.byt
      refine sb 2 rfl (.int .i64 (m1 : Int)) ?_
      refine Sy.anyOf [4, 6] (by kernel_rfl) (by decide) (Sy.each2 ?_ ?_)
      · refine Sy.oneQuiet rfl (by kernel_rfl) (.int .i64 ((q.1 : Nat) : Int)) (qc 2 1 rfl rfl Tryz.underlying3) ?_
        refine Sy.anyOf [6] (by kernel_rfl) (by decide) (Sy.each1 ?_)
        · refine Sy.oneQuiet rfl (by kernel_rfl) (.int .i64 (at_ : Int)) (qc 0 1 rfl rfl Tryz.underlying3) ?_
          refine sv 7 rfl (.int .i64 ((q.1 - at_ : Nat) : Int)) (exec_int .sub _ _ _ .i64 _ _ _ rfl rfl rfl (int_sub _ _ _ _ _ ((wrap_i64 (by omega) (by omega)).trans (by omega)))) ?_
          refine sv 8 rfl (.bool b3) (exec_int .neq _ _ _ .i64 _ _ _ rfl rfl rfl (int_neq _ _ _ _ _ (by rw [hb3]; exact decide_eq_decide.2 (by omega)))) ?_
          refine sE ?_
          exact meet (all_cons kR (all_cons kR (all_cons kR (all_cons kR (all_cons kR (all_cons kR (all_cons kR all_nil))))))) (fun _ h => h.less (List.sublist_append_left _ _))
      · refine Sy.oneQuiet rfl (by kernel_rfl) (.int .i64 (at_ : Int)) (qc 0 1 rfl rfl Tryz.underlying3) ?_
        refine Sy.anyOf [4] (by kernel_rfl) (by decide) (Sy.each1 ?_)
        · refine Sy.oneQuiet rfl (by kernel_rfl) (.int .i64 ((q.1 : Nat) : Int)) (qc 2 1 rfl rfl Tryz.underlying3) ?_
          refine sv 7 rfl (.int .i64 ((q.1 - at_ : Nat) : Int)) (exec_int .sub _ _ _ .i64 _ _ _ rfl rfl rfl (int_sub _ _ _ _ _ ((wrap_i64 (by omega) (by omega)).trans (by omega)))) ?_
          refine sv 8 rfl (.bool b3) (exec_int .neq _ _ _ .i64 _ _ _ rfl rfl rfl (int_neq _ _ _ _ _ (by rw [hb3]; exact decide_eq_decide.2 (by omega)))) ?_
          refine sE ?_
          exact meet (all_cons kR (all_cons kR (all_cons kR (all_cons kR (all_cons kR (all_cons kR (all_cons kR all_nil))))))) (fun _ h => h.less (List.sublist_append_left _ _))
    · refine Sy.oneQuiet rfl (by kernel_rfl) (.int .i64 ((q.1 : Nat) : Int)) (qc 2 1 rfl rfl Tryz.underlying3) ?_
      refine Sy.anyOf [1, 6] (by kernel_rfl) (by decide) (Sy.each2 ?_ ?_)
      · refine Sy.oneCallN rfl (by kernel_rfl) 153 #[.int .u64 ((q.2.2 : Nat) : Int)] kF _ (fun w' _ => varR_any w' q.2.2 hq3) (fun u M hM => ?_)
        obtain ⟨A1, m1, c1, rfl, k2, _⟩ := hM.byt
        refine sb 2 rfl (.int .i64 (m1 : Int)) ?_
        refine Sy.anyOf [6] (by kernel_rfl) (by decide) (Sy.each1 ?_)
        · refine Sy.oneQuiet rfl (by kernel_rfl) (.int .i64 (at_ : Int)) (qc 0 1 rfl rfl Tryz.underlying3) ?_
          refine sv 7 rfl (.int .i64 ((q.1 - at_ : Nat) : Int)) (exec_int .sub _ _ _ .i64 _ _ _ rfl rfl rfl (int_sub _ _ _ _ _ ((wrap_i64 (by omega) (by omega)).trans (by omega)))) ?_
          refine sv 8 rfl (.bool b3) (exec_int .neq _ _ _ .i64 _ _ _ rfl rfl rfl (int_neq _ _ _ _ _ (by rw [hb3]; exact decide_eq_decide.2 (by omega)))) ?_
          refine sE ?_
          exact meet (all_cons kR (all_cons kR (all_cons kR (all_cons kR (all_cons kR (all_cons kR (all_cons kR all_nil))))))) (fun _ h => h.less (List.sublist_append_left _ _))
      · refine Sy.oneQuiet rfl (by kernel_rfl) (.int .i64 (at_ : Int)) (qc 0 1 rfl rfl Tryz.underlying3) ?_
        refine sv 7 rfl (.int .i64 ((q.1 - at_ : Nat) : Int)) (exec_int .sub _ _ _ .i64 _ _ _ rfl rfl rfl (int_sub _ _ _ _ _ ((wrap_i64 (by omega) (by omega)).trans (by omega)))) ?_
        refine Sy.anyOf [1] (by kernel_rfl) (by decide) (Sy.each1 ?_)
        · refine Sy.oneCallN rfl (by kernel_rfl) 153 #[.int .u64 ((q.2.2 : Nat) : Int)] kF _ (fun w' _ => varR_any w' q.2.2 hq3) (fun u M hM => ?_)
          obtain ⟨A1, m1, c1, rfl, k2, _⟩ := hM.byt
          refine sb 2 rfl (.int .i64 (m1 : Int)) ?_
          refine sv 8 rfl (.bool b3) (exec_int .neq _ _ _ .i64 _ _ _ rfl rfl rfl (int_neq _ _ _ _ _ (by rw [hb3]; exact decide_eq_decide.2 (by omega)))) ?_
          refine sE ?_
          exact meet (all_cons kR (all_cons kR (all_cons kR (all_cons kR (all_cons kR (all_cons kR (all_cons kR all_nil))))))) (fun _ h => h.less (List.sublist_append_left _ _))
    · refine Sy.oneQuiet rfl (by kernel_rfl) (.int .i64 (at_ : Int)) (qc 0 1 rfl rfl Tryz.underlying3) ?_
      refine Sy.anyOf [1, 4] (by kernel_rfl) (by decide) (Sy.each2 ?_ ?_)
      · refine Sy.oneCallN rfl (by kernel_rfl) 153 #[.int .u64 ((q.2.2 : Nat) : Int)] kF _ (fun w' _ => varR_any w' q.2.2 hq3) (fun u M hM => ?_)
        obtain ⟨A1, m1, c1, rfl, k2, _⟩ := hM.byt
        refine sb 2 rfl (.int .i64 (m1 : Int)) ?_
        refine Sy.anyOf [4] (by kernel_rfl) (by decide) (Sy.each1 ?_)
        · refine Sy.oneQuiet rfl (by kernel_rfl) (.int .i64 ((q.1 : Nat) : Int)) (qc 2 1 rfl rfl Tryz.underlying3) ?_
          refine sv 7 rfl (.int .i64 ((q.1 - at_ : Nat) : Int)) (exec_int .sub _ _ _ .i64 _ _ _ rfl rfl rfl (int_sub _ _ _ _ _ ((wrap_i64 (by omega) (by omega)).trans (by omega)))) ?_
          refine sv 8 rfl (.bool b3) (exec_int .neq _ _ _ .i64 _ _ _ rfl rfl rfl (int_neq _ _ _ _ _ (by rw [hb3]; exact decide_eq_decide.2 (by omega)))) ?_
          refine sE ?_
          exact meet (all_cons kR (all_cons kR (all_cons kR (all_cons kR (all_cons kR (all_cons kR (all_cons kR all_nil))))))) (fun _ h => h.less (List.sublist_append_left _ _))
      · refine Sy.oneQuiet rfl (by kernel_rfl) (.int .i64 ((q.1 : Nat) : Int)) (qc 2 1 rfl rfl Tryz.underlying3) ?_
        refine sv 7 rfl (.int .i64 ((q.1 - at_ : Nat) : Int)) (exec_int .sub _ _ _ .i64 _ _ _ rfl rfl rfl (int_sub _ _ _ _ _ ((wrap_i64 (by omega) (by omega)).trans (by omega)))) ?_
        refine Sy.anyOf [1] (by kernel_rfl) (by decide) (Sy.each1 ?_)
        · refine Sy.oneCallN rfl (by kernel_rfl) 153 #[.int .u64 ((q.2.2 : Nat) : Int)] kF _ (fun w' _ => varR_any w' q.2.2 hq3) (fun u M hM => ?_)
          obtain ⟨A1, m1, c1, rfl, k2, _⟩ := hM.byt
          refine sb 2 rfl (.int .i64 (m1 : Int)) ?_
          refine sv 8 rfl (.bool b3) (exec_int .neq _ _ _ .i64 _ _ _ rfl rfl rfl (int_neq _ _ _ _ _ (by rw [hb3]; exact decide_eq_decide.2 (by omega)))) ?_
          refine sE ?_
          exact meet (all_cons kR (all_cons kR (all_cons kR (all_cons kR (all_cons kR (all_cons kR (all_cons kR all_nil))))))) (fun _ h => h.less (List.sublist_append_left _ _))
  refine Sy.then_ ?_
  cases b3
  case' true =>
    rw [if_pos (of_decide_eq_true hb3.symm)]
    refine sT ?_
    refine sC ?_
    refine sP (.pointer (some ⟨g3, 2, none⟩)) <| sw 0 rfl (rrC (.slice A m cp) at_ 111) (wO 2 28 (.int .i64 111) rfl) ?_
    refine sA ?_
    refine sS (rrV (.slice A m cp) at_ 111) (qk 0 0 3 rfl rfl Tryz.underlying184) <| sw 1 rfl (rrC (.slice A m cp) at_ 111) (wA rfl) <| sP (.int .u64 0) ?_
    refine sG ?_
    refine Sy.ret ?_
    refine Sy.then_ret ?_
    exact Sy.ret2 rfl (.inl (Sy.Res.cell (ty' := 184) g6 1 (rrC (.slice A m cp) at_ 111) _ (by kernel_rfl) rfl Tryz.underlying184 rfl (by kernel_rfl) rfl)) (.inl (show _ = _ by kernel_rfl))
  rw [if_neg (of_decide_eq_false hb3.symm)]
  refine sU ?_
  refine Sy.skip ?_
  refine Sy.then_ ?_
  refine Sy.seq ?_
  refine sC ?_
  obtain ⟨b4, hb4⟩ : ∃ z : Bool, z = decide (most < q.2.2) := ⟨_, rfl⟩
  refine sp rfl <| sp rfl <| sp rfl <| sp rfl <| sS (.bool b4) (Quiet.pure (exec_int .gtr _ _ _ .u64 _ _ _ rfl rfl rfl (int_gtr _ _ _ _ _ (by rw [hb4]; exact decide_eq_decide.2 (by omega))))) <| sP (.bool b4) ?_
  refine sG ?_
  cases b4
  case' true =>
    rw [if_pos (of_decide_eq_true hb4.symm)]
    refine sT ?_
    refine sC ?_
    refine sP (.pointer (some ⟨g3, 2, none⟩)) <| sw 0 rfl (rrC (.slice A m cp) at_ 112) (wO 2 28 (.int .i64 112) rfl) ?_
    refine sA ?_
    refine sS (rrV (.slice A m cp) at_ 112) (qk 0 0 3 rfl rfl Tryz.underlying184) <| sw 1 rfl (rrC (.slice A m cp) at_ 112) (wA rfl) <| sP (.int .u64 0) ?_
    refine sG ?_
    refine Sy.ret ?_
    refine Sy.then_ret ?_
    exact Sy.ret2 rfl (.inl (Sy.Res.cell (ty' := 184) g6 1 (rrC (.slice A m cp) at_ 112) _ (by kernel_rfl) rfl Tryz.underlying184 rfl (by kernel_rfl) rfl)) (.inl (show _ = _ by kernel_rfl))
  rw [if_neg (of_decide_eq_false hb4.symm)]
  refine sU ?_
  refine Sy.skip ?_
  refine sB ?_
  refine sS (rrV (.slice A m cp) q.1 q.2.1) (qk 2 0 3 rfl rfl Tryz.underlying184) <| sp rfl <| sw 1 rfl (rrC (.slice A m cp) q.1 q.2.1) (wA rfl) <| sp rfl ?_
  refine sG ?_
  refine Sy.ret ?_
  exact Sy.ret2 rfl (.inl (Sy.Res.cell (ty' := 184) g6 1 (rrC (.slice A m cp) q.1 q.2.1) _ (by kernel_rfl) rfl Tryz.underlying184 rfl (by kernel_rfl) rfl)) (.inl (show _ = _ by kernel_rfl))
end Go.Proofs.YtgemfpnlnipfnaaGreat.Wr

end
section
namespace Go.Proofs.YtgemfpnlnipfnaaGreat.Wr
open Go.RowKit Go.Proofs.YtgemfpnlnipfnaaGreat Go.Proofs.YtgemfpnlnipfnaaGreat.Sy
set_option maxRecDepth 100000
set_option maxHeartbeats 4000000

theorem raw_fx (b : Byt) (at_ k : Nat) (h : at_ ≤ b.length) : (rawN b at_ 0 k).1 = at_ + (fxN (b.drop at_) k).2.1 ∧ (rawN b at_ 0 k).2.1 = (fxN (b.drop at_) k).2.2 ∧ said (rawN b at_ 0 k).2.2 = (fxN (b.drop at_) k).1 := by
  unfold rawN fxN
  rw [if_neg (fun h => h rfl), List.length_drop]
  by_cases h : b.length - at_ < k
  · rw [if_pos h, if_pos h]; exact ⟨rfl, rfl, rfl⟩
  · rw [if_neg h, if_neg h]; exact ⟨rfl, rfl, rfl⟩
theorem fx_len {b : Byt} {k : Nat} (h : (fxN b k).2.2 = 0) : (fxN b k).2.1 = k := by
  unfold fxN at h ⊢
  split at h
  · cases h
  · rename_i hl; rw [if_neg hl]
theorem fx_zero {b : Byt} {k : Nat} (h : (fxN b k).2.2 ≠ 0) : (fxN b k).1 = 0 ∧ (fxN b k).2.1 = 0 := by
  unfold fxN at h ⊢
  split at h
  · rename_i hl; rw [if_pos hl]; exact ⟨rfl, rfl⟩
  · exact (h rfl).elim
theorem gvN_is (b : Byt) (at_ most : Nat) (h : at_ ≤ b.length) : gvN b at_ 0 most = (at_ + (vrN (b.drop at_) most).2.1, (vrN (b.drop at_) most).2.2, (vrN (b.drop at_) most).1) := by
  have r1 := raw_fx b at_ 1 h
  cases hl : b.drop at_ with
  | nil =>
    rw [hl] at r1
    have e1 : gv1 b at_ 0 = (at_, 110, 0) := by
      unfold gv1
      rw [r1.1, r1.2.1, r1.2.2]; rfl
    have e2 : gv2 b at_ 0 = (at_, 110, 0) := by unfold gv2; rw [e1]; exact if_neg (fun h => by cases h.1)
    unfold gvN
    rw [e2, if_pos (show (110 : Nat) ≠ 0 by decide)]
    rfl
  | cons u l =>
    have hu := u.toNat_lt
    rw [hl, fx_one (rfl : u :: l = u :: l)] at r1
    have e1 : gv1 b at_ 0 = (at_ + 1, 0, u.toNat) := by
      unfold gv1
      rw [r1.1, r1.2.1, r1.2.2]
    by_cases hc : 253 ≤ u.toNat
    · have hat1 : at_ + 1 ≤ b.length := by
        have := congrArg List.length hl
        rw [List.length_drop, List.length_cons] at this; omega
      have hd : b.drop (at_ + 1) = l := by rw [← List.drop_drop, hl]; rfl
      have r2 := raw_fx b (at_ + 1) (wide u.toNat) hat1
      rw [hd] at r2
      have hg : vrG (u :: l) = if (fxN l (wide u.toNat)).2.2 = 0 then (if (fxN l (wide u.toNat)).1 < least u.toNat then (0, 0, 111) else ((fxN l (wide u.toNat)).1, 1 + wide u.toNat, 0)) else (0, 0, (fxN l (wide u.toNat)).2.2) := by
        unfold vrG
        rw [fx_one (rfl : u :: l = u :: l), if_pos (show 253 ≤ (u.toNat, 1, 0).1 from hc)]
        rfl
      have hfl := fxN_fit l (wide u.toNat) (wide_le _).1
      have hfn : (fxN l (wide u.toNat)).1 < 256 ^ wide u.toNat := by
        unfold fxN
        split
        · exact Nat.pow_pos (by decide)
        · have h1 := said_lt (l.take (wide u.toNat))
          have h2 : 256 ^ (l.take (wide u.toNat)).length ≤ 256 ^ wide u.toNat := Nat.pow_le_pow_right (by decide) (by rw [List.length_take]; omega)
          exact Nat.lt_of_lt_of_le h1 h2
      have hz := @fx_zero l (wide u.toNat)
      have hln := @fx_len l (wide u.toNat)
      have hw := varB_wide hu hc hfn
      have e2 : gv2 b at_ 0 = (at_ + 1 + (fxN l (wide u.toNat)).2.1, (fxN l (wide u.toNat)).2.2, (fxN l (wide u.toNat)).1) := by
        unfold gv2
        rw [e1, if_pos ⟨rfl, hc⟩, r2.1, r2.2.1, r2.2.2]
      obtain ⟨f, hf⟩ : ∃ f, f = fxN l (wide u.toNat) := ⟨_, rfl⟩
      obtain ⟨wd, hwd⟩ : ∃ x, x = wide u.toNat := ⟨_, rfl⟩
      rw [← hwd] at hf
      rw [← hwd, ← hf] at e2 hg hz hln hw
      unfold gvN vrN
      rw [e2, hg]
      clear hg e2 r2 e1 r1
      by_cases h1 : f.2.2 = 0
      · rw [if_pos h1, if_neg (fun h => h h1)]
        have hk := hln h1
        by_cases h2 : f.1 < least u.toNat
        · rw [if_pos h2]
          dsimp only
          rw [if_pos (show (varB f.1).length ≠ at_ + 1 + f.2.1 - at_ by intro e; exact absurd (hw.1 (by omega)) (by omega)), if_neg (show ¬ ((111 : Nat) = 0 ∧ most < 0) from fun h => by cases h.1)]
          rfl
        · rw [if_neg h2]
          dsimp only
          rw [if_neg (show ¬ (varB f.1).length ≠ at_ + 1 + f.2.1 - at_ by intro e; exact e (by have := hw.2 (by omega); omega))]
          by_cases h3 : most < f.1
          · rw [if_pos h3, if_pos (show (0 : Nat) = 0 ∧ most < f.1 from ⟨rfl, h3⟩)]; rfl
          · rw [if_neg h3, if_neg (show ¬ ((0 : Nat) = 0 ∧ most < f.1) from fun h => h3 h.2)]
            refine Prod.ext ?_ (Prod.ext h1 rfl)
            show at_ + 1 + f.2.1 = at_ + (1 + wd); omega
      · rw [if_neg h1, if_pos h1, if_neg (fun h => h1 h.1)]
        rfl
    · have e2 : gv2 b at_ 0 = (at_ + 1, 0, u.toNat) := by unfold gv2; rw [e1]; exact if_neg (fun h => hc h.2)
      have hg : vrG (u :: l) = (u.toNat, 1, 0) := by
        unfold vrG
        rw [fx_one (rfl : u :: l = u :: l), if_neg (show ¬ 253 ≤ (u.toNat, 1, 0).1 from hc)]
      have hv : (varB u.toNat).length = 1 := by unfold varB; rw [if_pos (by omega)]; rfl
      unfold gvN vrN
      rw [e2, hg, if_neg (fun h => h rfl), if_neg (show ¬ (varB u.toNat).length ≠ at_ + 1 - at_ by intro e; exact e (by omega))]
      by_cases h3 : most < u.toNat
      · rw [if_pos h3, if_pos ⟨rfl, h3⟩]; rfl
      · rw [if_neg h3, if_neg (fun h => h3 h.2)]
theorem gvN_bad (b : Byt) (at_ e most : Nat) (he : e ≠ 0) : gvN b at_ e most = (at_, e, 0) := by
  have e0 : rawN b at_ e 1 = (at_, e, []) := if_pos he
  have e1 : gv1 b at_ e = (at_, e, 0) := by unfold gv1; rw [e0]; rfl
  have e2 : gv2 b at_ e = (at_, e, 0) := by unfold gv2; rw [e1]; exact if_neg (fun h => he h.1)
  unfold gvN
  rw [e2, if_pos he]
theorem gvN_after (b : Byt) (at_ e most : Nat) (h : at_ ≤ b.length) (he : e ≤ 200) : After (varP most) ⟨b.drop at_, e⟩ (gvN b at_ e most).2.2 ⟨b.drop (gvN b at_ e most).1, (gvN b at_ e most).2.1⟩ ∧ (gvN b at_ e most).1 ≤ b.length ∧ (gvN b at_ e most).2.1 ≤ 200 ∧ (gvN b at_ e most).2.2 ≤ most := by
  by_cases h0 : e = 0
  · subst h0
    rw [gvN_is b at_ most h]
    have hy := @vr_yes (b.drop at_) most
    have hn := @vr_no (b.drop at_) most
    have hf := vrN_fit (b.drop at_) most
    obtain ⟨f, hff⟩ : ∃ f, f = vrN (b.drop at_) most := ⟨_, rfl⟩
    have hz : f.2.2 ≠ 0 → f.1 = 0 ∧ f.2.1 = 0 := by
      rw [hff]
      have q := vrG_fit (b.drop at_)
      unfold vrN
      intro h1
      split at h1
      · rename_i hc; rw [if_pos hc]; exact ⟨rfl, rfl⟩
      · rename_i hc
        rw [if_neg hc]
        refine ⟨vrG_zero h1, ?_⟩
        have e3 := gvN_is b at_ most h
        unfold vrG at h1 ⊢
        split at h1
        · rename_i h2
          rw [if_pos h2]
          unfold lgN at h1 ⊢
          split at h1
          · rename_i h3
            split at h1
            · rename_i h4; rw [if_pos h3, if_pos h4]
            · exact (h1 rfl).elim
          · rename_i h3; rw [if_neg h3]
        · rename_i h2; rw [if_neg h2]; exact (fx_zero h1).2
    rw [← hff] at hy hn hf ⊢
    dsimp only
    by_cases h1 : f.2.2 = 0
    · obtain ⟨q1, q2, q3⟩ := hy h1
      rw [List.length_drop] at q2
      refine ⟨⟨fun h => (h rfl).elim, fun y r _ hp => ?_, fun _ hp => ?_⟩, by omega, by omega, q3⟩
      · rw [q1] at hp
        cases hp
        refine ⟨rfl, ?_⟩
        rw [List.drop_drop, h1]
      · rw [q1] at hp; cases hp
    · have q1 := hn h1
      obtain ⟨z1, z2⟩ := hz h1
      refine ⟨⟨fun h => (h rfl).elim, fun y r _ hp => ?_, fun _ _ => h1⟩, by omega, hf.2.2, by omega⟩
      rw [q1] at hp; cases hp
  · rw [gvN_bad b at_ e most h0]
    exact ⟨⟨fun _ => h0, fun _ _ h1 _ => (h0 h1).elim, fun h1 _ => (h0 h1).elim⟩, h, he, Nat.zero_le _⟩
def padN (x : Byt) (n : Nat) : Byt := if x.length < n then List.replicate n 0 else x
theorem padN_len (b : Byt) (at_ e n : Nat) : (padN (rawN b at_ e n).2.2 n).length = n := by
  have := rawN_len b at_ e n
  unfold padN
  split
  · exact List.length_replicate
  · omega
theorem rawN_after (b : Byt) (at_ e n : Nat) (h : at_ ≤ b.length) (he : e ≤ 200) : After (takeP n) ⟨b.drop at_, e⟩ (padN (rawN b at_ e n).2.2 n) ⟨b.drop (rawN b at_ e n).1, (rawN b at_ e n).2.1⟩ ∧ (rawN b at_ e n).1 ≤ b.length ∧ (rawN b at_ e n).2.1 ≤ 200 := by
  unfold rawN takeP
  by_cases h0 : e ≠ 0
  · rw [if_pos h0]
    exact ⟨⟨fun _ => h0, fun _ _ h1 _ => (h0 h1).elim, fun h1 _ => (h0 h1).elim⟩, h, he⟩
  · rw [if_neg h0]
    obtain rfl : e = 0 := Decidable.of_not_not h0
    by_cases h1 : b.length - at_ < n
    · rw [if_pos h1]
      refine ⟨⟨fun _ => (show (110 : Nat) ≠ 0 by decide), fun y r _ hp => ?_, fun _ _ => (show (110 : Nat) ≠ 0 by decide)⟩, h, by show (110 : Nat) ≤ 200; omega⟩
      rw [if_neg (by show ¬ n ≤ (b.drop at_).length; rw [List.length_drop]; omega)] at hp
      cases hp
    · rw [if_neg h1]
      refine ⟨⟨fun h => (h rfl).elim, fun y r _ hp => ?_, fun _ hp => ?_⟩, by show at_ + n ≤ _; omega, Nat.zero_le _⟩
      · rw [if_pos (by show n ≤ (b.drop at_).length; rw [List.length_drop]; omega)] at hp
        cases hp
        refine ⟨?_, by rw [List.drop_drop]⟩
        unfold padN
        rw [if_neg (by rw [List.length_take, List.length_drop]; omega)]
      · rw [if_pos (by show n ≤ (b.drop at_).length; rw [List.length_drop]; omega)] at hp
        cases hp
abbrev RB (gr : Nat) (sl : Value) (at_ e : Nat) (R : Blocks) : Blocks := (gr, 186, rrC sl at_ e) :: R
def Rfd {α : Type} (p : Ps α) (val : α → Value → Blocks → Prop) (gr : Nat) (sl : Value) (b : Byt) (R : Blocks) (at_ e : Nat) (v : Value) (M : Blocks) : Prop :=
  ∃ x a2 e2 N, After p ⟨b.drop at_, e⟩ x ⟨b.drop a2, e2⟩ ∧ val x v N ∧ a2 ≤ b.length ∧ e2 ≤ 200 ∧ M = RB gr sl a2 e2 (R ++ N)
theorem zeros_bs (g n : Nat) (hn : n ≤ 70368744177664) : BS ⟨.slice (some ⟨g, 0, none⟩) n n, [(g, 5, (flat (fun _ => [Value.int .u8 0]) n).toArray)]⟩ (List.replicate n 0) := by
  have e : (byL (List.replicate n (0 : UInt8))).flatten = flat (fun _ => [Value.int .u8 0]) n := by
    rw [byL_flat, List.map_replicate]
    induction n with
    | zero => rfl
    | succ n ih => rw [List.replicate_succ', flat_succ, ih (by omega)]; rfl
  refine ⟨byL_one _, byL_oneC _, .inr ⟨g, n, [], ?_, ?_, ?_, ?_⟩⟩
  · rw [byL_len, List.length_replicate, e, List.append_nil]
  · rw [byL_len, List.length_replicate]; exact Nat.zero_add _
  · rw [byL_len, List.length_replicate]; exact Nat.le_refl _
  · simp only [maxLen]; omega
theorem rawM_any (w0 : Base) (gr : Nat) (sl : Value) (b : Byt) (at_ e n : Nat) (R : Blocks) (hat : at_ ≤ b.length) (he : e ≤ 200) (hn : n ≤ 1000000) (hl : b.length ≤ 70368744177664) (hv : BytR (rdW w0.world) sl b) (w : World) (hw : St w0 w (RB gr sl at_ e R)) :
    Calls Tryz.prog 121 #[ptr gr, .int .i64 (n : Int)] w (Turns w0 (Rfd (takeP n) (fun x v N => ByN x v N ∧ x.length = n) gr sl b R at_ e)) := by
  obtain ⟨q1, q2, q3⟩ := rawN_after b at_ e n hat he
  have q4 := padN_len b at_ e n
  have hv0 := hv
  obtain ⟨A, m, cp, rfl, h2, h3, h4, h5⟩ := hv
  obtain ⟨f, hf⟩ : ∃ f, f = rawN b at_ e n := ⟨_, rfl⟩
  rw [← hf] at q1 q2 q3 q4
  refine Sy.enterT (args := [ptr gr, .int .i64 (n : Int)]) hw Tryz.func121 rfl kL ?_
  refine sC ?_
  refine sP (.slice none 0 0) ?_
  refine sA ?_
  refine sp rfl <| sp rfl <| sP (.pointer (some ⟨gr, 0, none⟩)) <| sS (rrV (.slice A m cp) at_ e) (qk 0 0 3 rfl rfl Tryz.underlying184) <| sp rfl ?_
  refine Sy.callN kR 178 #[rrV (.slice A m cp) at_ e, .int .i64 (n : Int)] kF _ (fun w' hw => rawR_any w' (.slice A m cp) b at_ e n hat (by omega) hl (hv0.le (fun g o u hu => rdC_world (w0 := w0.inn) (R := []) hw (fun _ h => by cases h) g o u (.inl hu)))) (fun u M hM => ?_)
  rw [← hf] at hM
  obtain ⟨u, rfl, hu⟩ := hM
  have hub := hu.byt
  obtain ⟨A2, n2, c2, rfl, k2, k3, k4, k5⟩ := hub
  refine sp rfl <| sp rfl <| sp rfl ?_
  refine sM 184 (rrC (.slice none 0 0) 0 0) (fun g5 => ?_)
  refine Sy.movT (pre := [(gr, 186, rrC (.slice A m cp) at_ e)]) (T := R ++ M) ?_
  refine sw 1 rfl (rrC (.slice A m cp) f.1 f.2.1) (wA rfl) <| sp rfl ?_
  refine sA ?_
  refine sp rfl <| sS (rrV (.slice A m cp) f.1 f.2.1) (qk 1 0 3 rfl rfl Tryz.underlying184) <| sp rfl <| sP (.pointer (some ⟨gr, 0, none⟩)) <| sw 0 rfl (rrC (.slice A m cp) f.1 f.2.1) (wA rfl) ?_
  refine sG ?_
  refine Sy.seq ?_
  refine sC ?_
  obtain ⟨b1, hb1⟩ : ∃ z : Bool, z = decide (n2 < n) := ⟨_, rfl⟩
  refine sp rfl <| sP (.int .i64 (n2 : Int)) <| sp rfl <| sS (.bool b1) (Quiet.pure (exec_int .lss _ _ _ .i64 _ _ _ rfl rfl rfl (int_lss _ _ _ _ _ (by rw [hb1]; exact decide_eq_decide.2 (by omega))))) ?_
  refine sG ?_
  cases b1
  case' false =>
    have l1 : ¬ n2 < n := of_decide_eq_false hb1.symm
    have ep : padN f.2.2 n = f.2.2 := if_neg (by omega)
    rw [ep] at q1 q4
    refine sU ?_
    refine Sy.skip ?_
    refine sB ?_
    refine sp rfl <| sp rfl ?_
    refine sG ?_
    refine Sy.ret ?_
    exact Sy.retT1 (RB gr (.slice A m cp) f.1 f.2.1 (R ++ M)) rfl (.inl (show _ = _ by kernel_rfl)) (fun _ h => keep1 h) ⟨_, _, _, M, q1, ⟨hu, q4⟩, q2, q3, rfl⟩
  have l1 : n2 < n := of_decide_eq_true hb1.symm
  have ep : padN f.2.2 n = List.replicate n 0 := if_pos (by omega)
  rw [ep] at q1 q4
  refine sT ?_
  refine Sy.region ?_
  refine sp rfl ?_
  refine Sy.make kR 5 (flat (fun _ => [Value.int .u8 0]) n).toArray (fun g => .slice (some ⟨g, 0, none⟩) n n) (Sy.Makes.slice 27 5 _ _ 1 1 _ _ .i64 .i64 n _ rfl rfl rfl Tryz.underlying27 Cu.info_u8 rfl rfl (by decide) rfl rfl rfl (by omega) (by omega)) (fun gz => ?_)
  refine sp rfl ?_
  refine Sy.nil ?_
  refine sB ?_
  refine sp rfl <| sp rfl ?_
  refine sG ?_
  refine Sy.ret ?_
  exact Sy.retT1 (RB gr (.slice A m cp) f.1 f.2.1 (R ++ [(gz, 5, (flat (fun _ => [Value.int .u8 0]) n).toArray)])) rfl (.inl (show _ = _ by kernel_rfl)) (fun _ h => h.less ((((List.sublist_append_left R M).append (List.Sublist.refl [(gz, 5, (flat (fun _ => [Value.int .u8 0]) n).toArray)])).cons (g5, 184, rrC (.slice A m cp) f.1 f.2.1)).cons_cons (gr, 186, rrC (.slice A m cp) f.1 f.2.1))) ⟨_, _, _, _, q1, ⟨(zeros_bs gz n (by omega)).as, q4⟩, q2, q3, rfl⟩
theorem numM_any (w0 : Base) (gr : Nat) (sl : Value) (b : Byt) (at_ e k : Nat) (R : Blocks) (hat : at_ ≤ b.length) (he : e ≤ 200) (hk : k ≤ 8) (hl : b.length ≤ 70368744177664) (hv : BytR (rdW w0.world) sl b) (w : World) (hw : St w0 w (RB gr sl at_ e R)) :
    Calls Tryz.prog 100 #[ptr gr, .int .i64 (k : Int)] w (Turns w0 (Rfd (numP k) (fun x v N => v = .int .u64 (x : Int) ∧ x < 18446744073709551616 ∧ N = []) gr sl b R at_ e)) := by
  refine Sy.enterT (args := [ptr gr, .int .i64 (k : Int)]) hw Tryz.func100 rfl kL ?_
  refine sC ?_
  refine sP (.int .u64 0) ?_
  refine sA ?_
  refine sp rfl <| sp rfl ?_
  refine Sy.callT (fun w hw => rawM_any w0.inn gr sl b at_ e k R hat he (by omega) hl hv w hw) (fun u M hM => ?_)
  obtain ⟨x, a2, e2, N, q1, ⟨q2, q3⟩, q4, q5, rfl⟩ := hM
  have hs : said x < 18446744073709551616 := by
    have h1 := said_lt x
    have h3 : 256 ^ x.length ≤ 256 ^ 8 := Nat.pow_le_pow_right (by decide) (by omega)
    exact Nat.lt_of_lt_of_le h1 h3
  refine sS (.int .u64 ((said x : Nat) : Int)) (qg (fun w' hw => saidR_any w' u x (by omega) (q2.byt.le (fun g o v h => rdC_world (w0 := w0.inn) hw (R := N) (fun b hb => List.mem_cons_of_mem _ (List.mem_append_right _ hb)) g o v (.inr h))))) <| sp rfl ?_
  refine sG ?_
  refine Sy.ret ?_
  exact Sy.retT1 (RB gr sl a2 e2 (R ++ [])) rfl (.inl (show _ = _ by kernel_rfl)) (fun _ h => h.less (((List.Sublist.refl R).append (List.nil_sublist N)).cons_cons _)) ⟨_, _, _, [], q1.bind (After.ret (said x) _), ⟨rfl, hs, rfl⟩, q4, q5, rfl⟩
theorem manyM_any (w0 : Base) (gr : Nat) (sl : Value) (b : Byt) (at_ e most : Nat) (R : Blocks) (hat : at_ ≤ b.length) (he : e ≤ 200) (hm : most ≤ 1000000) (hl : b.length ≤ 70368744177664) (hv : BytR (rdW w0.world) sl b) (w : World) (hw : St w0 w (RB gr sl at_ e R)) :
    Calls Tryz.prog 101 #[ptr gr, .int .i64 (most : Int)] w (Turns w0 (Rfd (varP most) (fun x v N => v = .int .i64 (x : Int) ∧ x ≤ most ∧ N = []) gr sl b R at_ e)) := by
  obtain ⟨q1, q2, q3, q4⟩ := gvN_after b at_ e most hat he
  have hv0 := hv
  obtain ⟨A, m, cp, rfl, h2, h3, h4, h5⟩ := hv
  obtain ⟨f, hf⟩ : ∃ f, f = gvN b at_ e most := ⟨_, rfl⟩
  rw [← hf] at q1 q2 q3 q4
  refine Sy.enterT (args := [ptr gr, .int .i64 (most : Int)]) hw Tryz.func101 rfl kL ?_
  refine sC ?_
  refine sP (.int .i64 0) ?_
  refine sA ?_
  refine sp rfl <| sp rfl <| sP (.pointer (some ⟨gr, 0, none⟩)) <| sS (rrV (.slice A m cp) at_ e) (qk 0 0 3 rfl rfl Tryz.underlying184) <| sp rfl <| sS (.int .u64 (most : Int)) (Quiet.pure (fun w => conv_i6 w _ _ _ most (by omega) rfl rfl)) <| sS (.tuple #[rrV (.slice A m cp) f.1 f.2.1, .int .u64 ((f.2.2 : Nat) : Int)]) (qg (fun w' hw => by rw [hf]; exact getVarR_any w' (.slice A m cp) b at_ e most hat (by omega) hl (hv0.le (fun g o u hu => rdC_world (w0 := w0.inn) (R := []) hw (fun _ h => by cases h) g o u (.inl hu))))) <| sp rfl <| sp rfl <| sp rfl ?_
  refine sM 184 (rrC (.slice none 0 0) 0 0) (fun g5 => ?_)
  refine Sy.movT (pre := [(gr, 186, rrC (.slice A m cp) at_ e)]) (T := R) ?_
  refine sw 1 rfl (rrC (.slice A m cp) f.1 f.2.1) (wA rfl) <| sp rfl ?_
  refine sA ?_
  refine sp rfl <| sS (rrV (.slice A m cp) f.1 f.2.1) (qk 1 0 3 rfl rfl Tryz.underlying184) <| sp rfl <| sP (.pointer (some ⟨gr, 0, none⟩)) <| sw 0 rfl (rrC (.slice A m cp) f.1 f.2.1) (wA rfl) ?_
  refine sA ?_
  refine sp rfl <| sS (.int .i64 ((f.2.2 : Nat) : Int)) (Quiet.pure (fun w => conv_6i w _ _ _ f.2.2 (by omega) rfl rfl)) <| sp rfl ?_
  refine sG ?_
  refine Sy.ret ?_
  exact Sy.retT1 (RB gr (.slice A m cp) f.1 f.2.1 (R ++ [])) rfl (.inl (show _ = _ by kernel_rfl)) (fun _ h => by rw [List.append_nil]; exact keep1 h) ⟨_, _, _, [], q1, ⟨rfl, q4, rfl⟩, q2, q3, rfl⟩
theorem okM_any (w0 : Base) (gr : Nat) (sl : Value) (at_ e : Nat) {L : Blocks} (hL : (gr, 186, rrC sl at_ e) ∈ L) (w : World) (hw : St w0 w L) :
    Calls Tryz.prog 102 #[ptr gr] w (Gets w (.bool (decide (e = 0)))) := by
  have hb := (hw.blk _ _ _ hL).2
  have hlt := hb.lt
  obtain ⟨b1, hb1⟩ : ∃ z : Bool, z = decide (e = 0) := ⟨_, rfl⟩
  rw [← hb1]
  refine Sy.enter (args := [ptr gr]) Tryz.func102 rfl kL ?_
  refine sC ?_
  refine sP (.bool false) ?_
  refine sA ?_
  refine sp rfl <| sp rfl <| sP (.pointer (some ⟨gr, 0, none⟩)) <| sP (.pointer (some ⟨gr, 2, none⟩)) <| sS (.int .i64 (e : Int)) (Quiet.thereOne gr 2 28 _ _ rfl kR hlt _ (hb.cell 2) Tryz.underlying28 rfl) <| sS (.bool b1) (Quiet.pure (exec_int .eql _ _ _ .i64 _ _ _ rfl rfl rfl (int_eql _ _ _ _ _ (by rw [hb1]; exact decide_eq_decide.2 (by omega))))) <| sp rfl ?_
  refine sG ?_
  refine Sy.ret ?_
  exact rV (.bool b1) rfl
end Go.Proofs.YtgemfpnlnipfnaaGreat.Wr

end
section
namespace Go.Proofs.YtgemfpnlnipfnaaGreat.Wr
open Go.RowKit Go.Proofs.YtgemfpnlnipfnaaGreat Go.Proofs.YtgemfpnlnipfnaaGreat.Sy
set_option maxRecDepth 100000
set_option maxHeartbeats 4000000

theorem wM {P : Program} {F : Slots} {o : Oper} {g : Nat} {t : TypeId} (ty : TypeId) (A z v Z : List Value) (k f : Nat) (x y : Operand) (ho : o.op = .store ty x y) (hx : evF F x = .pointer (some ⟨g, f, none⟩)) (hy : evF F y = .agg v.toArray) (hi : (P.info? ty).map (·.size) = some k) (hA : A.length = f) (hz : z.length = k) (hv : v.length = k) (h1 : ∀ u ∈ v, u.oneCell' = true) : Sy.Writes P F o g t (A ++ (z ++ Z)).toArray (A ++ (v ++ Z)).toArray :=
  Sy.Writes.store f ty v.toArray x y ho hx hy (by rw [hi, List.size_toArray, hv]) (by rw [List.size_toArray, List.size_toArray, List.length_append, List.length_append]; omega) (by rw [List.all_toArray, List.all_eq_true]; exact h1) (by show setAll _ f v = _; exact setAll_mid hA (by omega))
theorem ones_bv (x : Byt) : ∀ u ∈ x.map bv, u.oneCell' = true := fun u hu => by obtain ⟨y, _, rfl⟩ := List.mem_map.1 hu; rfl
theorem digM_any (w0 : Base) (gr : Nat) (sl : Value) (b : Byt) (at_ e : Nat) (R : Blocks) (hat : at_ ≤ b.length) (he : e ≤ 200) (hl : b.length ≤ 70368744177664) (hv : BytR (rdW w0.world) sl b) (w : World) (hw : St w0 w (RB gr sl at_ e R)) :
    Calls Tryz.prog 113 #[ptr gr] w (Turns w0 (Rfd (takeP 32) (fun x v N => v = .agg (x.map bv).toArray ∧ x.length = 32 ∧ N = []) gr sl b R at_ e)) := by
  refine Sy.enterT (args := [ptr gr]) hw Tryz.func113 rfl kL ?_
  refine sC ?_
  refine sM 37 Z32.toArray (fun g2 => ?_)
  refine Sy.movT (pre := [(gr, 186, rrC sl at_ e)]) (T := R) ?_
  refine sA ?_
  refine sp rfl ?_
  refine Sy.callT (fun w hw => rawM_any w0.inn gr sl b at_ e 32 ((g2, 37, Z32.toArray) :: R) hat he (by decide) hl hv w hw) (fun u M hM => ?_)
  obtain ⟨x, a2, e2, N, q1, ⟨q2, q3⟩, q4, q5, rfl⟩ := hM
  obtain ⟨A, n, cp, rfl, k2, k3, k4, k5⟩ := q2.byt
  obtain ⟨gb, ob, rfl, hq⟩ := k5 (by intro h; rw [h] at q3; cases q3)
  refine sp rfl ?_
  refine sA ?_
  refine sM 37 Z32.toArray (fun g4 => ?_)
  refine Sy.movT (pre := [(gr, 186, rrC sl a2 e2), (g2, 37, Z32.toArray)]) (T := R ++ N) ?_
  refine sG ?_
  refine Sy.seq ?_
  refine sC ?_
  refine sP (.int .i64 0) ?_
  refine sG ?_
  refine Sy.block ?_
  refine Sy.loopT (Y := Unit) 32 (fun i _ => [(0, ptr gr), (2, ptr g2), (3, .slice (some ⟨gb, ob, none⟩) n cp), (4, ptr g4), (5, .int .i64 (i : Int))]) (fun i _ => [(gr, 186, rrC sl a2 e2), (g2, 37, Z32.toArray), (g4, 37, ((x.map bv).take i ++ Z32.drop i).toArray)] ++ (R ++ N)) (fun _ _ => True) () trivial (all_cons kR (all_cons kR (all_cons kR (all_cons kR (all_cons kR all_nil))))) (fun _ h => h) (fun i _ hi _ => ?_)
  dsimp only
  refine Sy.seq ?_
  refine sC ?_
  obtain ⟨b2, hb2⟩ : ∃ z : Bool, z = decide (i < 32) := ⟨_, rfl⟩
  refine sp rfl <| sS (.bool b2) (Quiet.pure (exec_int .lss _ _ _ .i64 _ _ _ rfl rfl rfl (int_lss _ _ _ _ _ (by rw [hb2]; exact decide_eq_decide.2 (by omega))))) ?_
  refine sG ?_
  cases b2
  case' false =>
    have l2 : ¬ i < 32 := of_decide_eq_false hb2.symm
    obtain rfl : i = 32 := by omega
    have ec : (x.map bv).take 32 ++ Z32.drop 32 = x.map bv := by
      rw [List.take_of_length_le (by rw [List.length_map, q3]; exact Nat.le_refl _), show Z32.drop 32 = [] from rfl, List.append_nil]
    rw [ec]
    refine sU ?_
    refine Sy.exit ?_
    refine Sy.then_exit ?_
    refine Sy.then_exit ?_
    refine Sy.in_exit ?_
    refine Sy.then_ ?_
    refine sC ?_
    refine sS (.agg (x.map bv).toArray) (Quiet.mid 2 g4 0 32 37 37 (x.map bv) (x.map bv) _ _ rfl kR rfl Tryz.underlying37 rfl kR (by rw [List.drop_zero, List.take_of_length_le (by rw [List.length_map, q3]; exact Nat.le_refl _)]) (by rw [List.length_map, q3]; exact Nat.le_refl _)) <| sw 1 rfl (x.map bv).toArray (Writes.row 37 (x.map bv) 32 _ _ rfl kR kR kR (by rw [List.length_map, q3]) (by kernel_rfl) (ones_bv x)) ?_
    refine sG ?_
    refine Sy.ret ?_
    exact Sy.retT1 (RB gr sl a2 e2 (R ++ [])) rfl (.inl (Sy.Res.cell (ty' := 37) g2 1 (x.map bv).toArray _ (by kernel_rfl) rfl Tryz.underlying37 rfl (by rw [List.size_toArray, List.length_map, q3]; kernel_rfl) rfl)) (fun _ h => h.less (((((List.Sublist.refl R).append (List.nil_sublist N)).cons (g4, 37, (x.map bv).toArray)).cons (g2, 37, (x.map bv).toArray)).cons_cons (gr, 186, rrC sl a2 e2))) ⟨x, a2, e2, [], q1, ⟨rfl, q3, rfl⟩, q4, q5, rfl⟩
  have l2 : i < 32 := of_decide_eq_true hb2.symm
  obtain ⟨u, hu⟩ : ∃ u, x[i]? = some u := ⟨_, List.getElem?_eq_getElem (by omega)⟩
  have hAl : ((x.map bv).take i).length = i := by rw [List.length_take, List.length_map, q3]; omega
  obtain ⟨z0, Z1, hz⟩ : ∃ z0 Z1, Z32.drop i = z0 :: Z1 ∧ Z1 = Z32.drop (i + 1) := ⟨_, _, List.drop_eq_getElem_cons (by rw [Z32_len]; exact l2), rfl⟩
  obtain ⟨hz, hz1⟩ := hz
  have hnx : (x.map bv).take (i + 1) ++ Z32.drop (i + 1) = (x.map bv).take i ++ (bv u :: Z1) := by
    rw [List.take_add_one, List.getElem?_map, hu, ← hz1, List.append_assoc]; rfl
  rw [hz]
  refine sT ?_
  refine Sy.skip ?_
  refine Sy.then_ ?_
  refine Sy.seq ?_
  refine Sy.block ?_
  refine Sy.region ?_
  refine sp rfl <| sp rfl <| sp rfl <| sS (.pointer (some ⟨gb, ob + i * 1, none⟩)) (Quiet.pure (exec_atO 27 _ _ _ (some ⟨gb, ob, none⟩) gb ob n cp i 1 .i64 rfl rfl rfl rfl Tryz.underlying27 kF (by omega))) <| sS (bv u) (cellC (R := N) (g := gb) (f := ob + i * 1) (.inr (by rw [Nat.mul_one]; exact hq i u hu)) (fun b h => List.mem_append_right _ (List.mem_append_right _ h)) rfl Tryz.underlying5) <| sS (.pointer (some ⟨g4, 0 + i * 1, none⟩)) (Quiet.pure (exec_atA 37 _ _ _ g4 0 _ i 1 .i64 rfl rfl rfl Tryz.underlying37 kF l2)) <| sw 2 rfl ((x.map bv).take i ++ (bv u :: Z1)).toArray (Writes.one (0 + i * 1) 5 (bv u) _ _ rfl kR kR kR rfl rfl (by rw [List.size_toArray, List.length_append, hAl]; simp) (set_mid (by rw [hAl]; omega))) ?_
  refine Sy.nil ?_
  refine Sy.in_ ?_
  refine Sy.then_ ?_
  refine Sy.region ?_
  refine sp rfl <| sS (.int .i64 ((i + 1 : Nat) : Int)) (Quiet.pure (exec_int .add _ _ _ .i64 _ _ _ rfl rfl rfl (int_add _ _ _ _ _ ((wrap_i64 (by omega) (by omega)).trans (by omega))))) <| sp rfl ?_
  refine Sy.nil ?_
  exact Sy.againT () l2 trivial (all_cons kR (all_cons kR (all_cons kR (all_cons kR (all_cons kR all_nil))))) (fun w h => by rw [hnx]; exact h)
def rowV {α : Type} (k : Nat) (rep : Rdr → List Value → α → Prop) (x : α) (v : Value) (N : Blocks) : Prop := ∃ cs, v = .agg cs.toArray ∧ cs.length = k ∧ (∀ u ∈ cs, u.oneCell' = true) ∧ rep (rdB N) cs x
abbrev ZMH : List Value := Z32 ++ (Z32 ++ ([Value.int .u64 0] ++ [Value.int .u64 0]))
theorem mhdM_any (w0 : Base) (gr : Nat) (sl : Value) (b : Byt) (at_ e : Nat) (R : Blocks) (hat : at_ ≤ b.length) (he : e ≤ 200) (hl : b.length ≤ 70368744177664) (hv : BytR (rdW w0.world) sl b) (w : World) (hw : St w0 w (RB gr sl at_ e R)) :
    Calls Tryz.prog 76 #[ptr gr] w (Turns w0 (Rfd rdMH (rowV 66 repMH) gr sl b R at_ e)) := by
  refine Sy.enterT (args := [ptr gr]) hw Tryz.func76 rfl kL ?_
  refine sC ?_
  refine sM 73 ZMH.toArray (fun g2 => ?_)
  refine Sy.movT (pre := [(gr, 186, rrC sl at_ e)]) (T := R) ?_
  refine sA ?_
  refine sM 73 (([] : List Value) ++ (Z32 ++ (Z32 ++ ([Value.int .u64 0] ++ [Value.int .u64 0])))).toArray (fun g3 => ?_)
  refine Sy.movT (pre := [(gr, 186, rrC sl at_ e), (g2, 73, ZMH.toArray)]) (T := R) ?_
  refine sA ?_
  refine sp rfl ?_
  refine Sy.callT (fun w hw => digM_any w0.inn gr sl b at_ e ((g2, 73, ZMH.toArray) :: (g3, 73, (([] : List Value) ++ (Z32 ++ (Z32 ++ ([Value.int .u64 0] ++ [Value.int .u64 0])))).toArray) :: R) hat he hl hv w hw) (fun u M hM => ?_)
  obtain ⟨x1, a1, e1, N1, p1, ⟨rfl, p2, rfl⟩, p3, p4, rfl⟩ := hM
  rw [List.append_nil]
  have m1 : (x1.map bv).length = 32 := by rw [List.length_map, p2]
  refine sP (.pointer (some ⟨g3, 0, none⟩)) <| sw 2 rfl (([] : List Value) ++ (x1.map bv ++ (Z32 ++ ([Value.int .u64 0] ++ [Value.int .u64 0])))).toArray (wM 37 [] Z32 (x1.map bv) (Z32 ++ ([Value.int .u64 0] ++ [Value.int .u64 0])) 32 0 _ _ rfl kR kR kR rfl Z32_len m1 (ones_bv x1)) ?_
  refine sA ?_
  refine sp rfl ?_
  refine Sy.callT (fun w hw => digM_any w0.inn gr sl b a1 e1 ((g2, 73, ZMH.toArray) :: (g3, 73, (x1.map bv ++ (Z32 ++ ([Value.int .u64 0] ++ [Value.int .u64 0]))).toArray) :: R) p3 p4 hl hv w hw) (fun u M hM => ?_)
  obtain ⟨x2, a2, e2, N2, q1, ⟨rfl, q2, rfl⟩, q3, q4, rfl⟩ := hM
  rw [List.append_nil]
  have m2 : (x2.map bv).length = 32 := by rw [List.length_map, q2]
  have m3 : (x1.map bv ++ x2.map bv).length = 64 := by rw [List.length_append, m1, m2]
  refine sP (.pointer (some ⟨g3, 32, none⟩)) <| sw 2 rfl (x1.map bv ++ (x2.map bv ++ ([Value.int .u64 0] ++ [Value.int .u64 0]))).toArray (wM 37 (x1.map bv) Z32 (x2.map bv) ([Value.int .u64 0] ++ [Value.int .u64 0]) 32 32 _ _ rfl kR kR kR m1 Z32_len m2 (ones_bv x2)) ?_
  refine sA ?_
  refine sp rfl ?_
  refine Sy.callT (fun w hw => numM_any w0.inn gr sl b a2 e2 8 ((g2, 73, ZMH.toArray) :: (g3, 73, (x1.map bv ++ (x2.map bv ++ ([Value.int .u64 0] ++ [Value.int .u64 0]))).toArray) :: R) q3 q4 (by decide) hl hv w hw) (fun u M hM => ?_)
  obtain ⟨x3, a3, e3, N3, r1, ⟨rfl, r2, rfl⟩, r3, r4, rfl⟩ := hM
  rw [List.append_nil, ← List.append_assoc (x1.map bv)]
  refine sP (.pointer (some ⟨g3, 64, none⟩)) <| sw 2 rfl ((x1.map bv ++ x2.map bv) ++ (Value.int .u64 (x3 : Int) :: [Value.int .u64 0])).toArray (Writes.one 64 22 (.int .u64 (x3 : Int)) _ _ rfl kR kR kR rfl rfl (by rw [List.size_toArray, List.length_append, m3]; decide) (set_mid m3)) ?_
  refine sA ?_
  refine sp rfl ?_
  refine Sy.callT (fun w hw => numM_any w0.inn gr sl b a3 e3 8 ((g2, 73, ZMH.toArray) :: (g3, 73, ((x1.map bv ++ x2.map bv) ++ (Value.int .u64 (x3 : Int) :: [Value.int .u64 0])).toArray) :: R) r3 r4 (by decide) hl hv w hw) (fun u M hM => ?_)
  obtain ⟨x4, a4, e4, N4, s1, ⟨rfl, s2, rfl⟩, s3, s4, rfl⟩ := hM
  have m4 : ((x1.map bv ++ x2.map bv) ++ [Value.int .u64 (x3 : Int)]).length = 65 := by rw [List.length_append, m3]; rfl
  rw [List.append_nil, show (x1.map bv ++ x2.map bv) ++ (Value.int .u64 (x3 : Int) :: [Value.int .u64 0]) = ((x1.map bv ++ x2.map bv) ++ [Value.int .u64 (x3 : Int)]) ++ (Value.int .u64 0 :: []) by rw [List.append_assoc _ [Value.int .u64 (x3 : Int)]]; rfl]
  obtain ⟨cs, hcs⟩ : ∃ cs, cs = ((x1.map bv ++ x2.map bv) ++ [Value.int .u64 (x3 : Int)]) ++ (Value.int .u64 (x4 : Int) :: []) := ⟨_, rfl⟩
  have hlen : cs.length = 66 := by rw [hcs, List.length_append, m4]; rfl
  have hrep : ∀ C, repMH C cs ⟨x1, x2, x3, x4⟩ := fun C => ⟨by rw [hcs]; simp only [List.append_assoc]; rfl, p2, q2, r2, s2⟩
  have hone : ∀ u ∈ cs, u.oneCell' = true := oneMH (hrep (rdB []))
  refine sP (.pointer (some ⟨g3, 65, none⟩)) <| sw 2 rfl cs.toArray (Writes.one 65 22 (.int .u64 (x4 : Int)) _ _ rfl kR kR kR rfl rfl (by rw [List.size_toArray, List.length_append, m4]; decide) (by rw [hcs]; exact set_mid m4)) ?_
  refine sA ?_
  refine sS (.agg cs.toArray) (Quiet.mid 2 g3 0 66 73 73 cs cs _ _ rfl kR rfl Tryz.underlying73 rfl kR (by rw [List.drop_zero, List.take_of_length_le (by omega)]) (by omega)) <| sw 1 rfl cs.toArray (Writes.row 73 cs 66 _ _ rfl kR kR kR hlen (by kernel_rfl) hone) ?_
  refine sG ?_
  refine Sy.ret ?_
  exact Sy.retT1 (RB gr sl a4 e4 (R ++ [])) rfl (.inl (Sy.Res.cell (ty' := 73) g2 1 cs.toArray _ (by kernel_rfl) rfl Tryz.underlying73 rfl (by rw [List.size_toArray, hlen]; kernel_rfl) rfl)) (fun _ h => h.less (((((List.Sublist.refl R).append (List.nil_sublist [])).trans (by rw [List.append_nil]; exact List.Sublist.refl R) |>.cons (g3, 73, cs.toArray)).cons (g2, 73, cs.toArray)).cons_cons (gr, 186, rrC sl a4 e4))) ⟨⟨x1, x2, x3, x4⟩, a4, e4, [], p1.bind (q1.bind (r1.bind (s1.bind (After.ret _ _)))), ⟨cs, rfl, hlen, hone, hrep _⟩, s3, s4, rfl⟩
theorem endR_any (w : World) (sl : Value) (b : Byt) (at_ e : Nat) (hat : at_ ≤ b.length) (hl : b.length ≤ 70368744177664) (hv : BytR (rdW w) sl b) :
    Calls Tryz.prog 104 #[rrV sl at_ e] w (Gets w (.int .i64 ((if e = 0 ∧ at_ < b.length then 113 else e : Nat) : Int))) := by
  obtain ⟨A, m, cp, rfl, h2, h3, h4, h5⟩ := hv
  rw [h2]
  refine Sy.enter (args := [rrV (.slice A m cp) at_ e]) Tryz.func104 rfl kL ?_
  refine sC ?_
  refine sM 184 (rrC (.slice A m cp) at_ e) (fun g1 => ?_)
  refine sP (.int .i64 0) ?_
  refine sG ?_
  refine Sy.seq ?_
  refine sC ?_
  obtain ⟨b1, hb1⟩ : ∃ z : Bool, z = decide (e = 0) := ⟨_, rfl⟩
  refine sP (.pointer (some ⟨g1, 2, none⟩)) <| sS (.int .i64 (e : Int)) (qc 0 2 rfl rfl Tryz.underlying28) <| sS (.bool b1) (Quiet.pure (exec_int .eql _ _ _ .i64 _ _ _ rfl rfl rfl (int_eql _ _ _ _ _ (by rw [hb1]; exact decide_eq_decide.2 (by omega))))) <| sp rfl ?_
  cases b1
  · have l1 : ¬ e = 0 := of_decide_eq_false hb1.symm
    rw [if_neg (fun h => l1 h.1)]
    refine sN <| sN <| sN <| sN <| sN <| sN <| sP (.bool false) ?_
    refine sG ?_
    refine sU ?_
    refine Sy.skip ?_
    refine sB ?_
    refine sP (.pointer (some ⟨g1, 2, none⟩)) <| sS (.int .i64 (e : Int)) (qc 0 2 rfl rfl Tryz.underlying28) <| sp rfl ?_
    refine sG ?_
    refine Sy.ret ?_
    exact rV (.int .i64 (e : Int)) rfl
  · have l1 : e = 0 := of_decide_eq_true hb1.symm
    obtain ⟨b2, hb2⟩ : ∃ z : Bool, z = decide (at_ < m) := ⟨_, rfl⟩
    refine sP (.pointer (some ⟨g1, 1, none⟩)) <| sS (.int .i64 (at_ : Int)) (qc 0 1 rfl rfl Tryz.underlying3) <| sP (.pointer (some ⟨g1, 0, none⟩)) <| sS (.slice A m cp) (qc 0 0 rfl rfl Tryz.underlying27) <| sP (.int .i64 (m : Int)) <| sS (.bool b2) (Quiet.pure (exec_int .lss _ _ _ .i64 _ _ _ rfl rfl rfl (int_lss _ _ _ _ _ (by rw [hb2]; exact decide_eq_decide.2 (by omega))))) <| sP (.bool b2) ?_
    refine sG ?_
    cases b2
    · rw [if_neg (fun h => of_decide_eq_false hb2.symm h.2)]
      refine sU ?_
      refine Sy.skip ?_
      refine sB ?_
      refine sP (.pointer (some ⟨g1, 2, none⟩)) <| sS (.int .i64 (e : Int)) (qc 0 2 rfl rfl Tryz.underlying28) <| sp rfl ?_
      refine sG ?_
      refine Sy.ret ?_
      exact rV (.int .i64 (e : Int)) rfl
    · rw [if_pos ⟨l1, of_decide_eq_true hb2.symm⟩]
      refine sT ?_
      refine sC ?_
      refine sP (.int .i64 113) ?_
      refine sG ?_
      refine Sy.ret ?_
      refine Sy.then_ret ?_
      exact rV (.int .i64 113) rfl
def endN (b : Byt) (at_ e : Nat) : Nat := if e = 0 ∧ at_ < b.length then 113 else e
theorem endedR_any (w0 : Base) (gr : Nat) (sl : Value) (b : Byt) (at_ e : Nat) (R : Blocks) (he : e ≤ 200) (hat : at_ ≤ b.length) (hl : b.length ≤ 70368744177664) (hv : BytR (rdW w0.world) sl b) (w : World) (hw : St w0 w (RB gr sl at_ e R)) :
    Calls Tryz.prog 53 #[ptr gr] w (Turns w0 (fun v M => v = .int .i64 ((if endN b at_ e ≠ 0 then 120 else 0 : Nat) : Int) ∧ M = RB gr sl at_ e R)) := by
  have hv0 := hv
  obtain ⟨A, m, cp, rfl, h2, h3, h4, h5⟩ := hv
  obtain ⟨f, hf⟩ : ∃ f, f = endN b at_ e := ⟨_, rfl⟩
  have hfl : f ≤ 200 := by rw [hf]; unfold endN; split <;> omega
  rw [← hf]
  refine Sy.enterT (args := [ptr gr]) hw Tryz.func53 rfl kL ?_
  refine sC ?_
  refine sP (.int .i64 0) ?_
  refine sG ?_
  refine Sy.seq ?_
  refine sC ?_
  obtain ⟨b1, hb1⟩ : ∃ z : Bool, z = decide (f ≠ 0) := ⟨_, rfl⟩
  refine sp rfl <| sp rfl <| sP (.pointer (some ⟨gr, 0, none⟩)) <| sS (rrV (.slice A m cp) at_ e) (qk 0 0 3 rfl rfl Tryz.underlying184) <| sS (.int .i64 (f : Int)) (qg (fun w' hw => by rw [hf]; exact endR_any w' (.slice A m cp) b at_ e hat hl (hv0.le (fun g o u hu => rdC_world (w0 := w0.inn) (R := []) hw (fun _ h => by cases h) g o u (.inl hu))))) <| sS (.bool b1) (Quiet.pure (exec_int .neq _ _ _ .i64 _ _ _ rfl rfl rfl (int_neq _ _ _ _ _ (by rw [hb1]; exact decide_eq_decide.2 (by omega))))) ?_
  refine sG ?_
  cases b1
  · rw [if_neg (of_decide_eq_false hb1.symm)]
    refine sU ?_
    refine Sy.skip ?_
    refine sB ?_
    refine sP (.int .i64 0) ?_
    refine sG ?_
    refine Sy.ret ?_
    exact Sy.retT1 (RB gr (.slice A m cp) at_ e R) rfl (.inl (show _ = _ by kernel_rfl)) (fun _ h => h) ⟨rfl, rfl⟩
  · rw [if_pos (of_decide_eq_true hb1.symm)]
    refine sT ?_
    refine sC ?_
    refine sP (.int .i64 120) ?_
    refine sG ?_
    refine Sy.ret ?_
    refine Sy.then_ret ?_
    exact Sy.retT1 (RB gr (.slice A m cp) at_ e R) rfl (.inl (show _ = _ by kernel_rfl)) (fun _ h => h) ⟨rfl, rfl⟩
theorem beginR_any (w : World) (sl : Value) (b : Byt) (hv : BytR (rdW w) sl b) : Calls Tryz.prog 51 #[sl] w (GetsN w (fun v M => ∃ g, v = ptr g ∧ M = [(g, 186, rrC sl 0 0)])) := by
  obtain ⟨A, m, cp, rfl, h2, h3, h4, h5⟩ := hv
  refine Sy.enter (args := [.slice A m cp]) Tryz.func51 rfl kL ?_
  refine sC ?_
  refine sP (.pointer none) ?_
  refine sA ?_
  refine sp rfl <| sP (rrV (.slice A m cp) 0 0) <| sP (rrV (.slice A m cp) 0 0) <| sM 186 (rrC (.slice A m cp) 0 0) (fun g => ?_)
  refine sp rfl ?_
  refine sG ?_
  refine Sy.ret ?_
  exact Sy.retGM [(g, 186, rrC (.slice A m cp) 0 0)] rfl (.inl (show _ = _ by kernel_rfl)) (fun _ h => h) ⟨g, rfl, rfl⟩

theorem readR_mhd {α : Type} {rep : Rdr → List Value → α → Prop} {p : Ps α} (hp : ∀ (w0 : Base) (gr : Nat) (sl : Value) (b : Byt) (at_ e : Nat) (R : Blocks), at_ ≤ b.length → e ≤ 200 → b.length ≤ 70368744177664 → BytR (rdW w0.world) sl b → ∀ w, St w0 w (RB gr sl at_ e R) → Calls Tryz.prog 76 #[ptr gr] w (Turns w0 (Rfd p (rowV 66 rep) gr sl b R at_ e))) (w : World) (v : Value) (b : Byt) (hv : BytR (rdW w) v b) (hl : b.length ≤ 70368744177664) :
    Calls Tryz.prog 35 #[v] w (GetsN w (RdE 66 (Z32 ++ (Z32 ++ ([Value.int .u64 0] ++ [Value.int .u64 0]))) rep (allP p b))) := by
  refine Sy.enter (args := [v]) Tryz.func35 rfl kL ?_
  refine sC ?_
  refine sM 73 (Z32 ++ (Z32 ++ ([Value.int .u64 0] ++ [Value.int .u64 0]))).toArray (fun g2 => ?_)
  refine sP (.int .i64 0) ?_
  refine sA ?_
  refine sp rfl ?_
  refine Sy.callN kR 51 #[v] kF _ (fun w' hw => beginR_any w' v b (hv.at hw)) (fun u M hM => ?_)
  obtain ⟨gr, rfl, rfl⟩ := hM
  refine sp rfl ?_
  refine sA ?_
  refine Sy.permS (M := RB gr v 0 0 [(g2, 73, (Z32 ++ (Z32 ++ ([Value.int .u64 0] ++ [Value.int .u64 0]))).toArray)]) (Sy.perm_at [1, 0] (by kernel_rfl) (by rfl)) ?_
  refine sp rfl ?_
  refine Sy.callT (fun w' hw => hp (Base.of w) gr v b 0 0 [(g2, 73, (Z32 ++ (Z32 ++ ([Value.int .u64 0] ++ [Value.int .u64 0]))).toArray)] (Nat.zero_le _) (Nat.zero_le _) hl hv w' hw) (fun u M hM => ?_)
  obtain ⟨x, a2, e2, N, q1, ⟨cs, rfl, q2, q3, q4⟩, q5, q6, rfl⟩ := hM
  obtain ⟨o1, o2⟩ := all_of q1
  refine sM 73 (Z32 ++ (Z32 ++ ([Value.int .u64 0] ++ [Value.int .u64 0]))).toArray (fun g5 => ?_)
  refine Sy.movT (pre := [(gr, 186, rrC v a2 e2), (g2, 73, (Z32 ++ (Z32 ++ ([Value.int .u64 0] ++ [Value.int .u64 0]))).toArray)]) (T := N) ?_
  refine sw 2 rfl cs.toArray (Writes.row 73 cs 66 _ _ rfl kR kR kR q2 (by kernel_rfl) q3) ?_
  refine sG ?_
  refine Sy.seq ?_
  refine sC ?_
  refine sp rfl ?_
  refine Sy.callT (fun w' hw => endedR_any (Base.of w) gr v b a2 e2 ((g2, 73, (Z32 ++ (Z32 ++ ([Value.int .u64 0] ++ [Value.int .u64 0]))).toArray) :: (g5, 73, cs.toArray) :: N) q6 q5 hl hv w' hw) (fun u M hM => ?_)
  obtain ⟨rfl, rfl⟩ := hM
  obtain ⟨f, hf⟩ : ∃ f, f = if endN b a2 e2 ≠ 0 then 120 else 0 := ⟨_, rfl⟩
  rw [← hf]
  have hfl : f ≤ 200 := by rw [hf]; split <;> omega
  obtain ⟨b1, hb1⟩ : ∃ z : Bool, z = decide (f ≠ 0) := ⟨_, rfl⟩
  refine sS (.bool b1) (Quiet.pure (exec_int .neq _ _ _ .i64 _ _ _ rfl rfl rfl (int_neq _ _ _ _ _ (by rw [hb1]; exact decide_eq_decide.2 (by omega))))) ?_
  refine sG ?_
  cases b1
  · have l1 : f = 0 := Decidable.of_not_not (of_decide_eq_false hb1.symm)
    have l2 : endN b a2 e2 = 0 := by
      rw [hf] at l1
      by_cases h : endN b a2 e2 = 0
      · exact h
      · rw [if_pos h] at l1; cases l1
    have l3 : e2 = 0 ∧ b.drop a2 = [] := by
      unfold endN at l2
      by_cases h : e2 = 0 ∧ a2 < b.length
      · rw [if_pos h] at l2; cases l2
      · rw [if_neg h] at l2
        exact ⟨l2, List.drop_eq_nil_of_le (by omega)⟩
    refine sU ?_
    refine Sy.skip ?_
    refine sB ?_
    refine sS (.agg cs.toArray) (Quiet.mid 2 g5 0 66 73 73 cs cs _ _ rfl kR rfl Tryz.underlying73 rfl kR (by rw [List.drop_zero, List.take_of_length_le (by omega)]) (by omega)) <| sw 1 rfl cs.toArray (Writes.row 73 cs 66 _ _ rfl kR kR kR q2 (by kernel_rfl) q3) <| sP (.int .i64 0) ?_
    refine sG ?_
    refine Sy.ret ?_
    exact Sy.retGM2 N rfl (.inl (Sy.Res.cell (ty' := 73) g2 1 cs.toArray _ (by kernel_rfl) rfl Tryz.underlying73 rfl (by rw [List.size_toArray, q2]; kernel_rfl) rfl)) (.inl (show _ = _ by kernel_rfl)) (fun _ h => h.less (((List.sublist_cons_self (g5, 73, cs.toArray) N).cons (g2, 73, cs.toArray)).cons (gr, 186, rrC v a2 e2))) (.inl ⟨x, cs, o1 l3.1 l3.2, rfl, q2, q4⟩)
  · have l1 : f ≠ 0 := of_decide_eq_true hb1.symm
    have l3 : e2 ≠ 0 ∨ b.drop a2 ≠ [] := by
      by_cases h : e2 = 0 ∧ a2 < b.length
      · refine .inr (fun e => ?_)
        have := congrArg List.length e
        rw [List.length_drop] at this
        simp at this; omega
      · refine .inl (fun e => l1 ?_)
        rw [hf]; unfold endN; rw [if_neg h, e]; rfl
    refine sT ?_
    refine sC ?_
    refine sP (.agg (Z32 ++ (Z32 ++ ([Value.int .u64 0] ++ [Value.int .u64 0]))).toArray) <| sw 1 rfl (Z32 ++ (Z32 ++ ([Value.int .u64 0] ++ [Value.int .u64 0]))).toArray (wA rfl) <| sP (.int .i64 120) ?_
    refine sG ?_
    refine Sy.ret ?_
    refine Sy.then_ret ?_
    exact Sy.retGM2 [] rfl (.inl (Sy.Res.cell (ty' := 73) g2 1 (Z32 ++ (Z32 ++ ([Value.int .u64 0] ++ [Value.int .u64 0]))).toArray _ (by kernel_rfl) rfl Tryz.underlying73 rfl (by kernel_rfl) rfl)) (.inl (show _ = _ by kernel_rfl)) (fun _ h => h.none) (.inr ⟨o2 l3, rfl, rfl⟩)
end Go.Proofs.YtgemfpnlnipfnaaGreat.Wr

end
section
namespace Go.Proofs.YtgemfpnlnipfnaaGreat.Wr
open Go.RowKit Go.Proofs.YtgemfpnlnipfnaaGreat Go.Proofs.YtgemfpnlnipfnaaGreat.Sy
set_option maxRecDepth 100000
set_option maxHeartbeats 4000000

theorem After.stop {α : Type} {p : Ps α} {i n : Nat} {s s' : RS} {xs : List α} (h : After (repP p i) s xs s') (he : s'.e ≠ 0) (hin : i ≤ n) : After (repP p n) s xs s' :=
  ⟨fun _ => he, fun y r h0 hp => by
    cases hi : repP p i s.rest with
    | none => rw [repP_none hi n hin] at hp; cases hp
    | some u =>
      obtain ⟨y1, r1⟩ := u
      obtain ⟨_, e⟩ := h.yes y1 r1 h0 hi
      rw [e] at he
      exact (he rfl).elim, fun _ _ => he⟩
theorem After.snoc {α : Type} {p : Ps α} {i : Nat} {s s1 s2 : RS} {xs : List α} {x : α} (h : After (repP p i) s xs s1) (k : After p s1 x s2) : After (repP p (i + 1)) s (xs ++ [x]) s2 :=
  have q := h.bind (q := fun l => bindP p fun x => retP (l ++ [x])) (k.bind (q := fun x => retP (xs ++ [x])) (After.ret (xs ++ [x]) s2))
  ⟨q.bad, fun y r h0 hp => q.yes y r h0 (by rw [← repP_snoc]; exact hp), fun h0 hp => q.no h0 (by rw [← repP_snoc]; exact hp)⟩
structure RLst (α : Type) where
  at_ : Nat
  e : Nat
  xs : List α
  r : Slc
theorem mtxM_any (w0 : Base) (gr : Nat) (sl : Value) (b : Byt) (at_ e : Nat) (R : Blocks) (hat : at_ ≤ b.length) (he : e ≤ 200) (hl : b.length ≤ 70368744177664) (hv : BytR (rdW w0.world) sl b) (w : World) (hw : St w0 w (RB gr sl at_ e R)) :
    Calls Tryz.prog 73 #[ptr gr] w (Turns w0 (Rfd rdMT (rowV 2 repMT) gr sl b R at_ e)) := by
  refine Sy.enterT (args := [ptr gr]) hw Tryz.func73 rfl kL ?_
  refine sC ?_
  refine sM 71 #[.int .u64 0, .slice none 0 0] (fun g2 => ?_)
  refine Sy.movT (pre := [(gr, 186, rrC sl at_ e)]) (T := R) ?_
  refine sA ?_
  refine sM 71 #[.int .u64 0, .slice none 0 0] (fun g3 => ?_)
  refine Sy.movT (pre := [(gr, 186, rrC sl at_ e), (g2, 71, #[.int .u64 0, .slice none 0 0])]) (T := R) ?_
  refine sA ?_
  refine sp rfl ?_
  refine Sy.callT (fun w hw => numM_any w0.inn gr sl b at_ e 8 ((g2, 71, #[.int .u64 0, .slice none 0 0]) :: (g3, 71, #[.int .u64 0, .slice none 0 0]) :: R) hat he (by decide) hl hv w hw) (fun u M hM => ?_)
  obtain ⟨x0, a1, e1, N1, p1, ⟨rfl, p2, rfl⟩, p3, p4, rfl⟩ := hM
  rw [List.append_nil]
  refine sP (.pointer (some ⟨g3, 0, none⟩)) <| sw 2 rfl #[.int .u64 (x0 : Int), .slice none 0 0] (wO 0 22 (.int .u64 (x0 : Int)) rfl) ?_
  refine sA ?_
  refine sp rfl ?_
  refine Sy.callT (fun w hw => manyM_any w0.inn gr sl b a1 e1 16 ((g2, 71, #[.int .u64 0, .slice none 0 0]) :: (g3, 71, #[.int .u64 (x0 : Int), .slice none 0 0]) :: R) p3 p4 (by decide) hl hv w hw) (fun u M hM => ?_)
  obtain ⟨n, a2, e2, N2, q1, ⟨rfl, q2, rfl⟩, q3, q4, rfl⟩ := hM
  rw [List.append_nil]
  refine sp rfl ?_
  refine sG ?_
  refine Sy.seq ?_
  refine sC ?_
  refine sP (.int .i64 0) ?_
  refine sG ?_
  refine Sy.block ?_
  refine Sy.loopT (Y := RLst MOut) n (fun i _ => [(0, ptr gr), (2, ptr g2), (3, ptr g3), (4, .int .i64 (n : Int)), (5, .int .i64 (i : Int))]) (fun _ y => [(gr, 186, rrC sl y.at_ y.e), (g2, 71, #[.int .u64 0, .slice none 0 0]), (g3, 71, #[.int .u64 (x0 : Int), y.r.v])] ++ (y.r.bl ++ R)) (fun i y => After (repP rdMO i) ⟨b.drop a2, e2⟩ y.xs ⟨b.drop y.at_, y.e⟩ ∧ y.at_ ≤ b.length ∧ y.e ≤ 200 ∧ y.xs.length = i ∧ RowsOk 108 33 repMO y.r [] y.xs) ⟨a2, e2, [], nilS⟩ ⟨After.ret [] _, q3, q4, rfl, RowsOk.nil⟩ (all_cons kR (all_cons kR (all_cons kR (all_cons kR (all_cons kR all_nil))))) (fun _ h => h) (fun i y hi hy => ?_)
  obtain ⟨a, f, xs, r⟩ := y
  obtain ⟨y1, y2, y3, y4, y5⟩ := hy
  dsimp only at y1 y2 y3 y4 y5 ⊢
  obtain ⟨b3, hb3⟩ : ∃ z : Bool, z = decide (i < n ∧ f = 0) := ⟨_, rfl⟩
  refine Sy.seq ?_
  refine Sy.seq ?_
  refine cutC [(0, ptr gr), (2, ptr g2), (3, ptr g3), (4, .int .i64 (n : Int)), (5, .int .i64 (i : Int)), (18, .bool b3)] ([(gr, 186, rrC sl a f), (g2, 71, #[.int .u64 0, .slice none 0 0]), (g3, 71, #[.int .u64 (x0 : Int), r.v])] ++ (r.bl ++ R)) ?_ ?_
  · refine Sy.region ?_
    obtain ⟨b1, hb1⟩ : ∃ z : Bool, z = decide (i < n) := ⟨_, rfl⟩
    refine sp rfl <| sp rfl <| sS (.bool b1) (Quiet.pure (exec_int .lss _ _ _ .i64 _ _ _ rfl rfl rfl (int_lss _ _ _ _ _ (by rw [hb1]; exact decide_eq_decide.2 (by omega))))) <| sp rfl ?_
    cases b1
    · obtain rfl : b3 = false := by rw [hb3]; exact decide_eq_false (fun h => of_decide_eq_false hb1.symm h.1)
      refine sN <| sN <| sP (.bool false) ?_
      refine Sy.nil ?_
      exact meet (all_cons kR (all_cons kR (all_cons kR (all_cons kR (all_cons kR (all_cons kR all_nil)))))) (fun _ h => h)
    · obtain ⟨b2, hb2⟩ : ∃ z : Bool, z = decide (f = 0) := ⟨_, rfl⟩
      obtain rfl : b3 = b2 := by rw [hb3, hb2]; exact decide_eq_decide.2 ⟨fun h => h.2, fun h => ⟨of_decide_eq_true hb1.symm, h⟩⟩
      refine sp rfl <| sS (.bool b3) (qg (fun w hw => by rw [hb2]; exact okM_any w0.inn gr sl a f (List.mem_cons_self ..) w hw)) <| sP (.bool b3) ?_
      refine Sy.nil ?_
      exact meet (all_cons kR (all_cons kR (all_cons kR (all_cons kR (all_cons kR (all_cons kR all_nil)))))) (fun _ h => h)
  refine Sy.then_ ?_
  cases b3
  case' false =>
    have l3 : ¬ (i < n ∧ f = 0) := of_decide_eq_false hb3.symm
    have hA : After (repP rdMO n) ⟨b.drop a2, e2⟩ xs ⟨b.drop a, f⟩ := by
      by_cases h : i < n
      · exact y1.stop (fun h0 => l3 ⟨h, h0⟩) hi
      · obtain rfl : i = n := by omega
        exact y1
    have hrc : r.v.oneCell' = true := by obtain ⟨ys, h1, _⟩ := y5; exact h1.cells.2
    have hon : ∀ u ∈ [Value.int .u64 (x0 : Int), r.v], u.oneCell' = true := fun u hu => by
      rcases List.mem_cons.1 hu with rfl | hu
      · rfl
      · rw [List.mem_singleton.1 hu]; exact hrc
    refine sU ?_
    refine Sy.exit ?_
    refine Sy.then_exit ?_
    refine Sy.then_exit ?_
    refine Sy.in_exit ?_
    refine Sy.then_ ?_
    refine sC ?_
    refine sS (.agg #[.int .u64 (x0 : Int), r.v]) (qk 2 0 2 rfl rfl Tryz.underlying71) <| sw 1 rfl #[.int .u64 (x0 : Int), r.v] (Writes.row 71 [.int .u64 (x0 : Int), r.v] 2 _ _ rfl kR kR kR rfl (by kernel_rfl) hon) ?_
    refine sG ?_
    refine Sy.ret ?_
    exact Sy.retT1 (RB gr sl a f (R ++ r.bl)) rfl (.inl (Sy.Res.cell (ty' := 71) g2 1 #[.int .u64 (x0 : Int), r.v] _ (by kernel_rfl) rfl Tryz.underlying71 rfl (by kernel_rfl) rfl)) (fun _ h => Sy.St.parts (L := [(gr, 186, rrC sl a f), (g2, 71, #[.int .u64 (x0 : Int), r.v]), (g3, 71, #[.int .u64 (x0 : Int), r.v])] ++ (r.bl ++ R)) (ls := [[(gr, 186, rrC sl a f)], [(g2, 71, #[.int .u64 (x0 : Int), r.v])], [(g3, 71, #[.int .u64 (x0 : Int), r.v])], r.bl, R]) (ms := [[(gr, 186, rrC sl a f)], R, r.bl]) [[(g2, 71, #[.int .u64 (x0 : Int), r.v])], [(g3, 71, #[.int .u64 (x0 : Int), r.v])]] [0, 4, 3, 1, 2] (by kernel_rfl) (by rfl) (by simp) (by simp) h) ⟨⟨x0, xs⟩, a, f, r.bl, p1.bind ((q1.bind hA).bind (After.ret _ _)), ⟨_, rfl, rfl, hon, ⟨r.v, rfl, p2, RowsOk.lst (rep := repMO) (N := []) monoMO y5⟩⟩, y2, y3, rfl⟩
  obtain ⟨l1, l2⟩ : i < n ∧ f = 0 := of_decide_eq_true hb3.symm
  refine sT ?_
  refine Sy.skip ?_
  refine Sy.then_ ?_
  refine Sy.seq ?_
  refine Sy.block ?_
  refine sC ?_
  refine sM 108 (([] : List Value) ++ (Value.int .u64 0 :: Z32)).toArray (fun g6 => ?_)
  refine Sy.movT (pre := [(gr, 186, rrC sl a f), (g2, 71, #[.int .u64 0, .slice none 0 0]), (g3, 71, #[.int .u64 (x0 : Int), r.v])]) (T := r.bl ++ R) ?_
  refine sA ?_
  refine sp rfl ?_
  refine Sy.callT (fun w hw => numM_any w0.inn gr sl b a f 8 ((g2, 71, #[.int .u64 0, .slice none 0 0]) :: (g3, 71, #[.int .u64 (x0 : Int), r.v]) :: (g6, 108, (([] : List Value) ++ (Value.int .u64 0 :: Z32)).toArray) :: (r.bl ++ R)) y2 y3 (by decide) hl hv w hw) (fun u M hM => ?_)
  obtain ⟨x1, a3, e3, N3, r1, ⟨rfl, r2, rfl⟩, r3, r4, rfl⟩ := hM
  rw [List.append_nil]
  refine sP (.pointer (some ⟨g6, 0, none⟩)) <| sw 3 rfl (([] : List Value) ++ (Value.int .u64 (x1 : Int) :: Z32)).toArray (Writes.one 0 22 (.int .u64 (x1 : Int)) _ _ rfl kR kR kR rfl rfl (by decide) (set_mid rfl)) ?_
  refine sA ?_
  refine sp rfl ?_
  refine Sy.callT (fun w hw => digM_any w0.inn gr sl b a3 e3 ((g2, 71, #[.int .u64 0, .slice none 0 0]) :: (g3, 71, #[.int .u64 (x0 : Int), r.v]) :: (g6, 108, ([Value.int .u64 (x1 : Int)] ++ (Z32 ++ ([] : List Value))).toArray) :: (r.bl ++ R)) r3 r4 hl hv w hw) (fun u M hM => ?_)
  obtain ⟨x2, a4, e4, N4, s1, ⟨rfl, s2, rfl⟩, s3, s4, rfl⟩ := hM
  rw [List.append_nil (((g2, 71, #[.int .u64 0, .slice none 0 0]) :: (g3, 71, #[.int .u64 (x0 : Int), r.v]) :: (g6, 108, ([Value.int .u64 (x1 : Int)] ++ (Z32 ++ ([] : List Value))).toArray) :: (r.bl ++ R)))]
  have m2 : (x2.map bv).length = 32 := by rw [List.length_map, s2]
  obtain ⟨cs, hcs⟩ : ∃ cs, cs = [Value.int .u64 (x1 : Int)] ++ (x2.map bv ++ ([] : List Value)) := ⟨_, rfl⟩
  have hlen : cs.length = 33 := by rw [hcs]; simp [s2]
  have hrep : ∀ C, repMO C cs ⟨x1, x2⟩ := fun C => ⟨by rw [hcs, List.append_nil]; rfl, r2, s2⟩
  have hone : ∀ u ∈ cs, u.oneCell' = true := fun u hu => by
    rw [hcs, List.append_nil] at hu
    rcases List.mem_cons.1 hu with rfl | hu
    · rfl
    · exact ones_bv x2 u hu
  refine sP (.pointer (some ⟨g6, 1, none⟩)) <| sw 3 rfl cs.toArray (by rw [hcs]; exact wM 37 [Value.int .u64 (x1 : Int)] Z32 (x2.map bv) [] 32 1 _ _ rfl kR kR kR rfl Z32_len m2 (ones_bv x2)) ?_
  refine Sy.nil ?_
  refine Sy.then_ ?_
  obtain ⟨ys, t1, t2, t3⟩ := y5
  refine Sy.region ?_
  refine sP (.pointer (some ⟨g3, 1, none⟩)) <| sS r.v (qc 2 1 rfl rfl Tryz.underlying69) <| sS (.agg cs.toArray) (Quiet.mid 3 g6 0 33 108 108 cs cs _ _ rfl kR rfl Tryz.underlying108 rfl kR (by rw [List.drop_zero, List.take_of_length_le (by omega)]) (by omega)) ?_
  refine Sy.make kR 108 cs.toArray (fun g => .slice (some ⟨g, 0, none⟩) 1 1) (Makes.one 69 108 _ _ 33 _ cs rfl kR Tryz.underlying69 info_mo rfl rfl hlen (by decide) (by decide)) (fun g7 => ?_)
  refine Sy.movT (pre := [(gr, 186, rrC sl a4 e4), (g2, 71, #[.int .u64 0, .slice none 0 0]), (g3, 71, #[.int .u64 (x0 : Int), r.v]), (g6, 108, cs.toArray)]) (T := r.bl ++ R) ?_
  refine Sy.appendR (pre := [(gr, 186, rrC sl a4 e4), (g2, 71, #[.int .u64 0, .slice none 0 0]), (g3, 71, #[.int .u64 (x0 : Int), r.v]), (g6, 108, cs.toArray), (g7, 108, cs.toArray)]) (T := R) kR 69 108 _ _ 33 40 Tryz.underlying69 info_mo rfl rfl rfl rfl (by decide) _ _ rfl t1 kR cs hlen hone 4 g7 108 kR kR (by omega) (by simp only [maxLen]; omega) (fun r' hr' => ?_)
  refine sP (.pointer (some ⟨g3, 1, none⟩)) <| sw 2 rfl #[.int .u64 (x0 : Int), r'.v] (Writes.one 1 69 r'.v _ _ rfl kR kR kR hr'.cells.1 hr'.cells.2 (Nat.lt_succ_self 1) kR) ?_
  refine Sy.nil ?_
  refine Sy.in_ ?_
  refine Sy.then_ ?_
  refine Sy.region ?_
  refine sp rfl <| sS (.int .i64 ((i + 1 : Nat) : Int)) (Quiet.pure (exec_int .add _ _ _ .i64 _ _ _ rfl rfl rfl (int_add _ _ _ _ _ ((wrap_i64 (by omega) (by omega)).trans (by omega))))) <| sp rfl ?_
  refine Sy.nil ?_
  exact Sy.againT ⟨a4, e4, xs ++ [⟨x1, x2⟩], r'⟩ l1 ⟨y1.snoc (r1.bind (s1.bind (After.ret _ _))), s3, s4, by show (xs ++ [_]).length = _; rw [List.length_append, y4]; rfl, RowsOk.add (rep := repMO) t2 t3 hr' (hrep _)⟩ (all_cons kR (all_cons kR (all_cons kR (all_cons kR (all_cons kR all_nil))))) (fun w h => Sy.St.parts (L := [(gr, 186, rrC sl a4 e4), (g2, 71, #[.int .u64 0, .slice none 0 0]), (g3, 71, #[.int .u64 (x0 : Int), r'.v]), (g6, 108, cs.toArray), (g7, 108, cs.toArray)] ++ (r'.bl ++ R)) (ls := [[(gr, 186, rrC sl a4 e4), (g2, 71, #[.int .u64 0, .slice none 0 0]), (g3, 71, #[.int .u64 (x0 : Int), r'.v])], [(g6, 108, cs.toArray), (g7, 108, cs.toArray)], r'.bl ++ R]) (ms := [[(gr, 186, rrC sl a4 e4), (g2, 71, #[.int .u64 0, .slice none 0 0]), (g3, 71, #[.int .u64 (x0 : Int), r'.v])], r'.bl ++ R]) [[(g6, 108, cs.toArray), (g7, 108, cs.toArray)]] [0, 2, 1] (by kernel_rfl) (by rfl) (by simp) (by simp) h)

theorem readR_mtx {α : Type} {rep : Rdr → List Value → α → Prop} {p : Ps α} (hp : ∀ (w0 : Base) (gr : Nat) (sl : Value) (b : Byt) (at_ e : Nat) (R : Blocks), at_ ≤ b.length → e ≤ 200 → b.length ≤ 70368744177664 → BytR (rdW w0.world) sl b → ∀ w, St w0 w (RB gr sl at_ e R) → Calls Tryz.prog 73 #[ptr gr] w (Turns w0 (Rfd p (rowV 2 rep) gr sl b R at_ e))) (w : World) (v : Value) (b : Byt) (hv : BytR (rdW w) v b) (hl : b.length ≤ 70368744177664) :
    Calls Tryz.prog 33 #[v] w (GetsN w (RdE 2 ([Value.int .u64 0] ++ [Value.slice none 0 0]) rep (allP p b))) := by
  refine Sy.enter (args := [v]) Tryz.func33 rfl kL ?_
  refine sC ?_
  refine sM 71 ([Value.int .u64 0] ++ [Value.slice none 0 0]).toArray (fun g2 => ?_)
  refine sP (.int .i64 0) ?_
  refine sA ?_
  refine sp rfl ?_
  refine Sy.callN kR 51 #[v] kF _ (fun w' hw => beginR_any w' v b (hv.at hw)) (fun u M hM => ?_)
  obtain ⟨gr, rfl, rfl⟩ := hM
  refine sp rfl ?_
  refine sA ?_
  refine Sy.permS (M := RB gr v 0 0 [(g2, 71, ([Value.int .u64 0] ++ [Value.slice none 0 0]).toArray)]) (Sy.perm_at [1, 0] (by kernel_rfl) (by rfl)) ?_
  refine sp rfl ?_
  refine Sy.callT (fun w' hw => hp (Base.of w) gr v b 0 0 [(g2, 71, ([Value.int .u64 0] ++ [Value.slice none 0 0]).toArray)] (Nat.zero_le _) (Nat.zero_le _) hl hv w' hw) (fun u M hM => ?_)
  obtain ⟨x, a2, e2, N, q1, ⟨cs, rfl, q2, q3, q4⟩, q5, q6, rfl⟩ := hM
  obtain ⟨o1, o2⟩ := all_of q1
  refine sM 71 ([Value.int .u64 0] ++ [Value.slice none 0 0]).toArray (fun g5 => ?_)
  refine Sy.movT (pre := [(gr, 186, rrC v a2 e2), (g2, 71, ([Value.int .u64 0] ++ [Value.slice none 0 0]).toArray)]) (T := N) ?_
  refine sw 2 rfl cs.toArray (Writes.row 71 cs 2 _ _ rfl kR kR kR q2 (by kernel_rfl) q3) ?_
  refine sG ?_
  refine Sy.seq ?_
  refine sC ?_
  refine sp rfl ?_
  refine Sy.callT (fun w' hw => endedR_any (Base.of w) gr v b a2 e2 ((g2, 71, ([Value.int .u64 0] ++ [Value.slice none 0 0]).toArray) :: (g5, 71, cs.toArray) :: N) q6 q5 hl hv w' hw) (fun u M hM => ?_)
  obtain ⟨rfl, rfl⟩ := hM
  obtain ⟨f, hf⟩ : ∃ f, f = if endN b a2 e2 ≠ 0 then 120 else 0 := ⟨_, rfl⟩
  rw [← hf]
  have hfl : f ≤ 200 := by rw [hf]; split <;> omega
  obtain ⟨b1, hb1⟩ : ∃ z : Bool, z = decide (f ≠ 0) := ⟨_, rfl⟩
  refine sS (.bool b1) (Quiet.pure (exec_int .neq _ _ _ .i64 _ _ _ rfl rfl rfl (int_neq _ _ _ _ _ (by rw [hb1]; exact decide_eq_decide.2 (by omega))))) ?_
  refine sG ?_
  cases b1
  · have l1 : f = 0 := Decidable.of_not_not (of_decide_eq_false hb1.symm)
    have l2 : endN b a2 e2 = 0 := by
      rw [hf] at l1
      by_cases h : endN b a2 e2 = 0
      · exact h
      · rw [if_pos h] at l1; cases l1
    have l3 : e2 = 0 ∧ b.drop a2 = [] := by
      unfold endN at l2
      by_cases h : e2 = 0 ∧ a2 < b.length
      · rw [if_pos h] at l2; cases l2
      · rw [if_neg h] at l2
        exact ⟨l2, List.drop_eq_nil_of_le (by omega)⟩
    refine sU ?_
    refine Sy.skip ?_
    refine sB ?_
    refine sS (.agg cs.toArray) (Quiet.mid 2 g5 0 2 71 71 cs cs _ _ rfl kR rfl Tryz.underlying71 rfl kR (by rw [List.drop_zero, List.take_of_length_le (by omega)]) (by omega)) <| sw 1 rfl cs.toArray (Writes.row 71 cs 2 _ _ rfl kR kR kR q2 (by kernel_rfl) q3) <| sP (.int .i64 0) ?_
    refine sG ?_
    refine Sy.ret ?_
    exact Sy.retGM2 N rfl (.inl (Sy.Res.cell (ty' := 71) g2 1 cs.toArray _ (by kernel_rfl) rfl Tryz.underlying71 rfl (by rw [List.size_toArray, q2]; kernel_rfl) rfl)) (.inl (show _ = _ by kernel_rfl)) (fun _ h => h.less (((List.sublist_cons_self (g5, 71, cs.toArray) N).cons (g2, 71, cs.toArray)).cons (gr, 186, rrC v a2 e2))) (.inl ⟨x, cs, o1 l3.1 l3.2, rfl, q2, q4⟩)
  · have l1 : f ≠ 0 := of_decide_eq_true hb1.symm
    have l3 : e2 ≠ 0 ∨ b.drop a2 ≠ [] := by
      by_cases h : e2 = 0 ∧ a2 < b.length
      · refine .inr (fun e => ?_)
        have := congrArg List.length e
        rw [List.length_drop] at this
        simp at this; omega
      · refine .inl (fun e => l1 ?_)
        rw [hf]; unfold endN; rw [if_neg h, e]; rfl
    refine sT ?_
    refine sC ?_
    refine sP (.agg ([Value.int .u64 0] ++ [Value.slice none 0 0]).toArray) <| sw 1 rfl ([Value.int .u64 0] ++ [Value.slice none 0 0]).toArray (wA rfl) <| sP (.int .i64 120) ?_
    refine sG ?_
    refine Sy.ret ?_
    refine Sy.then_ret ?_
    exact Sy.retGM2 [] rfl (.inl (Sy.Res.cell (ty' := 71) g2 1 ([Value.int .u64 0] ++ [Value.slice none 0 0]).toArray _ (by kernel_rfl) rfl Tryz.underlying71 rfl (by kernel_rfl) rfl)) (.inl (show _ = _ by kernel_rfl)) (fun _ h => h.none) (.inr ⟨o2 l3, rfl, rfl⟩)
end Go.Proofs.YtgemfpnlnipfnaaGreat.Wr

end
section
namespace Go.Proofs.YtgemfpnlnipfnaaGreat.Wr
open Go.RowKit Go.Proofs.YtgemfpnlnipfnaaGreat Go.Proofs.YtgemfpnlnipfnaaGreat.Sy
set_option maxRecDepth 100000
set_option maxHeartbeats 4000000

abbrev WB (gw : Nat) (bad : Bool) (s : Slc) (R : Blocks) : Blocks := [(gw, 99, #[s.v, .bool bad])] ++ (s.bl ++ R)
theorem inWB {gw : Nat} {bad : Bool} {s : Slc} {R : Blocks} {x : Nat × TypeId × Array Value} (h : x ∈ R) : x ∈ WB gw bad s R := List.mem_append_right _ (List.mem_append_right _ h)
theorem dropW {w0 : Base} {gw : Nat} {bad : Bool} {s : Slc} {R X : Blocks} {w : World} (h : St w0 w (WB gw bad s (R ++ X))) : St w0 w (WB gw bad s R) := h.less ((List.Sublist.refl _).append ((List.Sublist.refl _).append (List.sublist_append_left _ _)))
def WRw (gw : Nat) (bad : Bool) (b x : Byt) (R : Blocks) (_ : Value) (M : Blocks) : Prop := ∃ r, BS r (b ++ x) ∧ M = WB gw bad r R
def Wd (gw : Nat) (R : Blocks) (ok : Bool) (e : Byt) (k : Nat) (bad : Bool) (b : Byt) (_ : Value) (M : Blocks) : Prop := ∃ s' bad' b', Wrote ok e k bad b bad' b' ∧ BS s' b' ∧ M = WB gw bad' s' R
theorem wrawW_any (w0 : Base) (gw : Nat) (bad : Bool) (s : Slc) (R : Blocks) (b : Byt) (v : Value) (x : Byt) (hb : BS s b) (hx : BytR (rdC w0 R) v x) (hl : b.length + x.length ≤ 70368744177664) (w : World) (hw : St w0 w (WB gw bad s R)) :
    Calls Tryz.prog 120 #[ptr gw, v] w (Turns w0 (WRw gw bad b x R)) := by
  have hx0 := hx
  obtain ⟨A, n, cp, rfl, h2, h3, h4, h5⟩ := hx
  refine Sy.enterT (args := [ptr gw, .slice A n cp]) hw Tryz.func120 rfl kL ?_
  refine Sy.region ?_
  refine sp rfl <| sp rfl <| sp rfl <| sP (.pointer (some ⟨gw, 0, none⟩)) <| sS s.v (qc 0 0 rfl rfl Tryz.underlying27) <| sp rfl ?_
  refine Sy.appendM (pre := [(gw, 99, #[s.v, .bool bad])]) (T := R) kR 27 5 _ _ 1 1 Tryz.underlying27 Cu.info_u8 rfl rfl rfl rfl (by decide) _ _ rfl hb kR (byL_one x) (byL_oneC x) A n cp (by rw [byL_len, h2]) h3 kR (fun r => BytR.from (w0 := w0.inn) hx0 (fun y hy => List.mem_append_right _ (List.mem_append_right _ hy))) (by rw [byL_len]; omega) (by rw [byL_len]; simp only [maxLen]; omega) (fun r hr => ?_)
  have hr' : BS r (b ++ x) := by show r.Is 5 1 _; rw [byL_app]; exact hr
  refine sp rfl <| sP (.pointer (some ⟨gw, 0, none⟩)) <| sw 0 rfl #[r.v, .bool bad] (Writes.one 0 27 r.v _ _ rfl kR kR kR hr.cells.1 hr.cells.2 (Nat.succ_pos _) kR) ?_
  refine Sy.nil ?_
  exact Sy.retT0 rfl (WB gw bad r R) (fun _ h => h) (fun _ => ⟨r, hr', rfl⟩)
theorem numW_any (w0 : Base) (gw : Nat) (bad : Bool) (s : Slc) (R : Blocks) (b : Byt) (n k : Nat) (hn : n < 18446744073709551616) (hk : k ≤ 8) (hb : BS s b) (hl : b.length + 8 ≤ 70368744177664) (w : World) (hw : St w0 w (WB gw bad s R)) :
    Calls Tryz.prog 95 #[ptr gw, .int .u64 (n : Int), .int .i64 (k : Int)] w (Turns w0 (WRw gw bad b (nb k n) R)) := by
  refine Sy.enterT (args := [ptr gw, .int .u64 (n : Int), .int .i64 (k : Int)]) hw Tryz.func95 rfl kL ?_
  refine Sy.region ?_
  refine sp rfl <| sp rfl <| sp rfl ?_
  refine Sy.callN kR 152 #[.int .u64 (n : Int), .int .i64 (k : Int)] kF _ (fun w' _ => numberR_any w' n k hn hk) (fun u M hM => ?_)
  refine Sy.permS (M := WB gw bad s (R ++ M)) (List.Perm.of_eq (by simp only [List.append_assoc])) ?_
  refine Sy.callT (fun w hw => wrawW_any w0.inn gw bad s (R ++ M) b u (nb k n) hb (hM.byt.le (fun g o v h => .inr (rdB_le (fun x hx => List.mem_append_right _ hx) g o v h))) (by rw [nb_len]; omega) w hw) (fun v M2 hM2 => ?_)
  obtain ⟨r, hr, rfl⟩ := hM2
  refine Sy.nil ?_
  exact Sy.retT0 rfl (WB gw bad r R) (fun _ h => dropW h) (fun _ => ⟨r, hr, rfl⟩)
theorem textD_any (w : World) (x : Byt) (hx : x.length = 32) : Calls Tryz.prog 166 #[.agg (x.map bv).toArray] w (GetsN w (ByN x)) := by
  have hxl : (x.map bv).length = 32 := by rw [List.length_map, hx]
  refine Sy.enter (args := [.agg (x.map bv).toArray]) Tryz.func166 rfl kL ?_
  refine sC ?_
  refine sM 37 (x.map bv).toArray (fun g1 => ?_) kR (fun w => run_boxR rfl rfl (by kernel_rfl) hxl w)
  refine sP (.slice none 0 0) ?_
  refine sA ?_
  refine sP (.slice none 0 0) ?_
  refine sG ?_
  refine Sy.seq ?_
  refine sC ?_
  refine sP (.int .i64 0) ?_
  refine sG ?_
  refine Sy.block ?_
  refine Sy.loopT (Y := Slc) 32 (fun i y => [(1, ptr g1), (3, y.v), (4, .int .i64 (i : Int))]) (fun i y => [(g1, 37, (x.map bv).toArray)] ++ (y.bl ++ [])) (fun i y => BS y (x.take i)) nilS BS.nil (all_cons kR (all_cons kR (all_cons kR all_nil))) (fun _ h => h) (fun i r hi hs => ?_)
  dsimp only at hs ⊢
  refine Sy.seq ?_
  refine sC ?_
  obtain ⟨b2, hb2⟩ : ∃ z : Bool, z = decide (i < 32) := ⟨_, rfl⟩
  refine sp rfl <| sS (.bool b2) (Quiet.pure (exec_int .lss _ _ _ .i64 _ _ _ rfl rfl rfl (int_lss _ _ _ _ _ (by rw [hb2]; exact decide_eq_decide.2 (by omega))))) ?_
  refine sG ?_
  cases b2
  case' false =>
    have l2 : ¬ i < 32 := of_decide_eq_false hb2.symm
    obtain rfl : i = 32 := by omega
    rw [List.take_of_length_le (by omega)] at hs
    refine sU ?_
    refine Sy.exit ?_
    refine Sy.then_exit ?_
    refine Sy.then_exit ?_
    refine Sy.in_exit ?_
    refine Sy.then_ ?_
    refine sC ?_
    refine sp rfl <| sp rfl ?_
    refine sG ?_
    refine Sy.ret ?_
    exact Sy.retGM r.bl rfl (.inl (show _ = _ by kernel_rfl)) (fun _ h => by rw [List.append_nil] at h; exact h.less (List.sublist_cons_self _ _)) hs.as
  have l2 : i < 32 := of_decide_eq_true hb2.symm
  obtain ⟨u, hu⟩ : ∃ u, x[i]? = some u := ⟨_, List.getElem?_eq_getElem (by omega)⟩
  refine sT ?_
  refine Sy.skip ?_
  refine Sy.then_ ?_
  refine Sy.seq ?_
  refine Sy.block ?_
  refine Sy.region ?_
  refine sp rfl <| sp rfl <| sS (.pointer (some ⟨g1, 0 + i * 1, none⟩)) (Quiet.pure (exec_atA 37 _ _ _ g1 0 _ i 1 .i64 rfl rfl rfl Tryz.underlying37 kF l2)) <| sS (bv u) (Quiet.cell 0 g1 (0 + i * 1) 37 5 (x.map bv).toArray _ _ rfl kR rfl Tryz.underlying5 rfl _ (by rw [Nat.zero_add, Nat.mul_one, List.getElem?_toArray, List.getElem?_map, hu]; rfl)) ?_
  refine Sy.make kR 5 #[bv u] (fun g => .slice (some ⟨g, 0, none⟩) 1 1) kF (fun g2 => ?_)
  refine Sy.movT (pre := [(g1, 37, (x.map bv).toArray)]) (T := r.bl ++ []) ?_
  refine Sy.appendR (pre := [(g1, 37, (x.map bv).toArray), (g2, 5, #[bv u])]) (T := []) kR 27 5 _ _ 1 1 Tryz.underlying27 Cu.info_u8 rfl rfl rfl rfl (by decide) _ _ rfl hs kR [bv u] rfl (fun u hu => by rw [List.mem_singleton.1 hu]; rfl) 1 g2 5 kR kR (by rw [byL_len, List.length_take]; omega) (by rw [byL_len, List.length_take]; simp only [maxLen]; omega) (fun r' hr => ?_)
  refine sp rfl ?_
  refine Sy.nil ?_
  refine Sy.in_ ?_
  refine Sy.then_ ?_
  refine Sy.region ?_
  refine sp rfl <| sS (.int .i64 ((i + 1 : Nat) : Int)) (Quiet.pure (exec_int .add _ _ _ .i64 _ _ _ rfl rfl rfl (int_add _ _ _ _ _ ((wrap_i64 (by omega) (by omega)).trans (by omega))))) <| sp rfl ?_
  refine Sy.nil ?_
  have hr' : BS r' (x.take (i + 1)) := by
    show r'.Is 5 1 _
    rw [List.take_add_one, hu, show byL (x.take i ++ (some u).toList) = byL (x.take i) ++ [[bv u]] from byL_app _ _]
    exact hr
  exact Sy.againT r' l2 hr' (all_cons kR (all_cons kR (all_cons kR all_nil))) (fun w h => h.less ((List.sublist_cons_self (g2, 5, #[bv u]) (r'.bl ++ [])).cons_cons (g1, 37, (x.map bv).toArray)))
theorem digW_any (w0 : Base) (gw : Nat) (bad : Bool) (s : Slc) (R : Blocks) (b : Byt) (x : Byt) (hx : x.length = 32) (hb : BS s b) (hl : b.length + 32 ≤ 70368744177664) (w : World) (hw : St w0 w (WB gw bad s R)) :
    Calls Tryz.prog 109 #[ptr gw, .agg (x.map bv).toArray] w (Turns w0 (WRw gw bad b x R)) := by
  have hxl : (x.map bv).length = 32 := by rw [List.length_map, hx]
  refine Sy.enterT (args := [ptr gw, .agg (x.map bv).toArray]) hw Tryz.func109 rfl kL ?_
  refine sC ?_
  refine sM 37 (x.map bv).toArray (fun g3 => ?_) kR (fun w => run_boxR rfl rfl (by kernel_rfl) hxl w)
  refine Sy.permS (M := WB gw bad s (R ++ [(g3, 37, (x.map bv).toArray)])) (List.Perm.of_eq (by simp only [List.append_assoc])) ?_
  refine Sy.nil ?_
  refine Sy.then_ ?_
  refine Sy.region ?_
  refine sp rfl <| sS (.agg (x.map bv).toArray) (rowC (R := [(g3, 37, (x.map bv).toArray)]) (g := g3) (f := 0) (k := 32) (cs := x.map bv) (fun i u hu => .inr ⟨_, _, List.mem_singleton.2 rfl, by rw [Nat.zero_add, List.getElem?_toArray]; exact hu⟩) (fun y hy => inWB (List.mem_append_right R hy)) hxl rfl Tryz.underlying37) ?_
  refine Sy.callN kR 166 #[.agg (x.map bv).toArray] kF _ (fun w' _ => textD_any w' x hx) (fun u M hM => ?_)
  refine Sy.permS (M := WB gw bad s (R ++ ([(g3, 37, (x.map bv).toArray)] ++ M))) (List.Perm.of_eq (by simp only [List.append_assoc])) ?_
  refine Sy.callT (fun w hw => wrawW_any w0.inn gw bad s (R ++ ([(g3, 37, (x.map bv).toArray)] ++ M)) b u x hb (hM.byt.le (fun g o v h => .inr (rdB_le (fun y hy => List.mem_append_right _ (List.mem_append_right _ hy)) g o v h))) (by omega) w hw) (fun v M2 hM2 => ?_)
  obtain ⟨r, hr, rfl⟩ := hM2
  refine Sy.nil ?_
  exact Sy.retT0 rfl (WB gw bad r R) (fun _ h => dropW h) (fun _ => ⟨r, hr, rfl⟩)
theorem mustW_any (w0 : Base) (gw : Nat) (bad ok : Bool) (s : Slc) (R : Blocks) (w : World) (hw : St w0 w (WB gw bad s R)) :
    Calls Tryz.prog 112 #[ptr gw, .bool ok] w (Turns w0 (fun _ M => M = WB gw (bad || !ok) s R)) := by
  refine Sy.enterT (args := [ptr gw, .bool ok]) hw Tryz.func112 rfl kL ?_
  refine sC ?_
  refine sp rfl <| sP (.bool (!ok)) ?_
  refine sG ?_
  cases ok
  · rw [show (bad || !false) = true by cases bad <;> rfl]
    refine sT ?_
    refine Sy.region ?_
    refine sp rfl <| sp rfl <| sP (.pointer (some ⟨gw, 1, none⟩)) <| sw 0 rfl #[s.v, .bool true] (wO 1 4 (.bool true) rfl) ?_
    refine Sy.nil ?_
    exact Sy.retT0 (R := fun _ M => M = WB gw true s R) rfl (WB gw true s R) (fun _ h => h) (fun _ => rfl)
  · rw [show (bad || !true) = bad by cases bad <;> rfl]
    refine sU ?_
    refine Sy.skip ?_
    exact Sy.retT0 (R := fun _ M => M = WB gw bad s R) rfl (WB gw bad s R) (fun _ h => h) (fun _ => rfl)
theorem manyW_any (w0 : Base) (gw : Nat) (bad : Bool) (s : Slc) (R : Blocks) (b : Byt) (n most : Nat) (hn : n ≤ 1000000000000) (hm : most ≤ 1000000) (hb : BS s b) (hl : b.length + 9 ≤ 70368744177664) (w : World) (hw : St w0 w (WB gw bad s R)) :
    Calls Tryz.prog 96 #[ptr gw, .int .i64 (n : Int), .int .i64 (most : Int)] w (Turns w0 (Wd gw R (decide (n ≤ most)) (varB n) 9 bad b)) := by
  refine Sy.enterT (args := [ptr gw, .int .i64 (n : Int), .int .i64 (most : Int)]) hw Tryz.func96 rfl kL ?_
  refine sC ?_
  obtain ⟨ok, hok⟩ : ∃ z : Bool, z = decide (n ≤ most) := ⟨_, rfl⟩
  rw [← hok]
  refine sp rfl <| sp rfl <| sp rfl <| sS (.bool ok) (Quiet.pure (exec_int .leq _ _ _ .i64 _ _ _ rfl rfl rfl (int_leq _ _ _ _ _ (by rw [hok]; exact decide_eq_decide.2 (by omega))))) ?_
  refine Sy.callT (fun w hw => mustW_any w0.inn gw bad ok s R w hw) (fun v M hM => ?_)
  subst hM
  refine Sy.nil ?_
  refine Sy.then_ ?_
  refine Sy.region ?_
  refine sp rfl <| sp rfl <| sS (.int .u64 (n : Int)) (Quiet.pure (fun w => conv_i6 w _ _ _ n (by omega) rfl rfl)) ?_
  refine Sy.callN kR 153 #[.int .u64 (n : Int)] kF _ (fun w' _ => varR_any w' n (by omega)) (fun u M hM => ?_)
  refine Sy.permS (M := WB gw (bad || !ok) s (R ++ M)) (List.Perm.of_eq (by simp only [List.append_assoc])) ?_
  have hvl := varB_len n
  refine Sy.callT (fun w hw => wrawW_any w0.inn gw (bad || !ok) s (R ++ M) b u (varB n) hb (hM.byt.le (fun g o v h => .inr (rdB_le (fun x hx => List.mem_append_right _ hx) g o v h))) (by omega) w hw) (fun v M2 hM2 => ?_)
  obtain ⟨r, hr, rfl⟩ := hM2
  refine Sy.nil ?_
  have q := (Wrote.must ok bad b).then_ (Wrote.raw (varB n) (bad || !ok) b hvl)
  rw [Bool.and_true] at q
  exact Sy.retT0 rfl (WB gw (bad || !ok) r R) (fun _ h => dropW h) (fun _ => ⟨r, bad || !ok, b ++ varB n, q, hr, rfl⟩)
theorem doneW_any (w0 : Base) (gw : Nat) (bad : Bool) (s : Slc) (R : Blocks) (w : World) (hw : St w0 w (WB gw bad s R)) :
    Calls Tryz.prog 49 #[ptr gw] w (Turns w0 (fun v M => v = (if bad = true then .tuple #[.slice none 0 0, .int .i64 120] else .tuple #[s.v, .int .i64 0]) ∧ M = WB gw bad s R)) := by
  refine Sy.enterT (args := [ptr gw]) hw Tryz.func49 rfl kL ?_
  refine sC ?_
  refine sP (.slice none 0 0) <| sP (.int .i64 0) ?_
  refine sG ?_
  refine Sy.seq ?_
  refine sC ?_
  refine sp rfl <| sp rfl <| sP (.pointer (some ⟨gw, 1, none⟩)) <| sS (.bool bad) (qc 0 1 rfl rfl Tryz.underlying4) ?_
  refine sG ?_
  cases bad
  · rw [if_neg (by decide)]
    refine sU ?_
    refine Sy.skip ?_
    refine sB ?_
    refine sp rfl <| sp rfl <| sP (.pointer (some ⟨gw, 0, none⟩)) <| sS s.v (qc 0 0 rfl rfl Tryz.underlying27) <| sp rfl <| sP (.int .i64 0) ?_
    refine sG ?_
    refine Sy.ret ?_
    exact Sy.retT2 (WB gw false s R) rfl (.inl (show _ = _ by kernel_rfl)) (.inl (show _ = _ by kernel_rfl)) (fun _ h => h) ⟨rfl, rfl⟩
  · rw [if_pos rfl]
    refine sT ?_
    refine sC ?_
    refine sP (.slice none 0 0) <| sP (.int .i64 120) ?_
    refine sG ?_
    refine Sy.ret ?_
    refine Sy.then_ret ?_
    exact Sy.retT2 (WB gw true s R) rfl (.inl (show _ = _ by kernel_rfl)) (.inl (show _ = _ by kernel_rfl)) (fun _ h => h) ⟨rfl, rfl⟩
theorem mhdW_any (w0 : Base) (gw : Nat) (bad : Bool) (s : Slc) (R : Blocks) (b : Byt) (h : MHd) (h1 : h.prev.length = 32) (h2 : h.root.length = 32) (h3 : h.height < 18446744073709551616) (h4 : h.nonce < 18446744073709551616) (hb : BS s b) (hl : b.length + 80 ≤ 70368744177664) (w : World) (hw : St w0 w (WB gw bad s R)) :
    Calls Tryz.prog 78 #[ptr gw, .agg (h.prev.map bv ++ (h.root.map bv ++ [Value.int .u64 (h.height : Int), Value.int .u64 (h.nonce : Int)])).toArray] w (Turns w0 (WRw gw bad b (encMH h) R)) := by
  obtain ⟨cs, hcs⟩ : ∃ cs, cs = h.prev.map bv ++ (h.root.map bv ++ [Value.int .u64 (h.height : Int), .int .u64 (h.nonce : Int)]) := ⟨_, rfl⟩
  have m1 : (h.prev.map bv).length = 32 := by rw [List.length_map, h1]
  have m2 : (h.root.map bv).length = 32 := by rw [List.length_map, h2]
  have hlen : cs.length = 66 := by rw [hcs, List.length_append, List.length_append, m1, m2]; rfl
  rw [← hcs]
  refine Sy.enterT (args := [ptr gw, .agg cs.toArray]) hw Tryz.func78 rfl kL ?_
  refine sC ?_
  refine sM 73 cs.toArray (fun g3 => ?_) kR (fun w => run_boxR rfl rfl (by kernel_rfl) hlen w)
  refine Sy.permS (M := WB gw bad s (R ++ [(g3, 73, cs.toArray)])) (List.Perm.of_eq (by simp only [List.append_assoc])) ?_
  have hX0 : ∀ l, l = cs → XAt (rdC w0.inn [(g3, 73, cs.toArray)]) g3 0 l := fun l e i u hu => .inr ⟨_, _, List.mem_singleton.2 rfl, by rw [Nat.zero_add, List.getElem?_toArray, ← e]; exact hu⟩
  have hX := hX0 _ hcs.symm
  have hX1 := hX.left
  have hX2 := (hX.right m1).left
  have hX3 := ((hX.right m1).right m2).one
  have hX4 := ((hX.right m1).right m2).tail.one
  refine sA ?_
  refine sp rfl <| sP (.pointer (some ⟨g3, 0, none⟩)) <| sS (.agg (h.prev.map bv).toArray) (rowC (R := [(g3, 73, cs.toArray)]) (g := g3) (f := 0) (k := 32) (cs := h.prev.map bv) hX1 (fun y hy => inWB (List.mem_append_right R hy)) m1 rfl Tryz.underlying37) ?_
  refine Sy.callT (fun w hw => digW_any w0.inn gw bad s (R ++ [(g3, 73, cs.toArray)]) b h.prev h1 hb (by omega) w hw) (fun v M hM => ?_)
  obtain ⟨r1, hr1, rfl⟩ := hM
  refine sA ?_
  refine sp rfl <| sP (.pointer (some ⟨g3, 0 + 32, none⟩)) <| sS (.agg (h.root.map bv).toArray) (rowC (R := [(g3, 73, cs.toArray)]) (g := g3) (f := 0 + 32) (k := 32) (cs := h.root.map bv) hX2 (fun y hy => inWB (List.mem_append_right R hy)) m2 rfl Tryz.underlying37) ?_
  refine Sy.callT (fun w hw => digW_any w0.inn gw bad r1 (R ++ [(g3, 73, cs.toArray)]) (b ++ h.prev) h.root h2 hr1 (by rw [List.length_append]; omega) w hw) (fun v M hM => ?_)
  obtain ⟨r2, hr2, rfl⟩ := hM
  refine sA ?_
  refine sp rfl <| sP (.pointer (some ⟨g3, 0 + 32 + 32, none⟩)) <| sS (.int .u64 (h.height : Int)) (cellC (R := [(g3, 73, cs.toArray)]) (g := g3) (f := 0 + 32 + 32) hX3 (fun y hy => inWB (List.mem_append_right R hy)) rfl Tryz.underlying22) ?_
  refine Sy.callT (fun w hw => numW_any w0.inn gw bad r2 (R ++ [(g3, 73, cs.toArray)]) (b ++ h.prev ++ h.root) h.height 8 h3 (by decide) hr2 (by rw [List.length_append, List.length_append]; omega) w hw) (fun v M hM => ?_)
  obtain ⟨r3, hr3, rfl⟩ := hM
  refine Sy.nil ?_
  refine Sy.then_ ?_
  refine Sy.region ?_
  refine sp rfl <| sP (.pointer (some ⟨g3, 0 + 32 + 32 + 1, none⟩)) <| sS (.int .u64 (h.nonce : Int)) (cellC (R := [(g3, 73, cs.toArray)]) (g := g3) (f := 0 + 32 + 32 + 1) hX4 (fun y hy => inWB (List.mem_append_right R hy)) rfl Tryz.underlying22) ?_
  refine Sy.callT (fun w hw => numW_any w0.inn gw bad r3 (R ++ [(g3, 73, cs.toArray)]) (b ++ h.prev ++ h.root ++ nb 8 h.height) h.nonce 8 h4 (by decide) hr3 (by rw [List.length_append, List.length_append, List.length_append, nb_len]; omega) w hw) (fun v M hM => ?_)
  obtain ⟨r4, hr4, rfl⟩ := hM
  refine Sy.nil ?_
  have e : b ++ encMH h = b ++ h.prev ++ h.root ++ nb 8 h.height ++ nb 8 h.nonce := by unfold encMH; simp only [List.append_assoc]
  exact Sy.retT0 rfl (WB gw bad r4 R) (fun _ h => dropW h) (fun _ => ⟨r4, by rw [e]; exact hr4, rfl⟩)
end Go.Proofs.YtgemfpnlnipfnaaGreat.Wr

end
section
namespace Go.Proofs.YtgemfpnlnipfnaaGreat.Wr
open Go.RowKit Go.Proofs.YtgemfpnlnipfnaaGreat Go.Proofs.YtgemfpnlnipfnaaGreat.Sy
set_option maxRecDepth 100000
set_option maxHeartbeats 4000000

theorem encMO_len {o : MOut} (h : o.claim.length = 32) : (encMO o).length = 40 := by unfold encMO; rw [List.length_append, nb_len, h]
theorem flat_mo {l : List MOut} (h : ∀ o ∈ l, o.claim.length = 32) : (l.flatMap encMO).length = 40 * l.length := by
  induction l with
  | nil => rfl
  | cons o l ih => rw [List.flatMap_cons, List.length_append, encMO_len (h o (List.mem_cons_self ..)), ih (fun x hx => h x (List.mem_cons_of_mem _ hx)), List.length_cons]; omega
theorem sum_40 (l : List MOut) : (l.map fun _ => 40).sum = 40 * l.length := by
  induction l with
  | nil => rfl
  | cons o l ih => rw [List.map_cons, List.sum_cons, ih, List.length_cons]; omega
theorem lst_all {α : Type} {C : Rdr} {k : Nat} {rep : Rdr → List Value → α → Prop} {v : Value} {l : List α} {q : α → Prop} (h : LstR C k rep v l) (hq : ∀ cs x, rep C cs x → q x) : ∀ x ∈ l, q x := by
  obtain ⟨A, n, cp, rfl, h2, h3, h4, h5⟩ := h
  intro x hx
  obtain ⟨g, o, rfl, h6⟩ := h5 (List.ne_nil_of_mem hx)
  obtain ⟨j, hj⟩ := List.getElem?_of_mem hx
  obtain ⟨cs, _, _, q3, _⟩ := h6 j x hj
  exact hq cs x q3
theorem mtxW_any (w0 : Base) (gw : Nat) (bad : Bool) (s : Slc) (R : Blocks) (b : Byt) (t : MTx) (v : Value) (h1 : t.nonce < 18446744073709551616) (h2 : LstR (rdW w0.world) 33 repMO v t.outs) (hb : BS s b) (hlo : t.outs.length ≤ 1000000000000) (hl : b.length + wtMT t ≤ 70368744170000) (w : World) (hw : St w0 w (WB gw bad s R)) :
    Calls Tryz.prog 71 #[ptr gw, .agg #[.int .u64 (t.nonce : Int), v]] w (Turns w0 (Wd gw R (okMT t) (encMT t) (wtMT t) bad b)) := by
  have hcl : ∀ o ∈ t.outs, o.claim.length = 32 := lst_all (q := fun o : MOut => o.claim.length = 32) h2 (fun cs x h => h.2.2)
  obtain ⟨A, n, cp, rfl, k2, k3, k4, k5⟩ := h2
  have hwt : wtMT t = 8 + (9 + 40 * t.outs.length) := by unfold wtMT; rw [sum_40]
  rw [hwt] at hl
  refine Sy.enterT (args := [ptr gw, .agg #[.int .u64 (t.nonce : Int), .slice A n cp]]) hw Tryz.func71 rfl kL ?_
  refine sC ?_
  refine sM 71 #[.int .u64 (t.nonce : Int), .slice A n cp] (fun g3 => ?_)
  refine Sy.permS (M := WB gw bad s (R ++ [(g3, 71, #[.int .u64 (t.nonce : Int), .slice A n cp])])) (List.Perm.of_eq (by simp only [List.append_assoc])) ?_
  have c0 : rdC w0.inn [(g3, 71, #[.int .u64 (t.nonce : Int), .slice A n cp])] g3 0 (.int .u64 (t.nonce : Int)) := .inr ⟨_, _, List.mem_singleton.2 rfl, rfl⟩
  have c1 : rdC w0.inn [(g3, 71, #[.int .u64 (t.nonce : Int), .slice A n cp])] g3 1 (.slice A n cp) := .inr ⟨_, _, List.mem_singleton.2 rfl, rfl⟩
  refine sA ?_
  refine sp rfl <| sP (.pointer (some ⟨g3, 0, none⟩)) <| sS (.int .u64 (t.nonce : Int)) (cellC (R := [(g3, 71, #[.int .u64 (t.nonce : Int), .slice A n cp])]) c0 (fun y hy => inWB (List.mem_append_right R hy)) rfl Tryz.underlying22) ?_
  refine Sy.callT (fun w hw => numW_any w0.inn gw bad s (R ++ [(g3, 71, #[.int .u64 (t.nonce : Int), .slice A n cp])]) b t.nonce 8 h1 (by decide) hb (by omega) w hw) (fun v M hM => ?_)
  obtain ⟨r1, hr1, rfl⟩ := hM
  have hl1 : (b ++ nb 8 t.nonce).length = b.length + 8 := by rw [List.length_append, nb_len]
  refine sA ?_
  refine sp rfl <| sP (.pointer (some ⟨g3, 1, none⟩)) <| sS (.slice A n cp) (cellC (R := [(g3, 71, #[.int .u64 (t.nonce : Int), .slice A n cp])]) c1 (fun y hy => inWB (List.mem_append_right R hy)) rfl Tryz.underlying69) <| sP (.int .i64 (n : Int)) ?_
  refine Sy.callT (fun w hw => manyW_any w0.inn gw bad r1 (R ++ [(g3, 71, #[.int .u64 (t.nonce : Int), .slice A n cp])]) (b ++ nb 8 t.nonce) n 16 (by omega) (by decide) hr1 (by omega) w hw) (fun v M hM => ?_)
  obtain ⟨s2, bad2, b2, q1, q2, rfl⟩ := hM
  have hl2 := q1.len
  refine sA ?_
  refine sP (.int .i64 0) ?_
  refine sG ?_
  refine Sy.block ?_
  refine Sy.loopT (Y := Slc) n (fun i _ => [(0, ptr gw), (3, ptr g3), (4, .int .i64 (i : Int))]) (fun _ y => WB gw bad2 y (R ++ [(g3, 71, #[.int .u64 (t.nonce : Int), .slice A n cp])])) (fun i y => BS y (b2 ++ (t.outs.take i).flatMap encMO)) s2 (by show BS s2 (b2 ++ []); rw [List.append_nil]; exact q2) (all_cons kR (all_cons kR (all_cons kR all_nil))) (fun _ h => h) (fun i y hi hy => ?_)
  refine Sy.seq ?_
  refine sC ?_
  obtain ⟨b3, hb3⟩ : ∃ z : Bool, z = decide (i < n) := ⟨_, rfl⟩
  refine sp rfl <| sP (.pointer (some ⟨g3, 1, none⟩)) <| sS (.slice A n cp) (cellC (R := [(g3, 71, #[.int .u64 (t.nonce : Int), .slice A n cp])]) c1 (fun y hy => inWB (List.mem_append_right R hy)) rfl Tryz.underlying69) <| sP (.int .i64 (n : Int)) <| sS (.bool b3) (Quiet.pure (exec_int .lss _ _ _ .i64 _ _ _ rfl rfl rfl (int_lss _ _ _ _ _ (by rw [hb3]; exact decide_eq_decide.2 (by omega))))) ?_
  refine sG ?_
  have htl : ((t.outs.take i).flatMap encMO).length ≤ 40 * i := by
    rw [flat_mo (fun o ho => hcl o (List.mem_of_mem_take ho)), List.length_take]; omega
  cases b3
  case' false =>
    have l3 : ¬ i < n := of_decide_eq_false hb3.symm
    obtain rfl : i = n := by omega
    rw [List.take_of_length_le (by omega)] at hy
    refine sU ?_
    refine Sy.exit ?_
    refine Sy.then_exit ?_
    refine Sy.then_exit ?_
    refine Sy.in_exit ?_
    have q := (Wrote.raw (nb 8 t.nonce) bad b (k := 8) (by rw [nb_len]; exact Nat.le_refl _)).then_ (q1.then_ (Wrote.raw (t.outs.flatMap encMO) bad2 b2 (k := 40 * t.outs.length) (by rw [flat_mo hcl]; exact Nat.le_refl _)))
    rw [Bool.true_and, Bool.and_true, ← k2] at q
    rw [hwt]
    exact Sy.retT0 rfl (WB gw bad2 y R) (fun _ h => dropW h) (fun _ => ⟨y, bad2, _, q, hy, rfl⟩)
  have l3 : i < n := of_decide_eq_true hb3.symm
  obtain ⟨x, hx⟩ : ∃ x, t.outs[i]? = some x := ⟨_, List.getElem?_eq_getElem (by omega)⟩
  obtain ⟨g, o, hA, hq⟩ := k5 (by intro e; rw [e] at hx; cases hx)
  obtain ⟨cs, _, _, ⟨rfl, x2, x3⟩, hX⟩ := hq i x hx
  have d0 : rdC w0.inn [] g (o + i * 33) (.int .u64 (x.value : Int)) := .inl hX.one
  have d1 : XAt (rdC w0.inn []) g (o + i * 33 + 1) (x.claim.map bv) := fun j u hu => .inl (hX.tail j u hu)
  have m1 : (x.claim.map bv).length = 32 := by rw [List.length_map, x3]
  have hyl : (b2 ++ (t.outs.take i).flatMap encMO).length ≤ b2.length + 40 * i := by rw [List.length_append]; omega
  refine sT ?_
  refine Sy.skip ?_
  refine Sy.then_ ?_
  refine Sy.seq ?_
  refine Sy.block ?_
  refine sC ?_
  refine sp rfl <| sP (.pointer (some ⟨g3, 1, none⟩)) <| sS (.slice A n cp) (cellC (R := [(g3, 71, #[.int .u64 (t.nonce : Int), .slice A n cp])]) c1 (fun y hy => inWB (List.mem_append_right R hy)) rfl Tryz.underlying69) <| sp rfl <| sS (.pointer (some ⟨g, o + i * 33, none⟩)) (Quiet.pure (exec_atO 69 _ _ _ A g o n cp i 33 .i64 hA rfl rfl rfl Tryz.underlying69 kF l3)) <| sP (.pointer (some ⟨g, o + i * 33, none⟩)) <| sS (.int .u64 (x.value : Int)) (cellC (R := []) d0 (fun y hy => by cases hy) rfl Tryz.underlying22) ?_
  refine Sy.callT (fun w hw => numW_any w0.inn gw bad2 y (R ++ [(g3, 71, #[.int .u64 (t.nonce : Int), .slice A n cp])]) _ x.value 8 x2 (by decide) hy (by omega) w hw) (fun v M hM => ?_)
  obtain ⟨r4, hr4, rfl⟩ := hM
  refine Sy.nil ?_
  refine Sy.then_ ?_
  refine Sy.region ?_
  refine sp rfl <| sP (.pointer (some ⟨g3, 1, none⟩)) <| sS (.slice A n cp) (cellC (R := [(g3, 71, #[.int .u64 (t.nonce : Int), .slice A n cp])]) c1 (fun y hy => inWB (List.mem_append_right R hy)) rfl Tryz.underlying69) <| sp rfl <| sS (.pointer (some ⟨g, o + i * 33, none⟩)) (Quiet.pure (exec_atO 69 _ _ _ A g o n cp i 33 .i64 hA rfl rfl rfl Tryz.underlying69 kF l3)) <| sP (.pointer (some ⟨g, o + i * 33 + 1, none⟩)) <| sS (.agg (x.claim.map bv).toArray) (rowC (R := []) d1 (fun y hy => by cases hy) m1 rfl Tryz.underlying37) ?_
  refine Sy.callT (fun w hw => digW_any w0.inn gw bad2 r4 (R ++ [(g3, 71, #[.int .u64 (t.nonce : Int), .slice A n cp])]) _ x.claim x3 hr4 (by rw [List.length_append, nb_len]; omega) w hw) (fun v M hM => ?_)
  obtain ⟨r5, hr5, rfl⟩ := hM
  refine Sy.nil ?_
  refine Sy.in_ ?_
  refine Sy.then_ ?_
  refine Sy.region ?_
  refine sp rfl <| sS (.int .i64 ((i + 1 : Nat) : Int)) (Quiet.pure (exec_int .add _ _ _ .i64 _ _ _ rfl rfl rfl (int_add _ _ _ _ _ ((wrap_i64 (by omega) (by omega)).trans (by omega))))) <| sp rfl ?_
  refine Sy.nil ?_
  have e : b2 ++ (t.outs.take (i + 1)).flatMap encMO = b2 ++ (t.outs.take i).flatMap encMO ++ nb 8 x.value ++ x.claim := by
    rw [List.take_add_one, hx, List.flatMap_append]
    show b2 ++ ((t.outs.take i).flatMap encMO ++ ((nb 8 x.value ++ x.claim) ++ [])) = _
    simp only [List.append_assoc, List.append_nil]
  exact Sy.againT r5 l3 (by show BS r5 (b2 ++ (t.outs.take (i + 1)).flatMap encMO); rw [e]; exact hr5) (all_cons kR (all_cons kR (all_cons kR all_nil))) (fun w h => h)
theorem mtxR_w (w : World) (t : MTx) (v : Value) (h1 : t.nonce < 18446744073709551616) (h2 : LstR (rdW w) 33 repMO v t.outs) (hlo : t.outs.length ≤ 1000000000) :
    Calls Tryz.prog 31 #[.agg #[.int .u64 (t.nonce : Int), v]] w (GetsN w (BytE (okMT t) (encMT t))) := by
  have h20 := h2
  obtain ⟨A, n, cp, rfl, k2, k3, k4, k5⟩ := h2
  have hwt : wtMT t ≤ 70368744160000 := by unfold wtMT; rw [sum_40]; omega
  refine Sy.enter (args := [.agg #[.int .u64 (t.nonce : Int), .slice A n cp]]) Tryz.func31 rfl kL ?_
  refine sC ?_
  refine sM 71 #[.int .u64 (t.nonce : Int), .slice A n cp] (fun g1 => ?_)
  refine sP (.slice none 0 0) <| sP (.int .i64 0) ?_
  refine sA ?_
  refine sP (.agg #[.slice none 0 0, .bool false]) <| sM 99 #[.slice none 0 0, .bool false] (fun gw => ?_)
  refine sp rfl ?_
  refine sA ?_
  refine Sy.permS (M := WB gw false nilS [(g1, 71, #[.int .u64 (t.nonce : Int), .slice A n cp])]) (Sy.perm_at [1, 0] (by kernel_rfl) (by rfl)) ?_
  refine sp rfl <| sS (.agg #[.int .u64 (t.nonce : Int), .slice A n cp]) (qk 1 0 2 rfl rfl Tryz.underlying71) ?_
  refine Sy.callT (fun w' hw => mtxW_any (Base.of w) gw false nilS [(g1, 71, #[.int .u64 (t.nonce : Int), .slice A n cp])] [] t (.slice A n cp) h1 h20 BS.nil (by omega) (by show 0 + _ ≤ _; omega) w' hw) (fun u M hM => ?_)
  obtain ⟨s', bad, b', q1, q2, rfl⟩ := hM
  have qb := q1.bad
  refine sA ?_
  refine sp rfl ?_
  refine Sy.callT (fun w' hw => doneW_any (Base.of w) gw bad s' [(g1, 71, #[.int .u64 (t.nonce : Int), .slice A n cp])] w' hw) (fun u M hM => ?_)
  obtain ⟨rfl, rfl⟩ := hM
  cases bad
  · have hok : okMT t = true := by
      cases h : okMT t with
      | true => rfl
      | false => rw [h] at qb; cases qb
    have hbb : b' = encMT t := q1.bytes rfl
    rw [if_neg (by decide)]
    refine sp rfl <| sp rfl <| sp rfl <| sp rfl ?_
    refine sG ?_
    refine Sy.ret ?_
    exact Sy.retGM2 s'.bl rfl (.inl (show _ = _ by kernel_rfl)) (.inl (show _ = _ by kernel_rfl)) (fun _ h => h.less ((List.sublist_append_left _ _).trans (List.sublist_append_right _ _))) (.inl ⟨hok, _, rfl, by rw [← hbb]; exact q2.as⟩)
  · have hok : okMT t = false := by
      cases h : okMT t with
      | false => rfl
      | true => rw [h] at qb; cases qb
    rw [if_pos rfl]
    refine sp rfl <| sp rfl <| sp rfl <| sp rfl ?_
    refine sG ?_
    refine Sy.ret ?_
    exact Sy.retGM2 [] rfl (.inl (show _ = _ by kernel_rfl)) (.inl (show _ = _ by kernel_rfl)) (fun _ h => h.none) (.inr ⟨hok, rfl, rfl⟩)
theorem mhdR_w (w : World) (h : MHd) (h1 : h.prev.length = 32) (h2 : h.root.length = 32) (h3 : h.height < 18446744073709551616) (h4 : h.nonce < 18446744073709551616) :
    Calls Tryz.prog 37 #[.agg (h.prev.map bv ++ (h.root.map bv ++ [Value.int .u64 (h.height : Int), Value.int .u64 (h.nonce : Int)])).toArray] w (GetsN w (ByN (encMH h))) := by
  obtain ⟨cs, hcs⟩ : ∃ cs, cs = h.prev.map bv ++ (h.root.map bv ++ [Value.int .u64 (h.height : Int), Value.int .u64 (h.nonce : Int)]) := ⟨_, rfl⟩
  have hlen : cs.length = 66 := by rw [hcs]; simp [h1, h2]
  have hw1 := fun (w' : World) (gw g1 : Nat) (hw : St (Base.of w) w' (WB gw false nilS [(g1, 73, cs.toArray)])) => mhdW_any (Base.of w) gw false nilS [(g1, 73, cs.toArray)] [] h h1 h2 h3 h4 BS.nil (by decide) w' hw
  rw [← hcs] at hw1 ⊢
  refine Sy.enter (args := [.agg cs.toArray]) Tryz.func37 rfl kL ?_
  refine sC ?_
  refine sM 73 cs.toArray (fun g1 => ?_) kR (fun w => run_boxR rfl rfl (by kernel_rfl) hlen w)
  refine sP (.slice none 0 0) ?_
  refine sA ?_
  refine sP (.agg #[.slice none 0 0, .bool false]) <| sM 99 #[.slice none 0 0, .bool false] (fun gw => ?_)
  refine sp rfl ?_
  refine sA ?_
  refine Sy.permS (M := WB gw false nilS [(g1, 73, cs.toArray)]) (Sy.perm_at [1, 0] (by kernel_rfl) (by rfl)) ?_
  refine sp rfl <| sS (.agg cs.toArray) (Quiet.mid 1 g1 0 66 73 73 cs cs _ _ rfl kR rfl Tryz.underlying73 rfl kR (by rw [List.drop_zero, List.take_of_length_le (by omega)]) (by omega)) ?_
  refine Sy.callT (fun w' hw => hw1 w' gw g1 hw) (fun u M hM => ?_)
  obtain ⟨r, hr, rfl⟩ := hM
  have hr' : BS r (encMH h) := hr
  refine sA ?_
  refine sp rfl <| sp rfl <| sP (.pointer (some ⟨gw, 0, none⟩)) <| sS r.v (qc 0 0 rfl rfl Tryz.underlying27) <| sp rfl ?_
  refine sG ?_
  refine Sy.ret ?_
  exact Sy.retGM r.bl rfl (.inl (show _ = _ by kernel_rfl)) (fun _ h => h.less ((List.sublist_append_left _ _).trans (List.sublist_append_right _ _))) hr'.as
end Go.Proofs.YtgemfpnlnipfnaaGreat.Wr

end
section
namespace Go.Proofs.YtgemfpnlnipfnaaGreat.Wr
open Go.RowKit Go.Proofs.YtgemfpnlnipfnaaGreat Go.Proofs.YtgemfpnlnipfnaaGreat.Sy
set_option maxRecDepth 100000
set_option maxHeartbeats 4000000

def m0 : MTx := ⟨1, [⟨2, List.replicate 32 0⟩]⟩
def b49 : Byt := encMT m0
theorem m0_ok : okMT m0 = true := by kernel_rfl
theorem b49_len : b49.length = 49 := by kernel_rfl
theorem m0_rd : allP rdMT b49 = some m0 := by kernel_rfl
theorem m0_at {w0 : Base} {w : World} {L : Blocks} {g : Nat} {t : TypeId} (hw : St w0 w L) (hL : (g, t, (Value.int .u64 2 :: Z32).toArray) ∈ L) : repMT (rdW w) [.int .u64 1, .slice (some ⟨g, 0, none⟩) 1 1] m0 := by
  refine ⟨_, rfl, (show 1 < 18446744073709551616 by decide), _, _, _, rfl, rfl, Nat.le_refl _, (by decide), fun _ => ⟨g, 0, rfl, fun j x hx => ?_⟩⟩
  cases j with
  | succ j => cases hx
  | zero =>
    cases hx
    refine ⟨Value.int .u64 2 :: Z32, rfl, fun u hu => ?_, ⟨rfl, by decide, rfl⟩, fun i u hu => ?_⟩
    · rcases List.mem_cons.1 hu with rfl | hu
      · rfl
      · obtain ⟨y, _, rfl⟩ := List.mem_map.1 hu; rfl
    · exact rdB_world hw (R := [(g, t, (Value.int .u64 2 :: Z32).toArray)]) (fun b hb => by rw [List.mem_singleton.1 hb]; exact hL) _ _ _ ⟨t, _, List.mem_singleton.2 rfl, by rw [Nat.zero_mul, Nat.add_zero, Nat.zero_add, List.getElem?_toArray]; exact hu⟩
theorem alive12 (w : World) : Calls Tryz.prog 16 #[] w (Gets w (.bool true)) := by
  refine Sy.enter (args := []) Tryz.func16 rfl kL ?_
  refine sC ?_
  refine sP (.bool false) ?_
  refine sA ?_
  refine sP (.agg (Value.int .u64 2 :: Z32).toArray) ?_
  refine Sy.make kR 108 (Value.int .u64 2 :: Z32).toArray (fun g => .slice (some ⟨g, 0, none⟩) 1 1) (Makes.one 69 108 _ _ 33 _ (Value.int .u64 2 :: Z32) rfl kR Tryz.underlying69 info_mo rfl rfl rfl (by decide) (by decide)) (fun g => ?_)
  refine sP (.agg #[.int .u64 1, .slice (some ⟨g, 0, none⟩) 1 1]) ?_
  refine Sy.callN kR 30 #[.agg #[.int .u64 1, .slice (some ⟨g, 0, none⟩) 1 1]] kF (BytE (okMT m0) b49) (fun w' hw => ex_mtx (rep := repMT) (ok := okMT) (enc := encMT) (wt := wtMT) monoMT mainTx_w w' [.int .u64 1, .slice (some ⟨g, 0, none⟩) 1 1] m0 (m0_at hw (List.mem_append_right _ (List.mem_singleton.2 rfl))) rfl (by decide)) (fun v M1 hM => ?_)
  rcases hM with ⟨_, u, rfl, hN⟩ | ⟨h, _⟩
  case inr => rw [m0_ok] at h; cases h
  have hN0 := hN.byt
  obtain ⟨A, n, cp, rfl, h2, h3, h4, h5⟩ := hN.byt
  obtain rfl : 49 = n := by rw [← h2]; exact b49_len.symm
  obtain ⟨gb, ob, rfl, hq⟩ := h5 (by intro e; have q := b49_len; rw [e] at q; cases q)
  refine sp rfl <| sp rfl <| sp rfl <| sp rfl <| sp rfl ?_
  refine sA ?_
  refine sp rfl ?_
  refine Sy.callN kR 32 #[.slice (some ⟨gb, ob, none⟩) 49 cp] kF (RdE 2 ([Value.int .u64 0] ++ [Value.slice none 0 0]) repMT (allP rdMT b49)) (fun w' hw => rdx_mtx (rep := repMT) (p := rdMT) monoMT (@oneMT) mainTx_r w' _ b49 (hN0.le (rdB_world hw (fun b hb => List.mem_append_right _ hb))) (by rw [b49_len]; decide)) (fun v M2 hM => ?_)
  rcases hM with ⟨x, cs, hx, rfl, hcs, hrep⟩ | ⟨h, _⟩
  case inr => rw [m0_rd] at h; cases h
  rw [m0_rd] at hx
  obtain rfl : m0 = x := by injection hx
  obtain ⟨v2, rfl, _, A2, n2, c2, rfl, k2, k3, k4, k5⟩ := hrep
  obtain rfl : 1 = n2 := k2
  obtain ⟨g2, o2, rfl, hq2⟩ := k5 (by intro e; cases e)
  obtain ⟨cs0, d1, d2, ⟨rfl, _, _⟩, d3⟩ := hq2 0 _ rfl
  refine sp rfl <| sp rfl <| sp rfl ?_
  refine sM 71 #[.int .u64 0, .slice none 0 0] (fun g3 => ?_)
  refine Sy.permS List.perm_append_comm ?_
  refine sw 0 rfl #[.int .u64 1, .slice (some ⟨g2, o2, none⟩) 1 c2] (wA rfl) <| sp rfl ?_
  refine sA ?_
  refine sP (.agg zOut.toArray) ?_
  refine Sy.callN kR 26 #[.agg zOut.toArray] kF (BytE false []) (fun w' hw => ex_outz (rep := repOZ) (ok := fun _ => false) (enc := fun _ => []) (wt := fun _ => 1) monoOZ outz_w w' zOut () rfl rfl (by decide)) (fun v M3 hM => ?_)
  rcases hM with ⟨h, _⟩ | ⟨_, rfl, rfl⟩
  case inl => cases h
  rw [List.append_nil]
  refine sp rfl <| sp rfl <| sp rfl <| sp rfl <| sp rfl ?_
  obtain ⟨X, hX⟩ : ∃ X, X = [(g, 108, (Value.int .u64 2 :: Z32).toArray)] ++ M1 ++ M2 := ⟨_, rfl⟩
  have i1 : ∀ b ∈ M1, b ∈ (g3, 71, #[.int .u64 1, .slice (some ⟨g2, o2, none⟩) 1 c2]) :: ([] ++ [(g, 108, (Value.int .u64 2 :: Z32).toArray)] ++ M1 ++ M2) := fun b hb => by simp [hb]
  have i2 : ∀ b ∈ M2, b ∈ (g3, 71, #[.int .u64 1, .slice (some ⟨g2, o2, none⟩) 1 c2]) :: ([] ++ [(g, 108, (Value.int .u64 2 :: Z32).toArray)] ++ M1 ++ M2) := fun b hb => by simp [hb]
  refine sA ?_
  refine sp rfl <| sP (.bool true) <| sp rfl <| sp rfl <| sP (.int .i64 49) <| sP (.bool true) <| sP (.bool true) ?_
  refine sp rfl <| sp rfl <| sS (.pointer (some ⟨gb, ob + 7 * 1, none⟩)) (Quiet.pure (exec_atO 27 _ _ _ (some ⟨gb, ob, none⟩) gb ob 49 cp 7 1 .i64 rfl rfl rfl rfl Tryz.underlying27 kF (by decide))) <| sS (bv 1) (cellC (w0 := Base.of w) (R := M1) (g := gb) (f := ob + 7 * 1) (v := bv 1) (.inr (hq 7 1 (by kernel_rfl))) i1 rfl Tryz.underlying5) <| sP (.bool true) <| sP (.bool true) ?_
  refine sp rfl <| sp rfl <| sS (.pointer (some ⟨gb, ob + 8 * 1, none⟩)) (Quiet.pure (exec_atO 27 _ _ _ (some ⟨gb, ob, none⟩) gb ob 49 cp 8 1 .i64 rfl rfl rfl rfl Tryz.underlying27 kF (by decide))) <| sS (bv 1) (cellC (w0 := Base.of w) (R := M1) (g := gb) (f := ob + 8 * 1) (v := bv 1) (.inr (hq 8 1 (by kernel_rfl))) i1 rfl Tryz.underlying5) <| sP (.bool true) <| sP (.bool true) ?_
  refine sp rfl <| sp rfl <| sP (.bool true) <| sP (.bool true) ?_
  refine sp rfl <| sP (.pointer (some ⟨g3, 0, none⟩)) <| sS (.int .u64 1) (qc 0 0 rfl rfl Tryz.underlying22) <| sP (.bool true) <| sP (.bool true) ?_
  refine sp rfl <| sP (.pointer (some ⟨g3, 1, none⟩)) <| sS (.slice (some ⟨g2, o2, none⟩) 1 c2) (qc 0 1 rfl rfl Tryz.underlying69) <| sP (.int .i64 1) <| sP (.bool true) <| sP (.bool true) ?_
  refine sp rfl <| sP (.pointer (some ⟨g3, 1, none⟩)) <| sS (.slice (some ⟨g2, o2, none⟩) 1 c2) (qc 0 1 rfl rfl Tryz.underlying69) <| sS (.pointer (some ⟨g2, o2 + 0 * 33, none⟩)) (Quiet.pure (exec_atO 69 _ _ _ (some ⟨g2, o2, none⟩) g2 o2 1 c2 0 33 .i64 rfl rfl rfl rfl Tryz.underlying69 kF (by decide))) <| sP (.pointer (some ⟨g2, o2 + 0 * 33, none⟩)) <| sS (.int .u64 2) (cellC (w0 := Base.of w) (R := M2) (g := g2) (f := o2 + 0 * 33) (v := .int .u64 2) (.inr d3.one) i2 rfl Tryz.underlying22) <| sP (.bool true) <| sP (.bool true) ?_
  refine sp rfl <| sp rfl <| sP (.bool true) <| sP (.bool true) <| sp rfl ?_
  refine sG ?_
  refine Sy.ret ?_
  exact rV (.bool true) rfl
end Go.Proofs.YtgemfpnlnipfnaaGreat.Wr

end
section
namespace Go.Proofs.YtgemfpnlnipfnaaGreat.Wr
open Go.RowKit Go.Proofs.YtgemfpnlnipfnaaGreat Go.Proofs.YtgemfpnlnipfnaaGreat.Sy
set_option maxRecDepth 100000
set_option maxHeartbeats 4000000

theorem part_dg (cs : Array Value) (o : Nat) (W : World) : (part 37 cs o).run Tryz.prog W = .ok (.agg (cs.extract o (o + 32))) W := by
  have h1 := Tryz.isAgg37
  have h2 := Tryz.sizeOf37
  simp [part, h1, h2, go_sem]
theorem part_u6 (cs : Array Value) (o : Nat) (v : Value) (hv : cs[o]? = some v) (W : World) : (part 22 cs o).run Tryz.prog W = .ok v W := by
  have h1 := Tryz.isAgg22
  simp [part, h1, hv, go_sem]
def cMH (m : MHd) : List Value := m.prev.map bv ++ (m.root.map bv ++ [Value.int .u64 (m.height : Int), Value.int .u64 (m.nonce : Int)])
theorem eql_mhd (w : World) (F : Slots) (o : Oper) (x y : Operand) (m : MHd) (cs : List Value) (hcs : cs = cMH m) (h1 : m.prev.length = 32) (h2 : m.root.length = 32) {yt : TypeId} (ho : o.op = .binOp .eql 73 x y yt) (hx : evF F x = .agg cs.toArray) (hy : evF F y = .agg cs.toArray) : (execOp (evF F) o).run Tryz.prog w = .ok (.value (.bool true)) w := by
  have m1 : (m.prev.map bv).length = 32 := by rw [List.length_map, h1]
  have m2 : (m.root.map bv).length = 32 := by rw [List.length_map, h2]
  have g1 : (eqGuard .eql 73 x y (.agg cs.toArray) (.agg cs.toArray)).run Tryz.prog w = .ok () w := by go_simp
  have g2 : (binOp .eql 73 (.agg cs.toArray) (.agg cs.toArray)).run Tryz.prog w = .ok (.bool true) w := by
    have hS : Tryz.prog.underlying 73 = some (.struct (Tryz.prog.fieldsOf 73)) := by kernel_rfl
    have hpp : Tryz.prog.stoodInHeld 73 = false := by kernel_rfl
    rw [run_eql_struct, show (10000 : Nat) = 9999 + 1 from rfl, run_equalIn_struct w 9999 73 _ _ hS hpp]
    simp only [Program.fieldsOf, Tryz.underlying73]
    have x1 : cs.toArray.extract 0 (0 + 32) = (m.prev.map bv).toArray := by
      rw [hcs, List.extract_toArray]
      simp only [cMH, List.extract_eq_take_drop, List.drop_zero, Nat.zero_add, Nat.sub_zero]
      rw [List.take_append_of_le_length (by omega), List.take_of_length_le (by omega)]
    have x2 : cs.toArray.extract 32 (32 + 32) = (m.root.map bv).toArray := by
      rw [hcs, List.extract_toArray]
      simp only [cMH, List.extract_eq_take_drop]
      rw [List.drop_append_of_le_length (by omega), List.drop_of_length_le (by omega), List.nil_append, List.take_append_of_le_length (by omega), List.take_of_length_le (by omega)]
    have x3 : cs.toArray[64]? = some (Value.int .u64 (m.height : Int)) := by
      rw [hcs, List.getElem?_toArray, cMH, List.getElem?_append_right (by omega), List.getElem?_append_right (by omega), m1, m2]
      rfl
    have x4 : cs.toArray[65]? = some (Value.int .u64 (m.nonce : Int)) := by
      rw [hcs, List.getElem?_toArray, cMH, List.getElem?_append_right (by omega), List.getElem?_append_right (by omega), m1, m2]
      rfl
    have a1 : ∀ W, (part 37 cs.toArray 0).run Tryz.prog W = .ok (.agg (m.prev.map bv).toArray) W := fun W => by rw [part_dg, x1]
    have a2 : ∀ W, (part 37 cs.toArray 32).run Tryz.prog W = .ok (.agg (m.root.map bv).toArray) W := fun W => by rw [part_dg, x2]
    have a3 : ∀ W, (part 22 cs.toArray 64).run Tryz.prog W = .ok (.int .u64 (m.height : Int)) W := fun W => part_u6 _ _ _ x3 W
    have a4 : ∀ W, (part 22 cs.toArray 65).run Tryz.prog W = .ok (.int .u64 (m.nonce : Int)) W := fun W => part_u6 _ _ _ x4 W
    have e1 : ∀ W, (Op.equalIn 9999 37 (.agg (m.prev.map bv).toArray) (.agg (m.prev.map bv).toArray)).run Tryz.prog W = .ok true W := fun W => by
      rw [show (9999 : Nat) = 9997 + 2 from rfl]
      exact (run_equalIn_bytes W 9997 37 5 32 Tryz.underlying37 Tryz.underlying5 (fun W => by kernel_rfl) _ _ h1 h1).trans (by simp)
    have e2 : ∀ W, (Op.equalIn 9999 37 (.agg (m.root.map bv).toArray) (.agg (m.root.map bv).toArray)).run Tryz.prog W = .ok true W := fun W => by
      rw [show (9999 : Nat) = 9997 + 2 from rfl]
      exact (run_equalIn_bytes W 9997 37 5 32 Tryz.underlying37 Tryz.underlying5 (fun W => by kernel_rfl) _ _ h2 h2).trans (by simp)
    have e3 : ∀ (n : Nat) W, (Op.equalIn 9999 22 (.int .u64 (n : Int)) (.int .u64 (n : Int))).run Tryz.prog W = .ok true W := fun n W => (run_equalIn_int W 9998 22 .u64 .u64 (n : Int) (n : Int) Tryz.underlying22).trans (by simp)
    simp [Op.eqFields, a1, a2, a3, a4, e1, e2, e3, Sem.run_bind, Sem.run_ite]
  unfold execOp
  simp only [ho, hx, hy, Sem.run_bind, g1, g2, Result.andThen_ok, Sem.run_pure]
theorem rep_le {α : Type} {p : Ps α} : ∀ {n : Nat} {l r : Byt} {xs : List α}, repP p n l = some (xs, r) → xs.length = n
  | 0, l, r, xs, h => by
    unfold repP retP at h
    cases h
    rfl
  | n + 1, l, r, xs, h => by
    unfold repP bindP at h
    cases hp : p l with
    | none => rw [hp] at h; cases h
    | some u =>
      obtain ⟨x, r1⟩ := u
      rw [hp] at h
      dsimp only at h
      cases hq : repP p n r1 with
      | none => rw [hq] at h; cases h
      | some u =>
        obtain ⟨ys, r2⟩ := u
        rw [hq] at h
        dsimp only [retP] at h
        have := rep_le hq
        cases h
        simp [this]
theorem var_le {most n : Nat} {l r : Byt} (h : varP most l = some (n, r)) : n ≤ most := by
  unfold varP at h
  cases hp : bindP (numP 1) (fun c => if c < 253 then retP c else longP c) l with
  | none => rw [bind_none hp] at h; cases h
  | some u =>
    obtain ⟨x, r1⟩ := u
    rw [bind_some hp] at h
    unfold bindP mustP at h
    by_cases hx : x ≤ most
    · simp only [hx, decide_true, if_true] at h
      cases h
      exact hx
    · simp only [hx, decide_false, Bool.false_eq_true, if_false] at h
      cases h
theorem lst_le {α : Type} {p : Ps α} {most : Nat} {l r : Byt} {xs : List α} (h : listP most p l = some (xs, r)) : xs.length ≤ most := by
  unfold listP at h
  cases hp : varP most l with
  | none => rw [bind_none hp] at h; cases h
  | some u =>
    obtain ⟨n, r1⟩ := u
    rw [bind_some hp] at h
    rw [rep_le h]
    exact var_le hp
theorem all_some {α : Type} {p : Ps α} {l : Byt} {x : α} (h : allP p l = some x) : p l = some (x, []) := by
  unfold allP at h
  cases hp : p l with
  | none => rw [hp] at h; cases h
  | some u =>
    obtain ⟨y, r⟩ := u
    rw [hp] at h
    cases r with
    | nil => cases h; rfl
    | cons => cases h
def zMT : MTx := ⟨0, []⟩
def zMH : MHd := ⟨List.replicate 32 0, List.replicate 32 0, 0, 0⟩
theorem rd_outs (raw : Byt) : ((allP rdMT raw).getD zMT).outs.length ≤ 16 := by
  cases h : allP rdMT raw with
  | none => exact Nat.zero_le _
  | some t =>
    have h := all_some h
    show t.outs.length ≤ 16
    unfold rdMT at h
    cases hp : numP 8 raw with
    | none => rw [bind_none hp] at h; cases h
    | some u =>
      obtain ⟨n, r⟩ := u
      rw [bind_some hp] at h
      cases hq : listP 16 rdMO r with
      | none => rw [bind_none hq] at h; cases h
      | some u =>
        obtain ⟨xs, r2⟩ := u
        rw [bind_some hq] at h
        have := lst_le hq
        cases h
        exact this
theorem zMT_rep (C : Rdr) : repMT C ([Value.int .u64 0] ++ [Value.slice none 0 0]) zMT := ⟨_, rfl, by decide, none, 0, 0, rfl, rfl, Nat.le_refl _, Nat.zero_le _, fun h => (h rfl).elim⟩
theorem zMH_rep (C : Rdr) : repMH C (Z32 ++ (Z32 ++ ([Value.int .u64 0] ++ [Value.int .u64 0]))) zMH := ⟨rfl, rfl, rfl, by decide, by decide⟩
end Go.Proofs.YtgemfpnlnipfnaaGreat.Wr

end
section
namespace Go.Proofs.YtgemfpnlnipfnaaGreat.Wr
open Go.RowKit Go.Proofs.YtgemfpnlnipfnaaGreat Go.Proofs.YtgemfpnlnipfnaaGreat.Sy
set_option maxRecDepth 100000
set_option maxHeartbeats 4000000

theorem law_wiremains (w : World) (cs : List Value) (t : MTx) (hx : repMT (rdW w) cs t) (hcs : List Value) (h : MHd) (hy : repMH (rdW w) hcs h) (v : Value) (raw : Byt) (hv : BytR (rdW w) v raw) (hlo : t.outs.length ≤ 1048576) (hl : raw.length ≤ 1048576) :
    Calls Tryz.prog 7 #[.agg cs.toArray, .agg hcs.toArray, v] w (Gets w (.bool true)) := by
  have hx0 := hx
  obtain ⟨vs, rfl, hn, hls⟩ := hx
  have hls0 := hls
  obtain ⟨A, n, cp, rfl, _⟩ := hls
  have lh : hcs.length = 66 := by
    obtain ⟨e, a1, a2, _⟩ := hy
    rw [e]; simp [a1, a2]
  have hwt : wtMT t ≤ 70368744160000 := by unfold wtMT; rw [sum_40]; omega
  obtain ⟨o1, ho1⟩ : ∃ o1, o1 = allP rdMT raw := ⟨_, rfl⟩
  obtain ⟨o2, ho2⟩ : ∃ o2, o2 = allP rdMH raw := ⟨_, rfl⟩
  obtain ⟨y, hY⟩ : ∃ y, y = o1.getD zMT := ⟨_, rfl⟩
  have hyo : y.outs.length ≤ 16 := by rw [hY, ho1]; exact rd_outs raw
  obtain ⟨m, hm⟩ : ∃ m, m = o2.getD zMH := ⟨_, rfl⟩
  obtain ⟨e1, he1⟩ : ∃ e, e = erE (okMT t) := ⟨_, rfl⟩
  obtain ⟨b1, hb1⟩ : ∃ b, b = byE (okMT t) (encMT t) := ⟨_, rfl⟩
  obtain ⟨e3, he3⟩ : ∃ e, e = erE o1.isSome := ⟨_, rfl⟩
  obtain ⟨e5, he5⟩ : ∃ e, e = erE (okMT y) := ⟨_, rfl⟩
  obtain ⟨b5, hb5⟩ : ∃ b, b = byE (okMT y) (encMT y) := ⟨_, rfl⟩
  obtain ⟨e7, he7⟩ : ∃ e, e = erE o2.isSome := ⟨_, rfl⟩
  refine Sy.enter (args := [.agg #[.int .u64 (t.nonce : Int), .slice A n cp], .agg hcs.toArray, v]) Tryz.func7 rfl kL ?_
  refine sC ?_
  refine sM 71 #[.int .u64 (t.nonce : Int), .slice A n cp] (fun g3 => ?_)
  refine sM 73 hcs.toArray (fun g4 => ?_) kR (fun w => run_boxR rfl rfl (by kernel_rfl) lh w)
  refine sP (.bool false) ?_
  refine sA ?_
  refine sS (.agg #[.int .u64 (t.nonce : Int), .slice A n cp]) (qk 0 0 2 rfl rfl Tryz.underlying71) ?_
  refine Sy.callN kR 30 #[.agg #[.int .u64 (t.nonce : Int), .slice A n cp]] kF (BytE (okMT t) (encMT t)) (fun w' hw => ex_mtx (rep := repMT) (ok := okMT) (enc := encMT) (wt := wtMT) monoMT mainTx_w w' [.int .u64 (t.nonce : Int), .slice A n cp] t (monoMT (fun g o u hu => rdC_world (w0 := Base.of w) (R := []) hw (fun _ h => by cases h) g o u (.inl hu)) hx0) rfl (by omega)) (fun u M1 hM => ?_)
  obtain ⟨u1, rfl, k1⟩ := hM.uni
  rw [← he1]
  rw [← hb1] at k1
  refine sp rfl <| sp rfl <| sp rfl <| sp rfl <| sp rfl ?_
  refine sA ?_
  refine sS (.agg #[.int .u64 (t.nonce : Int), .slice A n cp]) (qk 0 0 2 rfl rfl Tryz.underlying71) ?_
  refine Sy.callN kR 31 #[.agg #[.int .u64 (t.nonce : Int), .slice A n cp]] kF (BytE (okMT t) (encMT t)) (fun w' hw => mtxR_w w' t (.slice A n cp) hn (LstR.le (rep := repMO) monoMO (fun g o u hu => rdC_world (w0 := Base.of w) (R := []) hw (fun _ h => by cases h) g o u (.inl hu)) hls0) (by omega)) (fun u M2 hM => ?_)
  obtain ⟨u2, rfl, k2⟩ := hM.uni
  rw [← he1]
  rw [← hb1] at k2
  refine sp rfl <| sp rfl <| sp rfl <| sp rfl <| sp rfl ?_
  refine sA ?_
  refine sp rfl ?_
  refine Sy.callN kR 32 #[v] kF (RdE 2 ([Value.int .u64 0] ++ [Value.slice none 0 0]) repMT o1) (fun w' hw => by rw [ho1]; exact rdx_mtx (rep := repMT) (p := rdMT) monoMT (@oneMT) mainTx_r w' v raw (hv.le (fun g o u hu => rdC_world (w0 := Base.of w) (R := []) hw (fun _ h => by cases h) g o u (.inl hu))) (by omega)) (fun u M3 hM => ?_)
  obtain ⟨cs3, rfl, l3, r3⟩ := hM.uni zMT (zMT_rep _) rfl
  rw [← he3]
  rw [← hY] at r3
  have r30 := r3
  obtain ⟨v3, rfl, n3, s3⟩ := r3
  refine sp rfl <| sp rfl <| sp rfl ?_
  refine sM 71 #[.int .u64 0, .slice none 0 0] (fun g11 => ?_)
  refine Sy.permS List.perm_append_comm ?_
  refine sw 0 rfl [Value.int .u64 (y.nonce : Int), v3].toArray (Writes.row 71 [.int .u64 (y.nonce : Int), v3] 2 _ _ rfl kR kR kR rfl (by kernel_rfl) (oneMT r30)) <| sp rfl ?_
  refine sA ?_
  refine sp rfl ?_
  refine Sy.callN kR 33 #[v] kF (RdE 2 ([Value.int .u64 0] ++ [Value.slice none 0 0]) repMT o1) (fun w' hw => by rw [ho1]; exact readR_mtx (rep := repMT) (p := rdMT) mtxM_any w' v raw (hv.le (fun g o u hu => rdC_world (w0 := Base.of w) (R := []) hw (fun _ h => by cases h) g o u (.inl hu))) (by omega)) (fun u M4 hM => ?_)
  obtain ⟨cs4, rfl, l4, r4⟩ := hM.uni zMT (zMT_rep _) rfl
  rw [← he3]
  rw [← hY] at r4
  have r40 := r4
  obtain ⟨v4, rfl, n4, s4⟩ := r4
  refine sp rfl <| sp rfl <| sp rfl ?_
  refine sM 71 #[.int .u64 0, .slice none 0 0] (fun g13 => ?_)
  refine Sy.permS List.perm_append_comm ?_
  refine sw 0 rfl [Value.int .u64 (y.nonce : Int), v4].toArray (Writes.row 71 [.int .u64 (y.nonce : Int), v4] 2 _ _ rfl kR kR kR rfl (by kernel_rfl) (oneMT r40)) <| sp rfl ?_
  refine sA ?_
  refine sS (.agg #[.int .u64 (y.nonce : Int), v3]) (qk 1 0 2 rfl rfl Tryz.underlying71) ?_
  refine Sy.callN kR 31 #[.agg #[.int .u64 (y.nonce : Int), v3]] kF (BytE (okMT y) (encMT y)) (fun w' hw => mtxR_w w' y v3 n3 (LstR.le (rep := repMO) monoMO (rdB_world hw (fun b hb => by simp [hb])) s3) (by omega)) (fun u M5 hM => ?_)
  obtain ⟨u5, rfl, k5⟩ := hM.uni
  rw [← he5]
  rw [← hb5] at k5
  refine sp rfl <| sp rfl <| sp rfl <| sp rfl <| sp rfl ?_
  refine sA ?_
  refine sS (.agg #[.int .u64 (y.nonce : Int), v4]) (qk 0 0 2 rfl rfl Tryz.underlying71) ?_
  refine Sy.callN kR 31 #[.agg #[.int .u64 (y.nonce : Int), v4]] kF (BytE (okMT y) (encMT y)) (fun w' hw => mtxR_w w' y v4 n4 (LstR.le (rep := repMO) monoMO (rdB_world hw (fun b hb => by simp [hb])) s4) (by omega)) (fun u M6 hM => ?_)
  obtain ⟨u6, rfl, k6⟩ := hM.uni
  rw [← he5]
  rw [← hb5] at k6
  refine sp rfl <| sp rfl <| sp rfl <| sp rfl <| sp rfl ?_
  refine sA ?_
  refine sp rfl ?_
  refine Sy.callN kR 34 #[v] kF (RdE 66 (Z32 ++ (Z32 ++ ([Value.int .u64 0] ++ [Value.int .u64 0]))) repMH o2) (fun w' hw => by rw [ho2]; exact rdx_mhd (rep := repMH) (p := rdMH) monoMH (@oneMH) mainHeader_r w' v raw (hv.le (fun g o u hu => rdC_world (w0 := Base.of w) (R := []) hw (fun _ h => by cases h) g o u (.inl hu))) (by omega)) (fun u M7 hM => ?_)
  obtain ⟨c7, rfl, l7, r7⟩ := hM.uni zMH (zMH_rep _) rfl
  rw [← he7]
  rw [← hm] at r7
  refine sp rfl <| sp rfl <| sp rfl ?_
  refine sM 73 (Z32 ++ (Z32 ++ ([Value.int .u64 0] ++ [Value.int .u64 0]))).toArray (fun g19 => ?_)
  refine Sy.permS List.perm_append_comm ?_
  refine sw 0 rfl c7.toArray (Writes.row 73 c7 66 _ _ rfl kR kR kR l7 (by kernel_rfl) (oneMH r7)) <| sp rfl ?_
  refine sA ?_
  refine sp rfl ?_
  refine Sy.callN kR 35 #[v] kF (RdE 66 (Z32 ++ (Z32 ++ ([Value.int .u64 0] ++ [Value.int .u64 0]))) repMH o2) (fun w' hw => by rw [ho2]; exact readR_mhd (rep := repMH) (p := rdMH) mhdM_any w' v raw (hv.le (fun g o u hu => rdC_world (w0 := Base.of w) (R := []) hw (fun _ h => by cases h) g o u (.inl hu))) (by omega)) (fun u M8 hM => ?_)
  obtain ⟨c8, rfl, l8, r8⟩ := hM.uni zMH (zMH_rep _) rfl
  rw [← he7]
  rw [← hm] at r8
  obtain rfl : c7 = c8 := r7.1.trans r8.1.symm
  have l7a : c7.length = 66 := l7
  refine sp rfl <| sp rfl <| sp rfl ?_
  refine sM 73 (Z32 ++ (Z32 ++ ([Value.int .u64 0] ++ [Value.int .u64 0]))).toArray (fun g21 => ?_)
  refine Sy.permS List.perm_append_comm ?_
  refine sw 0 rfl c7.toArray (Writes.row 73 c7 66 _ _ rfl kR kR kR l7 (by kernel_rfl) (oneMH r7)) <| sp rfl ?_
  refine sH (fun j => false) ?_
  refine sD 0 rfl (.bool true) (qg (fun w' hw => alive12 w')) <| sZ 1 rfl (.bool true) <| sZ 2 rfl u1 <| sZ 3 rfl u2 <| sD 4 rfl (.bool true) (qg (fun w' hw => by have q := same_any w' u1 u2 b1 b1 (k1.le (rdB_world hw (fun b hb => by simp [hb]))) (k2.le (rdB_world hw (fun b hb => by simp [hb]))); rw [decide_eq_true rfl] at q; exact q)) <| sZ 5 rfl (.bool true) <| sZ 6 rfl (.bool true) <| sZ 7 rfl (.int .i64 e1) <| sZ 8 rfl (.int .i64 e1) <| sD 9 rfl (.bool true) (Quiet.pure (exec_int .eql _ _ _ .i64 _ _ _ rfl rfl rfl (int_eql _ _ _ _ _ (decide_eq_true rfl)))) <| sZ 10 rfl (.bool true) <| sZ 11 rfl (.bool true) <| sZ 12 rfl (.int .i64 e3) <| sZ 13 rfl (.int .i64 e3) <| sD 14 rfl (.bool true) (Quiet.pure (exec_int .eql _ _ _ .i64 _ _ _ rfl rfl rfl (int_eql _ _ _ _ _ (decide_eq_true rfl)))) <| sZ 15 rfl (.bool true) <| sZ 16 rfl (.bool true) <| sZ 17 rfl u5 <| sZ 18 rfl u6 <| sD 19 rfl (.bool true) (qg (fun w' hw => by have q := same_any w' u5 u6 b5 b5 (k5.le (rdB_world hw (fun b hb => by simp [hb]))) (k6.le (rdB_world hw (fun b hb => by simp [hb]))); rw [decide_eq_true rfl] at q; exact q)) <| sZ 20 rfl (.bool true) <| sZ 21 rfl (.bool true) ?_
  refine sD 22 rfl (.agg hcs.toArray) (Quiet.mid 5 g4 0 66 73 73 hcs hcs _ _ rfl kR rfl Tryz.underlying73 rfl kR (by rw [List.drop_zero, List.take_of_length_le (by omega)]) (by omega)) <| sD 24 rfl (.agg hcs.toArray) (Quiet.mid 5 g4 0 66 73 73 hcs hcs _ _ rfl kR rfl Tryz.underlying73 rfl kR (by rw [List.drop_zero, List.take_of_length_le (by omega)]) (by omega)) ?_
  refine Sy.callND 23 rfl kR kR 36 #[.agg hcs.toArray] kF (ByN (encMH h)) (fun w' hw => ex_mhd (rep := repMH) (ok := fun _ => true) (enc := encMH) (wt := fun _ => 80) monoMH mainHeader_w w' hcs h hy lh rfl (by decide)) (fun u9 M9 k9 => ?_)
  refine Sy.callND 25 rfl kR kR 37 #[.agg hcs.toArray] kF (ByN (encMH h)) (fun w' hw => by obtain ⟨q0, q1, q2, q3, q4⟩ := hy; rw [q0]; exact mhdR_w w' h q1 q2 q3 q4) (fun u10 M10 k10 => ?_)
  refine sD 26 rfl (.bool true) (qg (fun w' hw => by have q := same_any w' u9 u10 _ _ (k9.byt.le (rdB_world hw (fun b hb => by simp [hb]))) (k10.byt.le (rdB_world hw (fun b hb => by simp [hb]))); rw [decide_eq_true rfl] at q; exact q)) <| sZ 27 rfl (.bool true) <| sZ 28 rfl (.bool true) <| sD 29 rfl (.agg c7.toArray) (Quiet.mid 1 g19 0 66 73 73 c7 c7 _ _ rfl kR rfl Tryz.underlying73 rfl kR (by rw [List.drop_zero, List.take_of_length_le (by omega)]) (by omega)) <| sD 30 rfl (.agg c7.toArray) (Quiet.mid 0 g21 0 66 73 73 c7 c7 _ _ rfl kR rfl Tryz.underlying73 rfl kR (by rw [List.drop_zero, List.take_of_length_le (by omega)]) (by omega)) <| sD 31 rfl (.bool true) (Quiet.pure (fun w' => eql_mhd w' _ _ _ _ m c7 r7.1 r7.2.1 r7.2.2.1 rfl rfl rfl)) <| sZ 32 rfl (.bool true) <| sZ 33 rfl (.bool true) <| sZ 34 rfl (.int .i64 e7) <| sZ 35 rfl (.int .i64 e7) <| sD 36 rfl (.bool true) (Quiet.pure (exec_int .eql _ _ _ .i64 _ _ _ rfl rfl rfl (int_eql _ _ _ _ _ (decide_eq_true rfl)))) <| sZ 37 rfl (.bool true) <| sZ 38 rfl (.bool true) ?_
  refine sI ?_
  refine Sy.ret ?_
  exact rV (.bool true) rfl
end Go.Proofs.YtgemfpnlnipfnaaGreat.Wr

end
