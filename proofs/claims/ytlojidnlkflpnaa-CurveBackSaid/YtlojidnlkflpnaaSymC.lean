/-
  The walk by what is known: copies into a block of the call's own, slices that came in.
-/
import Derived.Test.YtlojidnlkflpnaaSymB
import Derived.Laws.IdiomCopy
namespace Go.Proofs.Ytlojidnlkflpnaa.Sy
open Go.RowKit Go.Proofs.Ytlojidnlkflpnaa

section
variable {P : Program} {w0 : World} {n : Nat} {Q : Exit → Act → World → Prop} {F : Slots} {L : Blocks} {ops : Array Oper} {o : Oper} {l : List Oper} {ex : Nat → Bool} {fuel : Nat} {listed : Array Bool}
/-- an operation that gives v and writes into block g -/
def WritesV (P : Program) (w0 : World) (F : Slots) (L : Blocks) (o : Oper) (g : Nat) (t : TypeId) (cs' : Array Value) (v : Value) : Prop :=
  ∀ w, St w0 w L → ∃ w', (execOp (evF F) o).run P w = .ok (.value v) w' ∧ (∀ B, B ≤ g → Below B w w') ∧ Blk w' g t cs' ∧ ∀ k, k ≠ g → ∀ t c, Blk w k t c → Blk w' k t c
theorem writeV (hg : good ops n F o = true) (i g : Nat) (t : TypeId) (cs cs' : Array Value) (v : Value) (hL : L[i]? = some (g, t, cs)) (hm : WritesV P w0 F L o g t cs' v) (h : wpS P w0 n ops Q (putF F o.dst v) (L.set i (g, t, cs')) l) : wpS P w0 n ops Q F L (o :: l) := fun a w ha hw => by
  obtain ⟨g1, _, g3, _⟩ := good_spec hg
  obtain ⟨w', h1, h2, h3, h4⟩ := hm w hw
  refine wpList_step fun K hK => ?_
  rw [if_pos (ha.wanted g1)]
  unfold Oper.wp
  rw [good_exec hg ha, h1]
  exact hK _ _ (h _ _ (ha.put g3 _) (hw.set hL h2 h3 h4))
theorem writeVD (k : Nat) {oi : Oper} (hi0 : ops.toList[k]? = some oi) (hr : Region.ready .any ops listed = [k]) (hex : ex k = true) (hg : good ops n F oi = true) (i g : Nat) (t : TypeId) (cs cs' : Array Value) (v : Value) (hL : L[i]? = some (g, t, cs)) (hm : WritesV P w0 F L oi g t cs' v)
    (h : wpD P w0 n ops Q ex (putF F oi.dst v) (L.set i (g, t, cs')) fuel (listed.setIfInBounds k true)) : wpD P w0 n ops Q ex F L (fuel + 1) listed := fun a w ha hw =>
  wpAnyG_sole k hi0 hr (ha.wanted (good_spec hg).1) fun w1 h1 K hK => by
    obtain ⟨w', e1, e2, e3, e4⟩ := hm w1 (hw.gr h1)
    unfold Oper.wp
    rw [good_exec hg ha, e1]
    exact hK _ _ (fun e => by rw [hex] at e; cases e) (h _ _ (ha.put (good_spec hg).2.2.1 _) ((hw.gr h1).set hL e2 e3 e4))
theorem WritesV.copy (d s : Operand) (dT sT e : TypeId) (ho : o.op = .call { callee := .builtin .copy, args := #[d, s], argTypes := #[dT, sT] }) (hu : P.underlying dT = some (.slice e)) (hsz : (P.info? e).map (·.size) = some 1)
    (i g f dl dc : Nat) (t : TypeId) (cs cs' : Array Value) (hL : L[i]? = some (g, t, cs)) (hd : evF F d = .slice (some ⟨g, f, none⟩) dl dc)
    (j gx fx sl sc : Nat) (tx : TypeId) (cx : Array Value) (hLx : L[j]? = some (gx, tx, cx)) (hs : evF F s = .slice (some ⟨gx, fx, none⟩) sl sc)
    (news : List Value) (hnews : (cx.toList.drop fx).take (Nat.min sl dl) = news) (hn : news.length = Nat.min sl dl) (h1 : ∀ u ∈ news, u.oneCell' = true) (hfit : f + news.length ≤ cs.size) (hcs : setAll cs f news = cs') : WritesV P w0 F L o g t cs' (goInt news.length) := fun w hw => by
  have hb := hw.get hL
  have hbx := hw.get hLx
  have hth := hb.there f news.length hfit
  have hr := run_copy_cells (P := P) w dT sT o.type e g f dl dc ⟨gx, fx, none⟩ sl sc news hu hsz hn (fun q u hq => by
    rw [addr_off, hbx.cell]
    rw [← hnews] at hq
    have hlt : q < Nat.min sl dl := by
      have h := (List.getElem?_eq_some_iff.1 hq).1
      rw [List.length_take] at h
      exact Nat.lt_of_lt_of_le h (Nat.min_le_left _ _)
    rw [List.getElem?_take_of_lt hlt, List.getElem?_drop] at hq
    simpa using hq) (fun q hq => (hth q hq).1) (fun q hq => (hth q hq).2) h1
  refine ⟨_, ?_, fun B hB => below_of_only (only_setCells news f w (World.grownBy.refl w (some g))) (Nat.le_trans hB (Nat.le_of_lt hb.lt)) hB, hcs ▸ Blk.setCells news f w cs hb, fun k hk t c hc => Blk.grown hc (only_setCells news f w (World.grownBy.refl w (some g))) (by simpa using hk)⟩
  unfold execOp
  simp only [ho, resolve, invoke, builtin, Sem.run_bind, Sem.run_pure, Result.andThen_ok, List.map_toArray, List.map_cons, List.map_nil, hs, hd, hr]
/-- s[k:] of a slice that came in, or of one's own -/
theorem slice_from (w : World) (t : TypeId) (g f len cap k : Nat) (ht : P.underlying t = some (.slice (P.elem t))) (hsz : ∀ w, (sizeOf (P.elem t)).run P w = .ok 1 w) (hk : k < len) (hlen : len ≤ cap) :
    (Instr.sliceAt t (.slice (some ⟨g, f, none⟩) len cap) (some (.int .i64 k)) none none).run P w = .ok (.slice (some ⟨g, f + k, none⟩) (len - k) (cap - k)) w := by
  have hne : cap ≠ k := by omega
  rw [run_sliceAt_slice w t _ _ _ _ ht, run_slice_l w t (some ⟨g, f, none⟩) len cap ht .i64 k (by omega) (by omega)]
  simp [hsz, sliced, hne, addr_off, Result.andThen]
/-- an element of a slice, by its address -/
theorem index_addr (w : World) (t : TypeId) (g f len cap k : Nat) (ht : P.underlying t = some (.slice (P.elem t))) (hsz : ∀ w, (sizeOf (P.elem t)).run P w = .ok 1 w) (hk : k < len) :
    (Instr.indexAt t (.slice (some ⟨g, f, none⟩) len cap) (.int .i64 k)).run P w = .ok (.pointer (some ⟨g, f + k, none⟩)) w := by
  have h0 : (0 : Int) ≤ k := by omega
  simp [Instr.indexAt, asIntOf, run_underlying ht, hsz, h0, hk, addr_off, Result.andThen]
/-- a slice as an array -/
theorem array_at (w : World) (t e : TypeId) (A : Option Addr) (m len cap : Nat) (ht : P.underlying t = some (.array m e)) (hk : m ≤ len) : (Instr.arrayAt t (.slice A len cap)).run P w = .ok (.pointer A) w := by
  have h1 : ¬ len < m := by omega
  simp [Instr.arrayAt, run_underlying ht, h1, Result.andThen]
theorem exec_from (t : TypeId) (x kx : Operand) (g f len cap k : Nat) (ho : o.op = .slice t x (some kx) none none) (hx : evF F x = .slice (some ⟨g, f, none⟩) len cap) (hkx : evF F kx = .int .i64 k) (ht : P.underlying t = some (.slice (P.elem t))) (hsz : ∀ w, (sizeOf (P.elem t)).run P w = .ok 1 w) (hk : k < len) (hlen : len ≤ cap) (w : World) :
    (execOp (evF F) o).run P w = .ok (.value (.slice (some ⟨g, f + k, none⟩) (len - k) (cap - k))) w := by
  unfold execOp
  simp only [ho, hx, hkx, Option.map_some, Option.map_none, slice_from w t g f len cap k ht hsz hk hlen, Sem.run_bind, Sem.run_pure, Result.andThen_ok]
theorem exec_index (t : TypeId) (x kx : Operand) (g f len cap k : Nat) (ho : o.op = .indexAddr t x kx) (hx : evF F x = .slice (some ⟨g, f, none⟩) len cap) (hkx : evF F kx = .int .i64 k) (ht : P.underlying t = some (.slice (P.elem t))) (hsz : ∀ w, (sizeOf (P.elem t)).run P w = .ok 1 w) (hk : k < len) (w : World) :
    (execOp (evF F) o).run P w = .ok (.value (.pointer (some ⟨g, f + k, none⟩))) w := by
  unfold execOp
  simp only [ho, hx, hkx, index_addr w t g f len cap k ht hsz hk, Sem.run_bind, Sem.run_pure, Result.andThen_ok]
theorem exec_array (t e : TypeId) (x : Operand) (A : Option Addr) (m len cap : Nat) (ho : o.op = .sliceToArrayPointer t x) (hx : evF F x = .slice A len cap) (ht : P.underlying t = some (.array m e)) (hk : m ≤ len) (w : World) :
    (execOp (evF F) o).run P w = .ok (.value (.pointer A)) w := by
  unfold execOp
  simp only [ho, hx, array_at w t e A m len cap ht hk, Sem.run_bind, Sem.run_pure, Result.andThen_ok]
/-- the list of bytes b lies in the world w, in block g at off -/
def SrcL (w : World) (g off : Nat) (b : List UInt8) : Prop := g < w.heap.size ∧ ∀ (k : Nat) (cs : List Value), cs = ((b.drop k).take cs.length).map bv → w.rangeAt g (off + k) cs
theorem SrcL.of {w : World} {g off : Nat} {b : List UInt8} (hg : g < w.heap.size) (h : ∀ j u, b[j]? = some u → w.cell? ⟨g, off + j, none⟩ = some (bv u)) : SrcL w g off b :=
  ⟨hg, fun k cs hc j v hj => by
    rw [hc, List.getElem?_map] at hj
    obtain ⟨u, hu, rfl⟩ := Option.map_eq_some_iff.1 hj
    have hlt : j < cs.length := by
      have h := (List.getElem?_eq_some_iff.1 hu).1
      rw [List.length_take] at h
      exact Nat.lt_of_lt_of_le h (Nat.min_le_left _ _)
    rw [List.getElem?_take_of_lt hlt, List.getElem?_drop] at hu
    rw [Nat.add_assoc]
    exact h (k + j) u hu⟩
theorem src_one {w : World} {g off : Nat} {b : List UInt8} (h : SrcL w g off b) (k : Nat) (v : Value) (hv : [v] = ((b.drop k).take 1).map bv) : w.cell? ⟨g, off + k, none⟩ = some v := by
  have := h.2 k [v] hv 0 v rfl
  simpa using this
theorem all_one (l : List Value) (h : l.all (·.oneCell') = true) : ∀ u ∈ l, u.oneCell' = true := fun u hu => List.all_eq_true.1 h u hu
end
end Go.Proofs.Ytlojidnlkflpnaa.Sy
