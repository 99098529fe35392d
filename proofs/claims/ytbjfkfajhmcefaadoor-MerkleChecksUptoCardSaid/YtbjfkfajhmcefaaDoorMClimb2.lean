/-
  climb: the way up, walked.
-/
import Derived.Test.YtbjfkfajhmcefaaDoorMClimb
namespace Go.Proofs.YtbjfkfajhmcefaaDoor
open Go.RowKit Sp

theorem results_row_tmp {P : Program} {fn : Func} {p q : Tmp} {ty : TypeId} (h : fn.results = #[.cell p ty, .tmp q]) (tmps : Array Value) (w : World) (g : Nat) (t : TypeId) (cs : Array Value) (fr : Nat × Nat) (d : TypeDesc)
    (hp : tmps.getD p undef = .pointer (some ⟨g, 0, none⟩)) (hg : w.heap[g]? = some (.cells cs t fr))
    (hu : P.underlying ty = some d) (hd : (match d with | .struct _ | .array _ _ => true | _ => false) = true) (hi : (P.info? ty).map (·.size) = some cs.size) :
    (results fn tmps).run P w = .ok (.tuple #[.agg cs, tmps.getD q undef]) w := by
  have hp' : tmps[p]?.getD undef = .pointer (some ⟨g, 0, none⟩) := by simpa using hp
  simp [results, h, hp', asAddr, run_loadVar_row w g t ty cs fr d hg hu hd hi]
theorem results_row_tmp2 {P : Program} {fn : Func} {p q r : Tmp} {ty : TypeId} (h : fn.results = #[.cell p ty, .tmp q, .tmp r]) (tmps : Array Value) (w : World) (g : Nat) (t : TypeId) (cs : Array Value) (fr : Nat × Nat) (d : TypeDesc)
    (hp : tmps.getD p undef = .pointer (some ⟨g, 0, none⟩)) (hg : w.heap[g]? = some (.cells cs t fr))
    (hu : P.underlying ty = some d) (hd : (match d with | .struct _ | .array _ _ => true | _ => false) = true) (hi : (P.info? ty).map (·.size) = some cs.size) :
    (results fn tmps).run P w = .ok (.tuple #[.agg cs, tmps.getD q undef, tmps.getD r undef]) w := by
  have hp' : tmps[p]?.getD undef = .pointer (some ⟨g, 0, none⟩) := by simpa using hp
  simp [results, h, hp', asAddr, run_loadVar_row w g t ty cs fr d hg hu hd hi]

/-- a whole array into a block of the call's own: of the world behind it two facts -/
theorem wpList_store_own {P : Program} {ops : Array Oper} {rest : List Oper} {o : Oper} {a : Act} {w : World} {Q : Exit → Act → World → Prop} (hgd : o.guard = none) (ty : TypeId) (x y : Operand) (ho : o.op = .store ty x y)
    (g : Nat) (cells : Array Value) (hx : a.eval x = .pointer (some ⟨g, 0, none⟩)) (hy : a.eval y = .agg cells)
    (t : TypeId) (old : Array Value) (hg : Blk w g t old) (hi : (P.info? ty).map (·.size) = some cells.size) (hold : old.size = cells.size) (h1 : cells.all (·.oneCell') = true)
    (h : ∀ w2, Blk w2 g t cells → (∀ B, B ≤ g → Below B w w2) → w.grownBy w2 (some g) → wpList P ops Q rest (a.put o.dst undef) w2) : wpList P ops Q (o :: rest) a w :=
  wpList_store_row hgd ty x y ho g cells hx hy t old hg hi hold h1 (h _ (hg.setRow cells) (fun _ hB => below_setRow (Below.refl _ _) hB _) (only_setRow (World.grownBy.refl w _) _))

/-- a pair's cells -/
def pcells (p : List UInt8 × List UInt8) : List Value := p.1.map bv ++ p.2.map bv
def pvals (ps : List (List UInt8 × List UInt8)) : List (List Value) := ps.map pcells
theorem pvals_length (ps : List (List UInt8 × List UInt8)) : (pvals ps).length = ps.length := by simp [pvals]
theorem pcells_length {p : List UInt8 × List UInt8} (h : p.1.length = 32 ∧ p.2.length = 32) : (pcells p).length = 64 := by simp [pcells, h.1, h.2]
theorem pcells_one (p : List UInt8 × List UInt8) : ∀ u ∈ pcells p, u.oneCell' = true := fun u hu => by
  rcases List.mem_append.1 hu with h | h
  · exact oneCell_bv _ u h
  · exact oneCell_bv _ u h
theorem pcells_all (p : List UInt8 × List UInt8) : (pcells p).toArray.all (·.oneCell') = true := all_oneCell_toArray (pcells_one p)
theorem pcells_size {p : List UInt8 × List UInt8} (h : p.1.length = 32 ∧ p.2.length = 32) : (pcells p).toArray.size = 64 := by rw [List.size_toArray, pcells_length h]
theorem elems_pair {p : List UInt8 × List UInt8} (h : p.1.length = 32 ∧ p.2.length = 32) : Elems 64 [pcells p] := fun x hx => by
  simp at hx
  subst hx
  exact ⟨pcells_length h, pcells_one p⟩
theorem infoPair : (Tryd.prog.info? 86).map (fun i => (i.zero, i.size, i.bytes)) = some (some (.agg (List.replicate 64 (.int .u8 0)).toArray), 64, 64) := by kernel_rfl
theorem pair_info {p : List UInt8 × List UInt8} (h : p.1.length = 32 ∧ p.2.length = 32) : (Tryd.prog.info? 86).map (·.size) = some (pcells p).toArray.size := by rw [pcells_size h]; kernel_rfl
theorem pair_under : ∃ d, Tryd.prog.underlying 86 = some d ∧ (match d with | .struct _ | .array _ _ => true | _ => false) = true := ⟨_, Tryd.underlying86, rfl⟩
theorem built_pair (l r : List UInt8) (hl : l.length = 32) (hr : r.length = 32) : Tryd.prog.built 86 [(0, .agg (l.map bv).toArray), (1, .agg (r.map bv).toArray)] = some (pcells (l, r)).toArray := by
  have h : ∀ parts, Tryd.prog.built 86 parts = Instr.fill (#[(0, 32), (32, 32)][·]?) (List.replicate 64 (Value.int .u8 0)).toArray parts := fun parts => by kernel_rfl
  rw [h]
  have he : Elems 32 [l.map bv, r.map bv] := elems_dvals (ds := [l, r]) (fun d hd => by simp at hd; rcases hd with rfl | rfl <;> assumption)
  have h2 := fill_elems (by omega) [l.map bv, r.map bv] he (List.replicate 64 (Value.int .u8 0)).toArray (by simp)
  have e : [l.map bv, r.map bv].flatten = pcells (l, r) := by simp [pcells]
  rw [e] at h2
  exact h2
theorem wpList_build_pair {w : World} {ops : Array Oper} {rest : List Oper} {o : Oper} {a : Act} {Q : Exit → Act → World → Prop} (hgd : o.guard = none) (x y : Operand) (ho : o.op = .build 86 #[(0, x), (1, y)])
    (l r : List UInt8) (hl : l.length = 32) (hr : r.length = 32) (hx : a.eval x = .agg (l.map bv).toArray) (hy : a.eval y = .agg (r.map bv).toArray)
    (h : wpList Tryd.prog ops Q rest (a.put o.dst (.agg (pcells (l, r)).toArray)) w) : wpList Tryd.prog ops Q (o :: rest) a w :=
  wpList_buildTo hgd _ _ ho o.dst rfl _ (by simpa [hx, hy] using built_pair l r hl hr) h
/-- []pair{p} -/
theorem wpList_one_pair {w : World} {ops : Array Oper} {rest : List Oper} {o : Oper} {a : Act} {Q : Exit → Act → World → Prop} (hgd : o.guard = none) (x : Operand) (ho : o.op = .buildSlice 79 1 #[(0, x)])
    (p : List UInt8 × List UInt8) (hp : p.1.length = 32 ∧ p.2.length = 32) (hx : a.eval x = .agg (pcells p).toArray) (N : Nat) (hN : w.heap.size = N)
    (h : ∀ w', ESrc 64 w' (some ⟨N, 0, none⟩) [pcells p] → Below N w w' → N < w'.heap.size → wpList Tryd.prog ops Q rest (a.put o.dst (.slice (some ⟨N, 0, none⟩) 1 1)) w') : wpList Tryd.prog ops Q (o :: rest) a w :=
  wpList_build_elems Tryd.underlying79 infoPair (by omega) hgd 1 _ ho [pcells p] (elems_pair hp) rfl (by omega) (by decide) (by simp [hx]) N hN
    (h _ (ESrc.lit N hN _ (elems_pair hp)) (by subst hN; exact (Below.refl _ _).alloc (Nat.le_refl _) _) (by subst hN; simp))
theorem pair_ranges {w : World} {g : Nat} {t : TypeId} {l r : List UInt8} (h : Blk w g t (pcells (l, r)).toArray) (hl : l.length = 32) : w.rangeAt g 0 (l.map bv) ∧ w.rangeAt g 32 (r.map bv) := by
  have hl' : (l.map bv).length = 32 := by rw [List.length_map]; exact hl
  constructor
  · intro j v hj
    have hlt := (List.getElem?_eq_some_iff.1 hj).1
    rw [Nat.zero_add]
    refine (h.cell j).trans ?_
    rw [List.getElem?_toArray]
    show (l.map bv ++ r.map bv)[j]? = some v
    rw [List.getElem?_append_left hlt]
    exact hj
  · intro j v hj
    refine (h.cell (32 + j)).trans ?_
    rw [List.getElem?_toArray]
    show (l.map bv ++ r.map bv)[32 + j]? = some v
    rw [List.getElem?_append_right (by omega), hl', Nat.add_sub_cancel_left]
    exact hj
theorem OwnE.not {e : TypeId} {size : Nat} {w : World} {base : Nat} {v : Value} {xs : List (List Value)} (h : OwnE e size w base v xs) {g : Nat} (hg : g < base ∨ w.heap.size ≤ g) : some g ≠ v.ownBlock := fun e => by
  have := World.ownsRow.lt h.2 g e.symm
  omega
theorem OwnE.not' {e : TypeId} {size : Nat} {w : World} {base : Nat} {v : Value} {xs : List (List Value)} (h : OwnE e size w base v xs) {g : Nat} (hg : g < base ∨ w.heap.size ≤ g) : v.ownBlock = none ∨ v.ownBlock ≠ some g := .inr (fun e => h.not hg e.symm)

def ClimbPost (w : World) (x : List UInt8) (ps : List (List UInt8 × List UInt8)) (ok : Bool) (e : Ending) (w' : World) : Prop := ∃ v, e = .returned (.tuple #[dv x, v, .bool ok]) ∧ OwnE 86 64 w' w.heap.size v (pvals ps) ∧ Below w.heap.size w w'
theorem zero_dig : zeroDigest = (zero32.map bv).toArray := rfl
theorem zero_info : (Tryd.prog.info? 24).map (·.size) = some zeroDigest.size := by kernel_rfl
theorem zero_one : zeroDigest.all (·.oneCell') = true := by rw [zero_dig]; exact dig_one _

set_option maxHeartbeats 1000000 in
set_option maxRecDepth 100000 in
theorem climb_no (w : World) (leaf : List UInt8) (A : Option Addr) (i n m c : Nat) (hi : n ≤ i) (hi2 : i ≤ 4294967295) :
    Calls Tryd.prog 53 #[.agg (leaf.map bv).toArray, .int .u32 i, .int .u32 n, .slice A m c] w (ClimbPost w zero32 [] false) := by
  have q0 : (0 : Int) ≤ (i : Int) := by omega
  have q1 : (n : Int) ≤ (i : Int) := by omega
  have q2 : (i : Int) ≤ 4294967295 := by omega
  go_enter Tryd.func53, Tryd.ntmps53
  go_wp2_with (refine wpList_store_own rfl 24 (.tmp 8) (.tmp 19) rfl (w.heap.size + 1) zeroDigest rfl rfl 24 _ (heap_alloc2_new w _ _) zero_info rfl zero_one ?_
               intro w2 hd2 hB2 _)
  exact bodyPost_ret (results_row_tmp2 rfl _ _ (w.heap.size + 1) 24 _ (0, 0) _ rfl hd2 Tryd.underlying24 rfl zero_info) rfl ⟨_, rfl, OwnE.nil _ _ _ _, (below_alloc2 w _ _).trans (hB2 _ (by omega))⟩

set_option maxHeartbeats 1000000 in
set_option maxRecDepth 100000 in
theorem climb_off (w : World) (leaf : List UInt8) (A : Option Addr) (i n m c : Nat) (hi : i < n) (hn : n ≤ 4294967295) (hm : m ≠ (sidesS i n).length) :
    Calls Tryd.prog 53 #[.agg (leaf.map bv).toArray, .int .u32 i, .int .u32 n, .slice A m c] w (ClimbPost w zero32 [] false) := by
  have q0 : (0 : Int) ≤ (i : Int) := by omega
  have q1 : (i : Int) < (n : Int) := by omega
  have q2 : (n : Int) ≤ 4294967295 := by omega
  go_enter Tryd.func53, Tryd.ntmps53
  go_wp2_with fail
  refine (fromRight_any n _ i n (Nat.le_refl _) hi (by omega)).mono ?_
  rintro e w1 ⟨v, rfl, hown, hb1⟩
  obtain ⟨As, cs, rfl, hs, _, _⟩ := OwnE.any hown
  have hr := Blk.below (heap_alloc2_new w (.cells (leaf.map bv).toArray 24) (.cells zeroDigest 24)) hb1 (by simp)
  have hb := (below_alloc2 w (.cells (leaf.map bv).toArray 24) (.cells zeroDigest 24)).trans (hb1.mono (by simp; omega))
  obtain ⟨q, hq⟩ : ∃ q, q = (bvals (sidesS i n)).length := ⟨_, rfl⟩
  have hqm : ¬ m = q := by rw [hq, bvals_length]; exact hm
  rw [← hq]
  clear hown hs hq hm hb1
  go_wp2_with (refine wpList_store_own rfl 24 (.tmp 8) (.tmp 30) rfl (w.heap.size + 1) zeroDigest rfl rfl 24 _ hr zero_info rfl zero_one ?_
               intro w2 hd2 hB2 _)
  exact bodyPost_ret (results_row_tmp2 rfl _ _ (w.heap.size + 1) 24 _ (0, 0) _ rfl hd2 Tryd.underlying24 rfl zero_info) rfl ⟨_, rfl, OwnE.nil _ _ _ _, hb.trans (hB2 _ (by omega))⟩

end Go.Proofs.YtbjfkfajhmcefaaDoor
