/-
  A digest's bytes, as the document lays them.
-/
import Derived.Test.YtfhcpdbahbbmaaaGreatDoorOwnAny
import Derived.Test.YtfhcpdbahbbmaaaGreatDoorShaLess
import Derived.Maps.AppendAt
namespace Go.Proofs.YtfhcpdbahbbmaaaGreatDoor.Sh
open Go.RowKit Sp

theorem OwnB.le {w : World} {b b' : Nat} {v : Value} {l : List UInt8} (h : OwnB w b v l) (hb : b' ≤ b) : OwnB w b' v l :=
  ⟨h.1, h.2.elim Or.inl (fun ⟨g, cap, cur, hv, hg, r⟩ => Or.inr ⟨g, cap, cur, hv, Nat.le_trans hb hg, r⟩)⟩
theorem wpList_append_bytes2 {w : World} {ops : Array Oper} {rest : List Oper} {o : Oper} {a : Act} {Q : Exit → Act → World → Prop} (hgd : o.guard = none) (s x : Operand)
    (ho : o.op = .call { callee := .builtin .append, args := #[s, x], argTypes := #[25, 25] }) (base : Nat) (v : Value) (l : List UInt8) (hs : a.eval s = v) (hown : OwnB w base v l)
    (b o' : Nat) (m : List UInt8) (c : Nat) (hx : a.eval x = .slice (some ⟨b, o', none⟩) m.length c) (hsrc : ∀ j u, m[j]? = some u → w.cell? ⟨b, o' + j, none⟩ = some (bv u)) (hlen : l.length + m.length ≤ 140737488355328) (hbase : base ≤ w.heap.size)
    (h : ∀ v' w', OwnB w' base v' (l ++ m) → w.grownBy w' v.ownBlock → (v'.ownBlock = v.ownBlock ∨ v'.ownBlock = some w.heap.size) → wpList Tryz.prog ops Q rest (a.put o.dst v') w') : wpList Tryz.prog ops Q (o :: rest) a w := by
  refine wpList_plain hgd fun K hK => ?_
  obtain ⟨i, hi, hz0, hz1, hz2⟩ := info_parts infoByte
  obtain ⟨v', w', hrun, h2, h3, _, h5⟩ := run_append_own_at (P := Tryz.prog) w base 25 o.type 5 i (.int .u8 0) 1 1 Tryz.underlying25 hi hz0 hz1 hz2 rfl (by decide) v l.length (l.map bv) hown ⟨b, o', none⟩ m.length c (m.map bv) (by simp)
      (fun j u hu => by
        rw [addr_add]
        rw [List.getElem?_map] at hu
        obtain ⟨x, hx, rfl⟩ := Option.map_eq_some_iff.1 hu
        exact hsrc j x hx) (oneCell_bv m) (by simp [maxLen]; omega) (by omega) hbase
  unfold Oper.wp execOp
  simp only [ho, resolve, invoke, builtin, Sem.run_bind, Sem.run_pure, Result.andThen_ok, List.map_toArray, List.map_cons, List.map_nil, hs, hx, hrun]
  exact hK _ _ (h v' w' (by simpa [OwnB] using h2) h3 h5)

set_option maxHeartbeats 1000000 in
set_option maxRecDepth 100000 in
theorem textR_any (w : World) (d : List UInt8) (hd : d.length = 32) :
    Calls Tryz.prog 72 #[.agg (d.map bv).toArray] w fun e w' => ∃ g cap, e = .returned (.slice (some ⟨g, 0, none⟩) 32 cap) ∧ OwnB w' w.heap.size (.slice (some ⟨g, 0, none⟩) 32 cap) d ∧ g < w'.heap.size ∧ Below w.heap.size w w' := by
  have HD := Lib.hid hd
  clear hd
  go_enter Tryz.func72, Tryz.ntmps72
  go_wp2
  go_loopw [3, 4] (fun v i wr => ∃ (k : Nat) (v0 : Value), k ≤ 32 ∧ v0 = v ∧ i = .int .i64 k ∧ OwnB wr (w.heap.size + 1) v0 (d.take k) ∧ Below w.heap.size w wr ∧ Blk wr w.heap.size 47 (d.map bv).toArray)
    (fun _ i _ => 32 - (intOf i).toNat)
  case atStart => exact ⟨0, _, by omega, rfl, rfl, OwnB.nil _ _, (Below.refl _ _).alloc (Nat.le_refl _) _, Blk.new _ _ _⟩
  case round =>
    obtain ⟨k, v0, hk, rfl, rfl, hown, hbe, hbk⟩ := hrel
    by_cases hlt : k < 32
    · obtain ⟨x, hx⟩ : ∃ x, d[k]? = some x := ⟨d[k]'(by rw [HD.out]; exact hlt), List.getElem?_eq_getElem _⟩
      have hc := dig_cell hbk k x hx
      unfold bv at hc
      have hbl := hbk.lt
      have hlen : (d.take k).length ≤ 32 := by rw [List.length_take]; omega
      have HX := Lib.hid (And.intro hx hlen)
      clear hx hlen
      go_wp2_with (at_builtin
                   refine wpList_append_bytes rfl (.tmp 9) (.tmp 13) rfl (w.heap.size + 1) v0 (d.take k) rfl (hown.alloc _) (some ⟨wr.heap.size, 0, none⟩) [x] 1 rfl (Src.of_blk (Blk.eq_ (Blk.new wr 5 _) (by rfl))) (by have := HX.out.2; simp only [List.length_singleton]; omega) (by simp; omega) ?_
                   intro v1 w1 hv1 hg1
                   have hbA := (Below.refl (w.heap.size + 1) wr).alloc (Nat.succ_le_of_lt hbl) (.cells #[.int .u8 (x.toNat : Int)] 5)
                   have hb1 := below_own hbA (hown.alloc _) hg1 (Nat.le_refl _) (by simp; omega))
      go_roundw
      case rel =>
        refine ⟨k + 1, v1, by omega, rfl, by go_num, ?_, hbe.trans (hb1.mono (Nat.le_succ _)), hbk.below hb1 (Nat.lt_succ_self _)⟩
        have ht : d.take (k + 1) = d.take k ++ [x] := by
          rw [List.take_succ_eq_append_getElem (by rw [HD.out]; exact hlt)]
          congr 2
          exact (List.getElem?_eq_some_iff.1 HX.out.1).2
        rw [ht]; exact hv1
      case measure => simp [intOf]; omega
    · obtain rfl : k = 32 := by omega
      rw [List.take_of_length_le (by rw [HD.out]; exact Nat.le_refl _)] at hown
      go_wp2
      go_ret
      obtain ⟨g, cap, rfl, _, hg⟩ := hown.form (by rw [HD.out]; omega)
      rw [HD.out] at hown
      exact ⟨g, cap, by rw [HD.out]; rfl, hown.le (Nat.le_succ _), hg, hbe⟩
end Go.Proofs.YtfhcpdbahbbmaaaGreatDoor.Sh
