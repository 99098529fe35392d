import Derived.Test.YtgggdbjakcpanaaGreatDoorQCOwnAny
import Derived.Test.YtgggdbjakcpanaaGreatDoorQCShaLess
import Derived.Maps.AppendAt
set_option linter.unusedVariables false
set_option linter.unusedSimpArgs false
namespace Go.Proofs.YtgggdbjakcpanaaGreatDoor
namespace Sh
open Go.RowKit Sp
theorem OwnB.le {w:World} {b b':Nat} {v:Value} {l:List UInt8} (h:OwnB w b v l) (hb:b'≤b):OwnB w b' v l :=
  ⟨h.1,h.2.elim Or.inl (fun ⟨g,cap,cur,hv,hg,r⟩=>Or.inr ⟨g,cap,cur,hv,Nat.le_trans hb hg,r⟩)⟩
set_option maxHeartbeats 1000000 in
set_option maxRecDepth 100000 in
theorem textR_any (w : World) (d : List UInt8) (hd : d.length = 32) :
    Calls Tryz.prog 83 #[.agg (d.map bv).toArray] w fun e w'=>∃ g cap,e=.returned (.slice (some ⟨g,0,none⟩) 32 cap)∧OwnB w' w.heap.size (.slice (some ⟨g,0,none⟩) 32 cap) d∧g<w'.heap.size∧Below w.heap.size w w':=by
  have HD:=Lib.hid hd
  clear hd
  go_enter Tryz.func83,Tryz.ntmps83
  go_wp2
  go_loopw [3,4] (fun v i wr=>∃ (k:Nat) (v0:Value),k≤32∧v0=v∧i=.int .i64 k∧OwnB wr (w.heap.size+1) v0 (d.take k)∧Below w.heap.size w wr∧Blk wr w.heap.size 28 (d.map bv).toArray)
    (fun _ i _=>32 - (intOf i).toNat)
  case atStart=>exact ⟨0,_,by omega,rfl,rfl,OwnB.nil _ _,(Below.refl _ _).alloc (Nat.le_refl _) _,Blk.new _ _ _⟩
  case round =>
    obtain ⟨k,v0,hk,rfl,rfl,hown,hbe,hbk⟩:=hrel
    by_cases hlt:k<32
    · obtain ⟨x, hx⟩ : ∃ x, d[k]? = some x := ⟨d[k]'(by rw [HD.out]; exact hlt), List.getElem?_eq_getElem _⟩
      have hc:=dig_cell hbk k x hx
      unfold bv at hc
      have hbl:=hbk.lt
      have hlen:(d.take k).length≤32:=by rw [List.length_take]; omega
      have HX:=Lib.hid (And.intro hx hlen)
      clear hx hlen
      go_wp2_with (at_builtin
                   refine wpList_append_bytes rfl (.tmp 9) (.tmp 13) rfl (w.heap.size+1) v0 (d.take k) rfl (hown.alloc _) (some ⟨wr.heap.size,0,none⟩) [x] 1 rfl (Src.of_blk (Blk.eq_ (Blk.new wr 5 _) (by rfl))) (by have:=HX.out.2; simp only [List.length_singleton]; omega) (by simp; omega) ?_
                   intro v1 w1 hv1 hg1
                   have hbA:=(Below.refl (w.heap.size+1) wr).alloc (Nat.succ_le_of_lt hbl) (.cells #[.int .u8 (x.toNat:Int)] 5)
                   have hb1:=below_own hbA (hown.alloc _) hg1 (Nat.le_refl _) (by simp; omega))
      go_roundw
      case rel =>
        refine ⟨k+1,v1,by omega,rfl,by go_num,?_,hbe.trans (hb1.mono (Nat.le_succ _)),hbk.below hb1 (Nat.lt_succ_self _)⟩
        have ht:d.take (k+1)=d.take k++[x]:=by
          rw [List.take_succ_eq_append_getElem (by rw [HD.out]; exact hlt)]
          congr 2
          exact (List.getElem?_eq_some_iff.1 HX.out.1).2
        rw [ht]; exact hv1
      case measure=>simp [intOf]; omega
    · obtain rfl:k=32:=by omega
      rw [List.take_of_length_le (by rw [HD.out]; exact Nat.le_refl _)] at hown
      go_wp2
      go_ret
      obtain ⟨g,cap,rfl,_,hg⟩:=hown.form (by rw [HD.out]; omega)
      rw [HD.out] at hown
      exact ⟨g,cap,by rw [HD.out]; rfl,hown.le (Nat.le_succ _),hg,hbe⟩
end Sh
end Go.Proofs.YtgggdbjakcpanaaGreatDoor
