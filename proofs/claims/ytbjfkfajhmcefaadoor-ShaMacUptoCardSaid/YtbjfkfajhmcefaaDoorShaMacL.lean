/-
  The law on Mac, walked.
-/
import Derived.Test.YtbjfkfajhmcefaaDoorRefMac
namespace Go.Proofs.YtbjfkfajhmcefaaDoor
open Go.RowKit Sp

set_option maxHeartbeats 2000000 in
set_option maxRecDepth 100000 in
theorem law_mac (w : World) (K T : Option Addr) (k t : List UInt8) (ck ct : Nat) (hK : Src w K k) (hT : Src w T t) (sk : k.length ≤ 1048576) (st : t.length ≤ 1048576)
    (lk : k.length ≤ ck) (lt' : t.length ≤ ct) (mk : ck ≤ 9223372036854775807) (mt : ct ≤ 9223372036854775807) (ht : TabAt w 1) (htr : TabAt w 0) :
    Calls Tryd.prog 6 #[.slice K k.length ck, .slice T t.length ct] w fun e w' => e = .returned (.bool true) ∧ Below w.heap.size w w' := by
  have HK := Lib.hid hK
  have HT := Lib.hid hT
  have HC := Lib.hid ht
  have HR := Lib.hid htr
  have htl := ht.lt
  have hrl := htr.lt
  clear hK hT ht htr
  have hl : (macS k t).length = 32 := sum_length _
  obtain ⟨X, hX⟩ : ∃ X, X = macS k t := ⟨_, rfl⟩
  rw [← hX] at hl
  have HX := Lib.hid hX
  clear hX
  have e1 : ∀ W, (binOp .eql 24 (.agg (X.map bv).toArray) (.agg (X.map bv).toArray)).run Tryd.prog W = .ok (.bool true) W := fun W => by rw [run_eql_dv W _ _ hl hl]; simp
  go_enter Tryd.func6, Tryd.ntmps6
  go_wp2_with fail
  refine (alive_any _ HC.out).mono ?_
  rintro e w1 ⟨rfl, hb⟩
  go_wp2_with fail
  refine (mac_any w1 K T k t ck ct (HK.out.below hb) (HT.out.below hb) (HC.out.below hb htl) lk lt' mk mt (by omega) (by omega)).mono ?_
  rintro e w2 ⟨rfl, hb2⟩
  have hb := hb.trans (hb2.mono hb.size)
  clear hb2
  rw [← HX.out]
  unfold dv
  go_wp2_with fail
  refine (macR_any w2 K T k t ck ct (HK.out.below hb) (HT.out.below hb) (HR.out.below hb hrl) (by omega) (by omega)).mono ?_
  rintro e w3 ⟨rfl, hb3⟩
  have hb := hb.trans (hb3.mono hb.size)
  clear hb3
  rw [← HX.out]
  unfold dv
  go_wp2
  go_ret
  exact ⟨rfl, hb⟩
end Go.Proofs.YtbjfkfajhmcefaaDoor
