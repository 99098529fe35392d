/-
  Texts of ours, put together: RefFold.
-/
import Derived.Test.YtneeefinaejgcaaDoorBG3
set_option linter.unusedVariables false
set_option linter.unusedSimpArgs false
section
namespace Go.Proofs.YtneeefinaejgcaaDoor
open Go.RowKit Go.Lib

def val8 (a b c d e f g h : Nat) : Nat := a + 18446744073709551616 * b + 340282366920938463463374607431768211456 * c + 6277101735386680763835789423207666416102355444464034512896 * d + 115792089237316195423570985008687907853269984665640564039457584007913129639936 * e + 2135987035920910082395021706169552114602704522356652769947041607822219725780640550022962086936576 * f + 39402006196394479212279040100143613805079739270465446667948293404245721771497210611414266254884915640806627990306816 * g + 726838724295606890549323807888004534353641360687318060281490199180639288113397923326191050713763565560762521606266177933534601628614656 * h
theorem or_nat (a b : Nat) (ha : a < 18446744073709551616) (hb : b < 18446744073709551616) : bits .or .u64 (a : Int) (b : Int) = ((a ||| b : Nat) : Int) := by
  have hl : a ||| b < 18446744073709551616 := Nat.or_lt_two_pow (n := 64) ha hb
  have hw2 : (BitVec.ofInt 64 (a : Int) ||| BitVec.ofInt 64 (b : Int)).toNat = a ||| b := by
    rw [BitVec.toNat_or]
    simp only [BitVec.ofInt_natCast, BitVec.toNat_ofNat]
    rw [Nat.mod_eq_of_lt (by omega), Nat.mod_eq_of_lt (by omega)]
  show IntKind.u64.wrap ((BitVec.ofInt 64 (a : Int) ||| BitVec.ofInt 64 (b : Int)).toNat : Int) = _
  rw [hw2, IntKind.wrap_u64]
  omega
/-- what a block of eight words holds -/
def wordAt (w : World) (g j : Nat) : Nat := match w.cell? ⟨g, j, none⟩ with | some (.int _ z) => z.toNat | _ => 0
def valAt (w : World) (g : Nat) : Nat := val8 (wordAt w g 0) (wordAt w g 1) (wordAt w g 2) (wordAt w g 3) (wordAt w g 4) (wordAt w g 5) (wordAt w g 6) (wordAt w g 7)
theorem valAt_blk {w : World} {g : Nat} {t : TypeId} {a b c d e f u v : Nat} (h : Blk w g t #[.int .u64 (a : Int), .int .u64 (b : Int), .int .u64 (c : Int), .int .u64 (d : Int), .int .u64 (e : Int), .int .u64 (f : Int), .int .u64 (u : Int), .int .u64 (v : Int)]) : valAt w g = val8 a b c d e f u v := by
  unfold valAt wordAt
  rw [h.cell 0, h.cell 1, h.cell 2, h.cell 3, h.cell 4, h.cell 5, h.cell 6, h.cell 7]
  simp
theorem mul_any' (w : World) (x y hi lo : Nat) (hx : x < 18446744073709551616) (hy : y < 18446744073709551616) (hlo : lo < 18446744073709551616) (he : lo + 18446744073709551616 * hi = x * y) (dy : Int) (hd : dy = (y : Int)) :
    Calls Tryd.prog 51 #[.int .u64 (x : Int), .int .u64 dy] w fun e w' => e = .returned (.tuple #[.int .u64 (hi : Int), .int .u64 (lo : Int)]) ∧ Below w.heap.size w w' := by
  subst hd
  exact (mul64_at w x y hi lo hx hy hlo he).mono fun e w' ⟨h1, h2⟩ => ⟨h1, by rw [h2]; exact Below.refl _ _⟩

set_option maxHeartbeats 100000000 in
set_option maxRecDepth 100000 in
theorem fold_any (w : World) (d0 d1 d2 d3 d4 d5 d6 d7 : Nat) (hd : d0 < 18446744073709551616 ∧ d1 < 18446744073709551616 ∧ d2 < 18446744073709551616 ∧ d3 < 18446744073709551616 ∧ d4 < 18446744073709551616 ∧ d5 < 18446744073709551616 ∧ d6 < 18446744073709551616 ∧ d7 < 18446744073709551616) : Calls Tryd.prog 111 #[.agg #[.int .u64 18446744069414583343, .int .u64 18446744073709551615, .int .u64 18446744073709551615, .int .u64 18446744073709551615, .int .u64 4294968273, .int .u64 0, .int .u64 0], .agg #[.int .u64 (d0 : Int), .int .u64 (d1 : Int), .int .u64 (d2 : Int), .int .u64 (d3 : Int), .int .u64 (d4 : Int), .int .u64 (d5 : Int), .int .u64 (d6 : Int), .int .u64 (d7 : Int)]] w fun e w' => e = .returned (fv (val8 d0 d1 d2 d3 d4 d5 d6 d7 % pM)) ∧ Below w.heap.size w w' := by
  obtain ⟨V, hV⟩ : ∃ V, V = val8 d0 d1 d2 d3 d4 d5 d6 d7 % pM := ⟨_, rfl⟩
  rw [← hV]
  have HD := Lib.hid (And.intro hd hV)
  clear hd hV
  go_enter Tryd.func111, Tryd.ntmps111
  go_wp2_with fail
  go_loopw [5] (fun _ wr => ∃ e0 e1 e2 e3 e4 e5 e6 e7 : Nat, Hid ((e0 < 18446744073709551616 ∧ e1 < 18446744073709551616 ∧ e2 < 18446744073709551616 ∧ e3 < 18446744073709551616 ∧ e4 < 18446744073709551616 ∧ e5 < 18446744073709551616 ∧ e6 < 18446744073709551616 ∧ e7 < 18446744073709551616) ∧ V = val8 e0 e1 e2 e3 e4 e5 e6 e7 % pM) ∧ Below w.heap.size w wr ∧ Blk wr w.heap.size 76 #[.int .u64 18446744069414583343, .int .u64 18446744073709551615, .int .u64 18446744073709551615, .int .u64 18446744073709551615, .int .u64 4294968273, .int .u64 0, .int .u64 0] ∧ Blk wr (w.heap.size + 1) 154 #[.int .u64 (e0 : Int), .int .u64 (e1 : Int), .int .u64 (e2 : Int), .int .u64 (e3 : Int), .int .u64 (e4 : Int), .int .u64 (e5 : Int), .int .u64 (e6 : Int), .int .u64 (e7 : Int)] ∧ Blk wr (w.heap.size + 2) 68 #[.int .u64 0, .int .u64 0, .int .u64 0, .int .u64 0]) (fun _ wr => valAt wr (w.heap.size + 1))
  case atStart => exact ⟨d0, d1, d2, d3, d4, d5, d6, d7, Lib.hid ⟨HD.out.1, HD.out.2⟩, below_alloc3 w _ _ _, ((Blk.new w _ _).alloc _).alloc _, (blk_new2 w _ _ _).alloc _, blk_new3 w _ _ _ _⟩
  case round =>
    obtain ⟨e0, e1, e2, e3, e4, e5, e6, e7, HE, hb, Bm, Be, Br⟩ := hrel
    have hme := Lib.hid (valAt_blk Be)
    have hme0 := hme
    obtain ⟨⟨l0, l1, l2, l3, l4, l5, l6, l7⟩, hVe⟩ := HE.out
    obtain ⟨q1, hq1⟩ : ∃ q, q = e4 ||| e5 := ⟨_, rfl⟩
    obtain ⟨q2, hq2⟩ : ∃ q, q = q1 ||| e6 := ⟨_, rfl⟩
    obtain ⟨q3, hq3⟩ : ∃ q, q = q2 ||| e7 := ⟨_, rfl⟩
    have lq1 : q1 < 18446744073709551616 := by rw [hq1]; exact Nat.or_lt_two_pow (n := 64) l4 l5
    have lq2 : q2 < 18446744073709551616 := by rw [hq2]; exact Nat.or_lt_two_pow (n := 64) lq1 l6
    have o1 : bits .or .u64 (e4 : Int) (e5 : Int) = (q1 : Int) := by rw [hq1]; exact or_nat e4 e5 l4 l5
    have o2 : bits .or .u64 (q1 : Int) (e6 : Int) = (q2 : Int) := by rw [hq2]; exact or_nat q1 e6 lq1 l6
    have o3 : bits .or .u64 (q2 : Int) (e7 : Int) = (q3 : Int) := by rw [hq3]; exact or_nat q2 e7 lq2 l7
    have hz : q3 = 0 ↔ (e4 = 0 ∧ e5 = 0 ∧ e6 = 0 ∧ e7 = 0) := by
      rw [hq3, Nat.or_eq_zero_iff, hq2, Nat.or_eq_zero_iff, hq1, Nat.or_eq_zero_iff]
      omega
    have HZ := Lib.hid hz
    have qe0 : wr.cell? ⟨w.heap.size + 1, 0, none⟩ = some (.int .u64 (e0 : Int)) := Be.cell 0
    have qe1 : wr.cell? ⟨w.heap.size + 1, 1, none⟩ = some (.int .u64 (e1 : Int)) := Be.cell 1
    have qe2 : wr.cell? ⟨w.heap.size + 1, 2, none⟩ = some (.int .u64 (e2 : Int)) := Be.cell 2
    have qe3 : wr.cell? ⟨w.heap.size + 1, 3, none⟩ = some (.int .u64 (e3 : Int)) := Be.cell 3
    have qe4 : wr.cell? ⟨w.heap.size + 1, 4, none⟩ = some (.int .u64 (e4 : Int)) := Be.cell 4
    have qe5 : wr.cell? ⟨w.heap.size + 1, 5, none⟩ = some (.int .u64 (e5 : Int)) := Be.cell 5
    have qe6 : wr.cell? ⟨w.heap.size + 1, 6, none⟩ = some (.int .u64 (e6 : Int)) := Be.cell 6
    have qe7 : wr.cell? ⟨w.heap.size + 1, 7, none⟩ = some (.int .u64 (e7 : Int)) := Be.cell 7
    clear hz hq1 hq2 hq3 lq1 lq2 hVe
    by_cases h0 : q3 = 0
    · obtain ⟨rfl, rfl, rfl, rfl⟩ := HZ.out.1 h0
      obtain ⟨z, hzz⟩ : ∃ z, z = e0 + 18446744073709551616 * e1 + 340282366920938463463374607431768211456 * e2 + 6277101735386680763835789423207666416102355444464034512896 * e3 := ⟨_, rfl⟩
      have fz := fv_mk e0 e1 e2 e3 l0 l1 l2 l3
      rw [← hzz] at fz
      have hzl : z < 115792089237316195423570985008687907853269984665640564039457584007913129639936 := by rw [hzz]; exact fv_lt e0 e1 e2 e3 l0 l1 l2 l3
      have hVz : V = z % pM := by rw [HE.out.2, hzz]; rw [show val8 e0 e1 e2 e3 0 0 0 0 = e0 + 18446744073709551616 * e1 + 340282366920938463463374607431768211456 * e2 + 6277101735386680763835789423207666416102355444464034512896 * e3 by simp only [val8]; omega]
      have cn : ∀ w, Calls Tryd.prog 80 #[.agg #[.int .u64 18446744069414583343, .int .u64 18446744073709551615, .int .u64 18446744073709551615, .int .u64 18446744073709551615, .int .u64 4294968273, .int .u64 0, .int .u64 0], .agg #[.int .u64 (e0 : Int), .int .u64 (e1 : Int), .int .u64 (e2 : Int), .int .u64 (e3 : Int)]] w fun e w' => e = .returned (fv V) ∧ Below w.heap.size w w' := by
        intro w; rw [fz, hVz]; exact normR_any w z hzl
      have p0 : ¬ (q3 : Int) > 0 := by omega
      clear HE hme HZ fz hzz hzl hVz h0 l0 l1 l2 l3 l4 l5 l6 l7
      go_wp2_with (first | ((with_reducible refine here_load (d := some 109) ?_); refine wpList_load_blk rfl _ _ rfl w.heap.size rfl _ _ _ Bm Tryd.underlying76 rfl (by kernel_rfl) ?_))
      refine (cn _).mono ?_
      rintro e u ⟨rfl, hu⟩
      have Bru := Gr.blk hu Br
      have hbu := Below.gr hb hu
      clear hu cn
      go_wp2_with (first | ((with_reducible refine here_store ?_); refine wpList_store_blk rfl _ _ _ rfl (w.heap.size + 2) (fcs (V)) rfl rfl _ _ (Bru) (by kernel_rfl) (by rfl) (fcs_one _) ?_; intro w9 hL9 hB9 hK9))
      exact bodyPost_ret (results_cell_row rfl _ _ (w.heap.size + 2) _ _ (0, 0) _ rfl hL9 Tryd.underlying68 rfl (by kernel_rfl)) rfl ⟨rfl, hbu.trans (hB9 _ (by omega))⟩
    · have p0 : (q3 : Int) > 0 := by omega
      have HP := Lib.hid h0
      have sz := Br.lt
      go_wp2
      clear o1 o2 o3 l0 l1 l2 l3 l4 l5 l6 l7
      obtain ⟨pw, hpw⟩ : ∃ pw : World, pw = wr := ⟨wr, rfl⟩
      subst hpw
      go_loopw [6] (fun i wr => Below w.heap.size w wr ∧ Blk wr w.heap.size 76 #[.int .u64 18446744069414583343, .int .u64 18446744073709551615, .int .u64 18446744073709551615, .int .u64 18446744073709551615, .int .u64 4294968273, .int .u64 0, .int .u64 0] ∧ Blk wr (w.heap.size + 1) 154 #[.int .u64 (e0 : Int), .int .u64 (e1 : Int), .int .u64 (e2 : Int), .int .u64 (e3 : Int), .int .u64 (e4 : Int), .int .u64 (e5 : Int), .int .u64 (e6 : Int), .int .u64 (e7 : Int)] ∧ Blk wr (w.heap.size + 2) 68 #[.int .u64 0, .int .u64 0, .int .u64 0, .int .u64 0] ∧ Hid ((i = .int .i64 0 ∧ Blk wr pw.heap.size 154 #[.int .u64 0, .int .u64 0, .int .u64 0, .int .u64 0, .int .u64 0, .int .u64 0, .int .u64 0, .int .u64 0]) ∨ (i = .int .i64 1 ∧ Blk wr pw.heap.size 154 #[.int .u64 (e0 : Int), .int .u64 0, .int .u64 0, .int .u64 0, .int .u64 0, .int .u64 0, .int .u64 0, .int .u64 0]) ∨ (i = .int .i64 2 ∧ Blk wr pw.heap.size 154 #[.int .u64 (e0 : Int), .int .u64 (e1 : Int), .int .u64 0, .int .u64 0, .int .u64 0, .int .u64 0, .int .u64 0, .int .u64 0]) ∨ (i = .int .i64 3 ∧ Blk wr pw.heap.size 154 #[.int .u64 (e0 : Int), .int .u64 (e1 : Int), .int .u64 (e2 : Int), .int .u64 0, .int .u64 0, .int .u64 0, .int .u64 0, .int .u64 0]) ∨ (i = .int .i64 4 ∧ Blk wr pw.heap.size 154 #[.int .u64 (e0 : Int), .int .u64 (e1 : Int), .int .u64 (e2 : Int), .int .u64 (e3 : Int), .int .u64 0, .int .u64 0, .int .u64 0, .int .u64 0]))) (fun i _ => 4 - (intOf i).toNat)
      case atStart => exact ⟨hb.alloc (by omega) _, Bm.alloc _, Be.alloc _, Br.alloc _, Lib.hid (.inl ⟨rfl, Blk.new pw _ _⟩)⟩
      case round =>
        clear hb Bm Be Br hme qe0 qe1 qe2 qe3 qe4 qe5 qe6 qe7
        obtain ⟨hb, Bm, Be, Br, HI⟩ := hrel
        rcases HI.out with ⟨rfl, BA⟩ | ⟨rfl, BA⟩ | ⟨rfl, BA⟩ | ⟨rfl, BA⟩ | ⟨rfl, BA⟩
        · clear HI
          have pe : wr.cell? ⟨w.heap.size + 1, 0, none⟩ = some (.int .u64 (e0 : Int)) := Be.cell 0
          have pa : wr.cell? ⟨pw.heap.size, 0, none⟩ = some (.int .u64 0) := BA.cell 0
          have pf := BA.frozen 0
          have hAl : w.heap.size + 2 < pw.heap.size := sz
          go_wp2
          refine ⟨⟨hb.setCell (by show w.heap.size ≤ pw.heap.size; omega) _, Bm.far (by show w.heap.size ≠ pw.heap.size; omega) _, Be.far (by show w.heap.size + 1 ≠ pw.heap.size; omega) _, Br.far (by show w.heap.size + 2 ≠ pw.heap.size; omega) _, Lib.hid (.inr (.inl (⟨rfl, BA.set_ 0 _⟩)))⟩, by decide⟩
        · clear HI
          have pe : wr.cell? ⟨w.heap.size + 1, 1, none⟩ = some (.int .u64 (e1 : Int)) := Be.cell 1
          have pa : wr.cell? ⟨pw.heap.size, 1, none⟩ = some (.int .u64 0) := BA.cell 1
          have pf := BA.frozen 1
          have hAl : w.heap.size + 2 < pw.heap.size := sz
          go_wp2
          refine ⟨⟨hb.setCell (by show w.heap.size ≤ pw.heap.size; omega) _, Bm.far (by show w.heap.size ≠ pw.heap.size; omega) _, Be.far (by show w.heap.size + 1 ≠ pw.heap.size; omega) _, Br.far (by show w.heap.size + 2 ≠ pw.heap.size; omega) _, Lib.hid (.inr (.inr (.inl (⟨rfl, BA.set_ 1 _⟩))))⟩, by decide⟩
        · clear HI
          have pe : wr.cell? ⟨w.heap.size + 1, 2, none⟩ = some (.int .u64 (e2 : Int)) := Be.cell 2
          have pa : wr.cell? ⟨pw.heap.size, 2, none⟩ = some (.int .u64 0) := BA.cell 2
          have pf := BA.frozen 2
          have hAl : w.heap.size + 2 < pw.heap.size := sz
          go_wp2
          refine ⟨⟨hb.setCell (by show w.heap.size ≤ pw.heap.size; omega) _, Bm.far (by show w.heap.size ≠ pw.heap.size; omega) _, Be.far (by show w.heap.size + 1 ≠ pw.heap.size; omega) _, Br.far (by show w.heap.size + 2 ≠ pw.heap.size; omega) _, Lib.hid (.inr (.inr (.inr (.inl (⟨rfl, BA.set_ 2 _⟩)))))⟩, by decide⟩
        · clear HI
          have pe : wr.cell? ⟨w.heap.size + 1, 3, none⟩ = some (.int .u64 (e3 : Int)) := Be.cell 3
          have pa : wr.cell? ⟨pw.heap.size, 3, none⟩ = some (.int .u64 0) := BA.cell 3
          have pf := BA.frozen 3
          have hAl : w.heap.size + 2 < pw.heap.size := sz
          go_wp2
          refine ⟨⟨hb.setCell (by show w.heap.size ≤ pw.heap.size; omega) _, Bm.far (by show w.heap.size ≠ pw.heap.size; omega) _, Be.far (by show w.heap.size + 1 ≠ pw.heap.size; omega) _, Br.far (by show w.heap.size + 2 ≠ pw.heap.size; omega) _, Lib.hid (.inr (.inr (.inr (.inr (⟨rfl, BA.set_ 3 _⟩)))))⟩, by decide⟩
        · skip
          clear HI
          go_wp2
          go_loopw [7] (fun i wr => Below w.heap.size w wr ∧ Blk wr w.heap.size 76 #[.int .u64 18446744069414583343, .int .u64 18446744073709551615, .int .u64 18446744073709551615, .int .u64 18446744073709551615, .int .u64 4294968273, .int .u64 0, .int .u64 0] ∧ Blk wr (w.heap.size + 1) 154 #[.int .u64 (e0 : Int), .int .u64 (e1 : Int), .int .u64 (e2 : Int), .int .u64 (e3 : Int), .int .u64 (e4 : Int), .int .u64 (e5 : Int), .int .u64 (e6 : Int), .int .u64 (e7 : Int)] ∧ Blk wr (w.heap.size + 2) 68 #[.int .u64 0, .int .u64 0, .int .u64 0, .int .u64 0] ∧ Hid ((i = .int .i64 0 ∧ ∃ r0 r1 r2 r3 r4 r5 r6 r7 : Nat, Blk wr pw.heap.size 154 #[.int .u64 (r0 : Int), .int .u64 (r1 : Int), .int .u64 (r2 : Int), .int .u64 (r3 : Int), .int .u64 (r4 : Int), .int .u64 (r5 : Int), .int .u64 (r6 : Int), .int .u64 (r7 : Int)] ∧ (r0 < 18446744073709551616 ∧ r1 < 18446744073709551616 ∧ r2 < 18446744073709551616 ∧ r3 < 18446744073709551616 ∧ r4 < 18446744073709551616 ∧ r5 < 18446744073709551616 ∧ r6 < 18446744073709551616 ∧ r7 < 18446744073709551616) ∧ val8 r0 r1 r2 r3 r4 r5 r6 r7 = e0 + 18446744073709551616 * e1 + 340282366920938463463374607431768211456 * e2 + 6277101735386680763835789423207666416102355444464034512896 * e3) ∨ (i = .int .i64 1 ∧ ∃ r0 r1 r2 r3 r4 r5 r6 r7 : Nat, Blk wr pw.heap.size 154 #[.int .u64 (r0 : Int), .int .u64 (r1 : Int), .int .u64 (r2 : Int), .int .u64 (r3 : Int), .int .u64 (r4 : Int), .int .u64 (r5 : Int), .int .u64 (r6 : Int), .int .u64 (r7 : Int)] ∧ (r0 < 18446744073709551616 ∧ r1 < 18446744073709551616 ∧ r2 < 18446744073709551616 ∧ r3 < 18446744073709551616 ∧ r4 < 18446744073709551616 ∧ r5 < 18446744073709551616 ∧ r6 < 18446744073709551616 ∧ r7 < 18446744073709551616) ∧ val8 r0 r1 r2 r3 r4 r5 r6 r7 = e0 + 18446744073709551616 * e1 + 340282366920938463463374607431768211456 * e2 + 6277101735386680763835789423207666416102355444464034512896 * e3 + 4294968273 * e4) ∨ (i = .int .i64 2 ∧ ∃ r0 r1 r2 r3 r4 r5 r6 r7 : Nat, Blk wr pw.heap.size 154 #[.int .u64 (r0 : Int), .int .u64 (r1 : Int), .int .u64 (r2 : Int), .int .u64 (r3 : Int), .int .u64 (r4 : Int), .int .u64 (r5 : Int), .int .u64 (r6 : Int), .int .u64 (r7 : Int)] ∧ (r0 < 18446744073709551616 ∧ r1 < 18446744073709551616 ∧ r2 < 18446744073709551616 ∧ r3 < 18446744073709551616 ∧ r4 < 18446744073709551616 ∧ r5 < 18446744073709551616 ∧ r6 < 18446744073709551616 ∧ r7 < 18446744073709551616) ∧ val8 r0 r1 r2 r3 r4 r5 r6 r7 = e0 + 18446744073709551616 * e1 + 340282366920938463463374607431768211456 * e2 + 6277101735386680763835789423207666416102355444464034512896 * e3 + 4294968273 * e4 + 79228180536733297607775879168 * e5) ∨ (i = .int .i64 3 ∧ ∃ r0 r1 r2 r3 r4 r5 r6 r7 : Nat, Blk wr pw.heap.size 154 #[.int .u64 (r0 : Int), .int .u64 (r1 : Int), .int .u64 (r2 : Int), .int .u64 (r3 : Int), .int .u64 (r4 : Int), .int .u64 (r5 : Int), .int .u64 (r6 : Int), .int .u64 (r7 : Int)] ∧ (r0 < 18446744073709551616 ∧ r1 < 18446744073709551616 ∧ r2 < 18446744073709551616 ∧ r3 < 18446744073709551616 ∧ r4 < 18446744073709551616 ∧ r5 < 18446744073709551616 ∧ r6 < 18446744073709551616 ∧ r7 < 18446744073709551616) ∧ val8 r0 r1 r2 r3 r4 r5 r6 r7 = e0 + 18446744073709551616 * e1 + 340282366920938463463374607431768211456 * e2 + 6277101735386680763835789423207666416102355444464034512896 * e3 + 4294968273 * e4 + 79228180536733297607775879168 * e5 + 1461501969786775399960563636433274480493475135488 * e6) ∨ (i = .int .i64 4 ∧ ∃ r0 r1 r2 r3 r4 r5 r6 r7 : Nat, Blk wr pw.heap.size 154 #[.int .u64 (r0 : Int), .int .u64 (r1 : Int), .int .u64 (r2 : Int), .int .u64 (r3 : Int), .int .u64 (r4 : Int), .int .u64 (r5 : Int), .int .u64 (r6 : Int), .int .u64 (r7 : Int)] ∧ (r0 < 18446744073709551616 ∧ r1 < 18446744073709551616 ∧ r2 < 18446744073709551616 ∧ r3 < 18446744073709551616 ∧ r4 < 18446744073709551616 ∧ r5 < 18446744073709551616 ∧ r6 < 18446744073709551616 ∧ r7 < 18446744073709551616) ∧ val8 r0 r1 r2 r3 r4 r5 r6 r7 = e0 + 18446744073709551616 * e1 + 340282366920938463463374607431768211456 * e2 + 6277101735386680763835789423207666416102355444464034512896 * e3 + 4294968273 * e4 + 79228180536733297607775879168 * e5 + 1461501969786775399960563636433274480493475135488 * e6 + 26959952799879035267454121354585897147527232954541841722465329348608 * e7))) (fun i _ => 4 - (intOf i).toNat)
          case atStart => exact ⟨hb, Bm, Be, Br, Lib.hid (.inl ⟨rfl, e0, e1, e2, e3, 0, 0, 0, 0, BA, ⟨HE.out.1.1, HE.out.1.2.1, HE.out.1.2.2.1, HE.out.1.2.2.2.1, by omega, by omega, by omega, by omega⟩, by simp only [val8]; omega⟩)⟩
          case round =>
            clear hb Bm Be Br BA
            obtain ⟨hb, Bm, Be, Br, HI⟩ := hrel
            rcases HI.out with ⟨rfl, X⟩ | ⟨rfl, X⟩ | ⟨rfl, X⟩ | ⟨rfl, X⟩ | ⟨rfl, X⟩
            · clear HI
              obtain ⟨r0, r1, r2, r3, r4, r5, r6, r7, BA, hbd, hval⟩ := X
              go_wp2
              go_loopw [8, 9] (fun cv j wr => Below w.heap.size w wr ∧ Blk wr w.heap.size 76 #[.int .u64 18446744069414583343, .int .u64 18446744073709551615, .int .u64 18446744073709551615, .int .u64 18446744073709551615, .int .u64 4294968273, .int .u64 0, .int .u64 0] ∧ Blk wr (w.heap.size + 1) 154 #[.int .u64 (e0 : Int), .int .u64 (e1 : Int), .int .u64 (e2 : Int), .int .u64 (e3 : Int), .int .u64 (e4 : Int), .int .u64 (e5 : Int), .int .u64 (e6 : Int), .int .u64 (e7 : Int)] ∧ Blk wr (w.heap.size + 2) 68 #[.int .u64 0, .int .u64 0, .int .u64 0, .int .u64 0] ∧ Hid ((j = .int .i64 0 ∧ ∃ r0 r1 r2 r3 r4 r5 r6 r7 c : Nat, cv = .int .u64 (c : Int) ∧ Blk wr pw.heap.size 154 #[.int .u64 (r0 : Int), .int .u64 (r1 : Int), .int .u64 (r2 : Int), .int .u64 (r3 : Int), .int .u64 (r4 : Int), .int .u64 (r5 : Int), .int .u64 (r6 : Int), .int .u64 (r7 : Int)] ∧ (r0 < 18446744073709551616 ∧ r1 < 18446744073709551616 ∧ r2 < 18446744073709551616 ∧ r3 < 18446744073709551616 ∧ r4 < 18446744073709551616 ∧ r5 < 18446744073709551616 ∧ r6 < 18446744073709551616 ∧ r7 < 18446744073709551616) ∧ c = 0 ∧ val8 r0 r1 r2 r3 r4 r5 r6 r7 + 1 * c = e0 + 18446744073709551616 * e1 + 340282366920938463463374607431768211456 * e2 + 6277101735386680763835789423207666416102355444464034512896 * e3) ∨ (j = .int .i64 1 ∧ ∃ r0 r1 r2 r3 r4 r5 r6 r7 c : Nat, cv = .int .u64 (c : Int) ∧ Blk wr pw.heap.size 154 #[.int .u64 (r0 : Int), .int .u64 (r1 : Int), .int .u64 (r2 : Int), .int .u64 (r3 : Int), .int .u64 (r4 : Int), .int .u64 (r5 : Int), .int .u64 (r6 : Int), .int .u64 (r7 : Int)] ∧ (r0 < 18446744073709551616 ∧ r1 < 18446744073709551616 ∧ r2 < 18446744073709551616 ∧ r3 < 18446744073709551616 ∧ r4 < 18446744073709551616 ∧ r5 < 18446744073709551616 ∧ r6 < 18446744073709551616 ∧ r7 < 18446744073709551616) ∧ c ≤ 4294968275 ∧ val8 r0 r1 r2 r3 r4 r5 r6 r7 + 18446744073709551616 * c = e0 + 18446744073709551616 * e1 + 340282366920938463463374607431768211456 * e2 + 6277101735386680763835789423207666416102355444464034512896 * e3 + 4294968273 * e4) ∨ (j = .int .i64 2 ∧ ∃ r0 r1 r2 r3 r4 r5 r6 r7 c : Nat, cv = .int .u64 (c : Int) ∧ Blk wr pw.heap.size 154 #[.int .u64 (r0 : Int), .int .u64 (r1 : Int), .int .u64 (r2 : Int), .int .u64 (r3 : Int), .int .u64 (r4 : Int), .int .u64 (r5 : Int), .int .u64 (r6 : Int), .int .u64 (r7 : Int)] ∧ (r0 < 18446744073709551616 ∧ r1 < 18446744073709551616 ∧ r2 < 18446744073709551616 ∧ r3 < 18446744073709551616 ∧ r4 < 18446744073709551616 ∧ r5 < 18446744073709551616 ∧ r6 < 18446744073709551616 ∧ r7 < 18446744073709551616) ∧ c ≤ 4294968275 ∧ val8 r0 r1 r2 r3 r4 r5 r6 r7 + 340282366920938463463374607431768211456 * c = e0 + 18446744073709551616 * e1 + 340282366920938463463374607431768211456 * e2 + 6277101735386680763835789423207666416102355444464034512896 * e3 + 4294968273 * e4) ∨ (j = .int .i64 3 ∧ ∃ r0 r1 r2 r3 r4 r5 r6 r7 c : Nat, cv = .int .u64 (c : Int) ∧ Blk wr pw.heap.size 154 #[.int .u64 (r0 : Int), .int .u64 (r1 : Int), .int .u64 (r2 : Int), .int .u64 (r3 : Int), .int .u64 (r4 : Int), .int .u64 (r5 : Int), .int .u64 (r6 : Int), .int .u64 (r7 : Int)] ∧ (r0 < 18446744073709551616 ∧ r1 < 18446744073709551616 ∧ r2 < 18446744073709551616 ∧ r3 < 18446744073709551616 ∧ r4 < 18446744073709551616 ∧ r5 < 18446744073709551616 ∧ r6 < 18446744073709551616 ∧ r7 < 18446744073709551616) ∧ c ≤ 4294968275 ∧ val8 r0 r1 r2 r3 r4 r5 r6 r7 + 6277101735386680763835789423207666416102355444464034512896 * c = e0 + 18446744073709551616 * e1 + 340282366920938463463374607431768211456 * e2 + 6277101735386680763835789423207666416102355444464034512896 * e3 + 4294968273 * e4))) (fun _ j _ => 3 - (intOf j).toNat)
              case atStart => exact ⟨hb, Bm, Be, Br, Lib.hid (.inl ⟨rfl, r0, r1, r2, r3, r4, r5, r6, r7, 0, rfl, BA, hbd, rfl, by omega⟩)⟩
              case round =>
                clear hb Bm Be Br BA hbd hval
                obtain ⟨hb, Bm, Be, Br, HI⟩ := hrel
                rcases HI.out with ⟨rfl, X⟩ | ⟨rfl, X⟩ | ⟨rfl, X⟩ | ⟨rfl, X⟩
                · clear HI
                  obtain ⟨r0, r1, r2, r3, r4, r5, r6, r7, c, rfl, BA, ⟨b0, b1, b2, b3, b4, b5, b6, b7⟩, hc, hval⟩ := X
                  obtain ⟨hi, lo, blo, bhi, hml⟩ : ∃ hi lo : Nat, lo < 18446744073709551616 ∧ hi ≤ 4294968273 ∧ lo + 18446744073709551616 * hi = e4 * 4294968273 := by
                    have := HE.out.1.2.2.2.2.1
                    exact ⟨e4 * 4294968273 / 18446744073709551616, e4 * 4294968273 % 18446744073709551616, by omega, by omega, by omega⟩
                  obtain ⟨x, k, bx, bk, hxk, ra⟩ := add0_ex lo r0 blo b0
                  obtain ⟨y, l, bY, bl, hyl, rb⟩ := add0_ex x c bx (by omega)
                  have cm := fun w => mul_any' w e4 4294968273 hi lo HE.out.1.2.2.2.2.1 (by omega) blo hml 4294968273 rfl
                  have hsum : hi + k + l ≤ 4294968275 := by omega
                  have hnew : val8 y r1 r2 r3 r4 r5 r6 r7 + 18446744073709551616 * (hi + k + l) = e0 + 18446744073709551616 * e1 + 340282366920938463463374607431768211456 * e2 + 6277101735386680763835789423207666416102355444464034512896 * e3 + 4294968273 * e4 := by
                    simp only [val8] at hval ⊢
                    omega
                  have HN := Lib.hid (And.intro hnew (And.intro (And.intro b0 (And.intro b1 (And.intro b2 (And.intro b3 (And.intro b4 (And.intro b5 (And.intro b6 b7))))))) bY))
                  have pe : wr.cell? ⟨w.heap.size + 1, 4, none⟩ = some (.int .u64 (e4 : Int)) := Be.cell 4
                  have pm : wr.cell? ⟨w.heap.size, 4, none⟩ = some (.int .u64 4294968273) := Bm.cell 4
                  have lE := Be.lt
                  have lM := Bm.lt
                  clear hval hnew b0 b1 b2 b3 b4 b5 b6 b7 hml hxk hyl blo bx bY hc
                  go_wp2
                  refine wp_region_G (fun _ => false) (by kernel_rfl) ?_
                  try simp only [Act.put]
                  refine wpAnyG_take 0 rfl (by kernel_rfl) (fun _ _ _ h => h) (YieldsG.pure (by rfl) (fun w9 _ => by go_simp; try with_reducible rfl)) ?_
                  try simp only [Act.put, List.setIfInBounds_toArray, List.set_cons_zero, List.set_cons_succ]
                  refine wpAnyG_take 1 rfl (by kernel_rfl) (fun _ _ _ h => h) (YieldsG.pure (v := .int .i64 4) (by rfl) (fun w9 h9 => by go_simp; first | done | rfl)) ?_
                  try simp only [Act.put, List.setIfInBounds_toArray, List.set_cons_zero, List.set_cons_succ]
                  refine wpAnyG_take 2 rfl (by kernel_rfl) (fun _ _ _ h => h) (YieldsG.pure (by rfl) (fun w9 _ => by go_simp; try with_reducible rfl)) ?_
                  try simp only [Act.put, List.setIfInBounds_toArray, List.set_cons_zero, List.set_cons_succ]
                  refine wpAnyG_take 3 rfl (by kernel_rfl) (fun _ _ _ h => h) (YieldsG.pure (v := .int .u64 (e4 : Int)) (by rfl) (fun w9 h9 => by have hz := (Below.cell (p := ⟨w.heap.size + 1, 4, none⟩) h9 lE).trans pe; go_simp; first | done | simp [hz])) ?_
                  try simp only [Act.put, List.setIfInBounds_toArray, List.set_cons_zero, List.set_cons_succ]
                  refine wpAnyG_take 4 rfl (by kernel_rfl) (fun _ _ _ h => h) (YieldsG.pure (by rfl) (fun w9 _ => by go_simp; try with_reducible rfl)) ?_
                  try simp only [Act.put, List.setIfInBounds_toArray, List.set_cons_zero, List.set_cons_succ]
                  refine wpAnyG_take 5 rfl (by kernel_rfl) (fun _ _ _ h => h) (YieldsG.pure (by rfl) (fun w9 _ => by go_simp; try with_reducible rfl)) ?_
                  try simp only [Act.put, List.setIfInBounds_toArray, List.set_cons_zero, List.set_cons_succ]
                  refine wpAnyG_take 6 rfl (by kernel_rfl) (fun _ _ _ h => h) (YieldsG.pure (by rfl) (fun w9 _ => by go_simp; try with_reducible rfl)) ?_
                  try simp only [Act.put, List.setIfInBounds_toArray, List.set_cons_zero, List.set_cons_succ]
                  refine wpAnyG_take 7 rfl (by kernel_rfl) (fun _ _ _ h => h) (YieldsG.pure (v := .int .u64 4294968273) (by rfl) (fun w9 h9 => by have hz := (Below.cell (p := ⟨w.heap.size, 4, none⟩) h9 lM).trans pm; go_simp; first | done | simp [hz])) ?_
                  try simp only [Act.put, List.setIfInBounds_toArray, List.set_cons_zero, List.set_cons_succ]
                  refine wpAnyG_take 8 rfl (by kernel_rfl) (fun _ _ _ h => h) (YieldsG.call (v := .tuple #[.int .u64 (hi : Int), .int .u64 (lo : Int)]) (by rfl) 51 _ (fun w9 => by go_simp; try (first | with_reducible rfl | rfl)) (fun w9 h9 => cm w9)) ?_
                  try simp only [Act.put, List.setIfInBounds_toArray, List.set_cons_zero, List.set_cons_succ]
                  refine wpAnyG_take 9 rfl (by kernel_rfl) (fun _ _ _ h => h) (YieldsG.pure (by rfl) (fun w9 _ => by go_simp; try with_reducible rfl)) ?_
                  try simp only [Act.put, List.setIfInBounds_toArray, List.set_cons_zero, List.set_cons_succ]
                  refine wpAnyG_take 10 rfl (by kernel_rfl) (fun _ _ _ h => h) (YieldsG.pure (by rfl) (fun w9 _ => by go_simp; try with_reducible rfl)) ?_
                  try simp only [Act.put, List.setIfInBounds_toArray, List.set_cons_zero, List.set_cons_succ]
                  refine wpAnyG_take 11 rfl (by kernel_rfl) (fun _ _ _ h => h) (YieldsG.pure (by rfl) (fun w9 _ => by go_simp; try with_reducible rfl)) ?_
                  try simp only [Act.put, List.setIfInBounds_toArray, List.set_cons_zero, List.set_cons_succ]
                  refine wpAnyG_take 12 rfl (by kernel_rfl) (fun _ _ _ h => h) (YieldsG.pure (by rfl) (fun w9 _ => by go_simp; try with_reducible rfl)) ?_
                  try simp only [Act.put, List.setIfInBounds_toArray, List.set_cons_zero, List.set_cons_succ]
                  refine wpAnyG_take 13 rfl (by kernel_rfl) (fun _ _ _ h => h) (YieldsG.pure (by rfl) (fun w9 _ => by go_simp; try with_reducible rfl)) ?_
                  try simp only [Act.put, List.setIfInBounds_toArray, List.set_cons_zero, List.set_cons_succ]
                  refine wpAnyG_done (by kernel_rfl) (fun u hu => ?_)
                  have Bm := Gr.blk hu Bm
                  have Be := Gr.blk hu Be
                  have Br := Gr.blk hu Br
                  have BA := Gr.blk hu BA
                  have hb := Below.gr hb hu
                  have pa : u.cell? ⟨pw.heap.size, 0, none⟩ = some (.int .u64 (r0 : Int)) := BA.cell 0
                  have pf := BA.frozen 0
                  clear hu cm pe pm
                  go_wp2
                  obtain ⟨hnew, ⟨b0, b1, b2, b3, b4, b5, b6, b7⟩, bY⟩ := HN.out
                  refine ⟨⟨(hb.setCell (by show w.heap.size ≤ pw.heap.size; omega) _), Bm.far (by show w.heap.size ≠ pw.heap.size; omega) _, Be.far (by show w.heap.size + 1 ≠ pw.heap.size; omega) _, Br.far (by show w.heap.size + 2 ≠ pw.heap.size; omega) _, Lib.hid (.inr (.inl (⟨rfl, y, r1, r2, r3, r4, r5, r6, r7, hi + k + l, by congr 1, BA.set_ 0 _, ⟨bY, b1, b2, b3, b4, b5, b6, b7⟩, by omega, hnew⟩)))⟩, by decide⟩
                · clear HI
                  obtain ⟨r0, r1, r2, r3, r4, r5, r6, r7, c, rfl, BA, ⟨b0, b1, b2, b3, b4, b5, b6, b7⟩, hc, hval⟩ := X
                  obtain ⟨hi, lo, blo, bhi, hml⟩ : ∃ hi lo : Nat, lo < 18446744073709551616 ∧ hi ≤ 0 ∧ lo + 18446744073709551616 * hi = e4 * 0 := ⟨0, 0, by omega, by omega, by omega⟩
                  obtain ⟨x, k, bx, bk, hxk, ra⟩ := add0_ex lo r1 blo b1
                  obtain ⟨y, l, bY, bl, hyl, rb⟩ := add0_ex x c bx (by omega)
                  have cm := fun w => mul_any' w e4 0 hi lo HE.out.1.2.2.2.2.1 (by omega) blo hml 0 rfl
                  have hsum : hi + k + l ≤ 4294968275 := by omega
                  have hnew : val8 r0 y r2 r3 r4 r5 r6 r7 + 340282366920938463463374607431768211456 * (hi + k + l) = e0 + 18446744073709551616 * e1 + 340282366920938463463374607431768211456 * e2 + 6277101735386680763835789423207666416102355444464034512896 * e3 + 4294968273 * e4 := by
                    simp only [val8] at hval ⊢
                    omega
                  have HN := Lib.hid (And.intro hnew (And.intro (And.intro b0 (And.intro b1 (And.intro b2 (And.intro b3 (And.intro b4 (And.intro b5 (And.intro b6 b7))))))) bY))
                  have pe : wr.cell? ⟨w.heap.size + 1, 4, none⟩ = some (.int .u64 (e4 : Int)) := Be.cell 4
                  have pm : wr.cell? ⟨w.heap.size, 5, none⟩ = some (.int .u64 0) := Bm.cell 5
                  have lE := Be.lt
                  have lM := Bm.lt
                  clear hval hnew b0 b1 b2 b3 b4 b5 b6 b7 hml hxk hyl blo bx bY hc
                  go_wp2
                  refine wp_region_G (fun _ => false) (by kernel_rfl) ?_
                  try simp only [Act.put]
                  refine wpAnyG_take 0 rfl (by kernel_rfl) (fun _ _ _ h => h) (YieldsG.pure (by rfl) (fun w9 _ => by go_simp; try with_reducible rfl)) ?_
                  try simp only [Act.put, List.setIfInBounds_toArray, List.set_cons_zero, List.set_cons_succ]
                  refine wpAnyG_take 1 rfl (by kernel_rfl) (fun _ _ _ h => h) (YieldsG.pure (v := .int .i64 4) (by rfl) (fun w9 h9 => by go_simp; first | done | rfl)) ?_
                  try simp only [Act.put, List.setIfInBounds_toArray, List.set_cons_zero, List.set_cons_succ]
                  refine wpAnyG_take 2 rfl (by kernel_rfl) (fun _ _ _ h => h) (YieldsG.pure (by rfl) (fun w9 _ => by go_simp; try with_reducible rfl)) ?_
                  try simp only [Act.put, List.setIfInBounds_toArray, List.set_cons_zero, List.set_cons_succ]
                  refine wpAnyG_take 3 rfl (by kernel_rfl) (fun _ _ _ h => h) (YieldsG.pure (v := .int .u64 (e4 : Int)) (by rfl) (fun w9 h9 => by have hz := (Below.cell (p := ⟨w.heap.size + 1, 4, none⟩) h9 lE).trans pe; go_simp; first | done | simp [hz])) ?_
                  try simp only [Act.put, List.setIfInBounds_toArray, List.set_cons_zero, List.set_cons_succ]
                  refine wpAnyG_take 4 rfl (by kernel_rfl) (fun _ _ _ h => h) (YieldsG.pure (by rfl) (fun w9 _ => by go_simp; try with_reducible rfl)) ?_
                  try simp only [Act.put, List.setIfInBounds_toArray, List.set_cons_zero, List.set_cons_succ]
                  refine wpAnyG_take 5 rfl (by kernel_rfl) (fun _ _ _ h => h) (YieldsG.pure (by rfl) (fun w9 _ => by go_simp; try with_reducible rfl)) ?_
                  try simp only [Act.put, List.setIfInBounds_toArray, List.set_cons_zero, List.set_cons_succ]
                  refine wpAnyG_take 6 rfl (by kernel_rfl) (fun _ _ _ h => h) (YieldsG.pure (by rfl) (fun w9 _ => by go_simp; try with_reducible rfl)) ?_
                  try simp only [Act.put, List.setIfInBounds_toArray, List.set_cons_zero, List.set_cons_succ]
                  refine wpAnyG_take 7 rfl (by kernel_rfl) (fun _ _ _ h => h) (YieldsG.pure (v := .int .u64 0) (by rfl) (fun w9 h9 => by have hz := (Below.cell (p := ⟨w.heap.size, 5, none⟩) h9 lM).trans pm; go_simp; first | done | simp [hz])) ?_
                  try simp only [Act.put, List.setIfInBounds_toArray, List.set_cons_zero, List.set_cons_succ]
                  refine wpAnyG_take 8 rfl (by kernel_rfl) (fun _ _ _ h => h) (YieldsG.call (v := .tuple #[.int .u64 (hi : Int), .int .u64 (lo : Int)]) (by rfl) 51 _ (fun w9 => by go_simp; try (first | with_reducible rfl | rfl)) (fun w9 h9 => cm w9)) ?_
                  try simp only [Act.put, List.setIfInBounds_toArray, List.set_cons_zero, List.set_cons_succ]
                  refine wpAnyG_take 9 rfl (by kernel_rfl) (fun _ _ _ h => h) (YieldsG.pure (by rfl) (fun w9 _ => by go_simp; try with_reducible rfl)) ?_
                  try simp only [Act.put, List.setIfInBounds_toArray, List.set_cons_zero, List.set_cons_succ]
                  refine wpAnyG_take 10 rfl (by kernel_rfl) (fun _ _ _ h => h) (YieldsG.pure (by rfl) (fun w9 _ => by go_simp; try with_reducible rfl)) ?_
                  try simp only [Act.put, List.setIfInBounds_toArray, List.set_cons_zero, List.set_cons_succ]
                  refine wpAnyG_take 11 rfl (by kernel_rfl) (fun _ _ _ h => h) (YieldsG.pure (by rfl) (fun w9 _ => by go_simp; try with_reducible rfl)) ?_
                  try simp only [Act.put, List.setIfInBounds_toArray, List.set_cons_zero, List.set_cons_succ]
                  refine wpAnyG_take 12 rfl (by kernel_rfl) (fun _ _ _ h => h) (YieldsG.pure (by rfl) (fun w9 _ => by go_simp; try with_reducible rfl)) ?_
                  try simp only [Act.put, List.setIfInBounds_toArray, List.set_cons_zero, List.set_cons_succ]
                  refine wpAnyG_take 13 rfl (by kernel_rfl) (fun _ _ _ h => h) (YieldsG.pure (by rfl) (fun w9 _ => by go_simp; try with_reducible rfl)) ?_
                  try simp only [Act.put, List.setIfInBounds_toArray, List.set_cons_zero, List.set_cons_succ]
                  refine wpAnyG_done (by kernel_rfl) (fun u hu => ?_)
                  have Bm := Gr.blk hu Bm
                  have Be := Gr.blk hu Be
                  have Br := Gr.blk hu Br
                  have BA := Gr.blk hu BA
                  have hb := Below.gr hb hu
                  have pa : u.cell? ⟨pw.heap.size, 1, none⟩ = some (.int .u64 (r1 : Int)) := BA.cell 1
                  have pf := BA.frozen 1
                  clear hu cm pe pm
                  go_wp2
                  obtain ⟨hnew, ⟨b0, b1, b2, b3, b4, b5, b6, b7⟩, bY⟩ := HN.out
                  refine ⟨⟨(hb.setCell (by show w.heap.size ≤ pw.heap.size; omega) _), Bm.far (by show w.heap.size ≠ pw.heap.size; omega) _, Be.far (by show w.heap.size + 1 ≠ pw.heap.size; omega) _, Br.far (by show w.heap.size + 2 ≠ pw.heap.size; omega) _, Lib.hid (.inr (.inr (.inl (⟨rfl, r0, y, r2, r3, r4, r5, r6, r7, hi + k + l, by congr 1, BA.set_ 1 _, ⟨b0, bY, b2, b3, b4, b5, b6, b7⟩, by omega, hnew⟩))))⟩, by decide⟩
                · clear HI
                  obtain ⟨r0, r1, r2, r3, r4, r5, r6, r7, c, rfl, BA, ⟨b0, b1, b2, b3, b4, b5, b6, b7⟩, hc, hval⟩ := X
                  obtain ⟨hi, lo, blo, bhi, hml⟩ : ∃ hi lo : Nat, lo < 18446744073709551616 ∧ hi ≤ 0 ∧ lo + 18446744073709551616 * hi = e4 * 0 := ⟨0, 0, by omega, by omega, by omega⟩
                  obtain ⟨x, k, bx, bk, hxk, ra⟩ := add0_ex lo r2 blo b2
                  obtain ⟨y, l, bY, bl, hyl, rb⟩ := add0_ex x c bx (by omega)
                  have cm := fun w => mul_any' w e4 0 hi lo HE.out.1.2.2.2.2.1 (by omega) blo hml 0 rfl
                  have hsum : hi + k + l ≤ 4294968275 := by omega
                  have hnew : val8 r0 r1 y r3 r4 r5 r6 r7 + 6277101735386680763835789423207666416102355444464034512896 * (hi + k + l) = e0 + 18446744073709551616 * e1 + 340282366920938463463374607431768211456 * e2 + 6277101735386680763835789423207666416102355444464034512896 * e3 + 4294968273 * e4 := by
                    simp only [val8] at hval ⊢
                    omega
                  have HN := Lib.hid (And.intro hnew (And.intro (And.intro b0 (And.intro b1 (And.intro b2 (And.intro b3 (And.intro b4 (And.intro b5 (And.intro b6 b7))))))) bY))
                  have pe : wr.cell? ⟨w.heap.size + 1, 4, none⟩ = some (.int .u64 (e4 : Int)) := Be.cell 4
                  have pm : wr.cell? ⟨w.heap.size, 6, none⟩ = some (.int .u64 0) := Bm.cell 6
                  have lE := Be.lt
                  have lM := Bm.lt
                  clear hval hnew b0 b1 b2 b3 b4 b5 b6 b7 hml hxk hyl blo bx bY hc
                  go_wp2
                  refine wp_region_G (fun _ => false) (by kernel_rfl) ?_
                  try simp only [Act.put]
                  refine wpAnyG_take 0 rfl (by kernel_rfl) (fun _ _ _ h => h) (YieldsG.pure (by rfl) (fun w9 _ => by go_simp; try with_reducible rfl)) ?_
                  try simp only [Act.put, List.setIfInBounds_toArray, List.set_cons_zero, List.set_cons_succ]
                  refine wpAnyG_take 1 rfl (by kernel_rfl) (fun _ _ _ h => h) (YieldsG.pure (v := .int .i64 4) (by rfl) (fun w9 h9 => by go_simp; first | done | rfl)) ?_
                  try simp only [Act.put, List.setIfInBounds_toArray, List.set_cons_zero, List.set_cons_succ]
                  refine wpAnyG_take 2 rfl (by kernel_rfl) (fun _ _ _ h => h) (YieldsG.pure (by rfl) (fun w9 _ => by go_simp; try with_reducible rfl)) ?_
                  try simp only [Act.put, List.setIfInBounds_toArray, List.set_cons_zero, List.set_cons_succ]
                  refine wpAnyG_take 3 rfl (by kernel_rfl) (fun _ _ _ h => h) (YieldsG.pure (v := .int .u64 (e4 : Int)) (by rfl) (fun w9 h9 => by have hz := (Below.cell (p := ⟨w.heap.size + 1, 4, none⟩) h9 lE).trans pe; go_simp; first | done | simp [hz])) ?_
                  try simp only [Act.put, List.setIfInBounds_toArray, List.set_cons_zero, List.set_cons_succ]
                  refine wpAnyG_take 4 rfl (by kernel_rfl) (fun _ _ _ h => h) (YieldsG.pure (by rfl) (fun w9 _ => by go_simp; try with_reducible rfl)) ?_
                  try simp only [Act.put, List.setIfInBounds_toArray, List.set_cons_zero, List.set_cons_succ]
                  refine wpAnyG_take 5 rfl (by kernel_rfl) (fun _ _ _ h => h) (YieldsG.pure (by rfl) (fun w9 _ => by go_simp; try with_reducible rfl)) ?_
                  try simp only [Act.put, List.setIfInBounds_toArray, List.set_cons_zero, List.set_cons_succ]
                  refine wpAnyG_take 6 rfl (by kernel_rfl) (fun _ _ _ h => h) (YieldsG.pure (by rfl) (fun w9 _ => by go_simp; try with_reducible rfl)) ?_
                  try simp only [Act.put, List.setIfInBounds_toArray, List.set_cons_zero, List.set_cons_succ]
                  refine wpAnyG_take 7 rfl (by kernel_rfl) (fun _ _ _ h => h) (YieldsG.pure (v := .int .u64 0) (by rfl) (fun w9 h9 => by have hz := (Below.cell (p := ⟨w.heap.size, 6, none⟩) h9 lM).trans pm; go_simp; first | done | simp [hz])) ?_
                  try simp only [Act.put, List.setIfInBounds_toArray, List.set_cons_zero, List.set_cons_succ]
                  refine wpAnyG_take 8 rfl (by kernel_rfl) (fun _ _ _ h => h) (YieldsG.call (v := .tuple #[.int .u64 (hi : Int), .int .u64 (lo : Int)]) (by rfl) 51 _ (fun w9 => by go_simp; try (first | with_reducible rfl | rfl)) (fun w9 h9 => cm w9)) ?_
                  try simp only [Act.put, List.setIfInBounds_toArray, List.set_cons_zero, List.set_cons_succ]
                  refine wpAnyG_take 9 rfl (by kernel_rfl) (fun _ _ _ h => h) (YieldsG.pure (by rfl) (fun w9 _ => by go_simp; try with_reducible rfl)) ?_
                  try simp only [Act.put, List.setIfInBounds_toArray, List.set_cons_zero, List.set_cons_succ]
                  refine wpAnyG_take 10 rfl (by kernel_rfl) (fun _ _ _ h => h) (YieldsG.pure (by rfl) (fun w9 _ => by go_simp; try with_reducible rfl)) ?_
                  try simp only [Act.put, List.setIfInBounds_toArray, List.set_cons_zero, List.set_cons_succ]
                  refine wpAnyG_take 11 rfl (by kernel_rfl) (fun _ _ _ h => h) (YieldsG.pure (by rfl) (fun w9 _ => by go_simp; try with_reducible rfl)) ?_
                  try simp only [Act.put, List.setIfInBounds_toArray, List.set_cons_zero, List.set_cons_succ]
                  refine wpAnyG_take 12 rfl (by kernel_rfl) (fun _ _ _ h => h) (YieldsG.pure (by rfl) (fun w9 _ => by go_simp; try with_reducible rfl)) ?_
                  try simp only [Act.put, List.setIfInBounds_toArray, List.set_cons_zero, List.set_cons_succ]
                  refine wpAnyG_take 13 rfl (by kernel_rfl) (fun _ _ _ h => h) (YieldsG.pure (by rfl) (fun w9 _ => by go_simp; try with_reducible rfl)) ?_
                  try simp only [Act.put, List.setIfInBounds_toArray, List.set_cons_zero, List.set_cons_succ]
                  refine wpAnyG_done (by kernel_rfl) (fun u hu => ?_)
                  have Bm := Gr.blk hu Bm
                  have Be := Gr.blk hu Be
                  have Br := Gr.blk hu Br
                  have BA := Gr.blk hu BA
                  have hb := Below.gr hb hu
                  have pa : u.cell? ⟨pw.heap.size, 2, none⟩ = some (.int .u64 (r2 : Int)) := BA.cell 2
                  have pf := BA.frozen 2
                  clear hu cm pe pm
                  go_wp2
                  obtain ⟨hnew, ⟨b0, b1, b2, b3, b4, b5, b6, b7⟩, bY⟩ := HN.out
                  refine ⟨⟨(hb.setCell (by show w.heap.size ≤ pw.heap.size; omega) _), Bm.far (by show w.heap.size ≠ pw.heap.size; omega) _, Be.far (by show w.heap.size + 1 ≠ pw.heap.size; omega) _, Br.far (by show w.heap.size + 2 ≠ pw.heap.size; omega) _, Lib.hid (.inr (.inr (.inr (⟨rfl, r0, r1, y, r3, r4, r5, r6, r7, hi + k + l, by congr 1, BA.set_ 2 _, ⟨b0, b1, bY, b3, b4, b5, b6, b7⟩, by omega, hnew⟩))))⟩, by decide⟩
                · clear HI
                  obtain ⟨r0, r1, r2, r3, r4, r5, r6, r7, c, rfl, BA, ⟨b0, b1, b2, b3, b4, b5, b6, b7⟩, hc, hval⟩ := X
                  go_wp2
                  go_loopw [8, 16] (fun cv kv wr => Below w.heap.size w wr ∧ Blk wr w.heap.size 76 #[.int .u64 18446744069414583343, .int .u64 18446744073709551615, .int .u64 18446744073709551615, .int .u64 18446744073709551615, .int .u64 4294968273, .int .u64 0, .int .u64 0] ∧ Blk wr (w.heap.size + 1) 154 #[.int .u64 (e0 : Int), .int .u64 (e1 : Int), .int .u64 (e2 : Int), .int .u64 (e3 : Int), .int .u64 (e4 : Int), .int .u64 (e5 : Int), .int .u64 (e6 : Int), .int .u64 (e7 : Int)] ∧ Blk wr (w.heap.size + 2) 68 #[.int .u64 0, .int .u64 0, .int .u64 0, .int .u64 0] ∧ Hid ((kv = .int .i64 3 ∧ ∃ r0 r1 r2 r3 r4 r5 r6 r7 c : Nat, cv = .int .u64 (c : Int) ∧ Blk wr pw.heap.size 154 #[.int .u64 (r0 : Int), .int .u64 (r1 : Int), .int .u64 (r2 : Int), .int .u64 (r3 : Int), .int .u64 (r4 : Int), .int .u64 (r5 : Int), .int .u64 (r6 : Int), .int .u64 (r7 : Int)] ∧ (r0 < 18446744073709551616 ∧ r1 < 18446744073709551616 ∧ r2 < 18446744073709551616 ∧ r3 < 18446744073709551616 ∧ r4 < 18446744073709551616 ∧ r5 < 18446744073709551616 ∧ r6 < 18446744073709551616 ∧ r7 < 18446744073709551616) ∧ c ≤ 4294968275 ∧ val8 r0 r1 r2 r3 r4 r5 r6 r7 + 6277101735386680763835789423207666416102355444464034512896 * c = e0 + 18446744073709551616 * e1 + 340282366920938463463374607431768211456 * e2 + 6277101735386680763835789423207666416102355444464034512896 * e3 + 4294968273 * e4) ∨ (kv = .int .i64 4 ∧ ∃ r0 r1 r2 r3 r4 r5 r6 r7 c : Nat, cv = .int .u64 (c : Int) ∧ Blk wr pw.heap.size 154 #[.int .u64 (r0 : Int), .int .u64 (r1 : Int), .int .u64 (r2 : Int), .int .u64 (r3 : Int), .int .u64 (r4 : Int), .int .u64 (r5 : Int), .int .u64 (r6 : Int), .int .u64 (r7 : Int)] ∧ (r0 < 18446744073709551616 ∧ r1 < 18446744073709551616 ∧ r2 < 18446744073709551616 ∧ r3 < 18446744073709551616 ∧ r4 < 18446744073709551616 ∧ r5 < 18446744073709551616 ∧ r6 < 18446744073709551616 ∧ r7 < 18446744073709551616) ∧ c ≤ 4294968275 ∧ val8 r0 r1 r2 r3 r4 r5 r6 r7 + 115792089237316195423570985008687907853269984665640564039457584007913129639936 * c = e0 + 18446744073709551616 * e1 + 340282366920938463463374607431768211456 * e2 + 6277101735386680763835789423207666416102355444464034512896 * e3 + 4294968273 * e4) ∨ (kv = .int .i64 5 ∧ ∃ r0 r1 r2 r3 r4 r5 r6 r7 c : Nat, cv = .int .u64 (c : Int) ∧ Blk wr pw.heap.size 154 #[.int .u64 (r0 : Int), .int .u64 (r1 : Int), .int .u64 (r2 : Int), .int .u64 (r3 : Int), .int .u64 (r4 : Int), .int .u64 (r5 : Int), .int .u64 (r6 : Int), .int .u64 (r7 : Int)] ∧ (r0 < 18446744073709551616 ∧ r1 < 18446744073709551616 ∧ r2 < 18446744073709551616 ∧ r3 < 18446744073709551616 ∧ r4 < 18446744073709551616 ∧ r5 < 18446744073709551616 ∧ r6 < 18446744073709551616 ∧ r7 < 18446744073709551616) ∧ c ≤ 4294968275 ∧ val8 r0 r1 r2 r3 r4 r5 r6 r7 + 2135987035920910082395021706169552114602704522356652769947041607822219725780640550022962086936576 * c = e0 + 18446744073709551616 * e1 + 340282366920938463463374607431768211456 * e2 + 6277101735386680763835789423207666416102355444464034512896 * e3 + 4294968273 * e4) ∨ (kv = .int .i64 6 ∧ ∃ r0 r1 r2 r3 r4 r5 r6 r7 c : Nat, cv = .int .u64 (c : Int) ∧ Blk wr pw.heap.size 154 #[.int .u64 (r0 : Int), .int .u64 (r1 : Int), .int .u64 (r2 : Int), .int .u64 (r3 : Int), .int .u64 (r4 : Int), .int .u64 (r5 : Int), .int .u64 (r6 : Int), .int .u64 (r7 : Int)] ∧ (r0 < 18446744073709551616 ∧ r1 < 18446744073709551616 ∧ r2 < 18446744073709551616 ∧ r3 < 18446744073709551616 ∧ r4 < 18446744073709551616 ∧ r5 < 18446744073709551616 ∧ r6 < 18446744073709551616 ∧ r7 < 18446744073709551616) ∧ c ≤ 4294968275 ∧ val8 r0 r1 r2 r3 r4 r5 r6 r7 + 39402006196394479212279040100143613805079739270465446667948293404245721771497210611414266254884915640806627990306816 * c = e0 + 18446744073709551616 * e1 + 340282366920938463463374607431768211456 * e2 + 6277101735386680763835789423207666416102355444464034512896 * e3 + 4294968273 * e4) ∨ (kv = .int .i64 7 ∧ ∃ r0 r1 r2 r3 r4 r5 r6 r7 c : Nat, cv = .int .u64 (c : Int) ∧ Blk wr pw.heap.size 154 #[.int .u64 (r0 : Int), .int .u64 (r1 : Int), .int .u64 (r2 : Int), .int .u64 (r3 : Int), .int .u64 (r4 : Int), .int .u64 (r5 : Int), .int .u64 (r6 : Int), .int .u64 (r7 : Int)] ∧ (r0 < 18446744073709551616 ∧ r1 < 18446744073709551616 ∧ r2 < 18446744073709551616 ∧ r3 < 18446744073709551616 ∧ r4 < 18446744073709551616 ∧ r5 < 18446744073709551616 ∧ r6 < 18446744073709551616 ∧ r7 < 18446744073709551616) ∧ c ≤ 4294968275 ∧ val8 r0 r1 r2 r3 r4 r5 r6 r7 + 726838724295606890549323807888004534353641360687318060281490199180639288113397923326191050713763565560762521606266177933534601628614656 * c = e0 + 18446744073709551616 * e1 + 340282366920938463463374607431768211456 * e2 + 6277101735386680763835789423207666416102355444464034512896 * e3 + 4294968273 * e4) ∨ (kv = .int .i64 8 ∧ ∃ r0 r1 r2 r3 r4 r5 r6 r7 c : Nat, cv = .int .u64 (c : Int) ∧ Blk wr pw.heap.size 154 #[.int .u64 (r0 : Int), .int .u64 (r1 : Int), .int .u64 (r2 : Int), .int .u64 (r3 : Int), .int .u64 (r4 : Int), .int .u64 (r5 : Int), .int .u64 (r6 : Int), .int .u64 (r7 : Int)] ∧ (r0 < 18446744073709551616 ∧ r1 < 18446744073709551616 ∧ r2 < 18446744073709551616 ∧ r3 < 18446744073709551616 ∧ r4 < 18446744073709551616 ∧ r5 < 18446744073709551616 ∧ r6 < 18446744073709551616 ∧ r7 < 18446744073709551616) ∧ c ≤ 4294968275 ∧ val8 r0 r1 r2 r3 r4 r5 r6 r7 + 13407807929942597099574024998205846127479365820592393377723561443721764030073546976801874298166903427690031858186486050853753882811946569946433649006084096 * c = e0 + 18446744073709551616 * e1 + 340282366920938463463374607431768211456 * e2 + 6277101735386680763835789423207666416102355444464034512896 * e3 + 4294968273 * e4))) (fun _ kv _ => 8 - (intOf kv).toNat)
                  case atStart => exact ⟨hb, Bm, Be, Br, Lib.hid (.inl ⟨rfl, r0, r1, r2, r3, r4, r5, r6, r7, c, rfl, BA, ⟨b0, b1, b2, b3, b4, b5, b6, b7⟩, hc, hval⟩)⟩
                  case round =>
                    clear hb Bm Be Br BA b0 b1 b2 b3 b4 b5 b6 b7 hc hval
                    obtain ⟨hb, Bm, Be, Br, HI⟩ := hrel
                    rcases HI.out with ⟨rfl, X⟩ | ⟨rfl, X⟩ | ⟨rfl, X⟩ | ⟨rfl, X⟩ | ⟨rfl, X⟩ | ⟨rfl, X⟩
                    · clear HI
                      obtain ⟨r0, r1, r2, r3, r4, r5, r6, r7, c, rfl, BA, ⟨b0, b1, b2, b3, b4, b5, b6, b7⟩, hc, hval⟩ := X
                      by_cases hc0 : c = 0
                      · subst hc0
                        go_wp2
                        refine ⟨⟨hb, Bm, Be, Br, Lib.hid (.inr (.inl (⟨rfl, r0, r1, r2, r3, r4, r5, r6, r7, BA, ⟨b0, b1, b2, b3, b4, b5, b6, b7⟩, by omega⟩)))⟩, by decide⟩
                      · have pc : (c : Int) > 0 := by omega
                        obtain ⟨y, l, bY, bl, hyl, rb⟩ := add0_ex r3 c b3 (by omega)
                        have hnew : val8 r0 r1 r2 y r4 r5 r6 r7 + 115792089237316195423570985008687907853269984665640564039457584007913129639936 * l = e0 + 18446744073709551616 * e1 + 340282366920938463463374607431768211456 * e2 + 6277101735386680763835789423207666416102355444464034512896 * e3 + 4294968273 * e4 := by
                          simp only [val8] at hval ⊢
                          omega
                        have HN := Lib.hid (And.intro hnew (And.intro (And.intro b0 (And.intro b1 (And.intro b2 (And.intro b3 (And.intro b4 (And.intro b5 (And.intro b6 b7))))))) bY))
                        have pa : wr.cell? ⟨pw.heap.size, 3, none⟩ = some (.int .u64 (r3 : Int)) := BA.cell 3
                        have pf := BA.frozen 3
                        clear hval hnew b0 b1 b2 b3 b4 b5 b6 b7 hyl bY hc0
                        go_wp2
                        obtain ⟨hnew, ⟨b0, b1, b2, b3, b4, b5, b6, b7⟩, bY⟩ := HN.out
                        refine ⟨⟨(hb.setCell (by show w.heap.size ≤ pw.heap.size; omega) _), Bm.far (by show w.heap.size ≠ pw.heap.size; omega) _, Be.far (by show w.heap.size + 1 ≠ pw.heap.size; omega) _, Br.far (by show w.heap.size + 2 ≠ pw.heap.size; omega) _, Lib.hid (.inr (.inl (⟨rfl, r0, r1, r2, y, r4, r5, r6, r7, l, rfl, BA.set_ 3 _, ⟨b0, b1, b2, bY, b4, b5, b6, b7⟩, by omega, hnew⟩)))⟩, by decide⟩
                    · clear HI
                      obtain ⟨r0, r1, r2, r3, r4, r5, r6, r7, c, rfl, BA, ⟨b0, b1, b2, b3, b4, b5, b6, b7⟩, hc, hval⟩ := X
                      by_cases hc0 : c = 0
                      · subst hc0
                        go_wp2
                        refine ⟨⟨hb, Bm, Be, Br, Lib.hid (.inr (.inl (⟨rfl, r0, r1, r2, r3, r4, r5, r6, r7, BA, ⟨b0, b1, b2, b3, b4, b5, b6, b7⟩, by omega⟩)))⟩, by decide⟩
                      · have pc : (c : Int) > 0 := by omega
                        obtain ⟨y, l, bY, bl, hyl, rb⟩ := add0_ex r4 c b4 (by omega)
                        have hnew : val8 r0 r1 r2 r3 y r5 r6 r7 + 2135987035920910082395021706169552114602704522356652769947041607822219725780640550022962086936576 * l = e0 + 18446744073709551616 * e1 + 340282366920938463463374607431768211456 * e2 + 6277101735386680763835789423207666416102355444464034512896 * e3 + 4294968273 * e4 := by
                          simp only [val8] at hval ⊢
                          omega
                        have HN := Lib.hid (And.intro hnew (And.intro (And.intro b0 (And.intro b1 (And.intro b2 (And.intro b3 (And.intro b4 (And.intro b5 (And.intro b6 b7))))))) bY))
                        have pa : wr.cell? ⟨pw.heap.size, 4, none⟩ = some (.int .u64 (r4 : Int)) := BA.cell 4
                        have pf := BA.frozen 4
                        clear hval hnew b0 b1 b2 b3 b4 b5 b6 b7 hyl bY hc0
                        go_wp2
                        obtain ⟨hnew, ⟨b0, b1, b2, b3, b4, b5, b6, b7⟩, bY⟩ := HN.out
                        refine ⟨⟨(hb.setCell (by show w.heap.size ≤ pw.heap.size; omega) _), Bm.far (by show w.heap.size ≠ pw.heap.size; omega) _, Be.far (by show w.heap.size + 1 ≠ pw.heap.size; omega) _, Br.far (by show w.heap.size + 2 ≠ pw.heap.size; omega) _, Lib.hid (.inr (.inr (.inl (⟨rfl, r0, r1, r2, r3, y, r5, r6, r7, l, rfl, BA.set_ 4 _, ⟨b0, b1, b2, b3, bY, b5, b6, b7⟩, by omega, hnew⟩))))⟩, by decide⟩
                    · clear HI
                      obtain ⟨r0, r1, r2, r3, r4, r5, r6, r7, c, rfl, BA, ⟨b0, b1, b2, b3, b4, b5, b6, b7⟩, hc, hval⟩ := X
                      by_cases hc0 : c = 0
                      · subst hc0
                        go_wp2
                        refine ⟨⟨hb, Bm, Be, Br, Lib.hid (.inr (.inl (⟨rfl, r0, r1, r2, r3, r4, r5, r6, r7, BA, ⟨b0, b1, b2, b3, b4, b5, b6, b7⟩, by omega⟩)))⟩, by decide⟩
                      · have pc : (c : Int) > 0 := by omega
                        obtain ⟨y, l, bY, bl, hyl, rb⟩ := add0_ex r5 c b5 (by omega)
                        have hnew : val8 r0 r1 r2 r3 r4 y r6 r7 + 39402006196394479212279040100143613805079739270465446667948293404245721771497210611414266254884915640806627990306816 * l = e0 + 18446744073709551616 * e1 + 340282366920938463463374607431768211456 * e2 + 6277101735386680763835789423207666416102355444464034512896 * e3 + 4294968273 * e4 := by
                          simp only [val8] at hval ⊢
                          omega
                        have HN := Lib.hid (And.intro hnew (And.intro (And.intro b0 (And.intro b1 (And.intro b2 (And.intro b3 (And.intro b4 (And.intro b5 (And.intro b6 b7))))))) bY))
                        have pa : wr.cell? ⟨pw.heap.size, 5, none⟩ = some (.int .u64 (r5 : Int)) := BA.cell 5
                        have pf := BA.frozen 5
                        clear hval hnew b0 b1 b2 b3 b4 b5 b6 b7 hyl bY hc0
                        go_wp2
                        obtain ⟨hnew, ⟨b0, b1, b2, b3, b4, b5, b6, b7⟩, bY⟩ := HN.out
                        refine ⟨⟨(hb.setCell (by show w.heap.size ≤ pw.heap.size; omega) _), Bm.far (by show w.heap.size ≠ pw.heap.size; omega) _, Be.far (by show w.heap.size + 1 ≠ pw.heap.size; omega) _, Br.far (by show w.heap.size + 2 ≠ pw.heap.size; omega) _, Lib.hid (.inr (.inr (.inr (.inl (⟨rfl, r0, r1, r2, r3, r4, y, r6, r7, l, rfl, BA.set_ 5 _, ⟨b0, b1, b2, b3, b4, bY, b6, b7⟩, by omega, hnew⟩)))))⟩, by decide⟩
                    · clear HI
                      obtain ⟨r0, r1, r2, r3, r4, r5, r6, r7, c, rfl, BA, ⟨b0, b1, b2, b3, b4, b5, b6, b7⟩, hc, hval⟩ := X
                      by_cases hc0 : c = 0
                      · subst hc0
                        go_wp2
                        refine ⟨⟨hb, Bm, Be, Br, Lib.hid (.inr (.inl (⟨rfl, r0, r1, r2, r3, r4, r5, r6, r7, BA, ⟨b0, b1, b2, b3, b4, b5, b6, b7⟩, by omega⟩)))⟩, by decide⟩
                      · have pc : (c : Int) > 0 := by omega
                        obtain ⟨y, l, bY, bl, hyl, rb⟩ := add0_ex r6 c b6 (by omega)
                        have hnew : val8 r0 r1 r2 r3 r4 r5 y r7 + 726838724295606890549323807888004534353641360687318060281490199180639288113397923326191050713763565560762521606266177933534601628614656 * l = e0 + 18446744073709551616 * e1 + 340282366920938463463374607431768211456 * e2 + 6277101735386680763835789423207666416102355444464034512896 * e3 + 4294968273 * e4 := by
                          simp only [val8] at hval ⊢
                          omega
                        have HN := Lib.hid (And.intro hnew (And.intro (And.intro b0 (And.intro b1 (And.intro b2 (And.intro b3 (And.intro b4 (And.intro b5 (And.intro b6 b7))))))) bY))
                        have pa : wr.cell? ⟨pw.heap.size, 6, none⟩ = some (.int .u64 (r6 : Int)) := BA.cell 6
                        have pf := BA.frozen 6
                        clear hval hnew b0 b1 b2 b3 b4 b5 b6 b7 hyl bY hc0
                        go_wp2
                        obtain ⟨hnew, ⟨b0, b1, b2, b3, b4, b5, b6, b7⟩, bY⟩ := HN.out
                        refine ⟨⟨(hb.setCell (by show w.heap.size ≤ pw.heap.size; omega) _), Bm.far (by show w.heap.size ≠ pw.heap.size; omega) _, Be.far (by show w.heap.size + 1 ≠ pw.heap.size; omega) _, Br.far (by show w.heap.size + 2 ≠ pw.heap.size; omega) _, Lib.hid (.inr (.inr (.inr (.inr (.inl (⟨rfl, r0, r1, r2, r3, r4, r5, y, r7, l, rfl, BA.set_ 6 _, ⟨b0, b1, b2, b3, b4, b5, bY, b7⟩, by omega, hnew⟩))))))⟩, by decide⟩
                    · clear HI
                      obtain ⟨r0, r1, r2, r3, r4, r5, r6, r7, c, rfl, BA, ⟨b0, b1, b2, b3, b4, b5, b6, b7⟩, hc, hval⟩ := X
                      by_cases hc0 : c = 0
                      · subst hc0
                        go_wp2
                        refine ⟨⟨hb, Bm, Be, Br, Lib.hid (.inr (.inl (⟨rfl, r0, r1, r2, r3, r4, r5, r6, r7, BA, ⟨b0, b1, b2, b3, b4, b5, b6, b7⟩, by omega⟩)))⟩, by decide⟩
                      · have pc : (c : Int) > 0 := by omega
                        obtain ⟨y, l, bY, bl, hyl, rb⟩ := add0_ex r7 c b7 (by omega)
                        have hnew : val8 r0 r1 r2 r3 r4 r5 r6 y + 13407807929942597099574024998205846127479365820592393377723561443721764030073546976801874298166903427690031858186486050853753882811946569946433649006084096 * l = e0 + 18446744073709551616 * e1 + 340282366920938463463374607431768211456 * e2 + 6277101735386680763835789423207666416102355444464034512896 * e3 + 4294968273 * e4 := by
                          simp only [val8] at hval ⊢
                          omega
                        have HN := Lib.hid (And.intro hnew (And.intro (And.intro b0 (And.intro b1 (And.intro b2 (And.intro b3 (And.intro b4 (And.intro b5 (And.intro b6 b7))))))) bY))
                        have pa : wr.cell? ⟨pw.heap.size, 7, none⟩ = some (.int .u64 (r7 : Int)) := BA.cell 7
                        have pf := BA.frozen 7
                        clear hval hnew b0 b1 b2 b3 b4 b5 b6 b7 hyl bY hc0
                        go_wp2
                        obtain ⟨hnew, ⟨b0, b1, b2, b3, b4, b5, b6, b7⟩, bY⟩ := HN.out
                        refine ⟨⟨(hb.setCell (by show w.heap.size ≤ pw.heap.size; omega) _), Bm.far (by show w.heap.size ≠ pw.heap.size; omega) _, Be.far (by show w.heap.size + 1 ≠ pw.heap.size; omega) _, Br.far (by show w.heap.size + 2 ≠ pw.heap.size; omega) _, Lib.hid (.inr (.inr (.inr (.inr (.inr (⟨rfl, r0, r1, r2, r3, r4, r5, r6, y, l, rfl, BA.set_ 7 _, ⟨b0, b1, b2, b3, b4, b5, b6, bY⟩, by omega, hnew⟩))))))⟩, by decide⟩
                    · clear HI
                      obtain ⟨r0, r1, r2, r3, r4, r5, r6, r7, c, rfl, BA, ⟨b0, b1, b2, b3, b4, b5, b6, b7⟩, hc, hval⟩ := X
                      have hc0 : c = 0 := by
                        obtain ⟨⟨l0, l1, l2, l3, l4, l5, l6, l7⟩, _⟩ := HE.out
                        simp only [val8] at hval
                        omega
                      subst hc0
                      go_wp2
                      refine ⟨⟨hb, Bm, Be, Br, Lib.hid (.inr (.inl (⟨rfl, r0, r1, r2, r3, r4, r5, r6, r7, BA, ⟨b0, b1, b2, b3, b4, b5, b6, b7⟩, by omega⟩)))⟩, by decide⟩
            · clear HI
              obtain ⟨r0, r1, r2, r3, r4, r5, r6, r7, BA, hbd, hval⟩ := X
              go_wp2
              go_loopw [8, 9] (fun cv j wr => Below w.heap.size w wr ∧ Blk wr w.heap.size 76 #[.int .u64 18446744069414583343, .int .u64 18446744073709551615, .int .u64 18446744073709551615, .int .u64 18446744073709551615, .int .u64 4294968273, .int .u64 0, .int .u64 0] ∧ Blk wr (w.heap.size + 1) 154 #[.int .u64 (e0 : Int), .int .u64 (e1 : Int), .int .u64 (e2 : Int), .int .u64 (e3 : Int), .int .u64 (e4 : Int), .int .u64 (e5 : Int), .int .u64 (e6 : Int), .int .u64 (e7 : Int)] ∧ Blk wr (w.heap.size + 2) 68 #[.int .u64 0, .int .u64 0, .int .u64 0, .int .u64 0] ∧ Hid ((j = .int .i64 0 ∧ ∃ r0 r1 r2 r3 r4 r5 r6 r7 c : Nat, cv = .int .u64 (c : Int) ∧ Blk wr pw.heap.size 154 #[.int .u64 (r0 : Int), .int .u64 (r1 : Int), .int .u64 (r2 : Int), .int .u64 (r3 : Int), .int .u64 (r4 : Int), .int .u64 (r5 : Int), .int .u64 (r6 : Int), .int .u64 (r7 : Int)] ∧ (r0 < 18446744073709551616 ∧ r1 < 18446744073709551616 ∧ r2 < 18446744073709551616 ∧ r3 < 18446744073709551616 ∧ r4 < 18446744073709551616 ∧ r5 < 18446744073709551616 ∧ r6 < 18446744073709551616 ∧ r7 < 18446744073709551616) ∧ c = 0 ∧ val8 r0 r1 r2 r3 r4 r5 r6 r7 + 18446744073709551616 * c = e0 + 18446744073709551616 * e1 + 340282366920938463463374607431768211456 * e2 + 6277101735386680763835789423207666416102355444464034512896 * e3 + 4294968273 * e4) ∨ (j = .int .i64 1 ∧ ∃ r0 r1 r2 r3 r4 r5 r6 r7 c : Nat, cv = .int .u64 (c : Int) ∧ Blk wr pw.heap.size 154 #[.int .u64 (r0 : Int), .int .u64 (r1 : Int), .int .u64 (r2 : Int), .int .u64 (r3 : Int), .int .u64 (r4 : Int), .int .u64 (r5 : Int), .int .u64 (r6 : Int), .int .u64 (r7 : Int)] ∧ (r0 < 18446744073709551616 ∧ r1 < 18446744073709551616 ∧ r2 < 18446744073709551616 ∧ r3 < 18446744073709551616 ∧ r4 < 18446744073709551616 ∧ r5 < 18446744073709551616 ∧ r6 < 18446744073709551616 ∧ r7 < 18446744073709551616) ∧ c ≤ 4294968275 ∧ val8 r0 r1 r2 r3 r4 r5 r6 r7 + 340282366920938463463374607431768211456 * c = e0 + 18446744073709551616 * e1 + 340282366920938463463374607431768211456 * e2 + 6277101735386680763835789423207666416102355444464034512896 * e3 + 4294968273 * e4 + 79228180536733297607775879168 * e5) ∨ (j = .int .i64 2 ∧ ∃ r0 r1 r2 r3 r4 r5 r6 r7 c : Nat, cv = .int .u64 (c : Int) ∧ Blk wr pw.heap.size 154 #[.int .u64 (r0 : Int), .int .u64 (r1 : Int), .int .u64 (r2 : Int), .int .u64 (r3 : Int), .int .u64 (r4 : Int), .int .u64 (r5 : Int), .int .u64 (r6 : Int), .int .u64 (r7 : Int)] ∧ (r0 < 18446744073709551616 ∧ r1 < 18446744073709551616 ∧ r2 < 18446744073709551616 ∧ r3 < 18446744073709551616 ∧ r4 < 18446744073709551616 ∧ r5 < 18446744073709551616 ∧ r6 < 18446744073709551616 ∧ r7 < 18446744073709551616) ∧ c ≤ 4294968275 ∧ val8 r0 r1 r2 r3 r4 r5 r6 r7 + 6277101735386680763835789423207666416102355444464034512896 * c = e0 + 18446744073709551616 * e1 + 340282366920938463463374607431768211456 * e2 + 6277101735386680763835789423207666416102355444464034512896 * e3 + 4294968273 * e4 + 79228180536733297607775879168 * e5) ∨ (j = .int .i64 3 ∧ ∃ r0 r1 r2 r3 r4 r5 r6 r7 c : Nat, cv = .int .u64 (c : Int) ∧ Blk wr pw.heap.size 154 #[.int .u64 (r0 : Int), .int .u64 (r1 : Int), .int .u64 (r2 : Int), .int .u64 (r3 : Int), .int .u64 (r4 : Int), .int .u64 (r5 : Int), .int .u64 (r6 : Int), .int .u64 (r7 : Int)] ∧ (r0 < 18446744073709551616 ∧ r1 < 18446744073709551616 ∧ r2 < 18446744073709551616 ∧ r3 < 18446744073709551616 ∧ r4 < 18446744073709551616 ∧ r5 < 18446744073709551616 ∧ r6 < 18446744073709551616 ∧ r7 < 18446744073709551616) ∧ c ≤ 4294968275 ∧ val8 r0 r1 r2 r3 r4 r5 r6 r7 + 115792089237316195423570985008687907853269984665640564039457584007913129639936 * c = e0 + 18446744073709551616 * e1 + 340282366920938463463374607431768211456 * e2 + 6277101735386680763835789423207666416102355444464034512896 * e3 + 4294968273 * e4 + 79228180536733297607775879168 * e5))) (fun _ j _ => 3 - (intOf j).toNat)
              case atStart => exact ⟨hb, Bm, Be, Br, Lib.hid (.inl ⟨rfl, r0, r1, r2, r3, r4, r5, r6, r7, 0, rfl, BA, hbd, rfl, by omega⟩)⟩
              case round =>
                clear hb Bm Be Br BA hbd hval
                obtain ⟨hb, Bm, Be, Br, HI⟩ := hrel
                rcases HI.out with ⟨rfl, X⟩ | ⟨rfl, X⟩ | ⟨rfl, X⟩ | ⟨rfl, X⟩
                · clear HI
                  obtain ⟨r0, r1, r2, r3, r4, r5, r6, r7, c, rfl, BA, ⟨b0, b1, b2, b3, b4, b5, b6, b7⟩, hc, hval⟩ := X
                  obtain ⟨hi, lo, blo, bhi, hml⟩ : ∃ hi lo : Nat, lo < 18446744073709551616 ∧ hi ≤ 4294968273 ∧ lo + 18446744073709551616 * hi = e5 * 4294968273 := by
                    have := HE.out.1.2.2.2.2.2.1
                    exact ⟨e5 * 4294968273 / 18446744073709551616, e5 * 4294968273 % 18446744073709551616, by omega, by omega, by omega⟩
                  obtain ⟨x, k, bx, bk, hxk, ra⟩ := add0_ex lo r1 blo b1
                  obtain ⟨y, l, bY, bl, hyl, rb⟩ := add0_ex x c bx (by omega)
                  have cm := fun w => mul_any' w e5 4294968273 hi lo HE.out.1.2.2.2.2.2.1 (by omega) blo hml 4294968273 rfl
                  have hsum : hi + k + l ≤ 4294968275 := by omega
                  have hnew : val8 r0 y r2 r3 r4 r5 r6 r7 + 340282366920938463463374607431768211456 * (hi + k + l) = e0 + 18446744073709551616 * e1 + 340282366920938463463374607431768211456 * e2 + 6277101735386680763835789423207666416102355444464034512896 * e3 + 4294968273 * e4 + 79228180536733297607775879168 * e5 := by
                    simp only [val8] at hval ⊢
                    omega
                  have HN := Lib.hid (And.intro hnew (And.intro (And.intro b0 (And.intro b1 (And.intro b2 (And.intro b3 (And.intro b4 (And.intro b5 (And.intro b6 b7))))))) bY))
                  have pe : wr.cell? ⟨w.heap.size + 1, 5, none⟩ = some (.int .u64 (e5 : Int)) := Be.cell 5
                  have pm : wr.cell? ⟨w.heap.size, 4, none⟩ = some (.int .u64 4294968273) := Bm.cell 4
                  have lE := Be.lt
                  have lM := Bm.lt
                  clear hval hnew b0 b1 b2 b3 b4 b5 b6 b7 hml hxk hyl blo bx bY hc
                  go_wp2
                  refine wp_region_G (fun _ => false) (by kernel_rfl) ?_
                  try simp only [Act.put]
                  refine wpAnyG_take 0 rfl (by kernel_rfl) (fun _ _ _ h => h) (YieldsG.pure (by rfl) (fun w9 _ => by go_simp; try with_reducible rfl)) ?_
                  try simp only [Act.put, List.setIfInBounds_toArray, List.set_cons_zero, List.set_cons_succ]
                  refine wpAnyG_take 1 rfl (by kernel_rfl) (fun _ _ _ h => h) (YieldsG.pure (v := .int .i64 5) (by rfl) (fun w9 h9 => by go_simp; first | done | rfl)) ?_
                  try simp only [Act.put, List.setIfInBounds_toArray, List.set_cons_zero, List.set_cons_succ]
                  refine wpAnyG_take 2 rfl (by kernel_rfl) (fun _ _ _ h => h) (YieldsG.pure (by rfl) (fun w9 _ => by go_simp; try with_reducible rfl)) ?_
                  try simp only [Act.put, List.setIfInBounds_toArray, List.set_cons_zero, List.set_cons_succ]
                  refine wpAnyG_take 3 rfl (by kernel_rfl) (fun _ _ _ h => h) (YieldsG.pure (v := .int .u64 (e5 : Int)) (by rfl) (fun w9 h9 => by have hz := (Below.cell (p := ⟨w.heap.size + 1, 5, none⟩) h9 lE).trans pe; go_simp; first | done | simp [hz])) ?_
                  try simp only [Act.put, List.setIfInBounds_toArray, List.set_cons_zero, List.set_cons_succ]
                  refine wpAnyG_take 4 rfl (by kernel_rfl) (fun _ _ _ h => h) (YieldsG.pure (by rfl) (fun w9 _ => by go_simp; try with_reducible rfl)) ?_
                  try simp only [Act.put, List.setIfInBounds_toArray, List.set_cons_zero, List.set_cons_succ]
                  refine wpAnyG_take 5 rfl (by kernel_rfl) (fun _ _ _ h => h) (YieldsG.pure (by rfl) (fun w9 _ => by go_simp; try with_reducible rfl)) ?_
                  try simp only [Act.put, List.setIfInBounds_toArray, List.set_cons_zero, List.set_cons_succ]
                  refine wpAnyG_take 6 rfl (by kernel_rfl) (fun _ _ _ h => h) (YieldsG.pure (by rfl) (fun w9 _ => by go_simp; try with_reducible rfl)) ?_
                  try simp only [Act.put, List.setIfInBounds_toArray, List.set_cons_zero, List.set_cons_succ]
                  refine wpAnyG_take 7 rfl (by kernel_rfl) (fun _ _ _ h => h) (YieldsG.pure (v := .int .u64 4294968273) (by rfl) (fun w9 h9 => by have hz := (Below.cell (p := ⟨w.heap.size, 4, none⟩) h9 lM).trans pm; go_simp; first | done | simp [hz])) ?_
                  try simp only [Act.put, List.setIfInBounds_toArray, List.set_cons_zero, List.set_cons_succ]
                  refine wpAnyG_take 8 rfl (by kernel_rfl) (fun _ _ _ h => h) (YieldsG.call (v := .tuple #[.int .u64 (hi : Int), .int .u64 (lo : Int)]) (by rfl) 51 _ (fun w9 => by go_simp; try (first | with_reducible rfl | rfl)) (fun w9 h9 => cm w9)) ?_
                  try simp only [Act.put, List.setIfInBounds_toArray, List.set_cons_zero, List.set_cons_succ]
                  refine wpAnyG_take 9 rfl (by kernel_rfl) (fun _ _ _ h => h) (YieldsG.pure (by rfl) (fun w9 _ => by go_simp; try with_reducible rfl)) ?_
                  try simp only [Act.put, List.setIfInBounds_toArray, List.set_cons_zero, List.set_cons_succ]
                  refine wpAnyG_take 10 rfl (by kernel_rfl) (fun _ _ _ h => h) (YieldsG.pure (by rfl) (fun w9 _ => by go_simp; try with_reducible rfl)) ?_
                  try simp only [Act.put, List.setIfInBounds_toArray, List.set_cons_zero, List.set_cons_succ]
                  refine wpAnyG_take 11 rfl (by kernel_rfl) (fun _ _ _ h => h) (YieldsG.pure (by rfl) (fun w9 _ => by go_simp; try with_reducible rfl)) ?_
                  try simp only [Act.put, List.setIfInBounds_toArray, List.set_cons_zero, List.set_cons_succ]
                  refine wpAnyG_take 12 rfl (by kernel_rfl) (fun _ _ _ h => h) (YieldsG.pure (by rfl) (fun w9 _ => by go_simp; try with_reducible rfl)) ?_
                  try simp only [Act.put, List.setIfInBounds_toArray, List.set_cons_zero, List.set_cons_succ]
                  refine wpAnyG_take 13 rfl (by kernel_rfl) (fun _ _ _ h => h) (YieldsG.pure (by rfl) (fun w9 _ => by go_simp; try with_reducible rfl)) ?_
                  try simp only [Act.put, List.setIfInBounds_toArray, List.set_cons_zero, List.set_cons_succ]
                  refine wpAnyG_done (by kernel_rfl) (fun u hu => ?_)
                  have Bm := Gr.blk hu Bm
                  have Be := Gr.blk hu Be
                  have Br := Gr.blk hu Br
                  have BA := Gr.blk hu BA
                  have hb := Below.gr hb hu
                  have pa : u.cell? ⟨pw.heap.size, 1, none⟩ = some (.int .u64 (r1 : Int)) := BA.cell 1
                  have pf := BA.frozen 1
                  clear hu cm pe pm
                  go_wp2
                  obtain ⟨hnew, ⟨b0, b1, b2, b3, b4, b5, b6, b7⟩, bY⟩ := HN.out
                  refine ⟨⟨(hb.setCell (by show w.heap.size ≤ pw.heap.size; omega) _), Bm.far (by show w.heap.size ≠ pw.heap.size; omega) _, Be.far (by show w.heap.size + 1 ≠ pw.heap.size; omega) _, Br.far (by show w.heap.size + 2 ≠ pw.heap.size; omega) _, Lib.hid (.inr (.inl (⟨rfl, r0, y, r2, r3, r4, r5, r6, r7, hi + k + l, by congr 1, BA.set_ 1 _, ⟨b0, bY, b2, b3, b4, b5, b6, b7⟩, by omega, hnew⟩)))⟩, by decide⟩
                · clear HI
                  obtain ⟨r0, r1, r2, r3, r4, r5, r6, r7, c, rfl, BA, ⟨b0, b1, b2, b3, b4, b5, b6, b7⟩, hc, hval⟩ := X
                  obtain ⟨hi, lo, blo, bhi, hml⟩ : ∃ hi lo : Nat, lo < 18446744073709551616 ∧ hi ≤ 0 ∧ lo + 18446744073709551616 * hi = e5 * 0 := ⟨0, 0, by omega, by omega, by omega⟩
                  obtain ⟨x, k, bx, bk, hxk, ra⟩ := add0_ex lo r2 blo b2
                  obtain ⟨y, l, bY, bl, hyl, rb⟩ := add0_ex x c bx (by omega)
                  have cm := fun w => mul_any' w e5 0 hi lo HE.out.1.2.2.2.2.2.1 (by omega) blo hml 0 rfl
                  have hsum : hi + k + l ≤ 4294968275 := by omega
                  have hnew : val8 r0 r1 y r3 r4 r5 r6 r7 + 6277101735386680763835789423207666416102355444464034512896 * (hi + k + l) = e0 + 18446744073709551616 * e1 + 340282366920938463463374607431768211456 * e2 + 6277101735386680763835789423207666416102355444464034512896 * e3 + 4294968273 * e4 + 79228180536733297607775879168 * e5 := by
                    simp only [val8] at hval ⊢
                    omega
                  have HN := Lib.hid (And.intro hnew (And.intro (And.intro b0 (And.intro b1 (And.intro b2 (And.intro b3 (And.intro b4 (And.intro b5 (And.intro b6 b7))))))) bY))
                  have pe : wr.cell? ⟨w.heap.size + 1, 5, none⟩ = some (.int .u64 (e5 : Int)) := Be.cell 5
                  have pm : wr.cell? ⟨w.heap.size, 5, none⟩ = some (.int .u64 0) := Bm.cell 5
                  have lE := Be.lt
                  have lM := Bm.lt
                  clear hval hnew b0 b1 b2 b3 b4 b5 b6 b7 hml hxk hyl blo bx bY hc
                  go_wp2
                  refine wp_region_G (fun _ => false) (by kernel_rfl) ?_
                  try simp only [Act.put]
                  refine wpAnyG_take 0 rfl (by kernel_rfl) (fun _ _ _ h => h) (YieldsG.pure (by rfl) (fun w9 _ => by go_simp; try with_reducible rfl)) ?_
                  try simp only [Act.put, List.setIfInBounds_toArray, List.set_cons_zero, List.set_cons_succ]
                  refine wpAnyG_take 1 rfl (by kernel_rfl) (fun _ _ _ h => h) (YieldsG.pure (v := .int .i64 5) (by rfl) (fun w9 h9 => by go_simp; first | done | rfl)) ?_
                  try simp only [Act.put, List.setIfInBounds_toArray, List.set_cons_zero, List.set_cons_succ]
                  refine wpAnyG_take 2 rfl (by kernel_rfl) (fun _ _ _ h => h) (YieldsG.pure (by rfl) (fun w9 _ => by go_simp; try with_reducible rfl)) ?_
                  try simp only [Act.put, List.setIfInBounds_toArray, List.set_cons_zero, List.set_cons_succ]
                  refine wpAnyG_take 3 rfl (by kernel_rfl) (fun _ _ _ h => h) (YieldsG.pure (v := .int .u64 (e5 : Int)) (by rfl) (fun w9 h9 => by have hz := (Below.cell (p := ⟨w.heap.size + 1, 5, none⟩) h9 lE).trans pe; go_simp; first | done | simp [hz])) ?_
                  try simp only [Act.put, List.setIfInBounds_toArray, List.set_cons_zero, List.set_cons_succ]
                  refine wpAnyG_take 4 rfl (by kernel_rfl) (fun _ _ _ h => h) (YieldsG.pure (by rfl) (fun w9 _ => by go_simp; try with_reducible rfl)) ?_
                  try simp only [Act.put, List.setIfInBounds_toArray, List.set_cons_zero, List.set_cons_succ]
                  refine wpAnyG_take 5 rfl (by kernel_rfl) (fun _ _ _ h => h) (YieldsG.pure (by rfl) (fun w9 _ => by go_simp; try with_reducible rfl)) ?_
                  try simp only [Act.put, List.setIfInBounds_toArray, List.set_cons_zero, List.set_cons_succ]
                  refine wpAnyG_take 6 rfl (by kernel_rfl) (fun _ _ _ h => h) (YieldsG.pure (by rfl) (fun w9 _ => by go_simp; try with_reducible rfl)) ?_
                  try simp only [Act.put, List.setIfInBounds_toArray, List.set_cons_zero, List.set_cons_succ]
                  refine wpAnyG_take 7 rfl (by kernel_rfl) (fun _ _ _ h => h) (YieldsG.pure (v := .int .u64 0) (by rfl) (fun w9 h9 => by have hz := (Below.cell (p := ⟨w.heap.size, 5, none⟩) h9 lM).trans pm; go_simp; first | done | simp [hz])) ?_
                  try simp only [Act.put, List.setIfInBounds_toArray, List.set_cons_zero, List.set_cons_succ]
                  refine wpAnyG_take 8 rfl (by kernel_rfl) (fun _ _ _ h => h) (YieldsG.call (v := .tuple #[.int .u64 (hi : Int), .int .u64 (lo : Int)]) (by rfl) 51 _ (fun w9 => by go_simp; try (first | with_reducible rfl | rfl)) (fun w9 h9 => cm w9)) ?_
                  try simp only [Act.put, List.setIfInBounds_toArray, List.set_cons_zero, List.set_cons_succ]
                  refine wpAnyG_take 9 rfl (by kernel_rfl) (fun _ _ _ h => h) (YieldsG.pure (by rfl) (fun w9 _ => by go_simp; try with_reducible rfl)) ?_
                  try simp only [Act.put, List.setIfInBounds_toArray, List.set_cons_zero, List.set_cons_succ]
                  refine wpAnyG_take 10 rfl (by kernel_rfl) (fun _ _ _ h => h) (YieldsG.pure (by rfl) (fun w9 _ => by go_simp; try with_reducible rfl)) ?_
                  try simp only [Act.put, List.setIfInBounds_toArray, List.set_cons_zero, List.set_cons_succ]
                  refine wpAnyG_take 11 rfl (by kernel_rfl) (fun _ _ _ h => h) (YieldsG.pure (by rfl) (fun w9 _ => by go_simp; try with_reducible rfl)) ?_
                  try simp only [Act.put, List.setIfInBounds_toArray, List.set_cons_zero, List.set_cons_succ]
                  refine wpAnyG_take 12 rfl (by kernel_rfl) (fun _ _ _ h => h) (YieldsG.pure (by rfl) (fun w9 _ => by go_simp; try with_reducible rfl)) ?_
                  try simp only [Act.put, List.setIfInBounds_toArray, List.set_cons_zero, List.set_cons_succ]
                  refine wpAnyG_take 13 rfl (by kernel_rfl) (fun _ _ _ h => h) (YieldsG.pure (by rfl) (fun w9 _ => by go_simp; try with_reducible rfl)) ?_
                  try simp only [Act.put, List.setIfInBounds_toArray, List.set_cons_zero, List.set_cons_succ]
                  refine wpAnyG_done (by kernel_rfl) (fun u hu => ?_)
                  have Bm := Gr.blk hu Bm
                  have Be := Gr.blk hu Be
                  have Br := Gr.blk hu Br
                  have BA := Gr.blk hu BA
                  have hb := Below.gr hb hu
                  have pa : u.cell? ⟨pw.heap.size, 2, none⟩ = some (.int .u64 (r2 : Int)) := BA.cell 2
                  have pf := BA.frozen 2
                  clear hu cm pe pm
                  go_wp2
                  obtain ⟨hnew, ⟨b0, b1, b2, b3, b4, b5, b6, b7⟩, bY⟩ := HN.out
                  refine ⟨⟨(hb.setCell (by show w.heap.size ≤ pw.heap.size; omega) _), Bm.far (by show w.heap.size ≠ pw.heap.size; omega) _, Be.far (by show w.heap.size + 1 ≠ pw.heap.size; omega) _, Br.far (by show w.heap.size + 2 ≠ pw.heap.size; omega) _, Lib.hid (.inr (.inr (.inl (⟨rfl, r0, r1, y, r3, r4, r5, r6, r7, hi + k + l, by congr 1, BA.set_ 2 _, ⟨b0, b1, bY, b3, b4, b5, b6, b7⟩, by omega, hnew⟩))))⟩, by decide⟩
                · clear HI
                  obtain ⟨r0, r1, r2, r3, r4, r5, r6, r7, c, rfl, BA, ⟨b0, b1, b2, b3, b4, b5, b6, b7⟩, hc, hval⟩ := X
                  obtain ⟨hi, lo, blo, bhi, hml⟩ : ∃ hi lo : Nat, lo < 18446744073709551616 ∧ hi ≤ 0 ∧ lo + 18446744073709551616 * hi = e5 * 0 := ⟨0, 0, by omega, by omega, by omega⟩
                  obtain ⟨x, k, bx, bk, hxk, ra⟩ := add0_ex lo r3 blo b3
                  obtain ⟨y, l, bY, bl, hyl, rb⟩ := add0_ex x c bx (by omega)
                  have cm := fun w => mul_any' w e5 0 hi lo HE.out.1.2.2.2.2.2.1 (by omega) blo hml 0 rfl
                  have hsum : hi + k + l ≤ 4294968275 := by omega
                  have hnew : val8 r0 r1 r2 y r4 r5 r6 r7 + 115792089237316195423570985008687907853269984665640564039457584007913129639936 * (hi + k + l) = e0 + 18446744073709551616 * e1 + 340282366920938463463374607431768211456 * e2 + 6277101735386680763835789423207666416102355444464034512896 * e3 + 4294968273 * e4 + 79228180536733297607775879168 * e5 := by
                    simp only [val8] at hval ⊢
                    omega
                  have HN := Lib.hid (And.intro hnew (And.intro (And.intro b0 (And.intro b1 (And.intro b2 (And.intro b3 (And.intro b4 (And.intro b5 (And.intro b6 b7))))))) bY))
                  have pe : wr.cell? ⟨w.heap.size + 1, 5, none⟩ = some (.int .u64 (e5 : Int)) := Be.cell 5
                  have pm : wr.cell? ⟨w.heap.size, 6, none⟩ = some (.int .u64 0) := Bm.cell 6
                  have lE := Be.lt
                  have lM := Bm.lt
                  clear hval hnew b0 b1 b2 b3 b4 b5 b6 b7 hml hxk hyl blo bx bY hc
                  go_wp2
                  refine wp_region_G (fun _ => false) (by kernel_rfl) ?_
                  try simp only [Act.put]
                  refine wpAnyG_take 0 rfl (by kernel_rfl) (fun _ _ _ h => h) (YieldsG.pure (by rfl) (fun w9 _ => by go_simp; try with_reducible rfl)) ?_
                  try simp only [Act.put, List.setIfInBounds_toArray, List.set_cons_zero, List.set_cons_succ]
                  refine wpAnyG_take 1 rfl (by kernel_rfl) (fun _ _ _ h => h) (YieldsG.pure (v := .int .i64 5) (by rfl) (fun w9 h9 => by go_simp; first | done | rfl)) ?_
                  try simp only [Act.put, List.setIfInBounds_toArray, List.set_cons_zero, List.set_cons_succ]
                  refine wpAnyG_take 2 rfl (by kernel_rfl) (fun _ _ _ h => h) (YieldsG.pure (by rfl) (fun w9 _ => by go_simp; try with_reducible rfl)) ?_
                  try simp only [Act.put, List.setIfInBounds_toArray, List.set_cons_zero, List.set_cons_succ]
                  refine wpAnyG_take 3 rfl (by kernel_rfl) (fun _ _ _ h => h) (YieldsG.pure (v := .int .u64 (e5 : Int)) (by rfl) (fun w9 h9 => by have hz := (Below.cell (p := ⟨w.heap.size + 1, 5, none⟩) h9 lE).trans pe; go_simp; first | done | simp [hz])) ?_
                  try simp only [Act.put, List.setIfInBounds_toArray, List.set_cons_zero, List.set_cons_succ]
                  refine wpAnyG_take 4 rfl (by kernel_rfl) (fun _ _ _ h => h) (YieldsG.pure (by rfl) (fun w9 _ => by go_simp; try with_reducible rfl)) ?_
                  try simp only [Act.put, List.setIfInBounds_toArray, List.set_cons_zero, List.set_cons_succ]
                  refine wpAnyG_take 5 rfl (by kernel_rfl) (fun _ _ _ h => h) (YieldsG.pure (by rfl) (fun w9 _ => by go_simp; try with_reducible rfl)) ?_
                  try simp only [Act.put, List.setIfInBounds_toArray, List.set_cons_zero, List.set_cons_succ]
                  refine wpAnyG_take 6 rfl (by kernel_rfl) (fun _ _ _ h => h) (YieldsG.pure (by rfl) (fun w9 _ => by go_simp; try with_reducible rfl)) ?_
                  try simp only [Act.put, List.setIfInBounds_toArray, List.set_cons_zero, List.set_cons_succ]
                  refine wpAnyG_take 7 rfl (by kernel_rfl) (fun _ _ _ h => h) (YieldsG.pure (v := .int .u64 0) (by rfl) (fun w9 h9 => by have hz := (Below.cell (p := ⟨w.heap.size, 6, none⟩) h9 lM).trans pm; go_simp; first | done | simp [hz])) ?_
                  try simp only [Act.put, List.setIfInBounds_toArray, List.set_cons_zero, List.set_cons_succ]
                  refine wpAnyG_take 8 rfl (by kernel_rfl) (fun _ _ _ h => h) (YieldsG.call (v := .tuple #[.int .u64 (hi : Int), .int .u64 (lo : Int)]) (by rfl) 51 _ (fun w9 => by go_simp; try (first | with_reducible rfl | rfl)) (fun w9 h9 => cm w9)) ?_
                  try simp only [Act.put, List.setIfInBounds_toArray, List.set_cons_zero, List.set_cons_succ]
                  refine wpAnyG_take 9 rfl (by kernel_rfl) (fun _ _ _ h => h) (YieldsG.pure (by rfl) (fun w9 _ => by go_simp; try with_reducible rfl)) ?_
                  try simp only [Act.put, List.setIfInBounds_toArray, List.set_cons_zero, List.set_cons_succ]
                  refine wpAnyG_take 10 rfl (by kernel_rfl) (fun _ _ _ h => h) (YieldsG.pure (by rfl) (fun w9 _ => by go_simp; try with_reducible rfl)) ?_
                  try simp only [Act.put, List.setIfInBounds_toArray, List.set_cons_zero, List.set_cons_succ]
                  refine wpAnyG_take 11 rfl (by kernel_rfl) (fun _ _ _ h => h) (YieldsG.pure (by rfl) (fun w9 _ => by go_simp; try with_reducible rfl)) ?_
                  try simp only [Act.put, List.setIfInBounds_toArray, List.set_cons_zero, List.set_cons_succ]
                  refine wpAnyG_take 12 rfl (by kernel_rfl) (fun _ _ _ h => h) (YieldsG.pure (by rfl) (fun w9 _ => by go_simp; try with_reducible rfl)) ?_
                  try simp only [Act.put, List.setIfInBounds_toArray, List.set_cons_zero, List.set_cons_succ]
                  refine wpAnyG_take 13 rfl (by kernel_rfl) (fun _ _ _ h => h) (YieldsG.pure (by rfl) (fun w9 _ => by go_simp; try with_reducible rfl)) ?_
                  try simp only [Act.put, List.setIfInBounds_toArray, List.set_cons_zero, List.set_cons_succ]
                  refine wpAnyG_done (by kernel_rfl) (fun u hu => ?_)
                  have Bm := Gr.blk hu Bm
                  have Be := Gr.blk hu Be
                  have Br := Gr.blk hu Br
                  have BA := Gr.blk hu BA
                  have hb := Below.gr hb hu
                  have pa : u.cell? ⟨pw.heap.size, 3, none⟩ = some (.int .u64 (r3 : Int)) := BA.cell 3
                  have pf := BA.frozen 3
                  clear hu cm pe pm
                  go_wp2
                  obtain ⟨hnew, ⟨b0, b1, b2, b3, b4, b5, b6, b7⟩, bY⟩ := HN.out
                  refine ⟨⟨(hb.setCell (by show w.heap.size ≤ pw.heap.size; omega) _), Bm.far (by show w.heap.size ≠ pw.heap.size; omega) _, Be.far (by show w.heap.size + 1 ≠ pw.heap.size; omega) _, Br.far (by show w.heap.size + 2 ≠ pw.heap.size; omega) _, Lib.hid (.inr (.inr (.inr (⟨rfl, r0, r1, r2, y, r4, r5, r6, r7, hi + k + l, by congr 1, BA.set_ 3 _, ⟨b0, b1, b2, bY, b4, b5, b6, b7⟩, by omega, hnew⟩))))⟩, by decide⟩
                · clear HI
                  obtain ⟨r0, r1, r2, r3, r4, r5, r6, r7, c, rfl, BA, ⟨b0, b1, b2, b3, b4, b5, b6, b7⟩, hc, hval⟩ := X
                  go_wp2
                  go_loopw [8, 16] (fun cv kv wr => Below w.heap.size w wr ∧ Blk wr w.heap.size 76 #[.int .u64 18446744069414583343, .int .u64 18446744073709551615, .int .u64 18446744073709551615, .int .u64 18446744073709551615, .int .u64 4294968273, .int .u64 0, .int .u64 0] ∧ Blk wr (w.heap.size + 1) 154 #[.int .u64 (e0 : Int), .int .u64 (e1 : Int), .int .u64 (e2 : Int), .int .u64 (e3 : Int), .int .u64 (e4 : Int), .int .u64 (e5 : Int), .int .u64 (e6 : Int), .int .u64 (e7 : Int)] ∧ Blk wr (w.heap.size + 2) 68 #[.int .u64 0, .int .u64 0, .int .u64 0, .int .u64 0] ∧ Hid ((kv = .int .i64 4 ∧ ∃ r0 r1 r2 r3 r4 r5 r6 r7 c : Nat, cv = .int .u64 (c : Int) ∧ Blk wr pw.heap.size 154 #[.int .u64 (r0 : Int), .int .u64 (r1 : Int), .int .u64 (r2 : Int), .int .u64 (r3 : Int), .int .u64 (r4 : Int), .int .u64 (r5 : Int), .int .u64 (r6 : Int), .int .u64 (r7 : Int)] ∧ (r0 < 18446744073709551616 ∧ r1 < 18446744073709551616 ∧ r2 < 18446744073709551616 ∧ r3 < 18446744073709551616 ∧ r4 < 18446744073709551616 ∧ r5 < 18446744073709551616 ∧ r6 < 18446744073709551616 ∧ r7 < 18446744073709551616) ∧ c ≤ 4294968275 ∧ val8 r0 r1 r2 r3 r4 r5 r6 r7 + 115792089237316195423570985008687907853269984665640564039457584007913129639936 * c = e0 + 18446744073709551616 * e1 + 340282366920938463463374607431768211456 * e2 + 6277101735386680763835789423207666416102355444464034512896 * e3 + 4294968273 * e4 + 79228180536733297607775879168 * e5) ∨ (kv = .int .i64 5 ∧ ∃ r0 r1 r2 r3 r4 r5 r6 r7 c : Nat, cv = .int .u64 (c : Int) ∧ Blk wr pw.heap.size 154 #[.int .u64 (r0 : Int), .int .u64 (r1 : Int), .int .u64 (r2 : Int), .int .u64 (r3 : Int), .int .u64 (r4 : Int), .int .u64 (r5 : Int), .int .u64 (r6 : Int), .int .u64 (r7 : Int)] ∧ (r0 < 18446744073709551616 ∧ r1 < 18446744073709551616 ∧ r2 < 18446744073709551616 ∧ r3 < 18446744073709551616 ∧ r4 < 18446744073709551616 ∧ r5 < 18446744073709551616 ∧ r6 < 18446744073709551616 ∧ r7 < 18446744073709551616) ∧ c ≤ 4294968275 ∧ val8 r0 r1 r2 r3 r4 r5 r6 r7 + 2135987035920910082395021706169552114602704522356652769947041607822219725780640550022962086936576 * c = e0 + 18446744073709551616 * e1 + 340282366920938463463374607431768211456 * e2 + 6277101735386680763835789423207666416102355444464034512896 * e3 + 4294968273 * e4 + 79228180536733297607775879168 * e5) ∨ (kv = .int .i64 6 ∧ ∃ r0 r1 r2 r3 r4 r5 r6 r7 c : Nat, cv = .int .u64 (c : Int) ∧ Blk wr pw.heap.size 154 #[.int .u64 (r0 : Int), .int .u64 (r1 : Int), .int .u64 (r2 : Int), .int .u64 (r3 : Int), .int .u64 (r4 : Int), .int .u64 (r5 : Int), .int .u64 (r6 : Int), .int .u64 (r7 : Int)] ∧ (r0 < 18446744073709551616 ∧ r1 < 18446744073709551616 ∧ r2 < 18446744073709551616 ∧ r3 < 18446744073709551616 ∧ r4 < 18446744073709551616 ∧ r5 < 18446744073709551616 ∧ r6 < 18446744073709551616 ∧ r7 < 18446744073709551616) ∧ c ≤ 4294968275 ∧ val8 r0 r1 r2 r3 r4 r5 r6 r7 + 39402006196394479212279040100143613805079739270465446667948293404245721771497210611414266254884915640806627990306816 * c = e0 + 18446744073709551616 * e1 + 340282366920938463463374607431768211456 * e2 + 6277101735386680763835789423207666416102355444464034512896 * e3 + 4294968273 * e4 + 79228180536733297607775879168 * e5) ∨ (kv = .int .i64 7 ∧ ∃ r0 r1 r2 r3 r4 r5 r6 r7 c : Nat, cv = .int .u64 (c : Int) ∧ Blk wr pw.heap.size 154 #[.int .u64 (r0 : Int), .int .u64 (r1 : Int), .int .u64 (r2 : Int), .int .u64 (r3 : Int), .int .u64 (r4 : Int), .int .u64 (r5 : Int), .int .u64 (r6 : Int), .int .u64 (r7 : Int)] ∧ (r0 < 18446744073709551616 ∧ r1 < 18446744073709551616 ∧ r2 < 18446744073709551616 ∧ r3 < 18446744073709551616 ∧ r4 < 18446744073709551616 ∧ r5 < 18446744073709551616 ∧ r6 < 18446744073709551616 ∧ r7 < 18446744073709551616) ∧ c ≤ 4294968275 ∧ val8 r0 r1 r2 r3 r4 r5 r6 r7 + 726838724295606890549323807888004534353641360687318060281490199180639288113397923326191050713763565560762521606266177933534601628614656 * c = e0 + 18446744073709551616 * e1 + 340282366920938463463374607431768211456 * e2 + 6277101735386680763835789423207666416102355444464034512896 * e3 + 4294968273 * e4 + 79228180536733297607775879168 * e5) ∨ (kv = .int .i64 8 ∧ ∃ r0 r1 r2 r3 r4 r5 r6 r7 c : Nat, cv = .int .u64 (c : Int) ∧ Blk wr pw.heap.size 154 #[.int .u64 (r0 : Int), .int .u64 (r1 : Int), .int .u64 (r2 : Int), .int .u64 (r3 : Int), .int .u64 (r4 : Int), .int .u64 (r5 : Int), .int .u64 (r6 : Int), .int .u64 (r7 : Int)] ∧ (r0 < 18446744073709551616 ∧ r1 < 18446744073709551616 ∧ r2 < 18446744073709551616 ∧ r3 < 18446744073709551616 ∧ r4 < 18446744073709551616 ∧ r5 < 18446744073709551616 ∧ r6 < 18446744073709551616 ∧ r7 < 18446744073709551616) ∧ c ≤ 4294968275 ∧ val8 r0 r1 r2 r3 r4 r5 r6 r7 + 13407807929942597099574024998205846127479365820592393377723561443721764030073546976801874298166903427690031858186486050853753882811946569946433649006084096 * c = e0 + 18446744073709551616 * e1 + 340282366920938463463374607431768211456 * e2 + 6277101735386680763835789423207666416102355444464034512896 * e3 + 4294968273 * e4 + 79228180536733297607775879168 * e5))) (fun _ kv _ => 8 - (intOf kv).toNat)
                  case atStart => exact ⟨hb, Bm, Be, Br, Lib.hid (.inl ⟨rfl, r0, r1, r2, r3, r4, r5, r6, r7, c, rfl, BA, ⟨b0, b1, b2, b3, b4, b5, b6, b7⟩, hc, hval⟩)⟩
                  case round =>
                    clear hb Bm Be Br BA b0 b1 b2 b3 b4 b5 b6 b7 hc hval
                    obtain ⟨hb, Bm, Be, Br, HI⟩ := hrel
                    rcases HI.out with ⟨rfl, X⟩ | ⟨rfl, X⟩ | ⟨rfl, X⟩ | ⟨rfl, X⟩ | ⟨rfl, X⟩
                    · clear HI
                      obtain ⟨r0, r1, r2, r3, r4, r5, r6, r7, c, rfl, BA, ⟨b0, b1, b2, b3, b4, b5, b6, b7⟩, hc, hval⟩ := X
                      by_cases hc0 : c = 0
                      · subst hc0
                        go_wp2
                        refine ⟨⟨hb, Bm, Be, Br, Lib.hid (.inr (.inr (.inl (⟨rfl, r0, r1, r2, r3, r4, r5, r6, r7, BA, ⟨b0, b1, b2, b3, b4, b5, b6, b7⟩, by omega⟩))))⟩, by decide⟩
                      · have pc : (c : Int) > 0 := by omega
                        obtain ⟨y, l, bY, bl, hyl, rb⟩ := add0_ex r4 c b4 (by omega)
                        have hnew : val8 r0 r1 r2 r3 y r5 r6 r7 + 2135987035920910082395021706169552114602704522356652769947041607822219725780640550022962086936576 * l = e0 + 18446744073709551616 * e1 + 340282366920938463463374607431768211456 * e2 + 6277101735386680763835789423207666416102355444464034512896 * e3 + 4294968273 * e4 + 79228180536733297607775879168 * e5 := by
                          simp only [val8] at hval ⊢
                          omega
                        have HN := Lib.hid (And.intro hnew (And.intro (And.intro b0 (And.intro b1 (And.intro b2 (And.intro b3 (And.intro b4 (And.intro b5 (And.intro b6 b7))))))) bY))
                        have pa : wr.cell? ⟨pw.heap.size, 4, none⟩ = some (.int .u64 (r4 : Int)) := BA.cell 4
                        have pf := BA.frozen 4
                        clear hval hnew b0 b1 b2 b3 b4 b5 b6 b7 hyl bY hc0
                        go_wp2
                        obtain ⟨hnew, ⟨b0, b1, b2, b3, b4, b5, b6, b7⟩, bY⟩ := HN.out
                        refine ⟨⟨(hb.setCell (by show w.heap.size ≤ pw.heap.size; omega) _), Bm.far (by show w.heap.size ≠ pw.heap.size; omega) _, Be.far (by show w.heap.size + 1 ≠ pw.heap.size; omega) _, Br.far (by show w.heap.size + 2 ≠ pw.heap.size; omega) _, Lib.hid (.inr (.inl (⟨rfl, r0, r1, r2, r3, y, r5, r6, r7, l, rfl, BA.set_ 4 _, ⟨b0, b1, b2, b3, bY, b5, b6, b7⟩, by omega, hnew⟩)))⟩, by decide⟩
                    · clear HI
                      obtain ⟨r0, r1, r2, r3, r4, r5, r6, r7, c, rfl, BA, ⟨b0, b1, b2, b3, b4, b5, b6, b7⟩, hc, hval⟩ := X
                      by_cases hc0 : c = 0
                      · subst hc0
                        go_wp2
                        refine ⟨⟨hb, Bm, Be, Br, Lib.hid (.inr (.inr (.inl (⟨rfl, r0, r1, r2, r3, r4, r5, r6, r7, BA, ⟨b0, b1, b2, b3, b4, b5, b6, b7⟩, by omega⟩))))⟩, by decide⟩
                      · have pc : (c : Int) > 0 := by omega
                        obtain ⟨y, l, bY, bl, hyl, rb⟩ := add0_ex r5 c b5 (by omega)
                        have hnew : val8 r0 r1 r2 r3 r4 y r6 r7 + 39402006196394479212279040100143613805079739270465446667948293404245721771497210611414266254884915640806627990306816 * l = e0 + 18446744073709551616 * e1 + 340282366920938463463374607431768211456 * e2 + 6277101735386680763835789423207666416102355444464034512896 * e3 + 4294968273 * e4 + 79228180536733297607775879168 * e5 := by
                          simp only [val8] at hval ⊢
                          omega
                        have HN := Lib.hid (And.intro hnew (And.intro (And.intro b0 (And.intro b1 (And.intro b2 (And.intro b3 (And.intro b4 (And.intro b5 (And.intro b6 b7))))))) bY))
                        have pa : wr.cell? ⟨pw.heap.size, 5, none⟩ = some (.int .u64 (r5 : Int)) := BA.cell 5
                        have pf := BA.frozen 5
                        clear hval hnew b0 b1 b2 b3 b4 b5 b6 b7 hyl bY hc0
                        go_wp2
                        obtain ⟨hnew, ⟨b0, b1, b2, b3, b4, b5, b6, b7⟩, bY⟩ := HN.out
                        refine ⟨⟨(hb.setCell (by show w.heap.size ≤ pw.heap.size; omega) _), Bm.far (by show w.heap.size ≠ pw.heap.size; omega) _, Be.far (by show w.heap.size + 1 ≠ pw.heap.size; omega) _, Br.far (by show w.heap.size + 2 ≠ pw.heap.size; omega) _, Lib.hid (.inr (.inr (.inl (⟨rfl, r0, r1, r2, r3, r4, y, r6, r7, l, rfl, BA.set_ 5 _, ⟨b0, b1, b2, b3, b4, bY, b6, b7⟩, by omega, hnew⟩))))⟩, by decide⟩
                    · clear HI
                      obtain ⟨r0, r1, r2, r3, r4, r5, r6, r7, c, rfl, BA, ⟨b0, b1, b2, b3, b4, b5, b6, b7⟩, hc, hval⟩ := X
                      by_cases hc0 : c = 0
                      · subst hc0
                        go_wp2
                        refine ⟨⟨hb, Bm, Be, Br, Lib.hid (.inr (.inr (.inl (⟨rfl, r0, r1, r2, r3, r4, r5, r6, r7, BA, ⟨b0, b1, b2, b3, b4, b5, b6, b7⟩, by omega⟩))))⟩, by decide⟩
                      · have pc : (c : Int) > 0 := by omega
                        obtain ⟨y, l, bY, bl, hyl, rb⟩ := add0_ex r6 c b6 (by omega)
                        have hnew : val8 r0 r1 r2 r3 r4 r5 y r7 + 726838724295606890549323807888004534353641360687318060281490199180639288113397923326191050713763565560762521606266177933534601628614656 * l = e0 + 18446744073709551616 * e1 + 340282366920938463463374607431768211456 * e2 + 6277101735386680763835789423207666416102355444464034512896 * e3 + 4294968273 * e4 + 79228180536733297607775879168 * e5 := by
                          simp only [val8] at hval ⊢
                          omega
                        have HN := Lib.hid (And.intro hnew (And.intro (And.intro b0 (And.intro b1 (And.intro b2 (And.intro b3 (And.intro b4 (And.intro b5 (And.intro b6 b7))))))) bY))
                        have pa : wr.cell? ⟨pw.heap.size, 6, none⟩ = some (.int .u64 (r6 : Int)) := BA.cell 6
                        have pf := BA.frozen 6
                        clear hval hnew b0 b1 b2 b3 b4 b5 b6 b7 hyl bY hc0
                        go_wp2
                        obtain ⟨hnew, ⟨b0, b1, b2, b3, b4, b5, b6, b7⟩, bY⟩ := HN.out
                        refine ⟨⟨(hb.setCell (by show w.heap.size ≤ pw.heap.size; omega) _), Bm.far (by show w.heap.size ≠ pw.heap.size; omega) _, Be.far (by show w.heap.size + 1 ≠ pw.heap.size; omega) _, Br.far (by show w.heap.size + 2 ≠ pw.heap.size; omega) _, Lib.hid (.inr (.inr (.inr (.inl (⟨rfl, r0, r1, r2, r3, r4, r5, y, r7, l, rfl, BA.set_ 6 _, ⟨b0, b1, b2, b3, b4, b5, bY, b7⟩, by omega, hnew⟩)))))⟩, by decide⟩
                    · clear HI
                      obtain ⟨r0, r1, r2, r3, r4, r5, r6, r7, c, rfl, BA, ⟨b0, b1, b2, b3, b4, b5, b6, b7⟩, hc, hval⟩ := X
                      by_cases hc0 : c = 0
                      · subst hc0
                        go_wp2
                        refine ⟨⟨hb, Bm, Be, Br, Lib.hid (.inr (.inr (.inl (⟨rfl, r0, r1, r2, r3, r4, r5, r6, r7, BA, ⟨b0, b1, b2, b3, b4, b5, b6, b7⟩, by omega⟩))))⟩, by decide⟩
                      · have pc : (c : Int) > 0 := by omega
                        obtain ⟨y, l, bY, bl, hyl, rb⟩ := add0_ex r7 c b7 (by omega)
                        have hnew : val8 r0 r1 r2 r3 r4 r5 r6 y + 13407807929942597099574024998205846127479365820592393377723561443721764030073546976801874298166903427690031858186486050853753882811946569946433649006084096 * l = e0 + 18446744073709551616 * e1 + 340282366920938463463374607431768211456 * e2 + 6277101735386680763835789423207666416102355444464034512896 * e3 + 4294968273 * e4 + 79228180536733297607775879168 * e5 := by
                          simp only [val8] at hval ⊢
                          omega
                        have HN := Lib.hid (And.intro hnew (And.intro (And.intro b0 (And.intro b1 (And.intro b2 (And.intro b3 (And.intro b4 (And.intro b5 (And.intro b6 b7))))))) bY))
                        have pa : wr.cell? ⟨pw.heap.size, 7, none⟩ = some (.int .u64 (r7 : Int)) := BA.cell 7
                        have pf := BA.frozen 7
                        clear hval hnew b0 b1 b2 b3 b4 b5 b6 b7 hyl bY hc0
                        go_wp2
                        obtain ⟨hnew, ⟨b0, b1, b2, b3, b4, b5, b6, b7⟩, bY⟩ := HN.out
                        refine ⟨⟨(hb.setCell (by show w.heap.size ≤ pw.heap.size; omega) _), Bm.far (by show w.heap.size ≠ pw.heap.size; omega) _, Be.far (by show w.heap.size + 1 ≠ pw.heap.size; omega) _, Br.far (by show w.heap.size + 2 ≠ pw.heap.size; omega) _, Lib.hid (.inr (.inr (.inr (.inr (⟨rfl, r0, r1, r2, r3, r4, r5, r6, y, l, rfl, BA.set_ 7 _, ⟨b0, b1, b2, b3, b4, b5, b6, bY⟩, by omega, hnew⟩)))))⟩, by decide⟩
                    · clear HI
                      obtain ⟨r0, r1, r2, r3, r4, r5, r6, r7, c, rfl, BA, ⟨b0, b1, b2, b3, b4, b5, b6, b7⟩, hc, hval⟩ := X
                      have hc0 : c = 0 := by
                        obtain ⟨⟨l0, l1, l2, l3, l4, l5, l6, l7⟩, _⟩ := HE.out
                        simp only [val8] at hval
                        omega
                      subst hc0
                      go_wp2
                      refine ⟨⟨hb, Bm, Be, Br, Lib.hid (.inr (.inr (.inl (⟨rfl, r0, r1, r2, r3, r4, r5, r6, r7, BA, ⟨b0, b1, b2, b3, b4, b5, b6, b7⟩, by omega⟩))))⟩, by decide⟩
            · clear HI
              obtain ⟨r0, r1, r2, r3, r4, r5, r6, r7, BA, hbd, hval⟩ := X
              go_wp2
              go_loopw [8, 9] (fun cv j wr => Below w.heap.size w wr ∧ Blk wr w.heap.size 76 #[.int .u64 18446744069414583343, .int .u64 18446744073709551615, .int .u64 18446744073709551615, .int .u64 18446744073709551615, .int .u64 4294968273, .int .u64 0, .int .u64 0] ∧ Blk wr (w.heap.size + 1) 154 #[.int .u64 (e0 : Int), .int .u64 (e1 : Int), .int .u64 (e2 : Int), .int .u64 (e3 : Int), .int .u64 (e4 : Int), .int .u64 (e5 : Int), .int .u64 (e6 : Int), .int .u64 (e7 : Int)] ∧ Blk wr (w.heap.size + 2) 68 #[.int .u64 0, .int .u64 0, .int .u64 0, .int .u64 0] ∧ Hid ((j = .int .i64 0 ∧ ∃ r0 r1 r2 r3 r4 r5 r6 r7 c : Nat, cv = .int .u64 (c : Int) ∧ Blk wr pw.heap.size 154 #[.int .u64 (r0 : Int), .int .u64 (r1 : Int), .int .u64 (r2 : Int), .int .u64 (r3 : Int), .int .u64 (r4 : Int), .int .u64 (r5 : Int), .int .u64 (r6 : Int), .int .u64 (r7 : Int)] ∧ (r0 < 18446744073709551616 ∧ r1 < 18446744073709551616 ∧ r2 < 18446744073709551616 ∧ r3 < 18446744073709551616 ∧ r4 < 18446744073709551616 ∧ r5 < 18446744073709551616 ∧ r6 < 18446744073709551616 ∧ r7 < 18446744073709551616) ∧ c = 0 ∧ val8 r0 r1 r2 r3 r4 r5 r6 r7 + 340282366920938463463374607431768211456 * c = e0 + 18446744073709551616 * e1 + 340282366920938463463374607431768211456 * e2 + 6277101735386680763835789423207666416102355444464034512896 * e3 + 4294968273 * e4 + 79228180536733297607775879168 * e5) ∨ (j = .int .i64 1 ∧ ∃ r0 r1 r2 r3 r4 r5 r6 r7 c : Nat, cv = .int .u64 (c : Int) ∧ Blk wr pw.heap.size 154 #[.int .u64 (r0 : Int), .int .u64 (r1 : Int), .int .u64 (r2 : Int), .int .u64 (r3 : Int), .int .u64 (r4 : Int), .int .u64 (r5 : Int), .int .u64 (r6 : Int), .int .u64 (r7 : Int)] ∧ (r0 < 18446744073709551616 ∧ r1 < 18446744073709551616 ∧ r2 < 18446744073709551616 ∧ r3 < 18446744073709551616 ∧ r4 < 18446744073709551616 ∧ r5 < 18446744073709551616 ∧ r6 < 18446744073709551616 ∧ r7 < 18446744073709551616) ∧ c ≤ 4294968275 ∧ val8 r0 r1 r2 r3 r4 r5 r6 r7 + 6277101735386680763835789423207666416102355444464034512896 * c = e0 + 18446744073709551616 * e1 + 340282366920938463463374607431768211456 * e2 + 6277101735386680763835789423207666416102355444464034512896 * e3 + 4294968273 * e4 + 79228180536733297607775879168 * e5 + 1461501969786775399960563636433274480493475135488 * e6) ∨ (j = .int .i64 2 ∧ ∃ r0 r1 r2 r3 r4 r5 r6 r7 c : Nat, cv = .int .u64 (c : Int) ∧ Blk wr pw.heap.size 154 #[.int .u64 (r0 : Int), .int .u64 (r1 : Int), .int .u64 (r2 : Int), .int .u64 (r3 : Int), .int .u64 (r4 : Int), .int .u64 (r5 : Int), .int .u64 (r6 : Int), .int .u64 (r7 : Int)] ∧ (r0 < 18446744073709551616 ∧ r1 < 18446744073709551616 ∧ r2 < 18446744073709551616 ∧ r3 < 18446744073709551616 ∧ r4 < 18446744073709551616 ∧ r5 < 18446744073709551616 ∧ r6 < 18446744073709551616 ∧ r7 < 18446744073709551616) ∧ c ≤ 4294968275 ∧ val8 r0 r1 r2 r3 r4 r5 r6 r7 + 115792089237316195423570985008687907853269984665640564039457584007913129639936 * c = e0 + 18446744073709551616 * e1 + 340282366920938463463374607431768211456 * e2 + 6277101735386680763835789423207666416102355444464034512896 * e3 + 4294968273 * e4 + 79228180536733297607775879168 * e5 + 1461501969786775399960563636433274480493475135488 * e6) ∨ (j = .int .i64 3 ∧ ∃ r0 r1 r2 r3 r4 r5 r6 r7 c : Nat, cv = .int .u64 (c : Int) ∧ Blk wr pw.heap.size 154 #[.int .u64 (r0 : Int), .int .u64 (r1 : Int), .int .u64 (r2 : Int), .int .u64 (r3 : Int), .int .u64 (r4 : Int), .int .u64 (r5 : Int), .int .u64 (r6 : Int), .int .u64 (r7 : Int)] ∧ (r0 < 18446744073709551616 ∧ r1 < 18446744073709551616 ∧ r2 < 18446744073709551616 ∧ r3 < 18446744073709551616 ∧ r4 < 18446744073709551616 ∧ r5 < 18446744073709551616 ∧ r6 < 18446744073709551616 ∧ r7 < 18446744073709551616) ∧ c ≤ 4294968275 ∧ val8 r0 r1 r2 r3 r4 r5 r6 r7 + 2135987035920910082395021706169552114602704522356652769947041607822219725780640550022962086936576 * c = e0 + 18446744073709551616 * e1 + 340282366920938463463374607431768211456 * e2 + 6277101735386680763835789423207666416102355444464034512896 * e3 + 4294968273 * e4 + 79228180536733297607775879168 * e5 + 1461501969786775399960563636433274480493475135488 * e6))) (fun _ j _ => 3 - (intOf j).toNat)
              case atStart => exact ⟨hb, Bm, Be, Br, Lib.hid (.inl ⟨rfl, r0, r1, r2, r3, r4, r5, r6, r7, 0, rfl, BA, hbd, rfl, by omega⟩)⟩
              case round =>
                clear hb Bm Be Br BA hbd hval
                obtain ⟨hb, Bm, Be, Br, HI⟩ := hrel
                rcases HI.out with ⟨rfl, X⟩ | ⟨rfl, X⟩ | ⟨rfl, X⟩ | ⟨rfl, X⟩
                · clear HI
                  obtain ⟨r0, r1, r2, r3, r4, r5, r6, r7, c, rfl, BA, ⟨b0, b1, b2, b3, b4, b5, b6, b7⟩, hc, hval⟩ := X
                  obtain ⟨hi, lo, blo, bhi, hml⟩ : ∃ hi lo : Nat, lo < 18446744073709551616 ∧ hi ≤ 4294968273 ∧ lo + 18446744073709551616 * hi = e6 * 4294968273 := by
                    have := HE.out.1.2.2.2.2.2.2.1
                    exact ⟨e6 * 4294968273 / 18446744073709551616, e6 * 4294968273 % 18446744073709551616, by omega, by omega, by omega⟩
                  obtain ⟨x, k, bx, bk, hxk, ra⟩ := add0_ex lo r2 blo b2
                  obtain ⟨y, l, bY, bl, hyl, rb⟩ := add0_ex x c bx (by omega)
                  have cm := fun w => mul_any' w e6 4294968273 hi lo HE.out.1.2.2.2.2.2.2.1 (by omega) blo hml 4294968273 rfl
                  have hsum : hi + k + l ≤ 4294968275 := by omega
                  have hnew : val8 r0 r1 y r3 r4 r5 r6 r7 + 6277101735386680763835789423207666416102355444464034512896 * (hi + k + l) = e0 + 18446744073709551616 * e1 + 340282366920938463463374607431768211456 * e2 + 6277101735386680763835789423207666416102355444464034512896 * e3 + 4294968273 * e4 + 79228180536733297607775879168 * e5 + 1461501969786775399960563636433274480493475135488 * e6 := by
                    simp only [val8] at hval ⊢
                    omega
                  have HN := Lib.hid (And.intro hnew (And.intro (And.intro b0 (And.intro b1 (And.intro b2 (And.intro b3 (And.intro b4 (And.intro b5 (And.intro b6 b7))))))) bY))
                  have pe : wr.cell? ⟨w.heap.size + 1, 6, none⟩ = some (.int .u64 (e6 : Int)) := Be.cell 6
                  have pm : wr.cell? ⟨w.heap.size, 4, none⟩ = some (.int .u64 4294968273) := Bm.cell 4
                  have lE := Be.lt
                  have lM := Bm.lt
                  clear hval hnew b0 b1 b2 b3 b4 b5 b6 b7 hml hxk hyl blo bx bY hc
                  go_wp2
                  refine wp_region_G (fun _ => false) (by kernel_rfl) ?_
                  try simp only [Act.put]
                  refine wpAnyG_take 0 rfl (by kernel_rfl) (fun _ _ _ h => h) (YieldsG.pure (by rfl) (fun w9 _ => by go_simp; try with_reducible rfl)) ?_
                  try simp only [Act.put, List.setIfInBounds_toArray, List.set_cons_zero, List.set_cons_succ]
                  refine wpAnyG_take 1 rfl (by kernel_rfl) (fun _ _ _ h => h) (YieldsG.pure (v := .int .i64 6) (by rfl) (fun w9 h9 => by go_simp; first | done | rfl)) ?_
                  try simp only [Act.put, List.setIfInBounds_toArray, List.set_cons_zero, List.set_cons_succ]
                  refine wpAnyG_take 2 rfl (by kernel_rfl) (fun _ _ _ h => h) (YieldsG.pure (by rfl) (fun w9 _ => by go_simp; try with_reducible rfl)) ?_
                  try simp only [Act.put, List.setIfInBounds_toArray, List.set_cons_zero, List.set_cons_succ]
                  refine wpAnyG_take 3 rfl (by kernel_rfl) (fun _ _ _ h => h) (YieldsG.pure (v := .int .u64 (e6 : Int)) (by rfl) (fun w9 h9 => by have hz := (Below.cell (p := ⟨w.heap.size + 1, 6, none⟩) h9 lE).trans pe; go_simp; first | done | simp [hz])) ?_
                  try simp only [Act.put, List.setIfInBounds_toArray, List.set_cons_zero, List.set_cons_succ]
                  refine wpAnyG_take 4 rfl (by kernel_rfl) (fun _ _ _ h => h) (YieldsG.pure (by rfl) (fun w9 _ => by go_simp; try with_reducible rfl)) ?_
                  try simp only [Act.put, List.setIfInBounds_toArray, List.set_cons_zero, List.set_cons_succ]
                  refine wpAnyG_take 5 rfl (by kernel_rfl) (fun _ _ _ h => h) (YieldsG.pure (by rfl) (fun w9 _ => by go_simp; try with_reducible rfl)) ?_
                  try simp only [Act.put, List.setIfInBounds_toArray, List.set_cons_zero, List.set_cons_succ]
                  refine wpAnyG_take 6 rfl (by kernel_rfl) (fun _ _ _ h => h) (YieldsG.pure (by rfl) (fun w9 _ => by go_simp; try with_reducible rfl)) ?_
                  try simp only [Act.put, List.setIfInBounds_toArray, List.set_cons_zero, List.set_cons_succ]
                  refine wpAnyG_take 7 rfl (by kernel_rfl) (fun _ _ _ h => h) (YieldsG.pure (v := .int .u64 4294968273) (by rfl) (fun w9 h9 => by have hz := (Below.cell (p := ⟨w.heap.size, 4, none⟩) h9 lM).trans pm; go_simp; first | done | simp [hz])) ?_
                  try simp only [Act.put, List.setIfInBounds_toArray, List.set_cons_zero, List.set_cons_succ]
                  refine wpAnyG_take 8 rfl (by kernel_rfl) (fun _ _ _ h => h) (YieldsG.call (v := .tuple #[.int .u64 (hi : Int), .int .u64 (lo : Int)]) (by rfl) 51 _ (fun w9 => by go_simp; try (first | with_reducible rfl | rfl)) (fun w9 h9 => cm w9)) ?_
                  try simp only [Act.put, List.setIfInBounds_toArray, List.set_cons_zero, List.set_cons_succ]
                  refine wpAnyG_take 9 rfl (by kernel_rfl) (fun _ _ _ h => h) (YieldsG.pure (by rfl) (fun w9 _ => by go_simp; try with_reducible rfl)) ?_
                  try simp only [Act.put, List.setIfInBounds_toArray, List.set_cons_zero, List.set_cons_succ]
                  refine wpAnyG_take 10 rfl (by kernel_rfl) (fun _ _ _ h => h) (YieldsG.pure (by rfl) (fun w9 _ => by go_simp; try with_reducible rfl)) ?_
                  try simp only [Act.put, List.setIfInBounds_toArray, List.set_cons_zero, List.set_cons_succ]
                  refine wpAnyG_take 11 rfl (by kernel_rfl) (fun _ _ _ h => h) (YieldsG.pure (by rfl) (fun w9 _ => by go_simp; try with_reducible rfl)) ?_
                  try simp only [Act.put, List.setIfInBounds_toArray, List.set_cons_zero, List.set_cons_succ]
                  refine wpAnyG_take 12 rfl (by kernel_rfl) (fun _ _ _ h => h) (YieldsG.pure (by rfl) (fun w9 _ => by go_simp; try with_reducible rfl)) ?_
                  try simp only [Act.put, List.setIfInBounds_toArray, List.set_cons_zero, List.set_cons_succ]
                  refine wpAnyG_take 13 rfl (by kernel_rfl) (fun _ _ _ h => h) (YieldsG.pure (by rfl) (fun w9 _ => by go_simp; try with_reducible rfl)) ?_
                  try simp only [Act.put, List.setIfInBounds_toArray, List.set_cons_zero, List.set_cons_succ]
                  refine wpAnyG_done (by kernel_rfl) (fun u hu => ?_)
                  have Bm := Gr.blk hu Bm
                  have Be := Gr.blk hu Be
                  have Br := Gr.blk hu Br
                  have BA := Gr.blk hu BA
                  have hb := Below.gr hb hu
                  have pa : u.cell? ⟨pw.heap.size, 2, none⟩ = some (.int .u64 (r2 : Int)) := BA.cell 2
                  have pf := BA.frozen 2
                  clear hu cm pe pm
                  go_wp2
                  obtain ⟨hnew, ⟨b0, b1, b2, b3, b4, b5, b6, b7⟩, bY⟩ := HN.out
                  refine ⟨⟨(hb.setCell (by show w.heap.size ≤ pw.heap.size; omega) _), Bm.far (by show w.heap.size ≠ pw.heap.size; omega) _, Be.far (by show w.heap.size + 1 ≠ pw.heap.size; omega) _, Br.far (by show w.heap.size + 2 ≠ pw.heap.size; omega) _, Lib.hid (.inr (.inl (⟨rfl, r0, r1, y, r3, r4, r5, r6, r7, hi + k + l, by congr 1, BA.set_ 2 _, ⟨b0, b1, bY, b3, b4, b5, b6, b7⟩, by omega, hnew⟩)))⟩, by decide⟩
                · clear HI
                  obtain ⟨r0, r1, r2, r3, r4, r5, r6, r7, c, rfl, BA, ⟨b0, b1, b2, b3, b4, b5, b6, b7⟩, hc, hval⟩ := X
                  obtain ⟨hi, lo, blo, bhi, hml⟩ : ∃ hi lo : Nat, lo < 18446744073709551616 ∧ hi ≤ 0 ∧ lo + 18446744073709551616 * hi = e6 * 0 := ⟨0, 0, by omega, by omega, by omega⟩
                  obtain ⟨x, k, bx, bk, hxk, ra⟩ := add0_ex lo r3 blo b3
                  obtain ⟨y, l, bY, bl, hyl, rb⟩ := add0_ex x c bx (by omega)
                  have cm := fun w => mul_any' w e6 0 hi lo HE.out.1.2.2.2.2.2.2.1 (by omega) blo hml 0 rfl
                  have hsum : hi + k + l ≤ 4294968275 := by omega
                  have hnew : val8 r0 r1 r2 y r4 r5 r6 r7 + 115792089237316195423570985008687907853269984665640564039457584007913129639936 * (hi + k + l) = e0 + 18446744073709551616 * e1 + 340282366920938463463374607431768211456 * e2 + 6277101735386680763835789423207666416102355444464034512896 * e3 + 4294968273 * e4 + 79228180536733297607775879168 * e5 + 1461501969786775399960563636433274480493475135488 * e6 := by
                    simp only [val8] at hval ⊢
                    omega
                  have HN := Lib.hid (And.intro hnew (And.intro (And.intro b0 (And.intro b1 (And.intro b2 (And.intro b3 (And.intro b4 (And.intro b5 (And.intro b6 b7))))))) bY))
                  have pe : wr.cell? ⟨w.heap.size + 1, 6, none⟩ = some (.int .u64 (e6 : Int)) := Be.cell 6
                  have pm : wr.cell? ⟨w.heap.size, 5, none⟩ = some (.int .u64 0) := Bm.cell 5
                  have lE := Be.lt
                  have lM := Bm.lt
                  clear hval hnew b0 b1 b2 b3 b4 b5 b6 b7 hml hxk hyl blo bx bY hc
                  go_wp2
                  refine wp_region_G (fun _ => false) (by kernel_rfl) ?_
                  try simp only [Act.put]
                  refine wpAnyG_take 0 rfl (by kernel_rfl) (fun _ _ _ h => h) (YieldsG.pure (by rfl) (fun w9 _ => by go_simp; try with_reducible rfl)) ?_
                  try simp only [Act.put, List.setIfInBounds_toArray, List.set_cons_zero, List.set_cons_succ]
                  refine wpAnyG_take 1 rfl (by kernel_rfl) (fun _ _ _ h => h) (YieldsG.pure (v := .int .i64 6) (by rfl) (fun w9 h9 => by go_simp; first | done | rfl)) ?_
                  try simp only [Act.put, List.setIfInBounds_toArray, List.set_cons_zero, List.set_cons_succ]
                  refine wpAnyG_take 2 rfl (by kernel_rfl) (fun _ _ _ h => h) (YieldsG.pure (by rfl) (fun w9 _ => by go_simp; try with_reducible rfl)) ?_
                  try simp only [Act.put, List.setIfInBounds_toArray, List.set_cons_zero, List.set_cons_succ]
                  refine wpAnyG_take 3 rfl (by kernel_rfl) (fun _ _ _ h => h) (YieldsG.pure (v := .int .u64 (e6 : Int)) (by rfl) (fun w9 h9 => by have hz := (Below.cell (p := ⟨w.heap.size + 1, 6, none⟩) h9 lE).trans pe; go_simp; first | done | simp [hz])) ?_
                  try simp only [Act.put, List.setIfInBounds_toArray, List.set_cons_zero, List.set_cons_succ]
                  refine wpAnyG_take 4 rfl (by kernel_rfl) (fun _ _ _ h => h) (YieldsG.pure (by rfl) (fun w9 _ => by go_simp; try with_reducible rfl)) ?_
                  try simp only [Act.put, List.setIfInBounds_toArray, List.set_cons_zero, List.set_cons_succ]
                  refine wpAnyG_take 5 rfl (by kernel_rfl) (fun _ _ _ h => h) (YieldsG.pure (by rfl) (fun w9 _ => by go_simp; try with_reducible rfl)) ?_
                  try simp only [Act.put, List.setIfInBounds_toArray, List.set_cons_zero, List.set_cons_succ]
                  refine wpAnyG_take 6 rfl (by kernel_rfl) (fun _ _ _ h => h) (YieldsG.pure (by rfl) (fun w9 _ => by go_simp; try with_reducible rfl)) ?_
                  try simp only [Act.put, List.setIfInBounds_toArray, List.set_cons_zero, List.set_cons_succ]
                  refine wpAnyG_take 7 rfl (by kernel_rfl) (fun _ _ _ h => h) (YieldsG.pure (v := .int .u64 0) (by rfl) (fun w9 h9 => by have hz := (Below.cell (p := ⟨w.heap.size, 5, none⟩) h9 lM).trans pm; go_simp; first | done | simp [hz])) ?_
                  try simp only [Act.put, List.setIfInBounds_toArray, List.set_cons_zero, List.set_cons_succ]
                  refine wpAnyG_take 8 rfl (by kernel_rfl) (fun _ _ _ h => h) (YieldsG.call (v := .tuple #[.int .u64 (hi : Int), .int .u64 (lo : Int)]) (by rfl) 51 _ (fun w9 => by go_simp; try (first | with_reducible rfl | rfl)) (fun w9 h9 => cm w9)) ?_
                  try simp only [Act.put, List.setIfInBounds_toArray, List.set_cons_zero, List.set_cons_succ]
                  refine wpAnyG_take 9 rfl (by kernel_rfl) (fun _ _ _ h => h) (YieldsG.pure (by rfl) (fun w9 _ => by go_simp; try with_reducible rfl)) ?_
                  try simp only [Act.put, List.setIfInBounds_toArray, List.set_cons_zero, List.set_cons_succ]
                  refine wpAnyG_take 10 rfl (by kernel_rfl) (fun _ _ _ h => h) (YieldsG.pure (by rfl) (fun w9 _ => by go_simp; try with_reducible rfl)) ?_
                  try simp only [Act.put, List.setIfInBounds_toArray, List.set_cons_zero, List.set_cons_succ]
                  refine wpAnyG_take 11 rfl (by kernel_rfl) (fun _ _ _ h => h) (YieldsG.pure (by rfl) (fun w9 _ => by go_simp; try with_reducible rfl)) ?_
                  try simp only [Act.put, List.setIfInBounds_toArray, List.set_cons_zero, List.set_cons_succ]
                  refine wpAnyG_take 12 rfl (by kernel_rfl) (fun _ _ _ h => h) (YieldsG.pure (by rfl) (fun w9 _ => by go_simp; try with_reducible rfl)) ?_
                  try simp only [Act.put, List.setIfInBounds_toArray, List.set_cons_zero, List.set_cons_succ]
                  refine wpAnyG_take 13 rfl (by kernel_rfl) (fun _ _ _ h => h) (YieldsG.pure (by rfl) (fun w9 _ => by go_simp; try with_reducible rfl)) ?_
                  try simp only [Act.put, List.setIfInBounds_toArray, List.set_cons_zero, List.set_cons_succ]
                  refine wpAnyG_done (by kernel_rfl) (fun u hu => ?_)
                  have Bm := Gr.blk hu Bm
                  have Be := Gr.blk hu Be
                  have Br := Gr.blk hu Br
                  have BA := Gr.blk hu BA
                  have hb := Below.gr hb hu
                  have pa : u.cell? ⟨pw.heap.size, 3, none⟩ = some (.int .u64 (r3 : Int)) := BA.cell 3
                  have pf := BA.frozen 3
                  clear hu cm pe pm
                  go_wp2
                  obtain ⟨hnew, ⟨b0, b1, b2, b3, b4, b5, b6, b7⟩, bY⟩ := HN.out
                  refine ⟨⟨(hb.setCell (by show w.heap.size ≤ pw.heap.size; omega) _), Bm.far (by show w.heap.size ≠ pw.heap.size; omega) _, Be.far (by show w.heap.size + 1 ≠ pw.heap.size; omega) _, Br.far (by show w.heap.size + 2 ≠ pw.heap.size; omega) _, Lib.hid (.inr (.inr (.inl (⟨rfl, r0, r1, r2, y, r4, r5, r6, r7, hi + k + l, by congr 1, BA.set_ 3 _, ⟨b0, b1, b2, bY, b4, b5, b6, b7⟩, by omega, hnew⟩))))⟩, by decide⟩
                · clear HI
                  obtain ⟨r0, r1, r2, r3, r4, r5, r6, r7, c, rfl, BA, ⟨b0, b1, b2, b3, b4, b5, b6, b7⟩, hc, hval⟩ := X
                  obtain ⟨hi, lo, blo, bhi, hml⟩ : ∃ hi lo : Nat, lo < 18446744073709551616 ∧ hi ≤ 0 ∧ lo + 18446744073709551616 * hi = e6 * 0 := ⟨0, 0, by omega, by omega, by omega⟩
                  obtain ⟨x, k, bx, bk, hxk, ra⟩ := add0_ex lo r4 blo b4
                  obtain ⟨y, l, bY, bl, hyl, rb⟩ := add0_ex x c bx (by omega)
                  have cm := fun w => mul_any' w e6 0 hi lo HE.out.1.2.2.2.2.2.2.1 (by omega) blo hml 0 rfl
                  have hsum : hi + k + l ≤ 4294968275 := by omega
                  have hnew : val8 r0 r1 r2 r3 y r5 r6 r7 + 2135987035920910082395021706169552114602704522356652769947041607822219725780640550022962086936576 * (hi + k + l) = e0 + 18446744073709551616 * e1 + 340282366920938463463374607431768211456 * e2 + 6277101735386680763835789423207666416102355444464034512896 * e3 + 4294968273 * e4 + 79228180536733297607775879168 * e5 + 1461501969786775399960563636433274480493475135488 * e6 := by
                    simp only [val8] at hval ⊢
                    omega
                  have HN := Lib.hid (And.intro hnew (And.intro (And.intro b0 (And.intro b1 (And.intro b2 (And.intro b3 (And.intro b4 (And.intro b5 (And.intro b6 b7))))))) bY))
                  have pe : wr.cell? ⟨w.heap.size + 1, 6, none⟩ = some (.int .u64 (e6 : Int)) := Be.cell 6
                  have pm : wr.cell? ⟨w.heap.size, 6, none⟩ = some (.int .u64 0) := Bm.cell 6
                  have lE := Be.lt
                  have lM := Bm.lt
                  clear hval hnew b0 b1 b2 b3 b4 b5 b6 b7 hml hxk hyl blo bx bY hc
                  go_wp2
                  refine wp_region_G (fun _ => false) (by kernel_rfl) ?_
                  try simp only [Act.put]
                  refine wpAnyG_take 0 rfl (by kernel_rfl) (fun _ _ _ h => h) (YieldsG.pure (by rfl) (fun w9 _ => by go_simp; try with_reducible rfl)) ?_
                  try simp only [Act.put, List.setIfInBounds_toArray, List.set_cons_zero, List.set_cons_succ]
                  refine wpAnyG_take 1 rfl (by kernel_rfl) (fun _ _ _ h => h) (YieldsG.pure (v := .int .i64 6) (by rfl) (fun w9 h9 => by go_simp; first | done | rfl)) ?_
                  try simp only [Act.put, List.setIfInBounds_toArray, List.set_cons_zero, List.set_cons_succ]
                  refine wpAnyG_take 2 rfl (by kernel_rfl) (fun _ _ _ h => h) (YieldsG.pure (by rfl) (fun w9 _ => by go_simp; try with_reducible rfl)) ?_
                  try simp only [Act.put, List.setIfInBounds_toArray, List.set_cons_zero, List.set_cons_succ]
                  refine wpAnyG_take 3 rfl (by kernel_rfl) (fun _ _ _ h => h) (YieldsG.pure (v := .int .u64 (e6 : Int)) (by rfl) (fun w9 h9 => by have hz := (Below.cell (p := ⟨w.heap.size + 1, 6, none⟩) h9 lE).trans pe; go_simp; first | done | simp [hz])) ?_
                  try simp only [Act.put, List.setIfInBounds_toArray, List.set_cons_zero, List.set_cons_succ]
                  refine wpAnyG_take 4 rfl (by kernel_rfl) (fun _ _ _ h => h) (YieldsG.pure (by rfl) (fun w9 _ => by go_simp; try with_reducible rfl)) ?_
                  try simp only [Act.put, List.setIfInBounds_toArray, List.set_cons_zero, List.set_cons_succ]
                  refine wpAnyG_take 5 rfl (by kernel_rfl) (fun _ _ _ h => h) (YieldsG.pure (by rfl) (fun w9 _ => by go_simp; try with_reducible rfl)) ?_
                  try simp only [Act.put, List.setIfInBounds_toArray, List.set_cons_zero, List.set_cons_succ]
                  refine wpAnyG_take 6 rfl (by kernel_rfl) (fun _ _ _ h => h) (YieldsG.pure (by rfl) (fun w9 _ => by go_simp; try with_reducible rfl)) ?_
                  try simp only [Act.put, List.setIfInBounds_toArray, List.set_cons_zero, List.set_cons_succ]
                  refine wpAnyG_take 7 rfl (by kernel_rfl) (fun _ _ _ h => h) (YieldsG.pure (v := .int .u64 0) (by rfl) (fun w9 h9 => by have hz := (Below.cell (p := ⟨w.heap.size, 6, none⟩) h9 lM).trans pm; go_simp; first | done | simp [hz])) ?_
                  try simp only [Act.put, List.setIfInBounds_toArray, List.set_cons_zero, List.set_cons_succ]
                  refine wpAnyG_take 8 rfl (by kernel_rfl) (fun _ _ _ h => h) (YieldsG.call (v := .tuple #[.int .u64 (hi : Int), .int .u64 (lo : Int)]) (by rfl) 51 _ (fun w9 => by go_simp; try (first | with_reducible rfl | rfl)) (fun w9 h9 => cm w9)) ?_
                  try simp only [Act.put, List.setIfInBounds_toArray, List.set_cons_zero, List.set_cons_succ]
                  refine wpAnyG_take 9 rfl (by kernel_rfl) (fun _ _ _ h => h) (YieldsG.pure (by rfl) (fun w9 _ => by go_simp; try with_reducible rfl)) ?_
                  try simp only [Act.put, List.setIfInBounds_toArray, List.set_cons_zero, List.set_cons_succ]
                  refine wpAnyG_take 10 rfl (by kernel_rfl) (fun _ _ _ h => h) (YieldsG.pure (by rfl) (fun w9 _ => by go_simp; try with_reducible rfl)) ?_
                  try simp only [Act.put, List.setIfInBounds_toArray, List.set_cons_zero, List.set_cons_succ]
                  refine wpAnyG_take 11 rfl (by kernel_rfl) (fun _ _ _ h => h) (YieldsG.pure (by rfl) (fun w9 _ => by go_simp; try with_reducible rfl)) ?_
                  try simp only [Act.put, List.setIfInBounds_toArray, List.set_cons_zero, List.set_cons_succ]
                  refine wpAnyG_take 12 rfl (by kernel_rfl) (fun _ _ _ h => h) (YieldsG.pure (by rfl) (fun w9 _ => by go_simp; try with_reducible rfl)) ?_
                  try simp only [Act.put, List.setIfInBounds_toArray, List.set_cons_zero, List.set_cons_succ]
                  refine wpAnyG_take 13 rfl (by kernel_rfl) (fun _ _ _ h => h) (YieldsG.pure (by rfl) (fun w9 _ => by go_simp; try with_reducible rfl)) ?_
                  try simp only [Act.put, List.setIfInBounds_toArray, List.set_cons_zero, List.set_cons_succ]
                  refine wpAnyG_done (by kernel_rfl) (fun u hu => ?_)
                  have Bm := Gr.blk hu Bm
                  have Be := Gr.blk hu Be
                  have Br := Gr.blk hu Br
                  have BA := Gr.blk hu BA
                  have hb := Below.gr hb hu
                  have pa : u.cell? ⟨pw.heap.size, 4, none⟩ = some (.int .u64 (r4 : Int)) := BA.cell 4
                  have pf := BA.frozen 4
                  clear hu cm pe pm
                  go_wp2
                  obtain ⟨hnew, ⟨b0, b1, b2, b3, b4, b5, b6, b7⟩, bY⟩ := HN.out
                  refine ⟨⟨(hb.setCell (by show w.heap.size ≤ pw.heap.size; omega) _), Bm.far (by show w.heap.size ≠ pw.heap.size; omega) _, Be.far (by show w.heap.size + 1 ≠ pw.heap.size; omega) _, Br.far (by show w.heap.size + 2 ≠ pw.heap.size; omega) _, Lib.hid (.inr (.inr (.inr (⟨rfl, r0, r1, r2, r3, y, r5, r6, r7, hi + k + l, by congr 1, BA.set_ 4 _, ⟨b0, b1, b2, b3, bY, b5, b6, b7⟩, by omega, hnew⟩))))⟩, by decide⟩
                · clear HI
                  obtain ⟨r0, r1, r2, r3, r4, r5, r6, r7, c, rfl, BA, ⟨b0, b1, b2, b3, b4, b5, b6, b7⟩, hc, hval⟩ := X
                  go_wp2
                  go_loopw [8, 16] (fun cv kv wr => Below w.heap.size w wr ∧ Blk wr w.heap.size 76 #[.int .u64 18446744069414583343, .int .u64 18446744073709551615, .int .u64 18446744073709551615, .int .u64 18446744073709551615, .int .u64 4294968273, .int .u64 0, .int .u64 0] ∧ Blk wr (w.heap.size + 1) 154 #[.int .u64 (e0 : Int), .int .u64 (e1 : Int), .int .u64 (e2 : Int), .int .u64 (e3 : Int), .int .u64 (e4 : Int), .int .u64 (e5 : Int), .int .u64 (e6 : Int), .int .u64 (e7 : Int)] ∧ Blk wr (w.heap.size + 2) 68 #[.int .u64 0, .int .u64 0, .int .u64 0, .int .u64 0] ∧ Hid ((kv = .int .i64 5 ∧ ∃ r0 r1 r2 r3 r4 r5 r6 r7 c : Nat, cv = .int .u64 (c : Int) ∧ Blk wr pw.heap.size 154 #[.int .u64 (r0 : Int), .int .u64 (r1 : Int), .int .u64 (r2 : Int), .int .u64 (r3 : Int), .int .u64 (r4 : Int), .int .u64 (r5 : Int), .int .u64 (r6 : Int), .int .u64 (r7 : Int)] ∧ (r0 < 18446744073709551616 ∧ r1 < 18446744073709551616 ∧ r2 < 18446744073709551616 ∧ r3 < 18446744073709551616 ∧ r4 < 18446744073709551616 ∧ r5 < 18446744073709551616 ∧ r6 < 18446744073709551616 ∧ r7 < 18446744073709551616) ∧ c ≤ 4294968275 ∧ val8 r0 r1 r2 r3 r4 r5 r6 r7 + 2135987035920910082395021706169552114602704522356652769947041607822219725780640550022962086936576 * c = e0 + 18446744073709551616 * e1 + 340282366920938463463374607431768211456 * e2 + 6277101735386680763835789423207666416102355444464034512896 * e3 + 4294968273 * e4 + 79228180536733297607775879168 * e5 + 1461501969786775399960563636433274480493475135488 * e6) ∨ (kv = .int .i64 6 ∧ ∃ r0 r1 r2 r3 r4 r5 r6 r7 c : Nat, cv = .int .u64 (c : Int) ∧ Blk wr pw.heap.size 154 #[.int .u64 (r0 : Int), .int .u64 (r1 : Int), .int .u64 (r2 : Int), .int .u64 (r3 : Int), .int .u64 (r4 : Int), .int .u64 (r5 : Int), .int .u64 (r6 : Int), .int .u64 (r7 : Int)] ∧ (r0 < 18446744073709551616 ∧ r1 < 18446744073709551616 ∧ r2 < 18446744073709551616 ∧ r3 < 18446744073709551616 ∧ r4 < 18446744073709551616 ∧ r5 < 18446744073709551616 ∧ r6 < 18446744073709551616 ∧ r7 < 18446744073709551616) ∧ c ≤ 4294968275 ∧ val8 r0 r1 r2 r3 r4 r5 r6 r7 + 39402006196394479212279040100143613805079739270465446667948293404245721771497210611414266254884915640806627990306816 * c = e0 + 18446744073709551616 * e1 + 340282366920938463463374607431768211456 * e2 + 6277101735386680763835789423207666416102355444464034512896 * e3 + 4294968273 * e4 + 79228180536733297607775879168 * e5 + 1461501969786775399960563636433274480493475135488 * e6) ∨ (kv = .int .i64 7 ∧ ∃ r0 r1 r2 r3 r4 r5 r6 r7 c : Nat, cv = .int .u64 (c : Int) ∧ Blk wr pw.heap.size 154 #[.int .u64 (r0 : Int), .int .u64 (r1 : Int), .int .u64 (r2 : Int), .int .u64 (r3 : Int), .int .u64 (r4 : Int), .int .u64 (r5 : Int), .int .u64 (r6 : Int), .int .u64 (r7 : Int)] ∧ (r0 < 18446744073709551616 ∧ r1 < 18446744073709551616 ∧ r2 < 18446744073709551616 ∧ r3 < 18446744073709551616 ∧ r4 < 18446744073709551616 ∧ r5 < 18446744073709551616 ∧ r6 < 18446744073709551616 ∧ r7 < 18446744073709551616) ∧ c ≤ 4294968275 ∧ val8 r0 r1 r2 r3 r4 r5 r6 r7 + 726838724295606890549323807888004534353641360687318060281490199180639288113397923326191050713763565560762521606266177933534601628614656 * c = e0 + 18446744073709551616 * e1 + 340282366920938463463374607431768211456 * e2 + 6277101735386680763835789423207666416102355444464034512896 * e3 + 4294968273 * e4 + 79228180536733297607775879168 * e5 + 1461501969786775399960563636433274480493475135488 * e6) ∨ (kv = .int .i64 8 ∧ ∃ r0 r1 r2 r3 r4 r5 r6 r7 c : Nat, cv = .int .u64 (c : Int) ∧ Blk wr pw.heap.size 154 #[.int .u64 (r0 : Int), .int .u64 (r1 : Int), .int .u64 (r2 : Int), .int .u64 (r3 : Int), .int .u64 (r4 : Int), .int .u64 (r5 : Int), .int .u64 (r6 : Int), .int .u64 (r7 : Int)] ∧ (r0 < 18446744073709551616 ∧ r1 < 18446744073709551616 ∧ r2 < 18446744073709551616 ∧ r3 < 18446744073709551616 ∧ r4 < 18446744073709551616 ∧ r5 < 18446744073709551616 ∧ r6 < 18446744073709551616 ∧ r7 < 18446744073709551616) ∧ c ≤ 4294968275 ∧ val8 r0 r1 r2 r3 r4 r5 r6 r7 + 13407807929942597099574024998205846127479365820592393377723561443721764030073546976801874298166903427690031858186486050853753882811946569946433649006084096 * c = e0 + 18446744073709551616 * e1 + 340282366920938463463374607431768211456 * e2 + 6277101735386680763835789423207666416102355444464034512896 * e3 + 4294968273 * e4 + 79228180536733297607775879168 * e5 + 1461501969786775399960563636433274480493475135488 * e6))) (fun _ kv _ => 8 - (intOf kv).toNat)
                  case atStart => exact ⟨hb, Bm, Be, Br, Lib.hid (.inl ⟨rfl, r0, r1, r2, r3, r4, r5, r6, r7, c, rfl, BA, ⟨b0, b1, b2, b3, b4, b5, b6, b7⟩, hc, hval⟩)⟩
                  case round =>
                    clear hb Bm Be Br BA b0 b1 b2 b3 b4 b5 b6 b7 hc hval
                    obtain ⟨hb, Bm, Be, Br, HI⟩ := hrel
                    rcases HI.out with ⟨rfl, X⟩ | ⟨rfl, X⟩ | ⟨rfl, X⟩ | ⟨rfl, X⟩
                    · clear HI
                      obtain ⟨r0, r1, r2, r3, r4, r5, r6, r7, c, rfl, BA, ⟨b0, b1, b2, b3, b4, b5, b6, b7⟩, hc, hval⟩ := X
                      by_cases hc0 : c = 0
                      · subst hc0
                        go_wp2
                        refine ⟨⟨hb, Bm, Be, Br, Lib.hid (.inr (.inr (.inr (.inl (⟨rfl, r0, r1, r2, r3, r4, r5, r6, r7, BA, ⟨b0, b1, b2, b3, b4, b5, b6, b7⟩, by omega⟩)))))⟩, by decide⟩
                      · have pc : (c : Int) > 0 := by omega
                        obtain ⟨y, l, bY, bl, hyl, rb⟩ := add0_ex r5 c b5 (by omega)
                        have hnew : val8 r0 r1 r2 r3 r4 y r6 r7 + 39402006196394479212279040100143613805079739270465446667948293404245721771497210611414266254884915640806627990306816 * l = e0 + 18446744073709551616 * e1 + 340282366920938463463374607431768211456 * e2 + 6277101735386680763835789423207666416102355444464034512896 * e3 + 4294968273 * e4 + 79228180536733297607775879168 * e5 + 1461501969786775399960563636433274480493475135488 * e6 := by
                          simp only [val8] at hval ⊢
                          omega
                        have HN := Lib.hid (And.intro hnew (And.intro (And.intro b0 (And.intro b1 (And.intro b2 (And.intro b3 (And.intro b4 (And.intro b5 (And.intro b6 b7))))))) bY))
                        have pa : wr.cell? ⟨pw.heap.size, 5, none⟩ = some (.int .u64 (r5 : Int)) := BA.cell 5
                        have pf := BA.frozen 5
                        clear hval hnew b0 b1 b2 b3 b4 b5 b6 b7 hyl bY hc0
                        go_wp2
                        obtain ⟨hnew, ⟨b0, b1, b2, b3, b4, b5, b6, b7⟩, bY⟩ := HN.out
                        refine ⟨⟨(hb.setCell (by show w.heap.size ≤ pw.heap.size; omega) _), Bm.far (by show w.heap.size ≠ pw.heap.size; omega) _, Be.far (by show w.heap.size + 1 ≠ pw.heap.size; omega) _, Br.far (by show w.heap.size + 2 ≠ pw.heap.size; omega) _, Lib.hid (.inr (.inl (⟨rfl, r0, r1, r2, r3, r4, y, r6, r7, l, rfl, BA.set_ 5 _, ⟨b0, b1, b2, b3, b4, bY, b6, b7⟩, by omega, hnew⟩)))⟩, by decide⟩
                    · clear HI
                      obtain ⟨r0, r1, r2, r3, r4, r5, r6, r7, c, rfl, BA, ⟨b0, b1, b2, b3, b4, b5, b6, b7⟩, hc, hval⟩ := X
                      by_cases hc0 : c = 0
                      · subst hc0
                        go_wp2
                        refine ⟨⟨hb, Bm, Be, Br, Lib.hid (.inr (.inr (.inr (.inl (⟨rfl, r0, r1, r2, r3, r4, r5, r6, r7, BA, ⟨b0, b1, b2, b3, b4, b5, b6, b7⟩, by omega⟩)))))⟩, by decide⟩
                      · have pc : (c : Int) > 0 := by omega
                        obtain ⟨y, l, bY, bl, hyl, rb⟩ := add0_ex r6 c b6 (by omega)
                        have hnew : val8 r0 r1 r2 r3 r4 r5 y r7 + 726838724295606890549323807888004534353641360687318060281490199180639288113397923326191050713763565560762521606266177933534601628614656 * l = e0 + 18446744073709551616 * e1 + 340282366920938463463374607431768211456 * e2 + 6277101735386680763835789423207666416102355444464034512896 * e3 + 4294968273 * e4 + 79228180536733297607775879168 * e5 + 1461501969786775399960563636433274480493475135488 * e6 := by
                          simp only [val8] at hval ⊢
                          omega
                        have HN := Lib.hid (And.intro hnew (And.intro (And.intro b0 (And.intro b1 (And.intro b2 (And.intro b3 (And.intro b4 (And.intro b5 (And.intro b6 b7))))))) bY))
                        have pa : wr.cell? ⟨pw.heap.size, 6, none⟩ = some (.int .u64 (r6 : Int)) := BA.cell 6
                        have pf := BA.frozen 6
                        clear hval hnew b0 b1 b2 b3 b4 b5 b6 b7 hyl bY hc0
                        go_wp2
                        obtain ⟨hnew, ⟨b0, b1, b2, b3, b4, b5, b6, b7⟩, bY⟩ := HN.out
                        refine ⟨⟨(hb.setCell (by show w.heap.size ≤ pw.heap.size; omega) _), Bm.far (by show w.heap.size ≠ pw.heap.size; omega) _, Be.far (by show w.heap.size + 1 ≠ pw.heap.size; omega) _, Br.far (by show w.heap.size + 2 ≠ pw.heap.size; omega) _, Lib.hid (.inr (.inr (.inl (⟨rfl, r0, r1, r2, r3, r4, r5, y, r7, l, rfl, BA.set_ 6 _, ⟨b0, b1, b2, b3, b4, b5, bY, b7⟩, by omega, hnew⟩))))⟩, by decide⟩
                    · clear HI
                      obtain ⟨r0, r1, r2, r3, r4, r5, r6, r7, c, rfl, BA, ⟨b0, b1, b2, b3, b4, b5, b6, b7⟩, hc, hval⟩ := X
                      by_cases hc0 : c = 0
                      · subst hc0
                        go_wp2
                        refine ⟨⟨hb, Bm, Be, Br, Lib.hid (.inr (.inr (.inr (.inl (⟨rfl, r0, r1, r2, r3, r4, r5, r6, r7, BA, ⟨b0, b1, b2, b3, b4, b5, b6, b7⟩, by omega⟩)))))⟩, by decide⟩
                      · have pc : (c : Int) > 0 := by omega
                        obtain ⟨y, l, bY, bl, hyl, rb⟩ := add0_ex r7 c b7 (by omega)
                        have hnew : val8 r0 r1 r2 r3 r4 r5 r6 y + 13407807929942597099574024998205846127479365820592393377723561443721764030073546976801874298166903427690031858186486050853753882811946569946433649006084096 * l = e0 + 18446744073709551616 * e1 + 340282366920938463463374607431768211456 * e2 + 6277101735386680763835789423207666416102355444464034512896 * e3 + 4294968273 * e4 + 79228180536733297607775879168 * e5 + 1461501969786775399960563636433274480493475135488 * e6 := by
                          simp only [val8] at hval ⊢
                          omega
                        have HN := Lib.hid (And.intro hnew (And.intro (And.intro b0 (And.intro b1 (And.intro b2 (And.intro b3 (And.intro b4 (And.intro b5 (And.intro b6 b7))))))) bY))
                        have pa : wr.cell? ⟨pw.heap.size, 7, none⟩ = some (.int .u64 (r7 : Int)) := BA.cell 7
                        have pf := BA.frozen 7
                        clear hval hnew b0 b1 b2 b3 b4 b5 b6 b7 hyl bY hc0
                        go_wp2
                        obtain ⟨hnew, ⟨b0, b1, b2, b3, b4, b5, b6, b7⟩, bY⟩ := HN.out
                        refine ⟨⟨(hb.setCell (by show w.heap.size ≤ pw.heap.size; omega) _), Bm.far (by show w.heap.size ≠ pw.heap.size; omega) _, Be.far (by show w.heap.size + 1 ≠ pw.heap.size; omega) _, Br.far (by show w.heap.size + 2 ≠ pw.heap.size; omega) _, Lib.hid (.inr (.inr (.inr (⟨rfl, r0, r1, r2, r3, r4, r5, r6, y, l, rfl, BA.set_ 7 _, ⟨b0, b1, b2, b3, b4, b5, b6, bY⟩, by omega, hnew⟩))))⟩, by decide⟩
                    · clear HI
                      obtain ⟨r0, r1, r2, r3, r4, r5, r6, r7, c, rfl, BA, ⟨b0, b1, b2, b3, b4, b5, b6, b7⟩, hc, hval⟩ := X
                      have hc0 : c = 0 := by
                        obtain ⟨⟨l0, l1, l2, l3, l4, l5, l6, l7⟩, _⟩ := HE.out
                        simp only [val8] at hval
                        omega
                      subst hc0
                      go_wp2
                      refine ⟨⟨hb, Bm, Be, Br, Lib.hid (.inr (.inr (.inr (.inl (⟨rfl, r0, r1, r2, r3, r4, r5, r6, r7, BA, ⟨b0, b1, b2, b3, b4, b5, b6, b7⟩, by omega⟩)))))⟩, by decide⟩
            · clear HI
              obtain ⟨r0, r1, r2, r3, r4, r5, r6, r7, BA, hbd, hval⟩ := X
              go_wp2
              go_loopw [8, 9] (fun cv j wr => Below w.heap.size w wr ∧ Blk wr w.heap.size 76 #[.int .u64 18446744069414583343, .int .u64 18446744073709551615, .int .u64 18446744073709551615, .int .u64 18446744073709551615, .int .u64 4294968273, .int .u64 0, .int .u64 0] ∧ Blk wr (w.heap.size + 1) 154 #[.int .u64 (e0 : Int), .int .u64 (e1 : Int), .int .u64 (e2 : Int), .int .u64 (e3 : Int), .int .u64 (e4 : Int), .int .u64 (e5 : Int), .int .u64 (e6 : Int), .int .u64 (e7 : Int)] ∧ Blk wr (w.heap.size + 2) 68 #[.int .u64 0, .int .u64 0, .int .u64 0, .int .u64 0] ∧ Hid ((j = .int .i64 0 ∧ ∃ r0 r1 r2 r3 r4 r5 r6 r7 c : Nat, cv = .int .u64 (c : Int) ∧ Blk wr pw.heap.size 154 #[.int .u64 (r0 : Int), .int .u64 (r1 : Int), .int .u64 (r2 : Int), .int .u64 (r3 : Int), .int .u64 (r4 : Int), .int .u64 (r5 : Int), .int .u64 (r6 : Int), .int .u64 (r7 : Int)] ∧ (r0 < 18446744073709551616 ∧ r1 < 18446744073709551616 ∧ r2 < 18446744073709551616 ∧ r3 < 18446744073709551616 ∧ r4 < 18446744073709551616 ∧ r5 < 18446744073709551616 ∧ r6 < 18446744073709551616 ∧ r7 < 18446744073709551616) ∧ c = 0 ∧ val8 r0 r1 r2 r3 r4 r5 r6 r7 + 6277101735386680763835789423207666416102355444464034512896 * c = e0 + 18446744073709551616 * e1 + 340282366920938463463374607431768211456 * e2 + 6277101735386680763835789423207666416102355444464034512896 * e3 + 4294968273 * e4 + 79228180536733297607775879168 * e5 + 1461501969786775399960563636433274480493475135488 * e6) ∨ (j = .int .i64 1 ∧ ∃ r0 r1 r2 r3 r4 r5 r6 r7 c : Nat, cv = .int .u64 (c : Int) ∧ Blk wr pw.heap.size 154 #[.int .u64 (r0 : Int), .int .u64 (r1 : Int), .int .u64 (r2 : Int), .int .u64 (r3 : Int), .int .u64 (r4 : Int), .int .u64 (r5 : Int), .int .u64 (r6 : Int), .int .u64 (r7 : Int)] ∧ (r0 < 18446744073709551616 ∧ r1 < 18446744073709551616 ∧ r2 < 18446744073709551616 ∧ r3 < 18446744073709551616 ∧ r4 < 18446744073709551616 ∧ r5 < 18446744073709551616 ∧ r6 < 18446744073709551616 ∧ r7 < 18446744073709551616) ∧ c ≤ 4294968275 ∧ val8 r0 r1 r2 r3 r4 r5 r6 r7 + 115792089237316195423570985008687907853269984665640564039457584007913129639936 * c = e0 + 18446744073709551616 * e1 + 340282366920938463463374607431768211456 * e2 + 6277101735386680763835789423207666416102355444464034512896 * e3 + 4294968273 * e4 + 79228180536733297607775879168 * e5 + 1461501969786775399960563636433274480493475135488 * e6 + 26959952799879035267454121354585897147527232954541841722465329348608 * e7) ∨ (j = .int .i64 2 ∧ ∃ r0 r1 r2 r3 r4 r5 r6 r7 c : Nat, cv = .int .u64 (c : Int) ∧ Blk wr pw.heap.size 154 #[.int .u64 (r0 : Int), .int .u64 (r1 : Int), .int .u64 (r2 : Int), .int .u64 (r3 : Int), .int .u64 (r4 : Int), .int .u64 (r5 : Int), .int .u64 (r6 : Int), .int .u64 (r7 : Int)] ∧ (r0 < 18446744073709551616 ∧ r1 < 18446744073709551616 ∧ r2 < 18446744073709551616 ∧ r3 < 18446744073709551616 ∧ r4 < 18446744073709551616 ∧ r5 < 18446744073709551616 ∧ r6 < 18446744073709551616 ∧ r7 < 18446744073709551616) ∧ c ≤ 4294968275 ∧ val8 r0 r1 r2 r3 r4 r5 r6 r7 + 2135987035920910082395021706169552114602704522356652769947041607822219725780640550022962086936576 * c = e0 + 18446744073709551616 * e1 + 340282366920938463463374607431768211456 * e2 + 6277101735386680763835789423207666416102355444464034512896 * e3 + 4294968273 * e4 + 79228180536733297607775879168 * e5 + 1461501969786775399960563636433274480493475135488 * e6 + 26959952799879035267454121354585897147527232954541841722465329348608 * e7) ∨ (j = .int .i64 3 ∧ ∃ r0 r1 r2 r3 r4 r5 r6 r7 c : Nat, cv = .int .u64 (c : Int) ∧ Blk wr pw.heap.size 154 #[.int .u64 (r0 : Int), .int .u64 (r1 : Int), .int .u64 (r2 : Int), .int .u64 (r3 : Int), .int .u64 (r4 : Int), .int .u64 (r5 : Int), .int .u64 (r6 : Int), .int .u64 (r7 : Int)] ∧ (r0 < 18446744073709551616 ∧ r1 < 18446744073709551616 ∧ r2 < 18446744073709551616 ∧ r3 < 18446744073709551616 ∧ r4 < 18446744073709551616 ∧ r5 < 18446744073709551616 ∧ r6 < 18446744073709551616 ∧ r7 < 18446744073709551616) ∧ c ≤ 4294968275 ∧ val8 r0 r1 r2 r3 r4 r5 r6 r7 + 39402006196394479212279040100143613805079739270465446667948293404245721771497210611414266254884915640806627990306816 * c = e0 + 18446744073709551616 * e1 + 340282366920938463463374607431768211456 * e2 + 6277101735386680763835789423207666416102355444464034512896 * e3 + 4294968273 * e4 + 79228180536733297607775879168 * e5 + 1461501969786775399960563636433274480493475135488 * e6 + 26959952799879035267454121354585897147527232954541841722465329348608 * e7))) (fun _ j _ => 3 - (intOf j).toNat)
              case atStart => exact ⟨hb, Bm, Be, Br, Lib.hid (.inl ⟨rfl, r0, r1, r2, r3, r4, r5, r6, r7, 0, rfl, BA, hbd, rfl, by omega⟩)⟩
              case round =>
                clear hb Bm Be Br BA hbd hval
                obtain ⟨hb, Bm, Be, Br, HI⟩ := hrel
                rcases HI.out with ⟨rfl, X⟩ | ⟨rfl, X⟩ | ⟨rfl, X⟩ | ⟨rfl, X⟩
                · clear HI
                  obtain ⟨r0, r1, r2, r3, r4, r5, r6, r7, c, rfl, BA, ⟨b0, b1, b2, b3, b4, b5, b6, b7⟩, hc, hval⟩ := X
                  obtain ⟨hi, lo, blo, bhi, hml⟩ : ∃ hi lo : Nat, lo < 18446744073709551616 ∧ hi ≤ 4294968273 ∧ lo + 18446744073709551616 * hi = e7 * 4294968273 := by
                    have := HE.out.1.2.2.2.2.2.2.2
                    exact ⟨e7 * 4294968273 / 18446744073709551616, e7 * 4294968273 % 18446744073709551616, by omega, by omega, by omega⟩
                  obtain ⟨x, k, bx, bk, hxk, ra⟩ := add0_ex lo r3 blo b3
                  obtain ⟨y, l, bY, bl, hyl, rb⟩ := add0_ex x c bx (by omega)
                  have cm := fun w => mul_any' w e7 4294968273 hi lo HE.out.1.2.2.2.2.2.2.2 (by omega) blo hml 4294968273 rfl
                  have hsum : hi + k + l ≤ 4294968275 := by omega
                  have hnew : val8 r0 r1 r2 y r4 r5 r6 r7 + 115792089237316195423570985008687907853269984665640564039457584007913129639936 * (hi + k + l) = e0 + 18446744073709551616 * e1 + 340282366920938463463374607431768211456 * e2 + 6277101735386680763835789423207666416102355444464034512896 * e3 + 4294968273 * e4 + 79228180536733297607775879168 * e5 + 1461501969786775399960563636433274480493475135488 * e6 + 26959952799879035267454121354585897147527232954541841722465329348608 * e7 := by
                    simp only [val8] at hval ⊢
                    omega
                  have HN := Lib.hid (And.intro hnew (And.intro (And.intro b0 (And.intro b1 (And.intro b2 (And.intro b3 (And.intro b4 (And.intro b5 (And.intro b6 b7))))))) bY))
                  have pe : wr.cell? ⟨w.heap.size + 1, 7, none⟩ = some (.int .u64 (e7 : Int)) := Be.cell 7
                  have pm : wr.cell? ⟨w.heap.size, 4, none⟩ = some (.int .u64 4294968273) := Bm.cell 4
                  have lE := Be.lt
                  have lM := Bm.lt
                  clear hval hnew b0 b1 b2 b3 b4 b5 b6 b7 hml hxk hyl blo bx bY hc
                  go_wp2
                  refine wp_region_G (fun _ => false) (by kernel_rfl) ?_
                  try simp only [Act.put]
                  refine wpAnyG_take 0 rfl (by kernel_rfl) (fun _ _ _ h => h) (YieldsG.pure (by rfl) (fun w9 _ => by go_simp; try with_reducible rfl)) ?_
                  try simp only [Act.put, List.setIfInBounds_toArray, List.set_cons_zero, List.set_cons_succ]
                  refine wpAnyG_take 1 rfl (by kernel_rfl) (fun _ _ _ h => h) (YieldsG.pure (v := .int .i64 7) (by rfl) (fun w9 h9 => by go_simp; first | done | rfl)) ?_
                  try simp only [Act.put, List.setIfInBounds_toArray, List.set_cons_zero, List.set_cons_succ]
                  refine wpAnyG_take 2 rfl (by kernel_rfl) (fun _ _ _ h => h) (YieldsG.pure (by rfl) (fun w9 _ => by go_simp; try with_reducible rfl)) ?_
                  try simp only [Act.put, List.setIfInBounds_toArray, List.set_cons_zero, List.set_cons_succ]
                  refine wpAnyG_take 3 rfl (by kernel_rfl) (fun _ _ _ h => h) (YieldsG.pure (v := .int .u64 (e7 : Int)) (by rfl) (fun w9 h9 => by have hz := (Below.cell (p := ⟨w.heap.size + 1, 7, none⟩) h9 lE).trans pe; go_simp; first | done | simp [hz])) ?_
                  try simp only [Act.put, List.setIfInBounds_toArray, List.set_cons_zero, List.set_cons_succ]
                  refine wpAnyG_take 4 rfl (by kernel_rfl) (fun _ _ _ h => h) (YieldsG.pure (by rfl) (fun w9 _ => by go_simp; try with_reducible rfl)) ?_
                  try simp only [Act.put, List.setIfInBounds_toArray, List.set_cons_zero, List.set_cons_succ]
                  refine wpAnyG_take 5 rfl (by kernel_rfl) (fun _ _ _ h => h) (YieldsG.pure (by rfl) (fun w9 _ => by go_simp; try with_reducible rfl)) ?_
                  try simp only [Act.put, List.setIfInBounds_toArray, List.set_cons_zero, List.set_cons_succ]
                  refine wpAnyG_take 6 rfl (by kernel_rfl) (fun _ _ _ h => h) (YieldsG.pure (by rfl) (fun w9 _ => by go_simp; try with_reducible rfl)) ?_
                  try simp only [Act.put, List.setIfInBounds_toArray, List.set_cons_zero, List.set_cons_succ]
                  refine wpAnyG_take 7 rfl (by kernel_rfl) (fun _ _ _ h => h) (YieldsG.pure (v := .int .u64 4294968273) (by rfl) (fun w9 h9 => by have hz := (Below.cell (p := ⟨w.heap.size, 4, none⟩) h9 lM).trans pm; go_simp; first | done | simp [hz])) ?_
                  try simp only [Act.put, List.setIfInBounds_toArray, List.set_cons_zero, List.set_cons_succ]
                  refine wpAnyG_take 8 rfl (by kernel_rfl) (fun _ _ _ h => h) (YieldsG.call (v := .tuple #[.int .u64 (hi : Int), .int .u64 (lo : Int)]) (by rfl) 51 _ (fun w9 => by go_simp; try (first | with_reducible rfl | rfl)) (fun w9 h9 => cm w9)) ?_
                  try simp only [Act.put, List.setIfInBounds_toArray, List.set_cons_zero, List.set_cons_succ]
                  refine wpAnyG_take 9 rfl (by kernel_rfl) (fun _ _ _ h => h) (YieldsG.pure (by rfl) (fun w9 _ => by go_simp; try with_reducible rfl)) ?_
                  try simp only [Act.put, List.setIfInBounds_toArray, List.set_cons_zero, List.set_cons_succ]
                  refine wpAnyG_take 10 rfl (by kernel_rfl) (fun _ _ _ h => h) (YieldsG.pure (by rfl) (fun w9 _ => by go_simp; try with_reducible rfl)) ?_
                  try simp only [Act.put, List.setIfInBounds_toArray, List.set_cons_zero, List.set_cons_succ]
                  refine wpAnyG_take 11 rfl (by kernel_rfl) (fun _ _ _ h => h) (YieldsG.pure (by rfl) (fun w9 _ => by go_simp; try with_reducible rfl)) ?_
                  try simp only [Act.put, List.setIfInBounds_toArray, List.set_cons_zero, List.set_cons_succ]
                  refine wpAnyG_take 12 rfl (by kernel_rfl) (fun _ _ _ h => h) (YieldsG.pure (by rfl) (fun w9 _ => by go_simp; try with_reducible rfl)) ?_
                  try simp only [Act.put, List.setIfInBounds_toArray, List.set_cons_zero, List.set_cons_succ]
                  refine wpAnyG_take 13 rfl (by kernel_rfl) (fun _ _ _ h => h) (YieldsG.pure (by rfl) (fun w9 _ => by go_simp; try with_reducible rfl)) ?_
                  try simp only [Act.put, List.setIfInBounds_toArray, List.set_cons_zero, List.set_cons_succ]
                  refine wpAnyG_done (by kernel_rfl) (fun u hu => ?_)
                  have Bm := Gr.blk hu Bm
                  have Be := Gr.blk hu Be
                  have Br := Gr.blk hu Br
                  have BA := Gr.blk hu BA
                  have hb := Below.gr hb hu
                  have pa : u.cell? ⟨pw.heap.size, 3, none⟩ = some (.int .u64 (r3 : Int)) := BA.cell 3
                  have pf := BA.frozen 3
                  clear hu cm pe pm
                  go_wp2
                  obtain ⟨hnew, ⟨b0, b1, b2, b3, b4, b5, b6, b7⟩, bY⟩ := HN.out
                  refine ⟨⟨(hb.setCell (by show w.heap.size ≤ pw.heap.size; omega) _), Bm.far (by show w.heap.size ≠ pw.heap.size; omega) _, Be.far (by show w.heap.size + 1 ≠ pw.heap.size; omega) _, Br.far (by show w.heap.size + 2 ≠ pw.heap.size; omega) _, Lib.hid (.inr (.inl (⟨rfl, r0, r1, r2, y, r4, r5, r6, r7, hi + k + l, by congr 1, BA.set_ 3 _, ⟨b0, b1, b2, bY, b4, b5, b6, b7⟩, by omega, hnew⟩)))⟩, by decide⟩
                · clear HI
                  obtain ⟨r0, r1, r2, r3, r4, r5, r6, r7, c, rfl, BA, ⟨b0, b1, b2, b3, b4, b5, b6, b7⟩, hc, hval⟩ := X
                  obtain ⟨hi, lo, blo, bhi, hml⟩ : ∃ hi lo : Nat, lo < 18446744073709551616 ∧ hi ≤ 0 ∧ lo + 18446744073709551616 * hi = e7 * 0 := ⟨0, 0, by omega, by omega, by omega⟩
                  obtain ⟨x, k, bx, bk, hxk, ra⟩ := add0_ex lo r4 blo b4
                  obtain ⟨y, l, bY, bl, hyl, rb⟩ := add0_ex x c bx (by omega)
                  have cm := fun w => mul_any' w e7 0 hi lo HE.out.1.2.2.2.2.2.2.2 (by omega) blo hml 0 rfl
                  have hsum : hi + k + l ≤ 4294968275 := by omega
                  have hnew : val8 r0 r1 r2 r3 y r5 r6 r7 + 2135987035920910082395021706169552114602704522356652769947041607822219725780640550022962086936576 * (hi + k + l) = e0 + 18446744073709551616 * e1 + 340282366920938463463374607431768211456 * e2 + 6277101735386680763835789423207666416102355444464034512896 * e3 + 4294968273 * e4 + 79228180536733297607775879168 * e5 + 1461501969786775399960563636433274480493475135488 * e6 + 26959952799879035267454121354585897147527232954541841722465329348608 * e7 := by
                    simp only [val8] at hval ⊢
                    omega
                  have HN := Lib.hid (And.intro hnew (And.intro (And.intro b0 (And.intro b1 (And.intro b2 (And.intro b3 (And.intro b4 (And.intro b5 (And.intro b6 b7))))))) bY))
                  have pe : wr.cell? ⟨w.heap.size + 1, 7, none⟩ = some (.int .u64 (e7 : Int)) := Be.cell 7
                  have pm : wr.cell? ⟨w.heap.size, 5, none⟩ = some (.int .u64 0) := Bm.cell 5
                  have lE := Be.lt
                  have lM := Bm.lt
                  clear hval hnew b0 b1 b2 b3 b4 b5 b6 b7 hml hxk hyl blo bx bY hc
                  go_wp2
                  refine wp_region_G (fun _ => false) (by kernel_rfl) ?_
                  try simp only [Act.put]
                  refine wpAnyG_take 0 rfl (by kernel_rfl) (fun _ _ _ h => h) (YieldsG.pure (by rfl) (fun w9 _ => by go_simp; try with_reducible rfl)) ?_
                  try simp only [Act.put, List.setIfInBounds_toArray, List.set_cons_zero, List.set_cons_succ]
                  refine wpAnyG_take 1 rfl (by kernel_rfl) (fun _ _ _ h => h) (YieldsG.pure (v := .int .i64 7) (by rfl) (fun w9 h9 => by go_simp; first | done | rfl)) ?_
                  try simp only [Act.put, List.setIfInBounds_toArray, List.set_cons_zero, List.set_cons_succ]
                  refine wpAnyG_take 2 rfl (by kernel_rfl) (fun _ _ _ h => h) (YieldsG.pure (by rfl) (fun w9 _ => by go_simp; try with_reducible rfl)) ?_
                  try simp only [Act.put, List.setIfInBounds_toArray, List.set_cons_zero, List.set_cons_succ]
                  refine wpAnyG_take 3 rfl (by kernel_rfl) (fun _ _ _ h => h) (YieldsG.pure (v := .int .u64 (e7 : Int)) (by rfl) (fun w9 h9 => by have hz := (Below.cell (p := ⟨w.heap.size + 1, 7, none⟩) h9 lE).trans pe; go_simp; first | done | simp [hz])) ?_
                  try simp only [Act.put, List.setIfInBounds_toArray, List.set_cons_zero, List.set_cons_succ]
                  refine wpAnyG_take 4 rfl (by kernel_rfl) (fun _ _ _ h => h) (YieldsG.pure (by rfl) (fun w9 _ => by go_simp; try with_reducible rfl)) ?_
                  try simp only [Act.put, List.setIfInBounds_toArray, List.set_cons_zero, List.set_cons_succ]
                  refine wpAnyG_take 5 rfl (by kernel_rfl) (fun _ _ _ h => h) (YieldsG.pure (by rfl) (fun w9 _ => by go_simp; try with_reducible rfl)) ?_
                  try simp only [Act.put, List.setIfInBounds_toArray, List.set_cons_zero, List.set_cons_succ]
                  refine wpAnyG_take 6 rfl (by kernel_rfl) (fun _ _ _ h => h) (YieldsG.pure (by rfl) (fun w9 _ => by go_simp; try with_reducible rfl)) ?_
                  try simp only [Act.put, List.setIfInBounds_toArray, List.set_cons_zero, List.set_cons_succ]
                  refine wpAnyG_take 7 rfl (by kernel_rfl) (fun _ _ _ h => h) (YieldsG.pure (v := .int .u64 0) (by rfl) (fun w9 h9 => by have hz := (Below.cell (p := ⟨w.heap.size, 5, none⟩) h9 lM).trans pm; go_simp; first | done | simp [hz])) ?_
                  try simp only [Act.put, List.setIfInBounds_toArray, List.set_cons_zero, List.set_cons_succ]
                  refine wpAnyG_take 8 rfl (by kernel_rfl) (fun _ _ _ h => h) (YieldsG.call (v := .tuple #[.int .u64 (hi : Int), .int .u64 (lo : Int)]) (by rfl) 51 _ (fun w9 => by go_simp; try (first | with_reducible rfl | rfl)) (fun w9 h9 => cm w9)) ?_
                  try simp only [Act.put, List.setIfInBounds_toArray, List.set_cons_zero, List.set_cons_succ]
                  refine wpAnyG_take 9 rfl (by kernel_rfl) (fun _ _ _ h => h) (YieldsG.pure (by rfl) (fun w9 _ => by go_simp; try with_reducible rfl)) ?_
                  try simp only [Act.put, List.setIfInBounds_toArray, List.set_cons_zero, List.set_cons_succ]
                  refine wpAnyG_take 10 rfl (by kernel_rfl) (fun _ _ _ h => h) (YieldsG.pure (by rfl) (fun w9 _ => by go_simp; try with_reducible rfl)) ?_
                  try simp only [Act.put, List.setIfInBounds_toArray, List.set_cons_zero, List.set_cons_succ]
                  refine wpAnyG_take 11 rfl (by kernel_rfl) (fun _ _ _ h => h) (YieldsG.pure (by rfl) (fun w9 _ => by go_simp; try with_reducible rfl)) ?_
                  try simp only [Act.put, List.setIfInBounds_toArray, List.set_cons_zero, List.set_cons_succ]
                  refine wpAnyG_take 12 rfl (by kernel_rfl) (fun _ _ _ h => h) (YieldsG.pure (by rfl) (fun w9 _ => by go_simp; try with_reducible rfl)) ?_
                  try simp only [Act.put, List.setIfInBounds_toArray, List.set_cons_zero, List.set_cons_succ]
                  refine wpAnyG_take 13 rfl (by kernel_rfl) (fun _ _ _ h => h) (YieldsG.pure (by rfl) (fun w9 _ => by go_simp; try with_reducible rfl)) ?_
                  try simp only [Act.put, List.setIfInBounds_toArray, List.set_cons_zero, List.set_cons_succ]
                  refine wpAnyG_done (by kernel_rfl) (fun u hu => ?_)
                  have Bm := Gr.blk hu Bm
                  have Be := Gr.blk hu Be
                  have Br := Gr.blk hu Br
                  have BA := Gr.blk hu BA
                  have hb := Below.gr hb hu
                  have pa : u.cell? ⟨pw.heap.size, 4, none⟩ = some (.int .u64 (r4 : Int)) := BA.cell 4
                  have pf := BA.frozen 4
                  clear hu cm pe pm
                  go_wp2
                  obtain ⟨hnew, ⟨b0, b1, b2, b3, b4, b5, b6, b7⟩, bY⟩ := HN.out
                  refine ⟨⟨(hb.setCell (by show w.heap.size ≤ pw.heap.size; omega) _), Bm.far (by show w.heap.size ≠ pw.heap.size; omega) _, Be.far (by show w.heap.size + 1 ≠ pw.heap.size; omega) _, Br.far (by show w.heap.size + 2 ≠ pw.heap.size; omega) _, Lib.hid (.inr (.inr (.inl (⟨rfl, r0, r1, r2, r3, y, r5, r6, r7, hi + k + l, by congr 1, BA.set_ 4 _, ⟨b0, b1, b2, b3, bY, b5, b6, b7⟩, by omega, hnew⟩))))⟩, by decide⟩
                · clear HI
                  obtain ⟨r0, r1, r2, r3, r4, r5, r6, r7, c, rfl, BA, ⟨b0, b1, b2, b3, b4, b5, b6, b7⟩, hc, hval⟩ := X
                  obtain ⟨hi, lo, blo, bhi, hml⟩ : ∃ hi lo : Nat, lo < 18446744073709551616 ∧ hi ≤ 0 ∧ lo + 18446744073709551616 * hi = e7 * 0 := ⟨0, 0, by omega, by omega, by omega⟩
                  obtain ⟨x, k, bx, bk, hxk, ra⟩ := add0_ex lo r5 blo b5
                  obtain ⟨y, l, bY, bl, hyl, rb⟩ := add0_ex x c bx (by omega)
                  have cm := fun w => mul_any' w e7 0 hi lo HE.out.1.2.2.2.2.2.2.2 (by omega) blo hml 0 rfl
                  have hsum : hi + k + l ≤ 4294968275 := by omega
                  have hnew : val8 r0 r1 r2 r3 r4 y r6 r7 + 39402006196394479212279040100143613805079739270465446667948293404245721771497210611414266254884915640806627990306816 * (hi + k + l) = e0 + 18446744073709551616 * e1 + 340282366920938463463374607431768211456 * e2 + 6277101735386680763835789423207666416102355444464034512896 * e3 + 4294968273 * e4 + 79228180536733297607775879168 * e5 + 1461501969786775399960563636433274480493475135488 * e6 + 26959952799879035267454121354585897147527232954541841722465329348608 * e7 := by
                    simp only [val8] at hval ⊢
                    omega
                  have HN := Lib.hid (And.intro hnew (And.intro (And.intro b0 (And.intro b1 (And.intro b2 (And.intro b3 (And.intro b4 (And.intro b5 (And.intro b6 b7))))))) bY))
                  have pe : wr.cell? ⟨w.heap.size + 1, 7, none⟩ = some (.int .u64 (e7 : Int)) := Be.cell 7
                  have pm : wr.cell? ⟨w.heap.size, 6, none⟩ = some (.int .u64 0) := Bm.cell 6
                  have lE := Be.lt
                  have lM := Bm.lt
                  clear hval hnew b0 b1 b2 b3 b4 b5 b6 b7 hml hxk hyl blo bx bY hc
                  go_wp2
                  refine wp_region_G (fun _ => false) (by kernel_rfl) ?_
                  try simp only [Act.put]
                  refine wpAnyG_take 0 rfl (by kernel_rfl) (fun _ _ _ h => h) (YieldsG.pure (by rfl) (fun w9 _ => by go_simp; try with_reducible rfl)) ?_
                  try simp only [Act.put, List.setIfInBounds_toArray, List.set_cons_zero, List.set_cons_succ]
                  refine wpAnyG_take 1 rfl (by kernel_rfl) (fun _ _ _ h => h) (YieldsG.pure (v := .int .i64 7) (by rfl) (fun w9 h9 => by go_simp; first | done | rfl)) ?_
                  try simp only [Act.put, List.setIfInBounds_toArray, List.set_cons_zero, List.set_cons_succ]
                  refine wpAnyG_take 2 rfl (by kernel_rfl) (fun _ _ _ h => h) (YieldsG.pure (by rfl) (fun w9 _ => by go_simp; try with_reducible rfl)) ?_
                  try simp only [Act.put, List.setIfInBounds_toArray, List.set_cons_zero, List.set_cons_succ]
                  refine wpAnyG_take 3 rfl (by kernel_rfl) (fun _ _ _ h => h) (YieldsG.pure (v := .int .u64 (e7 : Int)) (by rfl) (fun w9 h9 => by have hz := (Below.cell (p := ⟨w.heap.size + 1, 7, none⟩) h9 lE).trans pe; go_simp; first | done | simp [hz])) ?_
                  try simp only [Act.put, List.setIfInBounds_toArray, List.set_cons_zero, List.set_cons_succ]
                  refine wpAnyG_take 4 rfl (by kernel_rfl) (fun _ _ _ h => h) (YieldsG.pure (by rfl) (fun w9 _ => by go_simp; try with_reducible rfl)) ?_
                  try simp only [Act.put, List.setIfInBounds_toArray, List.set_cons_zero, List.set_cons_succ]
                  refine wpAnyG_take 5 rfl (by kernel_rfl) (fun _ _ _ h => h) (YieldsG.pure (by rfl) (fun w9 _ => by go_simp; try with_reducible rfl)) ?_
                  try simp only [Act.put, List.setIfInBounds_toArray, List.set_cons_zero, List.set_cons_succ]
                  refine wpAnyG_take 6 rfl (by kernel_rfl) (fun _ _ _ h => h) (YieldsG.pure (by rfl) (fun w9 _ => by go_simp; try with_reducible rfl)) ?_
                  try simp only [Act.put, List.setIfInBounds_toArray, List.set_cons_zero, List.set_cons_succ]
                  refine wpAnyG_take 7 rfl (by kernel_rfl) (fun _ _ _ h => h) (YieldsG.pure (v := .int .u64 0) (by rfl) (fun w9 h9 => by have hz := (Below.cell (p := ⟨w.heap.size, 6, none⟩) h9 lM).trans pm; go_simp; first | done | simp [hz])) ?_
                  try simp only [Act.put, List.setIfInBounds_toArray, List.set_cons_zero, List.set_cons_succ]
                  refine wpAnyG_take 8 rfl (by kernel_rfl) (fun _ _ _ h => h) (YieldsG.call (v := .tuple #[.int .u64 (hi : Int), .int .u64 (lo : Int)]) (by rfl) 51 _ (fun w9 => by go_simp; try (first | with_reducible rfl | rfl)) (fun w9 h9 => cm w9)) ?_
                  try simp only [Act.put, List.setIfInBounds_toArray, List.set_cons_zero, List.set_cons_succ]
                  refine wpAnyG_take 9 rfl (by kernel_rfl) (fun _ _ _ h => h) (YieldsG.pure (by rfl) (fun w9 _ => by go_simp; try with_reducible rfl)) ?_
                  try simp only [Act.put, List.setIfInBounds_toArray, List.set_cons_zero, List.set_cons_succ]
                  refine wpAnyG_take 10 rfl (by kernel_rfl) (fun _ _ _ h => h) (YieldsG.pure (by rfl) (fun w9 _ => by go_simp; try with_reducible rfl)) ?_
                  try simp only [Act.put, List.setIfInBounds_toArray, List.set_cons_zero, List.set_cons_succ]
                  refine wpAnyG_take 11 rfl (by kernel_rfl) (fun _ _ _ h => h) (YieldsG.pure (by rfl) (fun w9 _ => by go_simp; try with_reducible rfl)) ?_
                  try simp only [Act.put, List.setIfInBounds_toArray, List.set_cons_zero, List.set_cons_succ]
                  refine wpAnyG_take 12 rfl (by kernel_rfl) (fun _ _ _ h => h) (YieldsG.pure (by rfl) (fun w9 _ => by go_simp; try with_reducible rfl)) ?_
                  try simp only [Act.put, List.setIfInBounds_toArray, List.set_cons_zero, List.set_cons_succ]
                  refine wpAnyG_take 13 rfl (by kernel_rfl) (fun _ _ _ h => h) (YieldsG.pure (by rfl) (fun w9 _ => by go_simp; try with_reducible rfl)) ?_
                  try simp only [Act.put, List.setIfInBounds_toArray, List.set_cons_zero, List.set_cons_succ]
                  refine wpAnyG_done (by kernel_rfl) (fun u hu => ?_)
                  have Bm := Gr.blk hu Bm
                  have Be := Gr.blk hu Be
                  have Br := Gr.blk hu Br
                  have BA := Gr.blk hu BA
                  have hb := Below.gr hb hu
                  have pa : u.cell? ⟨pw.heap.size, 5, none⟩ = some (.int .u64 (r5 : Int)) := BA.cell 5
                  have pf := BA.frozen 5
                  clear hu cm pe pm
                  go_wp2
                  obtain ⟨hnew, ⟨b0, b1, b2, b3, b4, b5, b6, b7⟩, bY⟩ := HN.out
                  refine ⟨⟨(hb.setCell (by show w.heap.size ≤ pw.heap.size; omega) _), Bm.far (by show w.heap.size ≠ pw.heap.size; omega) _, Be.far (by show w.heap.size + 1 ≠ pw.heap.size; omega) _, Br.far (by show w.heap.size + 2 ≠ pw.heap.size; omega) _, Lib.hid (.inr (.inr (.inr (⟨rfl, r0, r1, r2, r3, r4, y, r6, r7, hi + k + l, by congr 1, BA.set_ 5 _, ⟨b0, b1, b2, b3, b4, bY, b6, b7⟩, by omega, hnew⟩))))⟩, by decide⟩
                · clear HI
                  obtain ⟨r0, r1, r2, r3, r4, r5, r6, r7, c, rfl, BA, ⟨b0, b1, b2, b3, b4, b5, b6, b7⟩, hc, hval⟩ := X
                  go_wp2
                  go_loopw [8, 16] (fun cv kv wr => Below w.heap.size w wr ∧ Blk wr w.heap.size 76 #[.int .u64 18446744069414583343, .int .u64 18446744073709551615, .int .u64 18446744073709551615, .int .u64 18446744073709551615, .int .u64 4294968273, .int .u64 0, .int .u64 0] ∧ Blk wr (w.heap.size + 1) 154 #[.int .u64 (e0 : Int), .int .u64 (e1 : Int), .int .u64 (e2 : Int), .int .u64 (e3 : Int), .int .u64 (e4 : Int), .int .u64 (e5 : Int), .int .u64 (e6 : Int), .int .u64 (e7 : Int)] ∧ Blk wr (w.heap.size + 2) 68 #[.int .u64 0, .int .u64 0, .int .u64 0, .int .u64 0] ∧ Hid ((kv = .int .i64 6 ∧ ∃ r0 r1 r2 r3 r4 r5 r6 r7 c : Nat, cv = .int .u64 (c : Int) ∧ Blk wr pw.heap.size 154 #[.int .u64 (r0 : Int), .int .u64 (r1 : Int), .int .u64 (r2 : Int), .int .u64 (r3 : Int), .int .u64 (r4 : Int), .int .u64 (r5 : Int), .int .u64 (r6 : Int), .int .u64 (r7 : Int)] ∧ (r0 < 18446744073709551616 ∧ r1 < 18446744073709551616 ∧ r2 < 18446744073709551616 ∧ r3 < 18446744073709551616 ∧ r4 < 18446744073709551616 ∧ r5 < 18446744073709551616 ∧ r6 < 18446744073709551616 ∧ r7 < 18446744073709551616) ∧ c ≤ 4294968275 ∧ val8 r0 r1 r2 r3 r4 r5 r6 r7 + 39402006196394479212279040100143613805079739270465446667948293404245721771497210611414266254884915640806627990306816 * c = e0 + 18446744073709551616 * e1 + 340282366920938463463374607431768211456 * e2 + 6277101735386680763835789423207666416102355444464034512896 * e3 + 4294968273 * e4 + 79228180536733297607775879168 * e5 + 1461501969786775399960563636433274480493475135488 * e6 + 26959952799879035267454121354585897147527232954541841722465329348608 * e7) ∨ (kv = .int .i64 7 ∧ ∃ r0 r1 r2 r3 r4 r5 r6 r7 c : Nat, cv = .int .u64 (c : Int) ∧ Blk wr pw.heap.size 154 #[.int .u64 (r0 : Int), .int .u64 (r1 : Int), .int .u64 (r2 : Int), .int .u64 (r3 : Int), .int .u64 (r4 : Int), .int .u64 (r5 : Int), .int .u64 (r6 : Int), .int .u64 (r7 : Int)] ∧ (r0 < 18446744073709551616 ∧ r1 < 18446744073709551616 ∧ r2 < 18446744073709551616 ∧ r3 < 18446744073709551616 ∧ r4 < 18446744073709551616 ∧ r5 < 18446744073709551616 ∧ r6 < 18446744073709551616 ∧ r7 < 18446744073709551616) ∧ c ≤ 4294968275 ∧ val8 r0 r1 r2 r3 r4 r5 r6 r7 + 726838724295606890549323807888004534353641360687318060281490199180639288113397923326191050713763565560762521606266177933534601628614656 * c = e0 + 18446744073709551616 * e1 + 340282366920938463463374607431768211456 * e2 + 6277101735386680763835789423207666416102355444464034512896 * e3 + 4294968273 * e4 + 79228180536733297607775879168 * e5 + 1461501969786775399960563636433274480493475135488 * e6 + 26959952799879035267454121354585897147527232954541841722465329348608 * e7) ∨ (kv = .int .i64 8 ∧ ∃ r0 r1 r2 r3 r4 r5 r6 r7 c : Nat, cv = .int .u64 (c : Int) ∧ Blk wr pw.heap.size 154 #[.int .u64 (r0 : Int), .int .u64 (r1 : Int), .int .u64 (r2 : Int), .int .u64 (r3 : Int), .int .u64 (r4 : Int), .int .u64 (r5 : Int), .int .u64 (r6 : Int), .int .u64 (r7 : Int)] ∧ (r0 < 18446744073709551616 ∧ r1 < 18446744073709551616 ∧ r2 < 18446744073709551616 ∧ r3 < 18446744073709551616 ∧ r4 < 18446744073709551616 ∧ r5 < 18446744073709551616 ∧ r6 < 18446744073709551616 ∧ r7 < 18446744073709551616) ∧ c ≤ 4294968275 ∧ val8 r0 r1 r2 r3 r4 r5 r6 r7 + 13407807929942597099574024998205846127479365820592393377723561443721764030073546976801874298166903427690031858186486050853753882811946569946433649006084096 * c = e0 + 18446744073709551616 * e1 + 340282366920938463463374607431768211456 * e2 + 6277101735386680763835789423207666416102355444464034512896 * e3 + 4294968273 * e4 + 79228180536733297607775879168 * e5 + 1461501969786775399960563636433274480493475135488 * e6 + 26959952799879035267454121354585897147527232954541841722465329348608 * e7))) (fun _ kv _ => 8 - (intOf kv).toNat)
                  case atStart => exact ⟨hb, Bm, Be, Br, Lib.hid (.inl ⟨rfl, r0, r1, r2, r3, r4, r5, r6, r7, c, rfl, BA, ⟨b0, b1, b2, b3, b4, b5, b6, b7⟩, hc, hval⟩)⟩
                  case round =>
                    clear hb Bm Be Br BA b0 b1 b2 b3 b4 b5 b6 b7 hc hval
                    obtain ⟨hb, Bm, Be, Br, HI⟩ := hrel
                    rcases HI.out with ⟨rfl, X⟩ | ⟨rfl, X⟩ | ⟨rfl, X⟩
                    · clear HI
                      obtain ⟨r0, r1, r2, r3, r4, r5, r6, r7, c, rfl, BA, ⟨b0, b1, b2, b3, b4, b5, b6, b7⟩, hc, hval⟩ := X
                      by_cases hc0 : c = 0
                      · subst hc0
                        go_wp2
                        refine ⟨⟨hb, Bm, Be, Br, Lib.hid (.inr (.inr (.inr (.inr (⟨rfl, r0, r1, r2, r3, r4, r5, r6, r7, BA, ⟨b0, b1, b2, b3, b4, b5, b6, b7⟩, by omega⟩)))))⟩, by decide⟩
                      · have pc : (c : Int) > 0 := by omega
                        obtain ⟨y, l, bY, bl, hyl, rb⟩ := add0_ex r6 c b6 (by omega)
                        have hnew : val8 r0 r1 r2 r3 r4 r5 y r7 + 726838724295606890549323807888004534353641360687318060281490199180639288113397923326191050713763565560762521606266177933534601628614656 * l = e0 + 18446744073709551616 * e1 + 340282366920938463463374607431768211456 * e2 + 6277101735386680763835789423207666416102355444464034512896 * e3 + 4294968273 * e4 + 79228180536733297607775879168 * e5 + 1461501969786775399960563636433274480493475135488 * e6 + 26959952799879035267454121354585897147527232954541841722465329348608 * e7 := by
                          simp only [val8] at hval ⊢
                          omega
                        have HN := Lib.hid (And.intro hnew (And.intro (And.intro b0 (And.intro b1 (And.intro b2 (And.intro b3 (And.intro b4 (And.intro b5 (And.intro b6 b7))))))) bY))
                        have pa : wr.cell? ⟨pw.heap.size, 6, none⟩ = some (.int .u64 (r6 : Int)) := BA.cell 6
                        have pf := BA.frozen 6
                        clear hval hnew b0 b1 b2 b3 b4 b5 b6 b7 hyl bY hc0
                        go_wp2
                        obtain ⟨hnew, ⟨b0, b1, b2, b3, b4, b5, b6, b7⟩, bY⟩ := HN.out
                        refine ⟨⟨(hb.setCell (by show w.heap.size ≤ pw.heap.size; omega) _), Bm.far (by show w.heap.size ≠ pw.heap.size; omega) _, Be.far (by show w.heap.size + 1 ≠ pw.heap.size; omega) _, Br.far (by show w.heap.size + 2 ≠ pw.heap.size; omega) _, Lib.hid (.inr (.inl (⟨rfl, r0, r1, r2, r3, r4, r5, y, r7, l, rfl, BA.set_ 6 _, ⟨b0, b1, b2, b3, b4, b5, bY, b7⟩, by omega, hnew⟩)))⟩, by decide⟩
                    · clear HI
                      obtain ⟨r0, r1, r2, r3, r4, r5, r6, r7, c, rfl, BA, ⟨b0, b1, b2, b3, b4, b5, b6, b7⟩, hc, hval⟩ := X
                      by_cases hc0 : c = 0
                      · subst hc0
                        go_wp2
                        refine ⟨⟨hb, Bm, Be, Br, Lib.hid (.inr (.inr (.inr (.inr (⟨rfl, r0, r1, r2, r3, r4, r5, r6, r7, BA, ⟨b0, b1, b2, b3, b4, b5, b6, b7⟩, by omega⟩)))))⟩, by decide⟩
                      · have pc : (c : Int) > 0 := by omega
                        obtain ⟨y, l, bY, bl, hyl, rb⟩ := add0_ex r7 c b7 (by omega)
                        have hnew : val8 r0 r1 r2 r3 r4 r5 r6 y + 13407807929942597099574024998205846127479365820592393377723561443721764030073546976801874298166903427690031858186486050853753882811946569946433649006084096 * l = e0 + 18446744073709551616 * e1 + 340282366920938463463374607431768211456 * e2 + 6277101735386680763835789423207666416102355444464034512896 * e3 + 4294968273 * e4 + 79228180536733297607775879168 * e5 + 1461501969786775399960563636433274480493475135488 * e6 + 26959952799879035267454121354585897147527232954541841722465329348608 * e7 := by
                          simp only [val8] at hval ⊢
                          omega
                        have HN := Lib.hid (And.intro hnew (And.intro (And.intro b0 (And.intro b1 (And.intro b2 (And.intro b3 (And.intro b4 (And.intro b5 (And.intro b6 b7))))))) bY))
                        have pa : wr.cell? ⟨pw.heap.size, 7, none⟩ = some (.int .u64 (r7 : Int)) := BA.cell 7
                        have pf := BA.frozen 7
                        clear hval hnew b0 b1 b2 b3 b4 b5 b6 b7 hyl bY hc0
                        go_wp2
                        obtain ⟨hnew, ⟨b0, b1, b2, b3, b4, b5, b6, b7⟩, bY⟩ := HN.out
                        refine ⟨⟨(hb.setCell (by show w.heap.size ≤ pw.heap.size; omega) _), Bm.far (by show w.heap.size ≠ pw.heap.size; omega) _, Be.far (by show w.heap.size + 1 ≠ pw.heap.size; omega) _, Br.far (by show w.heap.size + 2 ≠ pw.heap.size; omega) _, Lib.hid (.inr (.inr (⟨rfl, r0, r1, r2, r3, r4, r5, r6, y, l, rfl, BA.set_ 7 _, ⟨b0, b1, b2, b3, b4, b5, b6, bY⟩, by omega, hnew⟩)))⟩, by decide⟩
                    · clear HI
                      obtain ⟨r0, r1, r2, r3, r4, r5, r6, r7, c, rfl, BA, ⟨b0, b1, b2, b3, b4, b5, b6, b7⟩, hc, hval⟩ := X
                      have hc0 : c = 0 := by
                        obtain ⟨⟨l0, l1, l2, l3, l4, l5, l6, l7⟩, _⟩ := HE.out
                        simp only [val8] at hval
                        omega
                      subst hc0
                      go_wp2
                      refine ⟨⟨hb, Bm, Be, Br, Lib.hid (.inr (.inr (.inr (.inr (⟨rfl, r0, r1, r2, r3, r4, r5, r6, r7, BA, ⟨b0, b1, b2, b3, b4, b5, b6, b7⟩, by omega⟩)))))⟩, by decide⟩
            · clear HI
              obtain ⟨r0, r1, r2, r3, r4, r5, r6, r7, BA, hbd, hval⟩ := X
              have HV := Lib.hid hval
              have HBD := Lib.hid hbd
              have BAh := Lib.hid BA
              clear hval hbd BA
              go_wp2_with (first | ((with_reducible refine here_load (d := some 108) ?_); refine wpList_load_blk rfl _ _ rfl pw.heap.size rfl _ _ _ BAh.out Tryd.underlying154 rfl (by kernel_rfl) ?_) | ((with_reducible refine here_store ?_); refine wpList_store_blk rfl _ _ _ rfl (w.heap.size + 1) #[.int .u64 (r0 : Int), .int .u64 (r1 : Int), .int .u64 (r2 : Int), .int .u64 (r3 : Int), .int .u64 (r4 : Int), .int .u64 (r5 : Int), .int .u64 (r6 : Int), .int .u64 (r7 : Int)] rfl rfl _ _ Be (by kernel_rfl) (by rfl) (by simp [Value.oneCell']) ?_; intro w9 hL9 hB9 hK9))
              have hlt8 : val8 r0 r1 r2 r3 r4 r5 r6 r7 < val8 e0 e1 e2 e3 e4 e5 e6 e7 := by
                have h1 := HV.out
                have h2 := HP.out
                have h3 := HZ.out
                rw [h1]
                simp only [val8]
                have : ¬ (e4 = 0 ∧ e5 = 0 ∧ e6 = 0 ∧ e7 = 0) := fun h => h2 (h3.2 h)
                omega
              have hmod : val8 e0 e1 e2 e3 e4 e5 e6 e7 % pM = val8 r0 r1 r2 r3 r4 r5 r6 r7 % pM := by
                refine (mod_of_mult (k := e4 + 18446744073709551616 * e5 + 340282366920938463463374607431768211456 * e6 + 6277101735386680763835789423207666416102355444464034512896 * e7) ?_).symm
                rw [HV.out]
                simp only [val8]
                omega
              go_roundw
              case rel =>
                have HRL := Lib.hid (show ∃ e0 e1 e2 e3 e4 e5 e6 e7 : Nat, Hid ((e0 < 18446744073709551616 ∧ e1 < 18446744073709551616 ∧ e2 < 18446744073709551616 ∧ e3 < 18446744073709551616 ∧ e4 < 18446744073709551616 ∧ e5 < 18446744073709551616 ∧ e6 < 18446744073709551616 ∧ e7 < 18446744073709551616) ∧ V = val8 e0 e1 e2 e3 e4 e5 e6 e7 % pM) ∧ Below w.heap.size w w9 ∧ Blk w9 w.heap.size 76 #[.int .u64 18446744069414583343, .int .u64 18446744073709551615, .int .u64 18446744073709551615, .int .u64 18446744073709551615, .int .u64 4294968273, .int .u64 0, .int .u64 0] ∧ Blk w9 (w.heap.size + 1) 154 #[.int .u64 (e0 : Int), .int .u64 (e1 : Int), .int .u64 (e2 : Int), .int .u64 (e3 : Int), .int .u64 (e4 : Int), .int .u64 (e5 : Int), .int .u64 (e6 : Int), .int .u64 (e7 : Int)] ∧ Blk w9 (w.heap.size + 2) 68 #[.int .u64 0, .int .u64 0, .int .u64 0, .int .u64 0] from ⟨r0, r1, r2, r3, r4, r5, r6, r7, Lib.hid ⟨HBD.out, HE.out.2.trans hmod⟩, hb.trans (hB9 _ (by omega)), hK9 _ (by omega) _ _ Bm, hL9, hK9 _ (by omega) _ _ Br⟩)
                first
                  | exact ⟨_, _, _, _, _, _, _, _, _, _, _, _, _, _, _, _, _, _, _, _, _, _, _, _, _, _, _, _, _, _, _, _, _, _, _, _, _, _, _, _, _, _, _, _, _, _, _, _, _, _, _, _, _, _, _, _, _, _, _, _, _, _, _, _, _, _, _, _, _, _, _, _, _, _, _, _, _, _, _, _, _, _, _, _, _, _, _, _, _, _, _, _, _, _, _, _, _, _, _, _, _, _, _, _, HRL.out, rfl⟩
                  | exact ⟨_, _, _, _, _, _, _, _, _, _, _, _, _, _, _, _, _, _, _, _, _, _, _, _, _, _, _, _, _, _, _, _, _, _, _, _, _, _, _, _, _, _, _, _, _, _, _, _, _, _, _, _, _, _, _, _, _, _, _, _, _, _, _, _, _, _, _, _, _, _, _, _, _, _, _, _, _, _, _, _, _, _, _, _, _, _, _, _, _, _, _, _, _, _, _, _, _, _, _, _, _, _, _, HRL.out, rfl⟩
                  | exact ⟨_, _, _, _, _, _, _, _, _, _, _, _, _, _, _, _, _, _, _, _, _, _, _, _, _, _, _, _, _, _, _, _, _, _, _, _, _, _, _, _, _, _, _, _, _, _, _, _, _, _, _, _, _, _, _, _, _, _, _, _, _, _, _, _, _, _, _, _, _, _, _, _, _, _, _, _, _, _, _, _, _, _, _, _, _, _, _, _, _, _, _, _, _, _, _, _, _, _, _, _, _, _, _, _, _, HRL.out, rfl⟩
                  | exact ⟨_, _, _, _, _, _, _, _, _, _, _, _, _, _, _, _, _, _, _, _, _, _, _, _, _, _, _, _, _, _, _, _, _, _, _, _, _, _, _, _, _, _, _, _, _, _, _, _, _, _, _, _, _, _, _, _, _, _, _, _, _, _, _, _, _, _, _, _, _, _, _, _, _, _, _, _, _, _, _, _, _, _, _, _, _, _, _, _, _, _, _, _, _, _, _, _, _, _, _, _, _, _, HRL.out, rfl⟩
                  | exact ⟨_, _, _, _, _, _, _, _, _, _, _, _, _, _, _, _, _, _, _, _, _, _, _, _, _, _, _, _, _, _, _, _, _, _, _, _, _, _, _, _, _, _, _, _, _, _, _, _, _, _, _, _, _, _, _, _, _, _, _, _, _, _, _, _, _, _, _, _, _, _, _, _, _, _, _, _, _, _, _, _, _, _, _, _, _, _, _, _, _, _, _, _, _, _, _, _, _, _, _, _, _, _, _, _, _, _, HRL.out, rfl⟩
                  | exact ⟨_, _, _, _, _, _, _, _, _, _, _, _, _, _, _, _, _, _, _, _, _, _, _, _, _, _, _, _, _, _, _, _, _, _, _, _, _, _, _, _, _, _, _, _, _, _, _, _, _, _, _, _, _, _, _, _, _, _, _, _, _, _, _, _, _, _, _, _, _, _, _, _, _, _, _, _, _, _, _, _, _, _, _, _, _, _, _, _, _, _, _, _, _, _, _, _, _, _, _, _, _, HRL.out, rfl⟩
                  | exact ⟨_, _, _, _, _, _, _, _, _, _, _, _, _, _, _, _, _, _, _, _, _, _, _, _, _, _, _, _, _, _, _, _, _, _, _, _, _, _, _, _, _, _, _, _, _, _, _, _, _, _, _, _, _, _, _, _, _, _, _, _, _, _, _, _, _, _, _, _, _, _, _, _, _, _, _, _, _, _, _, _, _, _, _, _, _, _, _, _, _, _, _, _, _, _, _, _, _, _, _, _, HRL.out, rfl⟩
                  | exact ⟨_, _, _, _, _, _, _, _, _, _, _, _, _, _, _, _, _, _, _, _, _, _, _, _, _, _, _, _, _, _, _, _, _, _, _, _, _, _, _, _, _, _, _, _, _, _, _, _, _, _, _, _, _, _, _, _, _, _, _, _, _, _, _, _, _, _, _, _, _, _, _, _, _, _, _, _, _, _, _, _, _, _, _, _, _, _, _, _, _, _, _, _, _, _, _, _, _, _, _, _, _, _, _, _, _, _, _, HRL.out, rfl⟩
                  | exact ⟨_, _, _, _, _, _, _, _, _, _, _, _, _, _, _, _, _, _, _, _, _, _, _, _, _, _, _, _, _, _, _, _, _, _, _, _, _, _, _, _, _, _, _, _, _, _, _, _, _, _, _, _, _, _, _, _, _, _, _, _, _, _, _, _, _, _, _, _, _, _, _, _, _, _, _, _, _, _, _, _, _, _, _, _, _, _, _, _, _, _, _, _, _, _, _, _, _, _, _, HRL.out, rfl⟩
                  | exact ⟨_, _, _, _, _, _, _, _, _, _, _, _, _, _, _, _, _, _, _, _, _, _, _, _, _, _, _, _, _, _, _, _, _, _, _, _, _, _, _, _, _, _, _, _, _, _, _, _, _, _, _, _, _, _, _, _, _, _, _, _, _, _, _, _, _, _, _, _, _, _, _, _, _, _, _, _, _, _, _, _, _, _, _, _, _, _, _, _, _, _, _, _, _, _, _, _, _, _, _, _, _, _, _, _, _, _, _, _, HRL.out, rfl⟩
                  | exact ⟨_, _, _, _, _, _, _, _, _, _, _, _, _, _, _, _, _, _, _, _, _, _, _, _, _, _, _, _, _, _, _, _, _, _, _, _, _, _, _, _, _, _, _, _, _, _, _, _, _, _, _, _, _, _, _, _, _, _, _, _, _, _, _, _, _, _, _, _, _, _, _, _, _, _, _, _, _, _, _, _, _, _, _, _, _, _, _, _, _, _, _, _, _, _, _, _, _, _, HRL.out, rfl⟩
                  | exact ⟨_, _, _, _, _, _, _, _, _, _, _, _, _, _, _, _, _, _, _, _, _, _, _, _, _, _, _, _, _, _, _, _, _, _, _, _, _, _, _, _, _, _, _, _, _, _, _, _, _, _, _, _, _, _, _, _, _, _, _, _, _, _, _, _, _, _, _, _, _, _, _, _, _, _, _, _, _, _, _, _, _, _, _, _, _, _, _, _, _, _, _, _, _, _, _, _, _, HRL.out, rfl⟩
                  | exact ⟨_, _, _, _, _, _, _, _, _, _, _, _, _, _, _, _, _, _, _, _, _, _, _, _, _, _, _, _, _, _, _, _, _, _, _, _, _, _, _, _, _, _, _, _, _, _, _, _, _, _, _, _, _, _, _, _, _, _, _, _, _, _, _, _, _, _, _, _, _, _, _, _, _, _, _, _, _, _, _, _, _, _, _, _, _, _, _, _, _, _, _, _, _, _, _, _, HRL.out, rfl⟩
                  | exact ⟨_, _, _, _, _, _, _, _, _, _, _, _, _, _, _, _, _, _, _, _, _, _, _, _, _, _, _, _, _, _, _, _, _, _, _, _, _, _, _, _, _, _, _, _, _, _, _, _, _, _, _, _, _, _, _, _, _, _, _, _, _, _, _, _, _, _, _, _, _, _, _, _, _, _, _, _, _, _, _, _, _, _, _, _, _, _, _, _, _, _, _, _, _, _, _, HRL.out, rfl⟩
                  | exact ⟨_, _, _, _, _, _, _, _, _, _, _, _, _, _, _, _, _, _, _, _, _, _, _, _, _, _, _, _, _, _, _, _, _, _, _, _, _, _, _, _, _, _, _, _, _, _, _, _, _, _, _, _, _, _, _, _, _, _, _, _, _, _, _, _, _, _, _, _, _, _, _, _, _, _, _, _, _, _, _, _, _, _, _, _, _, _, _, _, _, _, _, _, _, _, HRL.out, rfl⟩
                  | exact ⟨_, _, _, _, _, _, _, _, _, _, _, _, _, _, _, _, _, _, _, _, _, _, _, _, _, _, _, _, _, _, _, _, _, _, _, _, _, _, _, _, _, _, _, _, _, _, _, _, _, _, _, _, _, _, _, _, _, _, _, _, _, _, _, _, _, _, _, _, _, _, _, _, _, _, _, _, _, _, _, _, _, _, _, _, _, _, _, _, _, _, _, _, _, HRL.out, rfl⟩
                  | exact ⟨_, _, _, _, _, _, _, _, _, _, _, _, _, _, _, _, _, _, _, _, _, _, _, _, _, _, _, _, _, _, _, _, _, _, _, _, _, _, _, _, _, _, _, _, _, _, _, _, _, _, _, _, _, _, _, _, _, _, _, _, _, _, _, _, _, _, _, _, _, _, _, _, _, _, _, _, _, _, _, _, _, _, _, _, _, _, _, _, _, _, _, _, HRL.out, rfl⟩
                  | exact ⟨_, _, _, _, _, _, _, _, _, _, _, _, _, _, _, _, _, _, _, _, _, _, _, _, _, _, _, _, _, _, _, _, _, _, _, _, _, _, _, _, _, _, _, _, _, _, _, _, _, _, _, _, _, _, _, _, _, _, _, _, _, _, _, _, _, _, _, _, _, _, _, _, _, _, _, _, _, _, _, _, _, _, _, _, _, _, _, _, _, _, _, HRL.out, rfl⟩
                  | exact ⟨_, _, _, _, _, _, _, _, _, _, _, _, _, _, _, _, _, _, _, _, _, _, _, _, _, _, _, _, _, _, _, _, _, _, _, _, _, _, _, _, _, _, _, _, _, _, _, _, _, _, _, _, _, _, _, _, _, _, _, _, _, _, _, _, _, _, _, _, _, _, _, _, _, _, _, _, _, _, _, _, _, _, _, _, _, _, _, _, _, _, HRL.out, rfl⟩
              case measure => rw [valAt_blk hL9, hme0.out]; exact hlt8
end Go.Proofs.YtneeefinaejgcaaDoor

end
