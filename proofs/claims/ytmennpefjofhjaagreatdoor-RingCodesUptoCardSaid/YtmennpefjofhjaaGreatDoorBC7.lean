/-
  Texts of ours, put together: RefNumT, RingAL, StrZ, RingCodesL, RingAM, RingOnlyL.
-/
import Derived.Test.YtmennpefjofhjaaGreatDoorBC6
set_option linter.unusedVariables false
set_option linter.unusedSimpArgs false
namespace Go.Proofs.YtmennpefjofhjaaGreatDoor
section
section
open Go.RowKit Go.Lib
set_option maxHeartbeats 8000000 in
set_option maxRecDepth 100000 in
theorem numberR_off (w:World) (g o cap:Nat) (l:List UInt8) (hl:l.length=32) (hg:g<w.heap.size) (hcell:∀ j u,l[j]? = some u→w.cell? ⟨g,o+j,none⟩=some (bv u)) (_:32≤cap) (_:cap≤9223372036854775807):Calls Tryz.prog 134 #[.slice (some ⟨g,o,none⟩) 32 cap] w λe w'=>e=.returned (fv (valB l))∧Below w.heap.size w w':=by
 have HL:=Lib.hid hl
 have HG:=Lib.hid hcell
 clear hl hcell
 go_enter Tryz.func134,Tryz.ntmps134
 go_wp2_with fail
 go_loopw [4] (λi wr=>∃ k y0 y1 y2 y3:Nat,k≤32∧i=.int .i64 (k:Int)∧Hid (y0=wdB l k 0∧y1=wdB l k 1∧y2=wdB l k 2∧y3=wdB l k 3)∧Below w.heap.size w wr∧Blk wr (w.heap.size+1) 97 #[.int .u64 (y3:Int),.int .u64 (y2:Int),.int .u64 (y1:Int),.int .u64 (y0:Int)]∧Blk wr w.heap.size 97 #[.int .u64 0,.int .u64 0,.int .u64 0,.int .u64 0]) (λi _=>32 - (intOf i).toNat)
 case atStart=>exact ⟨0,0,0,0,0,by omega,rfl,Lib.hid ⟨(wdB_zero l 0).symm,(wdB_zero l 1).symm,(wdB_zero l 2).symm,(wdB_zero l 3).symm⟩,below_alloc2 w _ _,blk_new2 w _ _ _,(Blk.new w _ _).alloc _⟩
 case round =>
  obtain ⟨k,y0,y1,y2,y3,hk,rfl,HY,hb,hP,hR⟩:=hrel
  have q3:wr.cell? ⟨w.heap.size+1,0,none⟩=some (.int .u64 (y3:Int)):=hP.cell 0
  have q2:wr.cell? ⟨w.heap.size+1,1,none⟩=some (.int .u64 (y2:Int)):=hP.cell 1
  have q1:wr.cell? ⟨w.heap.size+1,2,none⟩=some (.int .u64 (y1:Int)):=hP.cell 2
  have q0:wr.cell? ⟨w.heap.size+1,3,none⟩=some (.int .u64 (y0:Int)):=hP.cell 3
  have ff:∀ j,wr.frozen? ⟨w.heap.size+1,j,none⟩=false:=λj=>hP.frozen j
  by_cases hlt:k<32
  ·obtain ⟨c,hc⟩:∃ c,l[k]? = some c:=⟨l[k]'(by rw [HL.out]; exact hlt),List.getElem?_eq_getElem _⟩
   have HC:=Lib.hid hc
   obtain ⟨m,hm⟩:∃ m,m=c.toNat:=⟨_,rfl⟩
   have hm8:m<256:=by rw [hm]; exact c.toNat_lt
   have hI:wr.cell? ⟨g,o+k,none⟩=some (.int .u8 (m:Int)):=by
    rw [hm]
    exact (hb.cell (p:=⟨g,o+k,none⟩) hg).trans (HG.out k c hc)
   have HM:=Lib.hid hm
   have HR:=Lib.hid (And.intro hb (And.intro hP hR))
   clear hb hP hR hc hk hm
   rcases (show k=0∨k=1∨k=2∨k=3∨k=4∨k=5∨k=6∨k=7∨k=8∨k=9∨k=10∨k=11∨k=12∨k=13∨k=14∨k=15∨k=16∨k=17∨k=18∨k=19∨k=20∨k=21∨k=22∨k=23∨k=24∨k=25∨k=26∨k=27∨k=28∨k=29∨k=30∨k=31 by omega) with rfl | rfl | rfl | rfl | rfl | rfl | rfl | rfl | rfl | rfl | rfl | rfl | rfl | rfl | rfl | rfl | rfl | rfl | rfl | rfl | rfl | rfl | rfl | rfl | rfl | rfl | rfl | rfl | rfl | rfl | rfl | rfl
   all_goals try rw [Nat.add_zero] at hI
   all_goals
    first
    | ((have hy:y0<72057594037927936:=by rw [HY.out.1]; exact wdB_lt l _ 0 (by decide)); go_wp2; go_region; all_goals go_wp2; all_goals (refine ⟨⟨_,y0*256+m,y1,y2,y3,by decide,rfl,Lib.hid ⟨by rw [HY.out.1,HM.out]; exact (wdB_step l _ 0 c HC.out (by decide)).symm,by rw [HY.out.2.1]; exact (wdB_same l _ 1 (by decide)).symm,by rw [HY.out.2.2.1]; exact (wdB_same l _ 2 (by decide)).symm,by rw [HY.out.2.2.2]; exact (wdB_same l _ 3 (by decide)).symm⟩,(HR.out.1.setCell (by show w.heap.size≤w.heap.size+1; omega) _).drew,Blk.drew (Blk.eq_ (HR.out.2.1.set_ 3 _) (by rw [show ((y0*256+m:Nat):Int)=(y0:Int)*256+(m:Int) by omega]; rfl)),Blk.drew (HR.out.2.2.far (by show w.heap.size≠w.heap.size+1; omega) _)⟩,by simp [intOf]⟩))
    | ((have hy:y1<72057594037927936:=by rw [HY.out.2.1]; exact wdB_lt l _ 1 (by decide)); go_wp2; go_region; all_goals go_wp2; all_goals (refine ⟨⟨_,y0,y1*256+m,y2,y3,by decide,rfl,Lib.hid ⟨by rw [HY.out.1]; exact (wdB_same l _ 0 (by decide)).symm,by rw [HY.out.2.1,HM.out]; exact (wdB_step l _ 1 c HC.out (by decide)).symm,by rw [HY.out.2.2.1]; exact (wdB_same l _ 2 (by decide)).symm,by rw [HY.out.2.2.2]; exact (wdB_same l _ 3 (by decide)).symm⟩,(HR.out.1.setCell (by show w.heap.size≤w.heap.size+1; omega) _).drew,Blk.drew (Blk.eq_ (HR.out.2.1.set_ 2 _) (by rw [show ((y1*256+m:Nat):Int)=(y1:Int)*256+(m:Int) by omega]; rfl)),Blk.drew (HR.out.2.2.far (by show w.heap.size≠w.heap.size+1; omega) _)⟩,by simp [intOf]⟩))
    | ((have hy:y2<72057594037927936:=by rw [HY.out.2.2.1]; exact wdB_lt l _ 2 (by decide)); go_wp2; go_region; all_goals go_wp2; all_goals (refine ⟨⟨_,y0,y1,y2*256+m,y3,by decide,rfl,Lib.hid ⟨by rw [HY.out.1]; exact (wdB_same l _ 0 (by decide)).symm,by rw [HY.out.2.1]; exact (wdB_same l _ 1 (by decide)).symm,by rw [HY.out.2.2.1,HM.out]; exact (wdB_step l _ 2 c HC.out (by decide)).symm,by rw [HY.out.2.2.2]; exact (wdB_same l _ 3 (by decide)).symm⟩,(HR.out.1.setCell (by show w.heap.size≤w.heap.size+1; omega) _).drew,Blk.drew (Blk.eq_ (HR.out.2.1.set_ 1 _) (by rw [show ((y2*256+m:Nat):Int)=(y2:Int)*256+(m:Int) by omega]; rfl)),Blk.drew (HR.out.2.2.far (by show w.heap.size≠w.heap.size+1; omega) _)⟩,by simp [intOf]⟩))
    | ((have hy:y3<72057594037927936:=by rw [HY.out.2.2.2]; exact wdB_lt l _ 3 (by decide)); go_wp2; go_region; all_goals go_wp2; all_goals (refine ⟨⟨_,y0,y1,y2,y3*256+m,by decide,rfl,Lib.hid ⟨by rw [HY.out.1]; exact (wdB_same l _ 0 (by decide)).symm,by rw [HY.out.2.1]; exact (wdB_same l _ 1 (by decide)).symm,by rw [HY.out.2.2.1]; exact (wdB_same l _ 2 (by decide)).symm,by rw [HY.out.2.2.2,HM.out]; exact (wdB_step l _ 3 c HC.out (by decide)).symm⟩,(HR.out.1.setCell (by show w.heap.size≤w.heap.size+1; omega) _).drew,Blk.drew (Blk.eq_ (HR.out.2.1.set_ 0 _) (by rw [show ((y3*256+m:Nat):Int)=(y3:Int)*256+(m:Int) by omega]; rfl)),Blk.drew (HR.out.2.2.far (by show w.heap.size≠w.heap.size+1; omega) _)⟩,by simp [intOf]⟩))
  ·have p1:¬ (k:Int)<32:=by omega
   obtain rfl:k=32:=by omega
   have b0:y0<18446744073709551616:=by rw [HY.out.1]; exact wdB_lt8 l _ _
   have b1:y1<18446744073709551616:=by rw [HY.out.2.1]; exact wdB_lt8 l _ _
   have b2:y2<18446744073709551616:=by rw [HY.out.2.2.1]; exact wdB_lt8 l _ _
   have b3:y3<18446744073709551616:=by rw [HY.out.2.2.2]; exact wdB_lt8 l _ _
   obtain ⟨z,hz⟩:∃ z,z=y3+18446744073709551616*y2+340282366920938463463374607431768211456*y1+6277101735386680763835789423207666416102355444464034512896*y0:=⟨_,rfl⟩
   have fz:=fv_mk y3 y2 y1 y0 b3 b2 b1 b0
   rw [← hz] at fz
   have hzv:valB l=z:=by rw [wdB_all l HL.out,hz,HY.out.1,HY.out.2.1,HY.out.2.2.1,HY.out.2.2.2]
   have HZ:=Lib.hid hzv
   have FZ:=Lib.hid fz.symm
   have HP:=Lib.hid hP
   have HR:=Lib.hid hR
   clear HY b0 b1 b2 b3 hz fz hzv q0 q1 q2 q3 ff hP hR
   go_wp2_with (first | ((with_reducible refine here_load (d:=some 31) ?_); refine wpList_load_fv rfl _ _ rfl (w.heap.size+1) rfl (z) _ _ _ (HP.out) (FZ.out) Tryz.underlying97 rfl (by kernel_rfl) ?_) | ((with_reducible refine here_store ?_); refine wpList_store_blk rfl _ _ _ rfl (w.heap.size) (fcs (z)) rfl rfl _ _ (HR.out) (by kernel_rfl) (by rfl) (fcs_one _) ?_; intro vz hLz hqz hKz))
   exact bodyPost_ret (results_cell_row rfl _ _ w.heap.size _ _ (0,0) _ rfl hLz Tryz.underlying97 rfl (by kernel_rfl)) rfl ⟨by rw [HZ.out]; rfl,hb.trans (hqz _ (by omega))⟩
end
end
section
namespace Cu
open Go.RowKit Sy
set_option maxRecDepth 100000
set_option maxHeartbeats 4000000
theorem rdR_off (w:World) (g o cp:Nat) (l:List UInt8) (hl:l.length=32) (hg:g<w.heap.size) (hc:∀ j u,l[j]? = some u→w.cell? ⟨g,o+j,none⟩=some (bv u)) (h1:32≤cp) (h2:cp≤9223372036854775807):Calls Tryz.prog 72 #[.slice (some ⟨g,o,none⟩) 32 cp] w (Gets w (.tuple #[fv (Sc.readS l).1,.bool (Sc.readS l).2])):=by
 refine Sy.enter (args:=[.slice (some ⟨g,o,none⟩) 32 cp]) Tryz.func72 rfl kL ?_
 refine sC ?_
 refine sM 42 (fcs 0) (λg0=>?_)
 refine sP (.bool false) ?_
 refine sA ?_
 refine sP (.slice (some ⟨g,o,none⟩) 32 cp)<|sS (fv (valB l)) (qG 134 #[.slice (some ⟨g,o,none⟩) 32 cp] (λw hw=>numberR_off w g o cp l hl (Nat.lt_of_lt_of_le hg hw.below.size) (λj u hj=>(Below.cell (p:=⟨g,o+j,none⟩) hw.below hg).trans (hc j u hj)) h1 h2)) ?_
 refine sM 97 (fcs 0) (λg1=>?_)
 refine sW 1 g1 97 (fcs 0) (fcs (valB l)) (wS 0 97 (fcs (valB l)) rfl) ?_
 refine sH (λj=>false) ?_
 refine sD 0 rfl (.agg modN) (qF 55 #[] (Sc.refN_any))<|sD 1 rfl (fv (valB l)) (qL 1 g1 0 4 97 97 (fcs (valB l)) rfl Tryz.underlying97) ?_
 obtain ⟨b1,hb1⟩:∃ z:Bool,z=decide (valB l<Sc.pM):=⟨_,rfl⟩
 refine sD 2 rfl (.bool b1) (qF 135 #[.agg modN,fv (valB l)] (λw=>by rw [hb1]; exact Sc.rightR_any w (valB l) (valB_lt32 l hl)))<|sZ 3 rfl (.bool b1) ?_
 refine sI ?_
 refine Sy.seq<|sC ?_
 refine sP (.slice (some ⟨g,o,none⟩) 32 cp)<|sP (.int .i64 32)<|sP (.bool false)<|sP (.bool false)<|sP (.bool b1) ?_
 cases b1
 ·refine sP (.bool true)<|sP (.bool true) ?_
  refine sG<|sT<|sC ?_
  refine sP (fv 0)<|sW 0 g0 42 (fcs 0) (fcs 0) (wS 0 42 (fcs 0) rfl)<|sP (.bool false) ?_
  refine sG<|Sy.ret<|Sy.then_ret ?_
  rw [show (.tuple #[fv (Sc.readS l).1,.bool (Sc.readS l).2]:Value)=.tuple #[fv 0,.bool false] from by unfold Sc.readS; rw [if_neg (of_decide_eq_false hb1.symm)]]
  exact Sy.ret2 (v:=fv 0) (u:=.bool false) rfl (.inl (Res.cell (ty':=42) g0 0 (fcs 0) _ kR kR Tryz.underlying42 rfl kR kR)) (.inl (show _=_ by kernel_rfl))
 ·refine sP (.bool false)<|sP (.bool false) ?_
  refine sG<|sU<|Sy.skip<|sB ?_
  refine sS (fv (valB l)) (qL 1 g1 0 4 97 97 (fcs (valB l)) rfl Tryz.underlying97)<|sS (fv (valB l)) (qF 68 #[fv (valB l)] (λw=>Sc.refSc_any w (valB l) (by first | assumption | exact Sc.mod_lt _ | exact lt4 _ | exact valB_lt32 _ (by first | assumption | exact bytesS_length _) | decide +kernel)))<|sW 0 g0 42 (fcs 0) (fcs (valB l)) (wS 0 42 (fcs (valB l)) rfl)<|sP (.bool true) ?_
  refine sG<|Sy.ret ?_
  rw [show (.tuple #[fv (Sc.readS l).1,.bool (Sc.readS l).2]:Value)=.tuple #[fv (valB l),.bool true] from by unfold Sc.readS; rw [if_pos (of_decide_eq_true hb1.symm)]]
  exact Sy.ret2 (v:=fv (valB l)) (u:=.bool true) rfl (.inl (Res.cell (ty':=42) g0 0 (fcs (valB l)) _ kR kR Tryz.underlying42 rfl kR kR)) (.inl (show _=_ by kernel_rfl))
theorem sgx_mix {a b:List UInt8} {u:Value} {k:Nat} (ha:a.length=32) (hb:b.length=32) (hk:k<32):(sgx (mixL a b k) u).toArray.setIfInBounds (0+k*1) (bv (a.getD k 0))=(sgx (mixL a b (k+1)) u).toArray:=by
 have hl:=mixL_len ha hb (show k≤32 by omega)
 rw [List.setIfInBounds_toArray, ← mixL_succ ha hb hk]
 unfold sgx
 rw [show 0+k*1=k by omega,List.set_append_left _ _ (by rw [List.length_map]; omega),List.map_set]
theorem sgx_mixlt {a b:List UInt8} {u:Value} {k:Nat} (ha:a.length=32) (hb:b.length=32) (hk:k<32):0+k*1<(sgx (mixL a b k) u).toArray.size:=by
 rw [List.size_toArray,sgx_len (mixL_len ha hb (by omega))]
 omega
theorem b32_at {m:List UInt8} {g o k:Nat} {w:World} (h:∀ j u,m[j]? = some u→w.cell? ⟨g,o+j,none⟩=some (bv u)):∀ j u,(b32 m k)[j]? = some u→w.cell? ⟨g,o+32*k+j,none⟩=some (bv u):=λj u hj=>by
 have hl:=(List.getElem?_eq_some_iff.1 hj).1
 unfold b32 at hj hl
 rw [List.length_take] at hl
 rw [List.getElem?_take_of_lt (by omega),List.getElem?_drop] at hj
 rw [Nat.add_assoc]
 exact h _ u hj
theorem dec8_any (w:World) (A:Option Addr) (m:List UInt8) (n c:Nat) (hm:m.length=n) (hc:n≤c) (hc2:c≤9223372036854775807) (hs:Sh.Src w A m) (Z:Option Addr) (N zc:Nat) (D:Nat→Int) (hDl:∀ i, -9223372036854775808≤D i∧D i<9223372036854775808) (hN:N≤4611686018427387904) (hlz:Lst w 1 Z N (λk=>[.int .i64 (D k)])) :
  Calls Tryz.prog 24 #[.slice A n c,.slice Z N zc] w (GetsN w (DecR (decB m D N) (m.take 32) (nmD m λi=>(D i).toNat) (λi=>(D i).toNat) N)):=by
 obtain ⟨E,hE⟩:∃ E:Nat→Nat,E=λi=>(D i).toNat:=⟨_,rfl⟩
 rw [show decB m D N=(szZ N D && (decide (m.length=lenS E N) && dcsOk m E N)) by rw [hE]; rfl, ← hE]
 obtain ⟨gz,oz,hZ⟩:=hlz
 refine Sy.enter (args:=[.slice A n c,.slice Z N zc]) Tryz.func24 rfl kL ?_
 refine sC ?_
 refine sM 31 (sgc33 (List.replicate 32 (0:UInt8)) none 0 0).toArray (λg0=>?_)
 refine sP (.bool false) ?_
 refine sG<|Sy.seq<|sC ?_
 refine sP (.slice Z N zc)<|sP (.int .i64 ((N:Nat):Int)) ?_
 obtain ⟨b1,hb1⟩:∃ z:Bool,z=decide (N<1):=⟨_,rfl⟩
 refine sS (.bool b1) (Quiet.pure (exec_int .lss _ _ _ .i64 _ _ _ rfl rfl rfl (int_lss _ _ _ _ _ (by rw [hb1]; exact decide_eq_decide.2 (by omega)))))<|sP (.bool b1) ?_
 cases b1
 ·have lb1:¬ N<1:=of_decide_eq_false hb1.symm
  refine sP (.slice Z N zc)<|sP (.int .i64 ((N:Nat):Int)) ?_
  obtain ⟨b2,hb2⟩:∃ z:Bool,z=decide (N>32):=⟨_,rfl⟩
  refine sS (.bool b2) (Quiet.pure (exec_int .gtr _ _ _ .i64 _ _ _ rfl rfl rfl (int_gtr _ _ _ _ _ (by rw [hb2]; exact decide_eq_decide.2 (by omega)))))<|sP (.bool b2) ?_
  refine sG ?_
  cases b2
  ·have lb2:¬ N>32:=of_decide_eq_false hb2.symm
   refine sU<|Sy.skip<|sB ?_
   refine sP (.int .i64 1) ?_
   refine sG<|Sy.seq<|sC ?_
   refine sP (.int .i64 0) ?_
   refine sG<|Sy.block ?_
   refine Sy.loopH N (λk1=>(∀ i,i<k1→1≤D i∧D i≤64)∧sumN E k1≤64*k1) (λk1=>[(0,.slice A n c),(1,.slice Z N zc),(4,ptr g0),(6,.int .i64 ((1+sumN E k1:Nat):Int)),(7,.int .i64 ((k1:Nat):Int))]) (λk1=>[(g0,31,(sgc33 (List.replicate 32 (0:UInt8)) none 0 0).toArray)]) [true] (M:=[(g0,31,(sgc33 (List.replicate 32 (0:UInt8)) none 0 0).toArray)]) ⟨λi hi=>absurd hi (Nat.not_lt_zero _),Nat.le_refl _⟩ (all_cons kR (all_cons kR (all_cons kR (all_cons kR (all_cons kR all_nil))))) kR rfl (λk1 hk1 hh=>?_)
   obtain ⟨hh1,hh2⟩:=hh
   refine Sy.seq<|sC ?_
   obtain ⟨b3,hb3⟩:∃ z:Bool,z=decide (k1<N):=⟨_,rfl⟩
   refine sP (.int .i64 ((k1:Nat):Int))<|sP (.slice Z N zc)<|sP (.int .i64 ((N:Nat):Int))<|sS (.bool b3) (Quiet.pure (exec_int .lss _ _ _ .i64 _ _ _ rfl rfl rfl (int_lss _ _ _ _ _ (by rw [hb3]; exact decide_eq_decide.2 (by omega))))) ?_
   refine sG ?_
   cases b3
   ·have lb3:¬ (k1<N):=of_decide_eq_false hb3.symm
    obtain rfl:N=k1:=by omega
    refine sU<|Sy.exit<|Sy.then_exit<|Sy.then_exit<|Sy.in_exit ?_
    have hsz:szZ N D=true:=(szZ_iff N D).2 ⟨by omega,by omega,hh1⟩
    have hDE:∀ i,i<N→D i=((E i:Nat):Int)∧1≤E i∧E i≤64:=λi hi=>by
     have:=hh1 i hi
     rw [hE]
     show D i=(((D i).toNat:Nat):Int)∧1≤(D i).toNat∧(D i).toNat≤64
     omega
    obtain ⟨tl,htl⟩:∃ k,k=lenS E N:=⟨_,rfl⟩
    have htl2:tl=32*(1+sumN E N):=by rw [htl]; exact lenS_is E N
    rw [hsz,Bool.true_and]
    refine Sy.then_<|Sy.seq<|sC ?_
    obtain ⟨b6,hb6⟩:∃ z:Bool,z=decide (n≠tl):=⟨_,rfl⟩
    refine sP (.slice A n c)<|sP (.int .i64 ((n:Nat):Int))<|sP (.int .i64 ((1+sumN E N:Nat):Int))<|sS (.int .i64 ((tl:Nat):Int)) (Quiet.pure (exec_int .mul _ _ _ .i64 _ _ _ rfl rfl rfl (int_mul _ _ _ _ _ ((wrap_i64 (by omega) (by omega)).trans (by omega)))))<|sS (.bool b6) (Quiet.pure (exec_int .neq _ _ _ .i64 _ _ _ rfl rfl rfl (int_neq _ _ _ _ _ (by rw [hb6]; exact decide_eq_decide.2 (by omega))))) ?_
    refine sG ?_
    cases b6
    ·have hn:n=tl:=Decidable.of_not_not (of_decide_eq_false hb6.symm)
     have hml:m.length=lenS E N:=by rw [hm,hn,htl]
     have hP:∀ k,k<N→lenS E k+32*E k≤n:=λk hk=>by rw [hn,htl]; exact lenS_le E hk
     have hL32:∀ k,32≤lenS E k:=λk=>by rw [lenS_is]; omega
     have h0N:0<N:=by omega
     have hP0:=hP 0 h0N
     have hE0:=(hDE 0 h0N).2.1
     have hL0:lenS E 0=32:=rfl
     have hne:m≠[]:=λe=>by
      rw [e] at hm
      have:n=0:=hm.symm
      omega
     have hA:=hs hne
     obtain ⟨g,o,rfl,hg,hcl⟩:=hA
     obtain ⟨d,hd⟩:∃ d,d=m.take 32:=⟨_,rfl⟩
     have hdl:d.length=32:=by rw [hd,List.length_take]; omega
     obtain ⟨z,hz⟩:∃ z,z=List.replicate 32 (0:UInt8):=⟨_,rfl⟩
     have hzl:z.length=32:=by rw [hz]; exact List.length_replicate
     have hby:∀ k,k<32→w.cell? ⟨g,o+k*1,none⟩=some (bv (d.getD k 0)):=λk hk=>by
      rw [Nat.mul_one]
      refine hcl k _ ?_
      rw [hd,List.getD_eq_getElem?_getD,List.getElem?_take_of_lt hk,List.getElem?_eq_getElem (by omega)]
      rfl
     refine sU<|Sy.skip<|sB ?_
     refine sP (sgv33 (List.replicate 32 (0:UInt8)) none 0 0)<|sM 31 (sgc33 (List.replicate 32 (0:UInt8)) none 0 0).toArray (λg1=>?_)
     refine sW 1 g1 31 (sgc33 (List.replicate 32 (0:UInt8)) none 0 0).toArray (sgx (mixL d z 0) (.slice none 0 0)).toArray (Writes.row 31 (sgx (mixL d z 0) (.slice none 0 0)) 33 _ _ rfl kR (by rw [mixL_zero,hz]; kernel_rfl) kR (sgx_len (mixL_len hdl hzl (by omega))) (by rw [List.size_toArray,sg_len List.length_replicate]) sg_one) ?_
     refine sG<|Sy.seq<|sC ?_
     refine sP (.int .i64 0) ?_
     refine sG<|Sy.block ?_
     refine Sy.loopH 32 (λ_=>True) (λk2=>[(0,.slice (some ⟨g,o,none⟩) n c),(1,.slice Z N zc),(4,ptr g0),(8,ptr g1),(9,.int .i64 ((k2:Nat):Int))]) (λk2=>[(g0,31,(sgc33 (List.replicate 32 (0:UInt8)) none 0 0).toArray),(g1,31,(sgx (mixL d z k2) (.slice none 0 0)).toArray)]) [true,true] (M:=[(g0,31,(sgc33 (List.replicate 32 (0:UInt8)) none 0 0).toArray),(g1,31,(sgx (mixL d z 0) (.slice none 0 0)).toArray)]) trivial (all_cons kR (all_cons kR (all_cons kR (all_cons kR (all_cons kR all_nil))))) kR rfl (λk2 hk2 _=>?_)
     refine Sy.seq<|sC ?_
     obtain ⟨b7,hb7⟩:∃ z:Bool,z=decide (k2<32):=⟨_,rfl⟩
     refine sP (.int .i64 ((k2:Nat):Int))<|sS (.bool b7) (Quiet.pure (exec_int .lss _ _ _ .i64 _ _ _ rfl rfl rfl (int_lss _ _ _ _ _ (by rw [hb7]; exact decide_eq_decide.2 (by omega))))) ?_
     refine sG ?_
     cases b7
     ·have lb7:¬ (k2<32):=of_decide_eq_false hb7.symm
      obtain rfl:k2=32:=by omega
      rw [show mixL d z 32=d from mixL_all hdl hzl]
      refine sU<|Sy.exit<|Sy.then_exit<|Sy.then_exit<|Sy.in_exit<|sB ?_
      refine sP (.int .i64 32) ?_
      refine sG<|Sy.seq<|sC ?_
      refine sP (.int .i64 0) ?_
      refine sG<|Sy.block ?_
      refine Sy.loopT (Y:=(Nat→Slc)×Slc) N (λk1 y1=>[(0,.slice (some ⟨g,o,none⟩) n c),(1,.slice Z N zc),(4,ptr g0),(8,ptr g1),(10,.int .i64 ((lenS E k1:Nat):Int)),(11,.int .i64 ((k1:Nat):Int))]) (λk1 y1=>[(g0,31,(sgc33 (List.replicate 32 (0:UInt8)) none 0 0).toArray),(g1,31,(sgx d y1.2.v).toArray)]++(rowsB y1.1 N++(y1.2.bl++[])))
       (λk1 y1=>RowsAre y1.1 42 4 (λi j=>fws (nmD m E i j)) (cntR E k1 0)∧y1.2.Is 51 1 ((List.range k1).map λi=>[(y1.1 i).v])∧(∀ i,k1≤i→y1.1 i=nilS)∧∀ i,i<k1→dcOk m E i=true)
       (λ_=>nilS,nilS) ⟨(RowsAre.nil _ _ _).cnt (cntR_zero E),Slc.Is.nil _ _,λ_ _=>rfl,λi hi=>absurd hi (Nat.not_lt_zero _)⟩
       (all_cons kR (all_cons kR (all_cons kR (all_cons kR (all_cons kR (all_cons kR all_nil)))))) (λw hw=>by rw [rowsB_nil]; exact hw) (λk1 y1 hk1 hh1=>?_)
      obtain ⟨q1,O1⟩:=y1
      dsimp only at hh1 ⊢
      obtain ⟨hr1,hO1,hn1,hk1ok⟩:=hh1
      refine Sy.seq<|sC ?_
      obtain ⟨b8,hb8⟩:∃ z:Bool,z=decide (k1<N):=⟨_,rfl⟩
      refine sP (.int .i64 ((k1:Nat):Int))<|sP (.slice Z N zc)<|sP (.int .i64 ((N:Nat):Int))<|sS (.bool b8) (Quiet.pure (exec_int .lss _ _ _ .i64 _ _ _ rfl rfl rfl (int_lss _ _ _ _ _ (by rw [hb8]; exact decide_eq_decide.2 (by omega))))) ?_
      refine sG ?_
      cases b8
      ·have lb8:¬ (k1<N):=of_decide_eq_false hb8.symm
       obtain rfl:N=k1:=by omega
       obtain ⟨gO,cO,spO,hOv,hOb,hO2,hcO,hO3⟩:=hO1.open h0N
       obtain ⟨ov,ob⟩:=O1
       obtain rfl:ov=_:=hOv
       obtain rfl:ob=_:=hOb
       refine sU<|Sy.exit<|Sy.then_exit<|Sy.then_exit<|Sy.in_exit<|sB ?_
       refine sS (sgv33 d (some ⟨gO,0,none⟩) N cO) (Quiet.load 1 g1 0 33 31 31 (sgc33 d (some ⟨gO,0,none⟩) N cO).toArray _ _ rfl kR kR Tryz.underlying31 rfl kR _ (sg_whole hdl) (sg_fit hdl)) ?_
       refine sW 0 g0 31 (sgc33 (List.replicate 32 (0:UInt8)) none 0 0).toArray (sgc33 d (some ⟨gO,0,none⟩) N cO).toArray (Writes.row 31 (sgc33 d (some ⟨gO,0,none⟩) N cO) 33 _ _ rfl kR kR kR (sg_len hdl) (by rw [List.size_toArray,sg_len List.length_replicate]) sg_one) ?_
       refine Sy.setT ?_
       refine sP (.bool true) ?_
       refine sG<|Sy.ret ?_
       exact retGM2 ((gO,51,(flat (λj=>[(q1 j).v]) N++spO).toArray)::rowsB q1 N) rfl (v:=sgv33 d (some ⟨gO,0,none⟩) N cO) (u:=.bool true) (.inl (Res.cell (ty':=31) g0 0 (sgc33 d (some ⟨gO,0,none⟩) N cO).toArray _ kR kR Tryz.underlying31 rfl (by rw [List.size_toArray,sg_len hdl]; kernel_rfl) rfl)) (.inl (show _=_ by kernel_rfl))
        (λw hw=>St.parts (ls:=[[(g0,31,(sgc33 d (some ⟨gO,0,none⟩) N cO).toArray)],[(g1,31,(sgc33 d (some ⟨gO,0,none⟩) N cO).toArray)],rowsB q1 N,[(gO,51,(flat (λj=>[(q1 j).v]) N++spO).toArray)]]) (ms:=[[(gO,51,(flat (λj=>[(q1 j).v]) N++spO).toArray)],rowsB q1 N]) [[(g0,31,(sgc33 d (some ⟨gO,0,none⟩) N cO).toArray)],[(g1,31,(sgc33 d (some ⟨gO,0,none⟩) N cO).toArray)]] [3,2,0,1] kR (by rfl) (by rfl) (by simp) hw)
        (.inr ⟨by rw [decide_eq_true hml,dcsOk_yes hk1ok]; rfl,_,rfl,gO,cO,spO,q1,by rw [← hd],hcO,rfl,hr1⟩)
      ·have lb8:k1<N:=of_decide_eq_true hb8.symm
       have hEk:=hDE k1 lb8
       have hPk:=hP k1 lb8
       have hLk:=hL32 k1
       refine sT<|Sy.skip<|Sy.then_<|Sy.seq<|Sy.block<|sC ?_
       refine sP (.slice none 0 0) ?_
       refine sG<|Sy.seq<|sC ?_
       refine sP (.int .i64 0) ?_
       refine sG<|Sy.block ?_
       refine Sy.loopT (Y:=Slc) (E k1) (λk2 y2=>[(0,.slice (some ⟨g,o,none⟩) n c),(1,.slice Z N zc),(4,ptr g0),(8,ptr g1),(10,.int .i64 ((lenS E k1+32*k2:Nat):Int)),(11,.int .i64 ((k1:Nat):Int)),(12,y2.v),(13,.int .i64 ((k2:Nat):Int))]) (λk2 y2=>[(g0,31,(sgc33 (List.replicate 32 (0:UInt8)) none 0 0).toArray),(g1,31,(sgx d O1.v).toArray)]++(y2.bl++(rowsB q1 N++(O1.bl++[]))))
        (λk2 y2=>y2.Is 42 4 ((List.range k2).map λj=>fws (nmD m E k1 j))∧∀ j,j<k2→nmD m E k1 j<Sc.pM) nilS ⟨Slc.Is.nil _ _,λi hi=>absurd hi (Nat.not_lt_zero _)⟩
        (all_cons kR (all_cons kR (all_cons kR (all_cons kR (all_cons kR (all_cons kR (all_cons kR (all_cons kR all_nil)))))))) (λw hw=>hw) (λk2 y2 hk2 hh2'=>?_)
       obtain ⟨hy2,hok2⟩:=hh2'
       refine Sy.seq<|sC ?_
       obtain ⟨b9,hb9⟩:∃ z:Bool,z=decide (k2<E k1):=⟨_,rfl⟩
       refine sP (.int .i64 ((k2:Nat):Int))<|sP (.slice Z N zc)<|sP (.int .i64 ((k1:Nat):Int))<|sS (.pointer (some ⟨gz,oz+k1*1,none⟩)) (Quiet.pure (exec_atO 57 _ _ _ Z gz oz N zc k1 1 .i64 (hZ (by omega)).1 rfl rfl rfl Tryz.underlying57 kF (by omega)))<|sS (.int .i64 ((E k1:Nat):Int)) (Quiet.thereOne gz (oz+k1*1) 3 _ _ rfl kR (hZ (by omega)).2.1 _ (range_one ((hZ (by omega)).2.2 k1 (by omega)) 0 (by show some (Value.int .i64 (D k1))=_; rw [hEk.1])) Tryz.underlying3 rfl)<|sS (.bool b9) (Quiet.pure (exec_int .lss _ _ _ .i64 _ _ _ rfl rfl rfl (int_lss _ _ _ _ _ (by rw [hb9]; exact decide_eq_decide.2 (by omega))))) ?_
       refine sG ?_
       cases b9
       ·have lb9:¬ (k2<E k1):=of_decide_eq_false hb9.symm
        obtain ⟨e1,he1⟩:∃ k,k=E k1:=⟨_,rfl⟩
        obtain rfl:k2=E k1:=by omega
        have hok1:dcOk m E k1=true:=List.all_eq_true.2 λj hj=>decide_eq_true (hok2 j (List.mem_range.1 hj))
        obtain ⟨gk,ck,sp,hkv,hkb,hk1s,hk2s,hk3s⟩:=hy2.open (by omega)
        obtain ⟨rv,rb⟩:=y2
        obtain rfl:rv=_:=hkv
        obtain rfl:rb=_:=hkb
        obtain ⟨bk,hbk⟩:∃ b:Nat×TypeId×Array Value,b=(gk,42,(flat (λj=>fws (nmD m E k1 j)) (E k1)++sp).toArray):=⟨_,rfl⟩
        rw [← hbk] at hy2 ⊢
        refine sU<|Sy.exit<|Sy.then_exit<|Sy.then_exit<|Sy.in_exit<|Sy.then_<|Sy.region ?_
        refine Sy.permS (M:=[(g0,31,(sgc33 (List.replicate 32 (0:UInt8)) none 0 0).toArray),(g1,31,(sgx d O1.v).toArray)]++(O1.bl++([bk]++(rowsB q1 N++[])))) (Sy.flat_perm (ls:=[[(g0,31,(sgc33 (List.replicate 32 (0:UInt8)) none 0 0).toArray),(g1,31,(sgx d O1.v).toArray)],[bk],rowsB q1 N,O1.bl]) (ms:=[[(g0,31,(sgc33 (List.replicate 32 (0:UInt8)) none 0 0).toArray),(g1,31,(sgx d O1.v).toArray)],O1.bl,[bk],rowsB q1 N]) [0,3,1,2] (by kernel_rfl) (by rfl) (by simp) (by simp)) ?_
        refine sP (.pointer (some ⟨g1,32,none⟩))<|sS O1.v (Quiet.cell 1 g1 32 31 29 (sgx d O1.v).toArray _ _ rfl kR kR Tryz.underlying29 rfl _ (sgx_at hdl))<|sP (.slice (some ⟨gk,0,none⟩) (E k1) ck) ?_
        refine Sy.make kR 51 #[.slice (some ⟨gk,0,none⟩) (E k1) ck] (λg=>.slice (some ⟨g,0,none⟩) 1 1) (λ_=>kR) (λg7=>?_)
        refine Sy.movT ?_
        refine Sy.appendR kR 29 51 _ _ 1 24 Tryz.underlying29 info_scs rfl rfl rfl rfl (by decide) _ _ rfl hO1 kR [.slice (some ⟨gk,0,none⟩) (E k1) ck] rfl (one_sl _ _ _) 2 g7 51 kR kR (by rw [List.length_map,List.length_range]; omega) (by rw [List.length_map,List.length_range]; simp only [maxLen]; omega) (λr1 hr1'=>?_)
        refine sP (.pointer (some ⟨g1,32,none⟩))<|sW 1 g1 31 (sgx d O1.v).toArray (sgx d r1.v).toArray (Writes.one 32 29 r1.v _ _ rfl kR kR kR hr1'.cells.1 hr1'.cells.2 (sgx_lt hdl) (sgx_set hdl)) ?_
        refine Sy.setT ?_
        refine Sy.nil<|Sy.in_<|Sy.then_<|Sy.region ?_
        refine sP (.int .i64 ((k1:Nat):Int))<|sS (.int .i64 ((k1+1:Nat):Int)) (Quiet.pure (exec_int .add _ _ _ .i64 _ _ _ rfl rfl rfl (int_add _ _ _ _ _ ((wrap_i64 (by omega) (by omega)).trans (by omega)))))<|sP (.int .i64 ((k1+1:Nat):Int)) ?_
        refine Sy.nil ?_
        have eL:lenS E (k1+1)=lenS E k1+32*E k1:=by show lenS E k1+E k1*32=_; omega
        exact Sy.againT (putR q1 k1 ⟨.slice (some ⟨gk,0,none⟩) (E k1) ck,[bk]⟩,r1) (by omega)
         ⟨RowsAre.full hr1 hy2,by rw [List.range_succ,List.map_append,map_putR]; show Slc.Is _ _ _ (_++[[(putR q1 k1 _ k1).v]]); rw [putR_self]; exact hr1',λi hi=>by show putR _ _ _ i=nilS; rw [putR_ne (by omega)]; exact hn1 i (by omega),
          λi hi=>(Nat.lt_succ_iff_lt_or_eq.1 hi).elim (hk1ok i) (λh=>by rw [h]; exact hok1)⟩
         (all_cons kR (all_cons kR (all_cons kR (all_cons kR (all_cons (by dsimp only; rw [eL]; kernel_rfl) (all_cons kR all_nil))))))
         (λw hw=>by
          have q:=St.row_in (i:=k1) (v:=.slice (some ⟨gk,0,none⟩) (E k1) ck) (M:=[(g0,31,(sgc33 (List.replicate 32 (0:UInt8)) none 0 0).toArray),(g1,31,(sgx d r1.v).toArray)]) (b:=bk) (n:=N) (r:=q1) (R:=r1.bl++[]) lb8 (hn1 k1 (Nat.le_refl _)) (St.parts (ls:=[[(g0,31,(sgc33 (List.replicate 32 (0:UInt8)) none 0 0).toArray)],[(g1,31,(sgx d r1.v).toArray)],[(g7,51,#[.slice (some ⟨gk,0,none⟩) (E k1) ck])],r1.bl,[bk],rowsB q1 N]) (ms:=[[(g0,31,(sgc33 (List.replicate 32 (0:UInt8)) none 0 0).toArray)],[(g1,31,(sgx d r1.v).toArray)],[bk],rowsB q1 N,r1.bl]) [[(g7,51,#[.slice (some ⟨gk,0,none⟩) (E k1) ck])]] [0,1,4,5,3,2] kR (by rfl) (by simp) (by simp) hw)
          exact q)
       ·have lb9:k2<E k1:=of_decide_eq_true hb9.symm
        obtain ⟨q,hq⟩:∃ q,q=1+sumN E k1+k2:=⟨_,rfl⟩
        have hq2:lenS E k1+32*k2=32*q:=by rw [lenS_is,hq]; omega
        have hqn:nmD m E k1 k2=nmB m q:=by rw [hq]; rfl
        obtain ⟨bl,hbl⟩:∃ l,l=b32 m q:=⟨_,rfl⟩
        have hl32:bl.length=32:=by rw [hbl]; unfold b32; rw [List.length_take,List.length_drop]; omega
        have hbc:∀ j u,bl[j]? = some u→w.cell? ⟨g,o+32*q+j,none⟩=some (bv u):=by rw [hbl]; exact b32_at hcl
        obtain ⟨kx,hkx⟩:∃ k,k=(Sc.readS bl).1:=⟨_,rfl⟩
        obtain ⟨c1,hc1⟩:∃ b,b=(Sc.readS bl).2:=⟨_,rfl⟩
        refine sT<|Sy.skip<|Sy.then_<|Sy.seq<|Sy.block<|sC ?_
        refine sP (.slice (some ⟨g,o,none⟩) n c)<|sP (.int .i64 ((lenS E k1+32*k2:Nat):Int))<|sP (.int .i64 ((lenS E k1+32*k2:Nat):Int))<|sS (.int .i64 ((lenS E k1+32*k2+32:Nat):Int)) (Quiet.pure (exec_int .add _ _ _ .i64 _ _ _ rfl rfl rfl (int_add _ _ _ _ _ ((wrap_i64 (by omega) (by omega)).trans (by omega))))) <|
         sS (.slice (some ⟨g,o+32*q,none⟩) 32 (c - 32*q)) (Quiet.pure (λw=>(exec_sl2 _ _ _ _ g o n c (lenS E k1+32*k2) (lenS E k1+32*k2+32) 1 .i64 .i64 rfl rfl rfl rfl Tryz.underlying24 kF (by omega) (by omega) (by omega) w).trans (by rw [hq2,Nat.mul_one,Nat.add_sub_cancel_left]))) <|
         sS (.tuple #[fv kx,.bool c1]) (qG 72 #[.slice (some ⟨g,o+32*q,none⟩) 32 (c - 32*q)] (λw' hw=>by rw [hkx,hc1]; exact rdR_off w' g (o+32*q) (c - 32*q) bl hl32 (Nat.lt_of_lt_of_le hg hw.below.size) (λj u hj=>(Below.cell (p:=⟨g,o+32*q+j,none⟩) hw.below hg).trans (hbc j u hj)) (by omega) (by omega))) <|
         sP (.tuple #[fv kx,.bool c1])<|sP (fv kx)<|sP (.bool c1) ?_
        refine sM 42 (fcs 0) (λg4=>?_)
        refine Sy.movT ?_
        refine sW 2 g4 42 (fcs 0) (fcs kx) (wS 0 42 (fcs kx) rfl) ?_
        refine Sy.setT ?_
        refine sP (.bool c1) ?_
        refine sG<|Sy.seq<|sC ?_
        refine sP (.bool c1) ?_
        cases c1
        ·have hno:¬ nmB m q<Sc.pM:=λh=>by
          unfold Sc.readS at hc1
          rw [show valB bl=nmB m q from by rw [hbl]; rfl,if_pos h] at hc1
          cases hc1
         have hrow:dcOk m E k1=false:=List.all_eq_false.2 ⟨k2,List.mem_range.2 lb9,by rw [hqn,decide_eq_false hno]; decide⟩
         rw [dcsOk_no lb8 hrow,Bool.and_false]
         refine sP (.bool true) ?_
         refine sG<|sT<|sC ?_
         refine sP (sgv33 (List.replicate 32 (0:UInt8)) none 0 0)<|sW 0 g0 31 (sgc33 (List.replicate 32 (0:UInt8)) none 0 0).toArray (sgc33 (List.replicate 32 (0:UInt8)) none 0 0).toArray (Writes.row 31 (sgc33 (List.replicate 32 (0:UInt8)) none 0 0) 33 _ _ rfl kR kR kR (sg_len List.length_replicate) (by rw [List.size_toArray,sg_len List.length_replicate]) sg_one) ?_
         refine Sy.setT ?_
         refine sP (.bool false) ?_
         refine sG<|Sy.ret ?_
         repeat' first | refine Sy.then_ret ?_ | refine Sy.in_ret ?_
         exact retGM2 [] rfl (v:=sgv33 (List.replicate 32 (0:UInt8)) none 0 0) (u:=.bool false) (.inl (Res.cell (ty':=31) g0 0 (sgc33 (List.replicate 32 (0:UInt8)) none 0 0).toArray _ kR kR Tryz.underlying31 rfl (by rw [List.size_toArray,sg_len List.length_replicate]; kernel_rfl) rfl)) (.inl (show _=_ by kernel_rfl)) (λ_ hw=>hw.none) (.inl ⟨rfl,rfl,rfl⟩)
        ·obtain ⟨hlt,hkv⟩:nmB m q<Sc.pM∧kx=nmB m q:=by
          unfold Sc.readS at hc1 hkx
          rw [show valB bl=nmB m q from by rw [hbl]; rfl] at hc1 hkx
          by_cases h:nmB m q<Sc.pM
          ·rw [if_pos h] at hkx; exact ⟨h,hkx⟩
          ·rw [if_neg h] at hc1; cases hc1
         refine sP (.bool false) ?_
         refine sG<|sU<|Sy.skip<|sB ?_
         refine sP y2.v<|sS (fv kx) (qL 2 g4 0 4 42 42 (fcs kx) rfl Tryz.underlying42) ?_
         refine Sy.make kR 42 (fcs kx) (λg=>.slice (some ⟨g,0,none⟩) 1 1) (λ_=>kR) (λg5=>?_)
         refine Sy.movT ?_
         refine Sy.appendR kR 51 42 _ _ 4 32 Tryz.underlying51 info_sc rfl rfl rfl rfl (by decide) _ _ rfl hy2 kR (fws kx) rfl (fws_one _) 3 g5 42 kR kR (by rw [List.length_map,List.length_range]; omega) (by rw [List.length_map,List.length_range]; simp only [maxLen]; omega) (λr hr=>?_)
         refine sP r.v ?_
         refine sG<|Sy.region ?_
         refine sP (.int .i64 ((lenS E k1+32*k2:Nat):Int))<|sS (.int .i64 ((lenS E k1+32*(k2+1):Nat):Int)) (Quiet.pure (exec_int .add _ _ _ .i64 _ _ _ rfl rfl rfl (int_add _ _ _ _ _ ((wrap_i64 (by omega) (by omega)).trans (by omega)))))<|sP (.int .i64 ((lenS E k1+32*(k2+1):Nat):Int)) ?_
         refine Sy.nil<|Sy.in_<|Sy.then_<|Sy.region ?_
         refine sP (.int .i64 ((k2:Nat):Int))<|sS (.int .i64 ((k2+1:Nat):Int)) (Quiet.pure (exec_int .add _ _ _ .i64 _ _ _ rfl rfl rfl (int_add _ _ _ _ _ ((wrap_i64 (by omega) (by omega)).trans (by omega)))))<|sP (.int .i64 ((k2+1:Nat):Int)) ?_
         refine Sy.nil ?_
         exact Sy.againT r (by omega) ⟨by rw [List.range_succ,List.map_append,List.map_singleton,hqn, ← hkv]; exact hr,λj hj=>(Nat.lt_succ_iff_lt_or_eq.1 hj).elim (hok2 j) (λh=>by rw [h,hqn]; exact hlt)⟩
          (all_cons kR (all_cons kR (all_cons kR (all_cons kR (all_cons kR (all_cons kR (all_cons kR (all_cons kR all_nil)))))))) (λw hw=>St.pick [0,1] (by decide) (by kernel_rfl) hw)
     ·have lb7:k2<32:=of_decide_eq_true hb7.symm
      refine sT<|Sy.skip<|Sy.then_<|Sy.seq<|Sy.block<|Sy.region ?_
      refine sP (.int .i64 ((k2:Nat):Int))<|sP (.slice (some ⟨g,o,none⟩) n c)<|sP (.int .i64 ((k2:Nat):Int))<|sS (.pointer (some ⟨g,o+k2*1,none⟩)) (Quiet.pure (exec_at 24 _ _ _ g o n c k2 1 .i64 rfl rfl rfl Tryz.underlying24 kF (by omega)))<|sS (bv (d.getD k2 0)) (Quiet.thereOne g (o+k2*1) 5 _ _ rfl kR hg _ (hby k2 lb7) Tryz.underlying5 rfl)<|sP (.pointer (some ⟨g1,0,none⟩)) <|
       sS (.pointer (some ⟨g1,0+k2*1,none⟩)) (Quiet.pure (exec_atA 23 _ _ _ g1 0 _ k2 1 .i64 rfl rfl rfl Tryz.underlying23 kF (by omega)))<|sW 1 g1 31 (sgx (mixL d z k2) (.slice none 0 0)).toArray (sgx (mixL d z (k2+1)) (.slice none 0 0)).toArray (Writes.one (0+k2*1) 5 (bv (d.getD k2 0)) _ _ rfl kR kR kR rfl rfl (sgx_mixlt hdl hzl lb7) (sgx_mix hdl hzl lb7)) ?_
      refine Sy.nil<|Sy.in_<|Sy.then_<|Sy.region ?_
      refine sP (.int .i64 ((k2:Nat):Int))<|sS (.int .i64 ((k2+1:Nat):Int)) (Quiet.pure (exec_int .add _ _ _ .i64 _ _ _ rfl rfl rfl (int_add _ _ _ _ _ ((wrap_i64 (by omega) (by omega)).trans (by omega)))))<|sP (.int .i64 ((k2+1:Nat):Int)) ?_
      refine Sy.nil ?_
      exact Sy.againH [true,true] (M:=[(g0,31,(sgc33 (List.replicate 32 (0:UInt8)) none 0 0).toArray),(g1,31,(sgx (mixL d z (k2+1)) (.slice none 0 0)).toArray)]) (by omega) trivial (all_cons kR (all_cons kR (all_cons kR (all_cons kR (all_cons kR all_nil))))) kR rfl
    ·have hn:n≠tl:=of_decide_eq_true hb6.symm
     rw [show decide (m.length=lenS E N)=false from decide_eq_false (by rw [hm, ← htl]; exact hn),Bool.false_and]
     refine sT<|sC ?_
     refine sP (sgv33 (List.replicate 32 (0:UInt8)) none 0 0)<|sW 0 g0 31 (sgc33 (List.replicate 32 (0:UInt8)) none 0 0).toArray (sgc33 (List.replicate 32 (0:UInt8)) none 0 0).toArray (Writes.row 31 (sgc33 (List.replicate 32 (0:UInt8)) none 0 0) 33 _ _ rfl kR kR kR (sg_len List.length_replicate) (by rw [List.size_toArray,sg_len List.length_replicate]) sg_one) ?_
     refine sP (.bool false) ?_
     refine sG<|Sy.ret ?_
     repeat' first | refine Sy.then_ret ?_ | refine Sy.in_ret ?_
     exact retGM2 [] rfl (v:=sgv33 (List.replicate 32 (0:UInt8)) none 0 0) (u:=.bool false) (.inl (Res.cell (ty':=31) g0 0 (sgc33 (List.replicate 32 (0:UInt8)) none 0 0).toArray _ kR kR Tryz.underlying31 rfl (by rw [List.size_toArray,sg_len List.length_replicate]; kernel_rfl) rfl)) (.inl (show _=_ by kernel_rfl)) (λ_ hw=>hw.none) (.inl ⟨rfl,rfl,rfl⟩)
   ·have lb3:k1<N:=of_decide_eq_true hb3.symm
    have hD9:=hDl k1
    refine sT<|Sy.skip<|Sy.then_<|Sy.seq<|Sy.block<|Sy.seq<|sC ?_
    obtain ⟨b4,hb4⟩:∃ z:Bool,z=decide (D k1<1):=⟨_,rfl⟩
    refine sP (.slice Z N zc)<|sP (.int .i64 ((k1:Nat):Int))<|sS (.pointer (some ⟨gz,oz+k1*1,none⟩)) (Quiet.pure (exec_atO 57 _ _ _ Z gz oz N zc k1 1 .i64 (hZ (by omega)).1 rfl rfl rfl Tryz.underlying57 kF (by omega)))<|sS (.int .i64 (D k1)) (Quiet.thereOne gz (oz+k1*1) 3 _ _ rfl kR (hZ (by omega)).2.1 _ (range_one ((hZ (by omega)).2.2 k1 (by omega)) 0 rfl) Tryz.underlying3 rfl)<|sS (.bool b4) (Quiet.pure (exec_int .lss _ _ _ .i64 _ _ _ rfl rfl rfl (int_lss _ _ _ _ _ hb4.symm)))<|sP (.bool b4) ?_
    cases b4
    ·have lb4:¬ D k1<1:=of_decide_eq_false hb4.symm
     obtain ⟨b5,hb5⟩:∃ z:Bool,z=decide (D k1>64):=⟨_,rfl⟩
     refine sP (.slice Z N zc)<|sP (.int .i64 ((k1:Nat):Int))<|sS (.pointer (some ⟨gz,oz+k1*1,none⟩)) (Quiet.pure (exec_atO 57 _ _ _ Z gz oz N zc k1 1 .i64 (hZ (by omega)).1 rfl rfl rfl Tryz.underlying57 kF (by omega)))<|sS (.int .i64 (D k1)) (Quiet.thereOne gz (oz+k1*1) 3 _ _ rfl kR (hZ (by omega)).2.1 _ (range_one ((hZ (by omega)).2.2 k1 (by omega)) 0 rfl) Tryz.underlying3 rfl)<|sS (.bool b5) (Quiet.pure (exec_int .gtr _ _ _ .i64 _ _ _ rfl rfl rfl (int_gtr _ _ _ _ _ hb5.symm)))<|sP (.bool b5) ?_
     refine sG ?_
     cases b5
     ·have lb5:¬ D k1>64:=of_decide_eq_false hb5.symm
      have hEk:D k1=((E k1:Nat):Int)∧E k1≤64:=by
       rw [hE]
       show D k1=(((D k1).toNat:Nat):Int)∧(D k1).toNat≤64
       omega
      have hsu:sumN E (k1+1)=sumN E k1+E k1:=rfl
      refine sU<|Sy.skip<|Sy.then_<|Sy.region ?_
      refine sP (.int .i64 ((1+sumN E k1:Nat):Int))<|sP (.slice Z N zc)<|sP (.int .i64 ((k1:Nat):Int))<|sS (.pointer (some ⟨gz,oz+k1*1,none⟩)) (Quiet.pure (exec_atO 57 _ _ _ Z gz oz N zc k1 1 .i64 (hZ (by omega)).1 rfl rfl rfl Tryz.underlying57 kF (by omega)))<|sS (.int .i64 ((E k1:Nat):Int)) (Quiet.thereOne gz (oz+k1*1) 3 _ _ rfl kR (hZ (by omega)).2.1 _ (range_one ((hZ (by omega)).2.2 k1 (by omega)) 0 (by show some (Value.int .i64 (D k1))=_; rw [hEk.1])) Tryz.underlying3 rfl)<|sS (.int .i64 ((1+sumN E (k1+1):Nat):Int)) (Quiet.pure (exec_int .add _ _ _ .i64 _ _ _ rfl rfl rfl (int_add _ _ _ _ _ ((wrap_i64 (by omega) (by omega)).trans (by omega)))))<|sP (.int .i64 ((1+sumN E (k1+1):Nat):Int)) ?_
      refine Sy.nil<|Sy.in_<|Sy.then_<|Sy.region ?_
      refine sP (.int .i64 ((k1:Nat):Int))<|sS (.int .i64 ((k1+1:Nat):Int)) (Quiet.pure (exec_int .add _ _ _ .i64 _ _ _ rfl rfl rfl (int_add _ _ _ _ _ ((wrap_i64 (by omega) (by omega)).trans (by omega)))))<|sP (.int .i64 ((k1+1:Nat):Int)) ?_
      refine Sy.nil ?_
      exact Sy.againH [true] (M:=[(g0,31,(sgc33 (List.replicate 32 (0:UInt8)) none 0 0).toArray)]) (by omega) ⟨λi hi=>(Nat.lt_succ_iff_lt_or_eq.1 hi).elim (hh1 i) (λh=>by rw [h]; omega),by omega⟩ (all_cons kR (all_cons kR (all_cons kR (all_cons kR (all_cons kR all_nil))))) kR rfl
     ·have lb5:D k1>64:=of_decide_eq_true hb5.symm
      rw [show szZ N D=false from by rw [← Bool.not_eq_true,szZ_iff]; intro q; have:=q.2.2 k1 lb3; omega,Bool.false_and]
      refine sT<|sC ?_
      refine sP (sgv33 (List.replicate 32 (0:UInt8)) none 0 0)<|sW 0 g0 31 (sgc33 (List.replicate 32 (0:UInt8)) none 0 0).toArray (sgc33 (List.replicate 32 (0:UInt8)) none 0 0).toArray (Writes.row 31 (sgc33 (List.replicate 32 (0:UInt8)) none 0 0) 33 _ _ rfl kR kR kR (sg_len List.length_replicate) (by rw [List.size_toArray,sg_len List.length_replicate]) sg_one) ?_
      refine sP (.bool false) ?_
      refine sG<|Sy.ret ?_
      repeat' first | refine Sy.then_ret ?_ | refine Sy.in_ret ?_
      exact retGM2 [] rfl (v:=sgv33 (List.replicate 32 (0:UInt8)) none 0 0) (u:=.bool false) (.inl (Res.cell (ty':=31) g0 0 (sgc33 (List.replicate 32 (0:UInt8)) none 0 0).toArray _ kR kR Tryz.underlying31 rfl (by rw [List.size_toArray,sg_len List.length_replicate]; kernel_rfl) rfl)) (.inl (show _=_ by kernel_rfl)) (λ_ hw=>hw.none) (.inl ⟨rfl,rfl,rfl⟩)
    ·have lb4:D k1<1:=of_decide_eq_true hb4.symm
     rw [show szZ N D=false from by rw [← Bool.not_eq_true,szZ_iff]; intro q; have:=q.2.2 k1 lb3; omega,Bool.false_and]
     refine sN<|sN<|sN<|sN<|sN<|sP (.bool true) ?_
     refine sG<|sT<|sC ?_
     refine sP (sgv33 (List.replicate 32 (0:UInt8)) none 0 0)<|sW 0 g0 31 (sgc33 (List.replicate 32 (0:UInt8)) none 0 0).toArray (sgc33 (List.replicate 32 (0:UInt8)) none 0 0).toArray (Writes.row 31 (sgc33 (List.replicate 32 (0:UInt8)) none 0 0) 33 _ _ rfl kR kR kR (sg_len List.length_replicate) (by rw [List.size_toArray,sg_len List.length_replicate]) sg_one) ?_
     refine sP (.bool false) ?_
     refine sG<|Sy.ret ?_
     repeat' first | refine Sy.then_ret ?_ | refine Sy.in_ret ?_
     exact retGM2 [] rfl (v:=sgv33 (List.replicate 32 (0:UInt8)) none 0 0) (u:=.bool false) (.inl (Res.cell (ty':=31) g0 0 (sgc33 (List.replicate 32 (0:UInt8)) none 0 0).toArray _ kR kR Tryz.underlying31 rfl (by rw [List.size_toArray,sg_len List.length_replicate]; kernel_rfl) rfl)) (.inl (show _=_ by kernel_rfl)) (λ_ hw=>hw.none) (.inl ⟨rfl,rfl,rfl⟩)
  ·have lb2:N>32:=of_decide_eq_true hb2.symm
   rw [szZ_2 lb2,Bool.false_and]
   refine sT<|sC ?_
   refine sP (sgv33 (List.replicate 32 (0:UInt8)) none 0 0)<|sW 0 g0 31 (sgc33 (List.replicate 32 (0:UInt8)) none 0 0).toArray (sgc33 (List.replicate 32 (0:UInt8)) none 0 0).toArray (Writes.row 31 (sgc33 (List.replicate 32 (0:UInt8)) none 0 0) 33 _ _ rfl kR kR kR (sg_len List.length_replicate) (by rw [List.size_toArray,sg_len List.length_replicate]) sg_one) ?_
   refine sP (.bool false) ?_
   refine sG<|Sy.ret ?_
   repeat' first | refine Sy.then_ret ?_ | refine Sy.in_ret ?_
   exact retGM2 [] rfl (v:=sgv33 (List.replicate 32 (0:UInt8)) none 0 0) (u:=.bool false) (.inl (Res.cell (ty':=31) g0 0 (sgc33 (List.replicate 32 (0:UInt8)) none 0 0).toArray _ kR kR Tryz.underlying31 rfl (by rw [List.size_toArray,sg_len List.length_replicate]; kernel_rfl) rfl)) (.inl (show _=_ by kernel_rfl)) (λ_ hw=>hw.none) (.inl ⟨rfl,rfl,rfl⟩)
 ·have lb1:N<1:=of_decide_eq_true hb1.symm
  rw [szZ_1 lb1,Bool.false_and]
  refine sN<|sN<|sN<|sP (.bool true) ?_
  refine sG<|sT<|sC ?_
  refine sP (sgv33 (List.replicate 32 (0:UInt8)) none 0 0)<|sW 0 g0 31 (sgc33 (List.replicate 32 (0:UInt8)) none 0 0).toArray (sgc33 (List.replicate 32 (0:UInt8)) none 0 0).toArray (Writes.row 31 (sgc33 (List.replicate 32 (0:UInt8)) none 0 0) 33 _ _ rfl kR kR kR (sg_len List.length_replicate) (by rw [List.size_toArray,sg_len List.length_replicate]) sg_one) ?_
  refine sP (.bool false) ?_
  refine sG<|Sy.ret ?_
  repeat' first | refine Sy.then_ret ?_ | refine Sy.in_ret ?_
  exact retGM2 [] rfl (v:=sgv33 (List.replicate 32 (0:UInt8)) none 0 0) (u:=.bool false) (.inl (Res.cell (ty':=31) g0 0 (sgc33 (List.replicate 32 (0:UInt8)) none 0 0).toArray _ kR kR Tryz.underlying31 rfl (by rw [List.size_toArray,sg_len List.length_replicate]; kernel_rfl) rfl)) (.inl (show _=_ by kernel_rfl)) (λ_ hw=>hw.none) (.inl ⟨rfl,rfl,rfl⟩)
end Cu
end
section
namespace Sy
open Go.RowKit
theorem Quiet.readZ {P:Program} {w0:Base} {F:Slots} {L:Blocks} {o:Oper} {v:Value} (h:∀ w,St w0 w L→(execOp (evF F) o).run P w=.ok (.value v) w):Quiet P w0 F L o v:=λw hw=>by
 unfold Gives; rw [h w hw]; exact ⟨rfl,Gr.refl _⟩
end Sy
end
section
namespace Cu
open Go.RowKit Sy
theorem strZ_of {w:World} {A:Option Addr} {m:List UInt8} {c:Nat} (h:Sh.Src w A m):(convert 24 9 (.slice A m.length c)).run Tryz.prog w=.ok (.string ⟨m.toArray⟩) w:=by
 rcases m with _ | ⟨x,m⟩
 ·cases A with
  | none =>
   rw [show ([]:List UInt8).length=0 from rfl,run_convert_bytes_string w 24 9 5 none 0 c Tryz.underlying24 Tryz.underlying5 Tryz.underlying9]
   rfl
  | some a=>exact run_convert_bytes_back w 24 9 5 a c [] Tryz.underlying24 Tryz.underlying5 Tryz.underlying9 (λj hj=>absurd hj (Nat.not_lt_zero _))
 ·obtain ⟨b,o,rfl,_,hc⟩:=h (by simp)
  refine run_convert_bytes_back w 24 9 5 _ c _ Tryz.underlying24 Tryz.underlying5 Tryz.underlying9 (λj hj=>?_)
  rw [addr_off]
  exact hc j _ (List.getElem?_eq_getElem hj)
theorem strZ {w0:Base} {F:Slots} {L:Blocks} {o:Oper} (A:Option Addr) (m:List UInt8) (k c:Nat) (x:Operand) (ho:o.op=.convert 24 9 x) (hx:evF F x=.slice A k c) (hm:m.length=k) (hs:∀ w,St w0 w L→Sh.Src w A m):Quiet Tryz.prog w0 F L o (.string ⟨m.toArray⟩):=Sy.Quiet.readZ λw hw=>by
 have h:=strZ_of (c:=c) (hs w hw)
 rw [hm] at h
 unfold execOp
 simp only [ho,hx,Sem.run_bind,h,Result.andThen_ok,Sem.run_pure]
theorem eql_strZ (w:World) (F:Slots) (o:Oper) (x y:Operand) (a b:List UInt8) {yt:TypeId} (ho:o.op=.binOp .eql 9 x y yt) (hx:evF F x=.string ⟨a.toArray⟩) (hy:evF F y=.string ⟨b.toArray⟩):(execOp (evF F) o).run Tryz.prog w=.ok (.value (.bool (decide (a=b)))) w:=by
 have h1:(eqGuard .eql 9 x y (.string ⟨a.toArray⟩) (.string ⟨b.toArray⟩)).run Tryz.prog w=.ok () w:=by go_simp
 have h2:(binOp .eql 9 (.string ⟨a.toArray⟩) (.string ⟨b.toArray⟩)).run Tryz.prog w=.ok (.bool (decide (a=b))) w:=by
  by_cases e:a=b <;> simp [go_sem,ByteArray.toList_eq,e]
 unfold execOp
 simp only [ho,hx,hy,Sem.run_bind,h1,h2,Result.andThen_ok,Sem.run_pure]
end Cu
end
section
namespace Cu
open Go.RowKit Sy
set_option maxRecDepth 100000
set_option maxHeartbeats 4000000
def DcU (w0:Base) (d:List UInt8) (N:Nat) (nk:Nat→Nat) (s:Nat→Nat→Nat) (bo:Bool) (v:Value) (M:Blocks):Prop:=∃ (W:Option Addr) (c:Nat) (sa:Nat→Option Addr) (sc:Nat→Nat),v=.tuple #[sgv33 d W N c,.bool bo]∧∀ (w:World) (L:Blocks),St w0 w L→(∀ b∈M,b∈L)→Lst w 1 W N (λi=>[.slice (sa i) (nk i) (sc i)])∧∀ i,i<N→Lst w 4 (sa i) (nk i) (λk=>fws (s i k))
theorem DecR.uni {w0:Base} {b:Bool} {d:List UInt8} {s:Nat→Nat→Nat} {nk:Nat→Nat} {NR:Nat} {v:Value} {M:Blocks} (h:DecR b d s nk NR v M):DcU w0 (uD true b d) (uN true b NR) nk s b v M:=by
 rcases h with ⟨rfl,rfl,rfl⟩ | ⟨rfl,u,rfl,g,cap,sp,r,rfl,_,rfl,hr⟩
 ·exact ⟨none,0,λ_=>none,λ_=>0,rfl,λ_ _ _ _=>⟨⟨0,0,λh=>absurd h (Nat.lt_irrefl _)⟩,λi hi=>absurd hi (Nat.not_lt_zero _)⟩⟩
 ·obtain ⟨W,c,sa,sc,e,h⟩:=SgU.rows (w0:=w0) (d:=d) (cap:=cap) hr rfl 0
  have e1:sgv33 d (some ⟨g,0,none⟩) NR cap=sgv33 d W NR c:=by
   injection e with e
   have:=congrArg (λa:Array Value=>a[0]?) e
   exact Option.some.inj this
  exact ⟨W,c,sa,sc,by rw [e1]; rfl,h⟩
theorem nmB_lt4 (m:List UInt8) (k:Nat):nmB m k<K4:=by
 unfold nmB
 refine Nat.lt_of_lt_of_le (valB_lt _ _ rfl) (Nat.le_trans (Nat.pow_le_pow_right (by decide) (show (b32 m k).length≤32 by unfold b32; rw [List.length_take]; omega)) (show 256 ^ 32≤K4 by decide +kernel))
theorem law_ringcodes (w:World) (d:List UInt8) (hd:d.length=32) (W:Option Addr) (NW cW:Nat) (sa:Nat→Option Addr) (sn sc:Nat→Nat) (s:Nat→Nat→Nat) (hsc:∀ i k,s i k<K4) (hNW:NW≤4611686018427387904) (hsn9:∀ i,i<NW→sn i≤4611686018427387904) (hlw:Lst w 1 W NW (λi=>[.slice (sa i) (sn i) (sc i)])) (hls:∀ i,i<NW→Lst w 4 (sa i) (sn i) (λk=>fws (s i k))) (hW9:NW≤1048576) (hsum:sumN sn NW≤1048576) (hsc9:∀ i,i<NW→sn i≤sc i) (hsB:∀ i,sn i≤1048576)
  (A:Option Addr) (m:List UInt8) (n c:Nat) (hm:m.length=n) (hc:n≤c) (hc2:c≤9223372036854775807) (hs:Sh.Src w A m) (Z:Option Addr) (N zc:Nat) (D:Nat→Int) (hDl:∀ i, -9223372036854775808≤D i∧D i<9223372036854775808) (hN:N≤4611686018427387904) (hlz:Lst w 1 Z N (λk=>[.int .i64 (D k)])) (hn64:n≤4611686018427387904) (ht:Sh.TabAt w 1) :
  Calls Tryz.prog 4 #[sgv33 d W NW cW,.slice A n c,.slice Z N zc] w (Gets w (.bool true)):=by
 obtain ⟨E,hE⟩:∃ E:Nat→Nat,E=λi=>(D i).toNat:=⟨_,rfl⟩
 obtain ⟨b0,hb0⟩:∃ b,b=decB m D N:=⟨_,rfl⟩
 obtain ⟨d0,hd0_⟩:∃ l,l=uD true b0 (m.take 32):=⟨_,rfl⟩
 obtain ⟨N0,hN0_⟩:∃ k,k=uN true b0 N:=⟨_,rfl⟩
 obtain ⟨s0,hs0_⟩:∃ f,f=nmD m E:=⟨_,rfl⟩
 have hN0:N0≤N:=by rw [hN0_]; exact uN_le
 have hs04:∀ i k,s0 i k<K4:=λi k=>by rw [hs0_]; exact nmB_lt4 _ _
 have hszd:b0=true→32≤n∧∀ i,i<N→E i≤64:=λh=>by
  have q:=hb0.symm.trans h
  unfold decB at q
  rw [Bool.and_eq_true,Bool.and_eq_true] at q
  have q2:m.length=lenS _ N:=of_decide_eq_true q.2.1
  rw [lenS_is] at q2
  refine ⟨by omega,λi hi=>?_⟩
  have:=((szZ_iff N D).1 q.1).2.2 i hi
  rw [hE]
  show (D i).toNat≤64
  omega
 have hE9:∀ i,i<N0→E i≤4611686018427387904:=λi hi=>by
  cases b0 with
  | false=>rw [hN0_] at hi; exact absurd hi (Nat.not_lt_zero _)
  | true=>have:=(hszd rfl).2 i (by omega); omega
 have hd0:d0.length=32:=by
  rw [hd0_]
  unfold uD
  cases b0 with
  | false=>exact List.length_replicate
  | true=>have:=(hszd rfl).1; show (m.take 32).length=32; rw [List.length_take]; omega
 obtain ⟨l,hl⟩:∃ l,l=d++rowsE s sn NW:=⟨_,rfl⟩
 refine Sy.enter (args:=[sgv33 d W NW cW,.slice A n c,.slice Z N zc]) Tryz.func4 rfl kL ?_
 refine sC ?_
 refine sM 31 (sgc33 d W NW cW).toArray (λg0=>?_)
 refine sP (.bool false) ?_
 refine sA ?_
 refine sP (.slice A n c)<|sP (.slice Z N zc) ?_
 refine Sy.callN kR 23 #[.slice A n c,.slice Z N zc] kF (DcU (Base.of w) d0 N0 E s0 b0) (λw' hw=>by rw [hd0_,hN0_,hs0_,hb0,hE]; exact Calls.mono (decG_any w' A m n c hm hc hc2 (hs.below hw.below) Z N zc D hN (hlz.below hw.below)) (λe w' ⟨v,M,q1,q2,q3⟩=>⟨v,M,q1,DecR.uni q2,q3⟩)) (λv M1 hR0=>?_)
 obtain ⟨W1,c1,sa1,sc1,rfl,hU1⟩:=hR0
 refine sP (.tuple #[sgv33 d0 W1 N0 c1,.bool b0])<|sP (sgv33 d0 W1 N0 c1)<|sP (.bool b0)<|sM 31 (sgc33 (List.replicate 32 (0:UInt8)) none 0 0).toArray (λg1=>?_)
 refine Sy.movT ?_
 refine sW 1 g1 31 (sgc33 (List.replicate 32 (0:UInt8)) none 0 0).toArray (sgc33 d0 W1 N0 c1).toArray (Writes.row 31 (sgc33 d0 W1 N0 c1) 33 _ _ rfl kR kR kR (sg_len hd0) (by rw [List.size_toArray,sg_len List.length_replicate]) sg_one) ?_
 refine Sy.setT ?_
 refine sP (.bool b0) ?_
 refine sA ?_
 refine sP (.slice A n c)<|sP (.slice Z N zc) ?_
 refine Sy.callN kR 24 #[.slice A n c,.slice Z N zc] kF (DcU (Base.of w) d0 N0 E s0 b0) (λw' hw=>by rw [hd0_,hN0_,hs0_,hb0,hE]; exact Calls.mono (dec8_any w' A m n c hm hc hc2 (hs.below hw.below) Z N zc D hDl hN (hlz.below hw.below)) (λe w' ⟨v,M,q1,q2,q3⟩=>⟨v,M,q1,DecR.uni q2,q3⟩)) (λv M2 hR0=>?_)
 obtain ⟨W2,c2,sa2,sc2,rfl,hU2⟩:=hR0
 rw [List.append_assoc]
 refine sP (.tuple #[sgv33 d0 W2 N0 c2,.bool b0])<|sP (sgv33 d0 W2 N0 c2)<|sP (.bool b0)<|sM 31 (sgc33 (List.replicate 32 (0:UInt8)) none 0 0).toArray (λg2=>?_)
 refine Sy.movT ?_
 refine sW 2 g2 31 (sgc33 (List.replicate 32 (0:UInt8)) none 0 0).toArray (sgc33 d0 W2 N0 c2).toArray (Writes.row 31 (sgc33 d0 W2 N0 c2) 33 _ _ rfl kR kR kR (sg_len hd0) (by rw [List.size_toArray,sg_len List.length_replicate]) sg_one) ?_
 refine Sy.setT ?_
 refine sP (.bool b0) ?_
 refine sH (λj=>false) ?_
 refine sD 0 rfl (.bool true) (qG 14 #[] (λw hw=>alive8 w (ht.below hw.below ht.lt)))<|sZ 1 rfl (.bool true) <|
  sD 2 rfl (sgv33 d W NW cW) (Quiet.load 0 g0 0 33 31 31 (sgc33 d W NW cW).toArray _ _ rfl kR kR Tryz.underlying31 rfl kR _ (sg_whole hd) (sg_fit hd))<|sD 5 rfl (sgv33 d W NW cW) (Quiet.load 0 g0 0 33 31 31 (sgc33 d W NW cW).toArray _ _ rfl kR kR Tryz.underlying31 rfl kR _ (sg_whole hd) (sg_fit hd)) ?_
 refine Sy.callND 3 rfl kR kR 25 #[sgv33 d W NW cW] kF _ (λw hw=>by have q:=encG_any w d hd W NW cW sa sn sc s hsc hNW hsn9 (hlw.below hw.below) (λi hi=>(hls i hi).below hw.below) (by omega) (by omega) hsc9; rw [← hl] at q; exact q) (λv M3 hR0=>?_)
 obtain ⟨y3,rfl,rfl,hy3⟩:=hR0
 obtain ⟨A3,c3,hv3,_,_,hs3⟩:=row_tx hy3
 refine sD 4 rfl (.string ⟨l.toArray⟩) (strZ A3 l l.length c3 _ rfl (by rw [← hv3]; kernel_rfl) rfl (λw hw=>hs3 hw (λb hb=>List.mem_append.2 (.inr hb)))) ?_
 refine Sy.callND 6 rfl kR kR 26 #[sgv33 d W NW cW] kF _ (λw hw=>by have q:=enc8_any w d hd W NW cW sa sn sc s hsc hNW hsn9 (hlw.below hw.below) (λi hi=>(hls i hi).below hw.below) (by omega) hsB; rw [← hl] at q; exact q) (λv M4 hR0=>?_)
 obtain ⟨y4,rfl,rfl,hy4⟩:=hR0
 obtain ⟨A4,c4,hv4,_,_,hs4⟩:=row_tx hy4
 refine sD 7 rfl (.string ⟨l.toArray⟩) (strZ A4 l l.length c4 _ rfl (by rw [← hv4]; kernel_rfl) rfl (λw hw=>hs4 hw (λb hb=>List.mem_append.2 (.inr hb)))) <|
  sD 8 rfl (.bool true) (Quiet.pure (λw=>(eql_strZ w _ _ _ _ l l rfl rfl rfl).trans (by rw [decide_eq_true rfl])))<|sZ 9 rfl (.bool true)<|sZ 10 rfl (.bool true)<|sZ 11 rfl (.bool b0)<|sZ 12 rfl (.bool b0) <|
  sD 13 rfl (.bool true) (Quiet.pure (λw=>eql_bool_same w _ _ _ _ b0 rfl rfl rfl))<|sZ 14 rfl (.bool true)<|sZ 15 rfl (.bool true) <|
  sD 16 rfl (sgv33 d0 W1 N0 c1) (Quiet.load 1 g1 0 33 31 31 (sgc33 d0 W1 N0 c1).toArray _ _ rfl kR kR Tryz.underlying31 rfl kR _ (sg_whole hd0) (sg_fit hd0))<|sD 17 rfl (sgv33 d0 W2 N0 c2) (Quiet.load 2 g2 0 33 31 31 (sgc33 d0 W2 N0 c2).toArray _ _ rfl kR kR Tryz.underlying31 rfl kR _ (sg_whole hd0) (sg_fit hd0)) <|
  sD 18 rfl (.bool true) (qG 27 #[sgv33 d0 W1 N0 c1,sgv33 d0 W2 N0 c2] (λw hw=>by
   have u1:=hU1 w _ hw (λb hb=>List.mem_append.2 (.inl (List.mem_append.2 (.inl (List.mem_append.2 (.inr (List.mem_append.2 (.inl hb))))))))
   have u2:=hU2 w _ hw (λb hb=>List.mem_append.2 (.inl (List.mem_append.2 (.inl (List.mem_append.2 (.inr (List.mem_append.2 (.inr hb))))))))
   have q:=same8_any w d0 hd0 W1 N0 c1 sa1 E sc1 s0 hs04 (by omega) hE9 u1.1 u1.2 d0 hd0 W2 N0 c2 sa2 E sc2 s0 hs04 (by omega) hE9 u2.1 u2.2
   rw [sgSame_yes rfl rfl (λi _=>rowSame_yes rfl (λ_ _=>rfl))] at q
   exact q))<|sZ 19 rfl (.bool true)<|sZ 20 rfl (.bool true) ?_
 refine sI ?_
 refine Sy.ret ?_
 exact rV (.bool true) rfl
end Cu
end
section
namespace Cu
open Go.RowKit Sy
theorem row_at (f:Nat→Nat):∀ (T:Nat) {q:Nat},q<T→((rowE f T).drop (32*q)).take 32=bytesS (f q%Sc.pM)
 | 0,q,h=>absurd h (Nat.not_lt_zero _)
 | T+1,q,h=>by
  show ((rowE f T++bytesS (f T%Sc.pM)).drop (32*q)).take 32=_
  have hl:=rowE_len f T
  rcases Nat.lt_succ_iff_lt_or_eq.1 h with hq | hq
  ·rw [List.drop_append_of_le_length (by omega),List.take_append_of_le_length (by rw [List.length_drop]; omega)]
   exact row_at f T hq
  ·rw [hq,List.drop_left' hl,List.take_of_length_le (by rw [bytesS_length]; exact Nat.le_refl _)]
theorem sum_at (sn:Nat→Nat) {N i j:Nat} (hi:i<N) (hj:j<sn i):sumN sn i+j<sumN sn N:=by
 have h1:sumN sn (i+1)≤sumN sn N:=sumN_mono sn hi
 have h2:sumN sn (i+1)=sumN sn i+sn i:=rfl
 omega
theorem cat_at (s:Nat→Nat→Nat) (sn:Nat→Nat):∀ (N:Nat) {i j:Nat},i<N→j<sn i→atL (catNm s sn N) (sumN sn i+j)=s i j
 | 0,i,j,hi,_=>absurd hi (Nat.not_lt_zero _)
 | k+1,i,j,hi,hj=>by
  show atL (catNm s sn k++(List.range (sn k)).map (s k)) _=_
  have hl:=catNm_len s sn k
  rcases Nat.lt_succ_iff_lt_or_eq.1 hi with h | h
  ·rw [atL_left (by rw [hl]; exact sum_at sn h hj)]
   exact cat_at s sn k h hj
  ·subst h
   rw [← hl,atL_right,atL_range hj]
theorem rowsE_len2 (s:Nat→Nat→Nat) (sn:Nat→Nat) (N:Nat):(rowsE s sn N).length=32*sumN sn N:=by rw [← rowE_cat,rowE_len]
theorem enc_nm {d:List UInt8} {s:Nat→Nat→Nat} {sn:Nat→Nat} {N i j:Nat} (hd:d.length=32) (hi:i<N) (hj:j<sn i):nmD (d++rowsE s sn N) sn i j=s i j%Sc.pM:=by
 have hq:=sum_at sn hi hj
 unfold nmD nmB b32
 rw [show 32*(1+sumN sn i+j)=32+32*(sumN sn i+j) by omega, ← List.drop_drop,List.drop_left' hd, ← rowE_cat,row_at _ _ hq,cat_at s sn N hi hj,valB_bytesS _ (Sc.mod_lt _)]
theorem enc_dec {d:List UInt8} {s:Nat→Nat→Nat} {sn:Nat→Nat} {N:Nat} (hd:d.length=32) (h1:1≤N) (h2:N≤32) (h3:∀ i,i<N→1≤sn i∧sn i≤64):decB (d++rowsE s sn N) (λi=>((sn i:Nat):Int)) N=true:=by
 have hE:(λi=>(((sn i:Nat):Int)).toNat)=sn:=funext λi=>Int.toNat_natCast _
 unfold decB
 rw [hE,(szZ_iff N _).2 ⟨h1,h2,λi hi=>by have:=h3 i hi; omega⟩,decide_eq_true (by rw [List.length_append,hd,rowsE_len2,lenS_is]; omega),dcsOk_yes λi hi=>List.all_eq_true.2 λj hj=>decide_eq_true (by rw [enc_nm hd hi (List.mem_range.1 hj)]; exact Nat.mod_lt _ (by decide))]
 rfl
theorem rows_one (m:List UInt8) (E:Nat→Nat):∀ N,rowsE (nmD m E) E N=rowE (λq=>nmB m (1+q)) (sumN E N)
 | 0=>rfl
 | k+1=>by
  show rowsE (nmD m E) E k++rowE (nmD m E k) (E k)=rowE _ (sumN E k+E k)
  rw [rows_one m E k,rowE_split]
  congr 1
  exact rowE_congr _ λj _=>by unfold nmD; rw [Nat.add_assoc]
theorem row_back (m:List UInt8):∀ T,32*(1+T)≤m.length→(∀ q,q<T→nmB m (1+q)<Sc.pM)→rowE (λq=>nmB m (1+q)) T=(m.drop 32).take (32*T)
 | 0,_,_=>rfl
 | T+1,hl,h=>by
  show rowE _ T++bytesS (nmB m (1+T)%Sc.pM)=_
  rw [row_back m T (by omega) (λq hq=>h q (by omega)),Nat.mod_eq_of_lt (h T (Nat.lt_succ_self T)),show 32*(T+1)=32*T+32 by omega,List.take_add]
  congr 1
  unfold nmB
  rw [bytesS_valB _ (by unfold b32; rw [List.length_take,List.length_drop]; omega)]
  unfold b32
  rw [List.drop_drop,show 32*(1+T)=32+32*T by omega]
theorem decB_enc {m:List UInt8} {D:Nat→Int} {N:Nat} (h:decB m D N=true):m.take 32++rowsE (nmD m λi=>(D i).toNat) (λi=>(D i).toNat) N=m:=by
 unfold decB at h
 generalize (λi=>(D i).toNat)=E at h ⊢
 rw [Bool.and_eq_true,Bool.and_eq_true] at h
 have hl:m.length=lenS E N:=of_decide_eq_true h.2.1
 rw [lenS_is] at hl
 have hok:=h.2.2
 have hq:∀ (n:Nat),n≤N→∀ q,q<sumN E n→nmB m (1+q)<Sc.pM:=λn=>by
  induction n with
  | zero=>exact λ_ q hq=>absurd hq (Nat.not_lt_zero _)
  | succ k ih =>
   intro hk q hq
   rcases Nat.lt_or_ge q (sumN E k) with h1 | h1
   ·exact ih (by omega) q h1
   ·have h2:q<sumN E k+E k:=hq
    have h3:=List.all_eq_true.1 (List.all_eq_true.1 hok k (List.mem_range.2 (by omega))) (q - sumN E k) (List.mem_range.2 (by omega))
    have h4:nmD m E k (q - sumN E k)<Sc.pM:=of_decide_eq_true h3
    unfold nmD at h4
    rwa [show 1+sumN E k+(q - sumN E k)=1+q by omega] at h4
 have e:(m.drop 32).take (32*sumN E N)=m.drop 32:=List.take_of_length_le (by rw [List.length_drop]; omega)
 rw [rows_one,row_back m _ (by omega) (hq N (Nat.le_refl _)),e,List.take_append_drop]
theorem dec_small {m:List UInt8} {D:Nat→Int} {N:Nat} (h:decB m D N=true):1≤N∧N≤32∧32≤m.length∧∀ i,i<N→1≤(D i).toNat∧(D i).toNat≤64:=by
 unfold decB at h
 rw [Bool.and_eq_true,Bool.and_eq_true] at h
 have hl:m.length=lenS _ N:=of_decide_eq_true h.2.1
 rw [lenS_is] at hl
 have hz:=(szZ_iff N D).1 h.1
 exact ⟨hz.1,hz.2.1,by omega,λi hi=>by have:=hz.2.2 i hi; omega⟩
theorem sum_le (E:Nat→Nat) {c:Nat}:∀ N,(∀ i,i<N→E i≤c)→sumN E N≤c*N
 | 0,_=>Nat.zero_le _
 | k+1,h=>by
  have h1:=sum_le E k (λi hi=>h i (by omega))
  have h2:=h k (Nat.lt_succ_self k)
  show sumN E k+E k≤c*(k+1)
  rw [Nat.mul_add,Nat.mul_one]
  omega
end Cu
end
section
namespace Cu
open Go.RowKit Sy
set_option maxRecDepth 100000
set_option maxHeartbeats 4000000
def RwU (w0:Base) (W:Option Addr) (N:Nat) (nk:Nat→Nat) (s:Nat→Nat→Nat) (sa:Nat→Option Addr) (sc:Nat→Nat) (M:Blocks):Prop:=(∀ i,i<N→nk i≤sc i)∧∀ (w:World) (L:Blocks),St w0 w L→(∀ b∈M,b∈L)→Lst w 1 W N (λi=>[.slice (sa i) (nk i) (sc i)])∧∀ i,i<N→Lst w 4 (sa i) (nk i) (λk=>fws (s i k))
theorem RwU.zero (w0:Base) (nk:Nat→Nat) (s:Nat→Nat→Nat) (sa:Nat→Option Addr) (sc:Nat→Nat):RwU w0 none 0 nk s sa sc []:=⟨λi hi=>absurd hi (Nat.not_lt_zero _),λ_ _ _ _=>⟨⟨0,0,λh=>absurd h (Nat.lt_irrefl _)⟩,λi hi=>absurd hi (Nat.not_lt_zero _)⟩⟩
theorem RwU.rows {w0:Base} {NR g:Nat} {nk:Nat→Nat} {s:Nat→Nat→Nat} {r:Nat→Slc} {sp:List Value} {M:Blocks} (hr:RowsAre r 42 4 (λi j=>fws (s i j)) (cntR nk NR 0)) (hM:M=(g,51,(flat (λj=>[(r j).v]) NR++sp).toArray)::rowsB r NR):∃ sa sc,RwU w0 (some ⟨g,0,none⟩) NR nk s sa sc M:=by
 have hv:∀ i,i<NR→(r i).v=.slice (slA (r i).v) (nk i) (slC (r i).v)∧nk i≤slC (r i).v:=λi hi=>by
  obtain ⟨A,k,h1,h2,_⟩:=hr.lst (cntR_all hi) hi
  rw [h1]
  exact ⟨rfl,h2⟩
 refine ⟨λi=>slA (r i).v,λi=>slC (r i).v,λi hi=>(hv i hi).2,λw L hw hb=>⟨?_,λi hi=>?_⟩⟩
 ·exact Lst_ext (row_lst (f:=λj=>[(r j).v]) (λ_=>rfl) hw (hb _ (by rw [hM]; exact List.mem_cons_self ..))) (λi hi=>by rw [← (hv i hi).1])
 ·obtain ⟨A,k,h1,_,_,h2⟩:=hr.lst (cntR_all hi) hi
  have h3:=h2 hw (λb h=>hb b (by rw [hM]; exact List.mem_cons_of_mem _ h))
  show Lst w 4 (slA (r i).v) _ _
  rw [h1]
  exact h3
def PairU (w0:Base) (d:List UInt8) (N:Nat) (nk:Nat→Nat) (s:Nat→Nat→Nat) (u:Value) (v:Value) (M:Blocks):Prop:=∃ (W:Option Addr) (c:Nat) (sa:Nat→Option Addr) (sc:Nat→Nat),v=.tuple #[sgv33 d W N c,u]∧RwU w0 W N nk s sa sc M
theorem DecR.uniC {w0:Base} {b:Bool} {d:List UInt8} {s:Nat→Nat→Nat} {nk:Nat→Nat} {NR:Nat} {v:Value} {M:Blocks} (h:DecR b d s nk NR v M):PairU w0 (uD true b d) (uN true b NR) nk s (.bool b) v M:=by
 rcases h with ⟨rfl,rfl,rfl⟩ | ⟨rfl,u,rfl,g,cap,sp,r,rfl,_,rfl,hr⟩
 ·exact ⟨none,0,λ_=>none,λ_=>0,rfl,RwU.zero ..⟩
 ·obtain ⟨sa,sc,h⟩:=RwU.rows (w0:=w0) hr rfl
  exact ⟨_,cap,sa,sc,rfl,h⟩
theorem SgnR.uniC {w0:Base} {br bf:Bool} {d:List UInt8} {s:Nat→Nat→Nat} {nk:Nat→Nat} {NR:Nat} {v:Value} {M:Blocks} (h:SgnR br bf d (λi j=>fws (s i j)) nk NR v M):PairU w0 (uD br bf d) (uN br bf NR) nk s (.int .i64 (uE br bf)) v M:=by
 rcases h with ⟨rfl,rfl,rfl⟩ | ⟨rfl,rfl,rfl,rfl⟩ | ⟨rfl,rfl,u,rfl,g,r,rfl,rfl,hr⟩
 ·exact ⟨none,0,λ_=>none,λ_=>0,rfl,RwU.zero ..⟩
 ·exact ⟨none,0,λ_=>none,λ_=>0,rfl,RwU.zero ..⟩
 ·obtain ⟨sa,sc,h⟩:=RwU.rows (w0:=w0) (sp:=[]) hr (by rw [List.append_nil])
  exact ⟨_,NR,sa,sc,rfl,h⟩
theorem neq_strZ (w:World) (F:Slots) (o:Oper) (x y:Operand) (a:List UInt8) {yt:TypeId} (ho:o.op=.binOp .neq 9 x y yt) (hx:evF F x=.string ⟨a.toArray⟩) (hy:evF F y=.string ⟨a.toArray⟩):(execOp (evF F) o).run Tryz.prog w=.ok (.value (.bool false)) w:=by
 have h1:(eqGuard .neq 9 x y (.string ⟨a.toArray⟩) (.string ⟨a.toArray⟩)).run Tryz.prog w=.ok () w:=by go_simp
 have h2:(binOp .neq 9 (.string ⟨a.toArray⟩) (.string ⟨a.toArray⟩)).run Tryz.prog w=.ok (.bool false) w:=by go_simp
 unfold execOp
 simp only [ho,hx,hy,Sem.run_bind,h1,h2,Result.andThen_ok,Sem.run_pure]
end Cu
end
section
namespace Sy
open Go.RowKit
theorem tidyW {P:Program} {w0:Base} {n:Nat} {Q:Exit→Act→World→Prop} {F:Slots} {L:Blocks} {c:Code} {G:Slots} {M:Blocks} (hF:∀ p∈G,F.lookup p.1=some p.2) (hL:∀ w,St w0 w L→St w0 w M) (h:wpC P w0 n Q G M c):wpC P w0 n Q F L c:=λa w ha hw=>h a w (ha.all hF) (hL w hw)
end Sy
end
section
namespace Cu
open Go.RowKit Sy
set_option maxRecDepth 100000
set_option maxHeartbeats 4000000
theorem nmB_l4 (m:List UInt8) (k:Nat):nmB m k<K4:=by
 unfold nmB
 refine Nat.lt_of_lt_of_le (valB_lt _ _ rfl) (Nat.le_trans (Nat.pow_le_pow_right (by decide) (show (b32 m k).length≤32 by unfold b32; rw [List.length_take]; omega)) (show 256 ^ 32≤K4 by decide +kernel))
theorem law_ringonly (w:World) (sd:List UInt8) (hsd:sd.length=32) (A:Option Addr) (m:List UInt8) (n c:Nat) (hm:m.length=n) (hm9:n≤999000000) (hc:n≤c) (hc2:c≤9223372036854775807) (hs0:Sh.Src w A m) (R:Option Addr) (NR cR:Nat) (a:Nat→Option Addr) (nk ck:Nat→Nat) (X Y:Nat→Nat→Nat) (I:Nat→Nat→Bool) (hX:∀ i k,X i k<K4) (hY:∀ i k,Y i k<K4) (hNR:NR≤4611686018427387904) (hnk:∀ i,nk i≤4611686018427387904) (hlr:Lst w 1 R NR (λi=>[.slice (a i) (nk i) (ck i)])) (hlk:∀ i,i<NR→Lst w 9 (a i) (nk i) (λk=>pml (X i k) (Y i k) (I i k))) (hN9:NR≤17592186044416) (S:Option Addr) (NS cS:Nat) (At:Nat→Int) (sx:Nat→Nat) (hsx:∀ i,sx i<K4) (hNS:NS≤4611686018427387904) (hls:Lst w 5 S NS (λi=>sec5 (At i) (sx i))) (B:Option Addr) (bm:List UInt8) (bn bc:Nat) (hbm:bm.length=bn) (hbc:bn≤bc) (hbc2:bc≤9223372036854775807) (hbs:Sh.Src w B bm) (hbn9:bn≤4611686018427387904) (Z:Option Addr) (N zc:Nat) (D:Nat→Int) (hDl:∀ i, -9223372036854775808≤D i∧D i<9223372036854775808) (hN:N≤4611686018427387904) (hlz:Lst w 1 Z N (λk=>[.int .i64 (D k)])) (ht:Sh.TabAt w 1) :
  Calls Tryz.prog 5 #[csv sd [.slice A n c,.slice R NR cR,.slice S NS cS],.slice B bn bc,.slice Z N zc] w (Gets w (.bool true)):=by
 obtain ⟨E,hE⟩:∃ E:Nat→Nat,E=λi=>(D i).toNat:=⟨_,rfl⟩
 obtain ⟨b0,hb0⟩:∃ b,b=decB bm D N:=⟨_,rfl⟩
 obtain ⟨d0,hd0_⟩:∃ l,l=uD true b0 (bm.take 32):=⟨_,rfl⟩
 obtain ⟨N0,hN0_⟩:∃ k,k=uN true b0 N:=⟨_,rfl⟩
 obtain ⟨s0,hs0_⟩:∃ f,f=nmD bm E:=⟨_,rfl⟩
 have hN0:N0≤N:=by rw [hN0_]; exact uN_le
 have hs04:∀ i k,s0 i k<K4:=λi k=>by rw [hs0_]; exact nmB_l4 _ _
 have hd0:d0.length=32:=by
  rw [hd0_]
  unfold uD
  cases b0 with
  | false=>exact List.length_replicate
  | true=>have:=(dec_small hb0.symm).2.2.1; show (bm.take 32).length=32; rw [List.length_take]; omega
 obtain ⟨br,hbr⟩:∃ b,b=rgtB NR nk X Y I:=⟨_,rfl⟩
 obtain ⟨bf,hbf⟩:∃ b,b=fitB At sx nk X Y I NS NR:=⟨_,rfl⟩
 obtain ⟨at_,hat_⟩:∃ f:Nat→Nat,f=λi=>(At i).toNat:=⟨_,rfl⟩
 obtain ⟨dS,hdS⟩:∃ l,l=sgD (rgM m NR nk X Y I) sd X Y I at_ nk NR:=⟨_,rfl⟩
 obtain ⟨zS,hzS⟩:∃ f,f=sgS (rgM m NR nk X Y I) sd X Y I at_ sx dS:=⟨_,rfl⟩
 have hdSl:dS.length=32:=by rw [hdS]; exact sgD_len _
 have hzS4:∀ i k,zS i k<K4:=λi k=>by rw [hzS]; exact sgS_lt _ _
 have hzSm:∀ i k,zS i k%Sc.pM=zS i k:=λi k=>by rw [hzS]; exact sgS_mod _ _
 obtain ⟨dU,hdU⟩:∃ l,l=uD br bf dS:=⟨_,rfl⟩
 obtain ⟨NU,hNU⟩:∃ k,k=uN br bf NR:=⟨_,rfl⟩
 obtain ⟨en,hen⟩:∃ z,z=uE br bf:=⟨_,rfl⟩
 have hdUl:dU.length=32:=by rw [hdU]; exact uD_len hdSl
 refine Sy.enter (args:=[csv sd [.slice A n c,.slice R NR cR,.slice S NS cS],.slice B bn bc,.slice Z N zc]) Tryz.func5 rfl kL ?_
 refine sC ?_
 refine sM 28 (csl sd [.slice A n c,.slice R NR cR,.slice S NS cS]).toArray (λg0=>?_)
 refine sP (.bool false) ?_
 refine sG<|Sy.seq<|sC ?_
 refine sS (.bool true) (qG 14 #[] (λw hw=>alive8 w (ht.below hw.below ht.lt)))<|sP (.bool false) ?_
 refine sG<|sU<|Sy.skip<|sB ?_
 refine sP (.slice B bn bc)<|sP (.slice Z N zc) ?_
 refine Sy.callN kR 23 #[.slice B bn bc,.slice Z N zc] kF (PairU (Base.of w) d0 N0 E s0 (.bool b0)) (λw' hw=>by rw [hd0_,hN0_,hs0_,hb0,hE]; exact Calls.mono (decG_any w' B bm bn bc hbm hbc hbc2 (hbs.below hw.below) Z N zc D hN (hlz.below hw.below)) (λe w' ⟨v,M,q1,q2,q3⟩=>⟨v,M,q1,DecR.uniC q2,q3⟩)) (λv M1 hR0=>?_)
 obtain ⟨W1,c1,sa1,sc1,rfl,hU1⟩:=hR0
 refine sP (.tuple #[sgv33 d0 W1 N0 c1,.bool b0])<|sP (sgv33 d0 W1 N0 c1)<|sP (.bool b0)<|sM 31 (sgc33 (List.replicate 32 (0:UInt8)) none 0 0).toArray (λg1=>?_)
 refine Sy.movT ?_
 refine sW 1 g1 31 (sgc33 (List.replicate 32 (0:UInt8)) none 0 0).toArray (sgc33 d0 W1 N0 c1).toArray (Writes.row 31 (sgc33 d0 W1 N0 c1) 33 _ _ rfl kR kR kR (sg_len hd0) (by rw [List.size_toArray,sg_len List.length_replicate]) sg_one) ?_
 refine Sy.setT ?_
 refine sP (.bool b0) ?_
 refine sG<|Sy.seq<|Sy.seq ?_
 refine Sy.regionD (λj=>false) kR ?_
 refine sZ 0 rfl (.bool b0)<|sZ 1 rfl (.bool b0) ?_
 cases b0
 case' false =>
  refine sQ 2 rfl<|sQ 3 rfl<|sQ 4 rfl<|sQ 5 rfl<|sQ 6 rfl<|sQ 7 rfl<|sZ 8 rfl (.bool false) ?_
  refine sI ?_
  refine Sy.tidyW (G:=[(3,ptr g0),(31,.bool false)]) (M:=[(g0,28,(csl sd [.slice A n c,.slice R NR cR,.slice S NS cS]).toArray)]) (all_cons kR (all_cons kR all_nil)) (λw hw=>St.less hw (by simp)) ?_
 case' true =>
  have hds:=dec_small hb0.symm
  obtain rfl:N0=N:=hN0_
  have hEs:∀ i,i<N0→E i≤64:=λi hi=>by rw [hE]; exact (hds.2.2.2 i hi).2
  have hsum:=sum_le E N0 hEs
  have hbk:d0++rowsE s0 E N0=bm:=by rw [hd0_,hs0_,hE]; exact decB_enc hb0.symm
  refine sD 2 rfl (sgv33 d0 W1 N0 c1) (Quiet.load 1 g1 0 33 31 31 (sgc33 d0 W1 N0 c1).toArray _ _ rfl kR kR Tryz.underlying31 rfl kR _ (sg_whole hd0) (sg_fit hd0))<|sZ 5 rfl (.slice B bn bc) <|
   sD 6 rfl (.string ⟨bm.toArray⟩) (strZ B bm bn bc _ rfl rfl hbm (λw hw=>hbs.below hw.below)) ?_
  refine Sy.callND 3 rfl kR kR 25 #[sgv33 d0 W1 N0 c1] kF _ (λw hw=>by have u:=hU1.2 w _ hw (λb hb=>List.mem_append.2 (.inr hb)); have q:=encG_any w d0 hd0 W1 N0 c1 sa1 E sc1 s0 hs04 (by omega) (λi hi=>by have:=hEs i hi; omega) u.1 u.2 (by omega) (by omega) hU1.1; rw [hbk] at q; exact q) (λv M3 hR0=>?_)
  obtain ⟨y3,rfl,rfl,hy3⟩:=hR0
  obtain ⟨A3,c3,hv3,_,_,hs3⟩:=row_tx hy3
  refine sD 4 rfl (.string ⟨bm.toArray⟩) (strZ A3 bm bm.length c3 _ rfl (by rw [← hv3]; kernel_rfl) rfl (λw hw=>hs3 hw (λb hb=>List.mem_append.2 (.inr hb)))) <|
   sD 7 rfl (.bool false) (Quiet.pure (λw=>neq_strZ w _ _ _ _ bm rfl rfl rfl))<|sZ 8 rfl (.bool false) ?_
  refine sI ?_
  refine Sy.tidyW (G:=[(3,ptr g0),(31,.bool false)]) (M:=[(g0,28,(csl sd [.slice A n c,.slice R NR cR,.slice S NS cS]).toArray)]) (all_cons kR (all_cons kR all_nil)) (λw hw=>St.less hw (by simp)) ?_
 all_goals
  clear hU1
  refine sU<|Sy.skip<|sB ?_
  refine sP (.pointer (some ⟨g0,0,none⟩))<|sS (.agg (sd.map bv).toArray) (Quiet.load 0 g0 0 32 28 23 (csl sd [.slice A n c,.slice R NR cR,.slice S NS cS]).toArray _ _ rfl kR kR Tryz.underlying23 rfl kR _ (cs_first hsd) (cs_fits hsd))<|sP (.pointer (some ⟨g0,32,none⟩))<|sS (.slice A n c) (Quiet.cell 0 g0 32 28 24 (csl sd [.slice A n c,.slice R NR cR,.slice S NS cS]).toArray _ _ rfl kR kR Tryz.underlying24 rfl _ (cs_at hsd 0))<|sP (.pointer (some ⟨g0,33,none⟩))<|sS (.slice R NR cR) (Quiet.cell 0 g0 33 28 25 (csl sd [.slice A n c,.slice R NR cR,.slice S NS cS]).toArray _ _ rfl kR kR Tryz.underlying25 rfl _ (cs_at hsd 1))<|sP (.pointer (some ⟨g0,34,none⟩))<|sS (.slice S NS cS) (Quiet.cell 0 g0 34 28 26 (csl sd [.slice A n c,.slice R NR cR,.slice S NS cS]).toArray _ _ rfl kR kR Tryz.underlying26 rfl _ (cs_at hsd 2)) ?_
  refine Sy.callN kR 13 #[.agg (sd.map bv).toArray,.slice A n c,.slice R NR cR,.slice S NS cS] kF (PairU (Base.of w) dU NU nk zS (.int .i64 en)) (λw hw=>by rw [hdU,hNU,hen,hzS,hdS,hbr,hbf,hat_]; exact Calls.mono (SignG_any w sd hsd A m n c hm hm9 hc hc2 (hs0.below hw.below) R NR cR a nk ck X Y I hX hY hNR hnk (hlr.below hw.below) (λi hi=>(hlk i hi).below hw.below) hN9 S NS cS At sx hsx hNS (hls.below hw.below) (ht.below hw.below ht.lt)) (λe w' ⟨v,M,q1,q2,q3⟩=>⟨v,M,q1,SgnR.uniC q2,q3⟩)) (λv M2 hR0=>?_)
  obtain ⟨W2,c2,sa2,sc2,rfl,hU2⟩:=hR0
  refine sP (.tuple #[sgv33 dU W2 NU c2,.int .i64 en])<|sP (sgv33 dU W2 NU c2)<|sP (.int .i64 en)<|sM 31 (sgc33 (List.replicate 32 (0:UInt8)) none 0 0).toArray (λg9=>?_)
  refine Sy.movT ?_
  refine sW 1 g9 31 (sgc33 (List.replicate 32 (0:UInt8)) none 0 0).toArray (sgc33 dU W2 NU c2).toArray (Writes.row 31 (sgc33 dU W2 NU c2) 33 _ _ rfl kR kR kR (sg_len hdUl) (by rw [List.size_toArray,sg_len List.length_replicate]) sg_one) ?_
  refine Sy.setT ?_
  refine sP (.int .i64 en) ?_
  refine sG<|Sy.seq<|sC ?_
  obtain ⟨b4,hb4⟩:∃ z:Bool,z=decide (en≠0):=⟨_,rfl⟩
  refine sP (.int .i64 en)<|sS (.bool b4) (Quiet.pure (exec_int .neq _ _ _ .i64 _ _ _ rfl rfl rfl (int_neq _ _ _ _ _ hb4.symm))) ?_
  refine sG ?_
  cases b4
  ·have he0:en=0:=Decidable.of_not_not (of_decide_eq_false hb4.symm)
   have hbb:br=true∧bf=true:=by
    rw [hen] at he0
    cases br <;> cases bf <;> first | exact ⟨rfl,rfl⟩ | cases he0
   obtain ⟨rfl,rfl⟩:=hbb
   obtain ⟨hN32,hn64,hn1,hN1⟩:=rgt_small hbr
   obtain rfl:NR=NU:=hNU.symm
   obtain rfl:dU=dS:=hdU
   have hsum2:=sum_le nk NR hn64
   obtain ⟨l,hl⟩:∃ l,l=dU++rowsE zS nk NR:=⟨_,rfl⟩
   have hlt:l.take 32=dU:=by rw [hl,List.take_left' hdUl]
   have hDI:(λi=>(((nk i:Nat):Int)).toNat)=nk:=funext λi=>Int.toNat_natCast _
   have hdec:decB l (λi=>((nk i:Nat):Int)) NR=true:=by rw [hl]; exact enc_dec hdUl hN1 hN32 (λi hi=>⟨hn1 i hi,hn64 i hi⟩)
   have hlr0:=hlr
   obtain ⟨gR,oR,hR⟩:=hlr
   refine sU<|Sy.skip<|sB ?_
   refine sP (.slice none 0 0) ?_
   refine sG<|Sy.seq<|sC ?_
   refine sP (.pointer (some ⟨g0,33,none⟩))<|sS (.slice R NR cR) (Quiet.cell 0 g0 33 28 25 (csl sd [.slice A n c,.slice R NR cR,.slice S NS cS]).toArray _ _ rfl kR kR Tryz.underlying25 rfl _ (cs_at hsd 1))<|sP (.int .i64 ((NR:Nat):Int))<|sP (.int .i64 0) ?_
   refine sG<|Sy.block ?_
   refine Sy.loopT (Y:=Slc) NR (λk1 y1=>[(3,ptr g0),(9,ptr g9),(11,y1.v),(48,.int .i64 ((NR:Nat):Int)),(49,.int .i64 ((k1:Nat):Int))]) (λk1 y1=>[(g0,28,(csl sd [.slice A n c,.slice R NR cR,.slice S NS cS]).toArray),(g9,31,(sgc33 dU W2 NR c2).toArray)]++(y1.bl++(M2++[]))) (λk1 y1=>y1.Is 3 1 (szR nk k1)) nilS (Slc.Is.nil _ _) (all_cons kR (all_cons kR (all_cons kR (all_cons kR (all_cons kR all_nil))))) (λw hw=>by rw [List.append_nil]; exact hw) (λk1 y1 hk1 hy1=>?_)
   refine sC ?_
   obtain ⟨b5,hb5⟩:∃ z:Bool,z=decide (k1<NR):=⟨_,rfl⟩
   refine sS (.bool b5) (Quiet.pure (exec_int .lss _ _ _ .i64 _ _ _ rfl rfl rfl (int_lss _ _ _ _ _ (by rw [hb5]; exact decide_eq_decide.2 (by omega))))) ?_
   refine sG<|Sy.seq ?_
   cases b5
   ·have lb5:¬ (k1<NR):=of_decide_eq_false hb5.symm
    obtain rfl:NR=k1:=by omega
    refine sU<|Sy.exit<|Sy.then_exit<|Sy.then_exit<|Sy.in_exit<|sB ?_
    refine sS (sgv33 dU W2 NR c2) (Quiet.load 1 g9 0 33 31 31 (sgc33 dU W2 NR c2).toArray _ _ rfl kR kR Tryz.underlying31 rfl kR _ (sg_whole hdUl) (sg_fit hdUl)) ?_
    refine Sy.callN kR 25 #[sgv33 dU W2 NR c2] kF _ (λw hw=>by have u:=hU2.2 w _ hw (λb hb=>List.mem_append.2 (.inr (List.mem_append.2 (.inr (List.mem_append.2 (.inl hb)))))); have q:=encG_any w dU hdUl W2 NR c2 sa2 nk sc2 zS hzS4 (by omega) (λi hi=>by have:=hn64 i hi; omega) u.1 u.2 (by omega) (by omega) hU2.1; rw [← hl] at q; exact q) (λv M3 hR0=>?_)
    obtain ⟨y3,rfl,rfl,hy3⟩:=hR0
    obtain ⟨A3,c3,hv3,hl3,hc3,hs3⟩:=row_tx hy3
    obtain ⟨A4,c4,hv4,_,_,hl4⟩:=hy1.out
    rw [szR_len] at hv4 hl4
    refine sP y1.v ?_
    refine Sy.callN kR 23 #[y3.v,y1.v] kF (PairU (Base.of w) dU NR nk (nmD l nk) (.bool true)) (λw' hw=>by
     have q:=decG_any w' A3 l l.length c3 rfl hl3 (Nat.le_trans hc3 (by decide)) (hs3 hw (λb hb=>List.mem_append.2 (.inr hb))) A4 NR c4 (λi=>((nk i:Nat):Int)) (by omega) (Lst_ext (hl4 hw (λb hb=>List.mem_append.2 (.inl (List.mem_append.2 (.inr (List.mem_append.2 (.inl hb))))))) (λi hi=>szR_get hi))
     rw [hdec,hlt,hDI] at q
     rw [hv3,hv4]
     exact Calls.mono q (λe w' ⟨v,M,q1,q2,q3⟩=>⟨v,M,q1,DecR.uniC q2,q3⟩)) (λv M5 hR0=>?_)
    obtain ⟨W5,c5,sa5,sc5,rfl,hU5⟩:=hR0
    simp only [List.append_assoc]
    refine sP (.tuple #[sgv33 dU W5 NR c5,.bool true])<|sP (sgv33 dU W5 NR c5)<|sP (.bool true)<|sM 31 (sgc33 (List.replicate 32 (0:UInt8)) none 0 0).toArray (λg5=>?_)
    refine Sy.movT ?_
    refine sW 2 g5 31 (sgc33 (List.replicate 32 (0:UInt8)) none 0 0).toArray (sgc33 dU W5 NR c5).toArray (Writes.row 31 (sgc33 dU W5 NR c5) 33 _ _ rfl kR kR kR (sg_len hdUl) (by rw [List.size_toArray,sg_len List.length_replicate]) sg_one) ?_
    refine Sy.setT ?_
    refine sP (.bool true) ?_
    refine sA ?_
    refine sP (.bool true)<|sP (.bool true)<|sS (sgv33 dU W2 NR c2) (Quiet.load 1 g9 0 33 31 31 (sgc33 dU W2 NR c2).toArray _ _ rfl kR kR Tryz.underlying31 rfl kR _ (sg_whole hdUl) (sg_fit hdUl))<|sS (sgv33 dU W5 NR c5) (Quiet.load 2 g5 0 33 31 31 (sgc33 dU W5 NR c5).toArray _ _ rfl kR kR Tryz.underlying31 rfl kR _ (sg_whole hdUl) (sg_fit hdUl)) <|
     sS (.bool true) (qG 27 #[sgv33 dU W2 NR c2,sgv33 dU W5 NR c5] (λw hw=>by
      have u1:=hU2.2 w _ hw (λb hb=>by simp only [List.mem_append]; exact .inr (.inr (.inl hb)))
      have u2:=hU5.2 w _ hw (λb hb=>by simp only [List.mem_append]; exact .inr (.inr (.inr (.inr (.inr hb)))))
      have q:=same8_any w dU hdUl W2 NR c2 sa2 nk sc2 zS hzS4 (by omega) (λi _=>hnk i) u1.1 u1.2 dU hdUl W5 NR c5 sa5 nk sc5 (nmD l nk) (λ_ _=>nmB_l4 _ _) (by omega) (λi _=>hnk i) u2.1 u2.2
      rw [sgSame_yes rfl rfl (λi hi=>rowSame_yes rfl (λj hj=>by rw [hl,enc_nm hdUl hi hj,hzSm]))] at q
      exact q))<|sP (.bool true)<|sP (.bool true) ?_
    refine sG<|Sy.ret ?_
    exact rV (.bool true) rfl
   ·have lb5:k1<NR:=of_decide_eq_true hb5.symm
    refine sT<|Sy.skip<|Sy.then_<|Sy.seq<|Sy.block<|sC ?_
    refine sP (.int .i64 ((k1:Nat):Int))<|sP (.int .i64 ((k1:Nat):Int)) ?_
    refine sG<|Sy.region ?_
    refine sP y1.v<|sP (.pointer (some ⟨g0,33,none⟩))<|sS (.slice R NR cR) (Quiet.cell 0 g0 33 28 25 (csl sd [.slice A n c,.slice R NR cR,.slice S NS cS]).toArray _ _ rfl kR kR Tryz.underlying25 rfl _ (cs_at hsd 1))<|sP (.int .i64 ((k1:Nat):Int))<|sS (.pointer (some ⟨gR,oR+k1*1,none⟩)) (Quiet.pure (exec_atO 25 _ _ _ R gR oR NR cR k1 1 .i64 (hR (by omega)).1 rfl rfl rfl Tryz.underlying25 kF (by omega)))<|sS (.slice (a k1) (nk k1) (ck k1)) (Quiet.thereOne gR (oR+k1*1) 45 _ _ rfl kR (hR (by omega)).2.1 _ (range_one ((hR (by omega)).2.2 k1 (by omega)) 0 rfl) Tryz.underlying45 rfl)<|sP (.int .i64 ((nk k1:Nat):Int)) ?_
    refine Sy.make kR 3 #[.int .i64 ((nk k1:Nat):Int)] (λg=>.slice (some ⟨g,0,none⟩) 1 1) (λ_=>kR) (λg7=>?_)
    refine Sy.movT ?_
    refine Sy.appendR kR 57 3 _ _ 1 8 Tryz.underlying57 info_int rfl rfl rfl rfl (by decide) _ _ rfl hy1 kR [.int .i64 ((nk k1:Nat):Int)] rfl (one_intG _) 2 g7 3 kR kR (by rw [szR_len]; omega) (by rw [szR_len]; simp only [maxLen]; omega) (λr1 hr1=>?_)
    refine sP r1.v ?_
    refine Sy.nil<|Sy.in_<|Sy.then_<|Sy.region ?_
    refine sS (.int .i64 ((k1+1:Nat):Int)) (Quiet.pure (exec_int .add _ _ _ .i64 _ _ _ rfl rfl rfl (int_add _ _ _ _ _ ((wrap_i64 (by omega) (by omega)).trans (by omega)))))<|sP (.int .i64 ((k1+1:Nat):Int)) ?_
    refine Sy.nil ?_
    exact Sy.againT r1 (by omega) (by rw [szR_succ]; exact hr1) (all_cons kR (all_cons kR (all_cons kR (all_cons kR (all_cons kR all_nil))))) (λw hw=>St.pick [0,1] (by decide) (by kernel_rfl) hw)
  ·refine sT<|sC ?_
   refine sP (.bool true) ?_
   refine sG<|Sy.ret<|Sy.then_ret ?_
   exact rV (.bool true) rfl
end Cu
end
end Go.Proofs.YtmennpefjofhjaaGreatDoor
