/-
  Texts of ours, put together: SurE, RefNumT, RingAL, SurF, SurG.
-/
import Derived.Test.YtbjmjcpdonochaaGreatDoorBE8
set_option linter.unusedVariables false
set_option linter.unusedSimpArgs false
set_option maxRecDepth 100000
set_option maxHeartbeats 8000000
namespace Go.Proofs.YtbjmjcpdonochaaGreatDoor
section
namespace Cu
open Go.RowKit Sy
noncomputable def Tc:TypeInfo:=(Tryz.prog.info? 48).getD default
theorem Q4:Tryz.prog.info? 48=some Tc:=kZ
theorem QV (x y:Nat) (i:Bool):∀ u∈pml x y i,u.oneCell'=true:=GR _ (by cases i <;> kernel_rfl)
def RgL (f:Nat→List Value) (n:Nat) (v:Value) (M:AC):Prop:=∃ (r:Slc) (g:Nat),v=.slice (pA g) 1 1∧M=r.bl++[(g,45,#[r.v])]∧r.Is 48 9 ((List.range n).map f)
theorem OO (w:World) (A:Option Addr) (n c:Nat) (X Y:Nat→Nat) (I:Nat→Bool) (hX:∀ k,X k<K4) (hY:∀ k,Y k<K4) (ax ay:Nat) (ai:Bool) (hax:ax<K4) (hay:ay<K4) (hn:n≤64) (hlk:Lst w 9 A n (λk=>pml (X k) (Y k) (I k))) :
  Calls Tryz.prog 87 #[.slice A n c,pv ax ay ai] w (GetsN w (RgL (λj=>pml (pX (BF ax ay ai (X j) (Y j) (I j))) (pY (BF ax ay ai (X j) (Y j) (I j))) (pI (BF ax ay ai (X j) (Y j) (I j)))) n)):=by
 obtain ⟨gK,oK,hT⟩:=hlk
 obtain ⟨fK,hfK⟩:∃ f:Nat→List Value,f=(λj=>pml (pX (BF ax ay ai (X j) (Y j) (I j))) (pY (BF ax ay ai (X j) (Y j) (I j))) (pI (BF ax ay ai (X j) (Y j) (I j)))):=⟨_,rfl⟩
 rw [← hfK]
 refine Sy.enter (args:=[.slice A n c,pv ax ay ai]) Tryz.func87 U kL<|sC<|sM 48 (pcs ax ay ai) (λg0=>?_)
 refine sP (.slice none 0 0)<|sA<|sP (.slice none 0 0)<|sG<|Sy.seq<|sC<|sP (.int .i64 0)<|sG<|Sy.block<|Sy.loopT (Y:=Slc) n (λk1 y1=>[(0,.slice A n c),(3,ptr g0),(5,y1.v),(6,iZ k1)]) (λk1 y1=>[(g0,48,pcs ax ay ai)]++(y1.bl++[])) (λk1 y1=>y1.Is 48 9 ((List.range k1).map fK)) nilS (Slc.Is.nil _ _) ac4 (λw hw=>hw) (λk1 y1 hk1 hh1=>?_)
 refine Sy.seq<|sC ?_
 obtain ⟨b1,hb1⟩:=xE (decide (k1<n))
 refine sP (iZ k1)<|sP (.slice A n c)<|sP (iZ n)<|sS (.bool b1) (qls U U U hb1)<|sG ?_
 cases b1
 ·have lb1:=dN hb1
  obtain rfl:n=k1:=om
  obtain ⟨A',c',hv,hc1,hc2,hl⟩:=hh1.out
  rw [List.length_map,List.length_range] at hv hc1 hl
  obtain ⟨yv,yb⟩:=y1
  obtain rfl:yv=_:=hv
  refine sU<|Sy.exit<|Sy.then_exit<|Sy.then_exit<|Sy.in_exit<|sB<|sP (.slice A' n c')<|Sy.make kR 45 #[.slice A' n c'] (λg=>.slice (pA g) 1 1) kF (λg2=>?_)
  refine sP (.slice (pA g2) 1 1)<|sG<|Sy.ret ?_
  exact Dz (yb++[(g2,45,#[.slice A' n c'])]) U (v:=.slice (pA g2) 1 1) (.inl (show _=_ by kernel_rfl)) (λw hw=>St.less hw (by simp)) ⟨⟨.slice A' n c',yb⟩,g2,rfl,rfl,hh1⟩
 ·have lb1:=dY hb1
  obtain ⟨Q,hQ⟩:=xE (Ec.neg (dec (X k1) (Y k1) (I k1)))
  have hQo:Ec.On Q:=by rw [hQ]; exact Ec.On.neg (Cy _ _ _)
  obtain ⟨S,hS⟩:=xE ((BF ax ay ai (X k1) (Y k1) (I k1)))
  have hSe:Ec.add Ae (dec ax ay ai) (dec (pX Q) (pY Q) (pI Q))=S:=by rw [CE hQo,hQ,hS]; rfl
  refine sT<|Sy.skip<|Sy.then_<|Sy.seq<|Sy.block<|Sy.regionD (λj=>j == 9) kR<|sZ 0 U y1.v<|Sy.stepDB 1 [7,8,9,10] rfl kR (λ_ _ _ _ h=>h) kR (pv ax ay ai) (qL 0 g0 0 9 48 48 (pcs ax ay ai) rfl Ac)<|Sy.stepDB 2 [4,5,6,7,8,9,10] rfl kR (λ_ _ _ _ h=>h) kR (.slice A n c) (Quiet.pure kF)<|Sy.stepDB 3 [4,5,6,7,8,9,10] rfl kR (λ_ _ _ _ h=>h) kR (iZ k1) (Quiet.pure kF)<|Sy.stepDB 4 [5,6,7,8,9,10] rfl kR (λ_ _ _ _ h=>h) kR (.pointer (some ⟨gK,oK+k1*9,none⟩)) (Quiet.pure (AJ 45 _ _ _ A gK oK n c k1 9 .i64 (hT om).1 U U U CH kF om))<|Sy.stepDB 5 [6,7,8,9,10] rfl kR (λ_ _ _ _ h=>h) kR (pv (X k1) (Y k1) (I k1)) (Quiet.there gK (oK+k1*9) 9 48 (pml (X k1) (Y k1) (I k1)) _ _ U kR (hT om).2.1 ((hT om).2.2 k1 om) Ac U kR U _ U)<|Sy.stepDB 6 [7,8,9,10] rfl kR (λ_ _ _ _ h=>h) kR (pv (pX Q) (pY Q) (pI Q)) (qF 132 #[pv (X k1) (Y k1) (I k1)] (λw=>by rw [← Be,hQ]; exact NF w _ _ _ (hX _) (hY _)))<|sD 7 U (pv (pX S) (pY S) (pI S)) (qF 68 #[pv ax ay ai,pv (pX Q) (pY Q) (pI Q)] (λw=>by have q:=Id w ax ay ai (pX Q) (pY Q) (pI Q) hax hay (Eh _) (Eg _); rw [hSe,Be] at q; exact q))<|Sy.makeD 8 U kR kR 48 (pcs (pX S) (pY S) (pI S)) (λg=>.slice (pA g) 1 1) kF (λg2=>?_)
  refine Sy.movTD<|Sy.soleD 9 U (λQ2 hq2=>?_)
  refine Sy.appendR kR 45 48 _ _ 9 72 CH Q4 U U U U dZ _ _ U hh1 kR (pml (pX S) (pY S) (pI S)) U (QV _ _ _) 1 g2 48 kR kR (by rw [List.length_map,List.length_range]; omega) (by rw [List.length_map,List.length_range]; simp only [maxLen]; omega) (λr1 hr1=>?_)
  refine hq2 _ _<|Sy.anyOf [10] kR dZ (Sy.each1 ?_)
  refine Sy.oneQuiet U kR r1.v (Quiet.pure kF)<|sE<|Sy.in_<|Sy.then_<|Sy.region<|sP (iZ k1)<|sS (iZ (k1+1)) (qad U U U)<|sP (iZ (k1+1))<|Sy.nil ?_
  exact Sy.againT r1 om (by rw [List.range_succ,List.map_append,List.map_singleton,show fK k1=pml (pX S) (pY S) (pI S) from by rw [hfK,hS]]; exact hr1) ac4 (λw hw=>St.pickX (pre:=[(g0,48,pcs ax ay ai),(g2,48,pcs (pX S) (pY S) (pI S))]) (M:=[(g0,48,pcs ax ay ai)]) (N:=[]) [0] dZ kR hw)
end Cu
end
section
section
open Go.RowKit Go.Lib
theorem J4 (w:World) (g o cap:Nat) (l:List UInt8) (hl:l.length=32) (hg:g<w.heap.size) (hcell:∀ j u,l[j]? = some u→w.cell? ⟨g,o+j,none⟩=some (bv u)) (_:32≤cap) (_:cap≤9223372036854775807):Calls Tryz.prog 127 #[.slice (some ⟨g,o,none⟩) 32 cap] w λe w'=>e=.returned (fv (Ai l))∧Below w.heap.size w w':=by
 have HL:=Lib.hid hl
 have HG:=Lib.hid hcell
 clear hl hcell
 go_enter Tryz.func127,Tryz.ntmps127
 go_wp2_with fail
 go_loopw [4] (λi wr=>∃ k y0 y1 y2 y3:Nat,k≤32∧i=.int .i64 (k:Int)∧Hid (y0=wdB l k 0∧y1=wdB l k 1∧y2=wdB l k 2∧y3=wdB l k 3)∧Below w.heap.size w wr∧Blk wr (w.heap.size+1) 90 #[.int .u64 (y3:Int),.int .u64 (y2:Int),.int .u64 (y1:Int),.int .u64 (y0:Int)]∧Blk wr w.heap.size 90 #[.int .u64 0,.int .u64 0,.int .u64 0,.int .u64 0]) (λi _=>32 - (intOf i).toNat)
 case atStart=>exact ⟨0,0,0,0,0,by omega,rfl,Lib.hid ⟨(Br l 0).symm,(Br l 1).symm,(Br l 2).symm,(Br l 3).symm⟩,Ab w _ _,AZ w _ _ _,(Blk.new w _ _).alloc _⟩
 case round =>
  obtain ⟨k,y0,y1,y2,y3,hk,rfl,HY,hb,hP,hR⟩:=hrel
  have q3:wr.cell? ⟨w.heap.size+1,0,none⟩=some (.int .u64 (y3:Int)):=hP.cell 0
  have q2:wr.cell? ⟨w.heap.size+1,1,none⟩=some (.int .u64 (y2:Int)):=hP.cell 1
  have q1:wr.cell? ⟨w.heap.size+1,2,none⟩=some (.int .u64 (y1:Int)):=hP.cell 2
  have q0:wr.cell? ⟨w.heap.size+1,3,none⟩=some (.int .u64 (y0:Int)):=hP.cell 3
  have ff:∀ j,wr.frozen? ⟨w.heap.size+1,j,none⟩=false:=λj=>hP.frozen j
  by_cases hlt:k<32
  ·obtain ⟨c,hc⟩:∃ c,l[k]? = some c:=⟨l[k]'(by rw [HL.out]; exact hlt),List.getElem?_eq_getElem _⟩
   have HC:=Lib.hid hc
   obtain ⟨m,hm⟩:=xE c.toNat
   have hm8:m<256:=by rw [hm]; exact c.toNat_lt
   have hI:wr.cell? ⟨g,o+k,none⟩=some (.int .u8 (m:Int)):=by
    rw [hm]
    exact (hb.cell (p:=⟨g,o+k,none⟩) hg).trans (HG.out k c hc)
   have HM:=Lib.hid hm
   have HR:=Lib.hid (And.intro hb (And.intro hP hR))
   clear hb hP hR hc hk hm
   rcases (show k=0∨k=1∨k=2∨k=3∨k=4∨k=5∨k=6∨k=7∨k=8∨k=9∨k=10∨k=11∨k=12∨k=13∨k=14∨k=15∨k=16∨k=17∨k=18∨k=19∨k=20∨k=21∨k=22∨k=23∨k=24∨k=25∨k=26∨k=27∨k=28∨k=29∨k=30∨k=31 by omega) with rfl | rfl | rfl | rfl | rfl | rfl | rfl | rfl | rfl | rfl | rfl | rfl | rfl | rfl | rfl | rfl | rfl | rfl | rfl | rfl | rfl | rfl | rfl | rfl | rfl | rfl | rfl | rfl | rfl | rfl | rfl | rfl
   all_goals try rw [Nat.add_zero] at hI
   all_goals
    first
    | ((have hy:y0<72057594037927936:=by rw [HY.out.1]; exact Cx l _ 0 dZ); go_wp2; go_region; all_goals go_wp2; all_goals (refine ⟨⟨_,y0*256+m,y1,y2,y3,by decide,rfl,Lib.hid ⟨by rw [HY.out.1,HM.out]; exact (Bu l _ 0 c HC.out dZ).symm,by rw [HY.out.2.1]; exact (Ah l _ 1 dZ).symm,by rw [HY.out.2.2.1]; exact (Ah l _ 2 dZ).symm,by rw [HY.out.2.2.2]; exact (Ah l _ 3 dZ).symm⟩,(HR.out.1.setCell (by show w.heap.size≤w.heap.size+1; omega) _).drew,Blk.drew (Blk.eq_ (HR.out.2.1.set_ 3 _) (by rw [show ((y0*256+m:Nat):Int)=(y0:Int)*256+(m:Int) by omega]; rfl)),Blk.drew (HR.out.2.2.far (by show w.heap.size≠w.heap.size+1; omega) _)⟩,by simp [intOf]⟩))
    | ((have hy:y1<72057594037927936:=by rw [HY.out.2.1]; exact Cx l _ 1 dZ); go_wp2; go_region; all_goals go_wp2; all_goals (refine ⟨⟨_,y0,y1*256+m,y2,y3,by decide,rfl,Lib.hid ⟨by rw [HY.out.1]; exact (Ah l _ 0 dZ).symm,by rw [HY.out.2.1,HM.out]; exact (Bu l _ 1 c HC.out dZ).symm,by rw [HY.out.2.2.1]; exact (Ah l _ 2 dZ).symm,by rw [HY.out.2.2.2]; exact (Ah l _ 3 dZ).symm⟩,(HR.out.1.setCell (by show w.heap.size≤w.heap.size+1; omega) _).drew,Blk.drew (Blk.eq_ (HR.out.2.1.set_ 2 _) (by rw [show ((y1*256+m:Nat):Int)=(y1:Int)*256+(m:Int) by omega]; rfl)),Blk.drew (HR.out.2.2.far (by show w.heap.size≠w.heap.size+1; omega) _)⟩,by simp [intOf]⟩))
    | ((have hy:y2<72057594037927936:=by rw [HY.out.2.2.1]; exact Cx l _ 2 dZ); go_wp2; go_region; all_goals go_wp2; all_goals (refine ⟨⟨_,y0,y1,y2*256+m,y3,by decide,rfl,Lib.hid ⟨by rw [HY.out.1]; exact (Ah l _ 0 dZ).symm,by rw [HY.out.2.1]; exact (Ah l _ 1 dZ).symm,by rw [HY.out.2.2.1,HM.out]; exact (Bu l _ 2 c HC.out dZ).symm,by rw [HY.out.2.2.2]; exact (Ah l _ 3 dZ).symm⟩,(HR.out.1.setCell (by show w.heap.size≤w.heap.size+1; omega) _).drew,Blk.drew (Blk.eq_ (HR.out.2.1.set_ 1 _) (by rw [show ((y2*256+m:Nat):Int)=(y2:Int)*256+(m:Int) by omega]; rfl)),Blk.drew (HR.out.2.2.far (by show w.heap.size≠w.heap.size+1; omega) _)⟩,by simp [intOf]⟩))
    | ((have hy:y3<72057594037927936:=by rw [HY.out.2.2.2]; exact Cx l _ 3 dZ); go_wp2; go_region; all_goals go_wp2; all_goals (refine ⟨⟨_,y0,y1,y2,y3*256+m,by decide,rfl,Lib.hid ⟨by rw [HY.out.1]; exact (Ah l _ 0 dZ).symm,by rw [HY.out.2.1]; exact (Ah l _ 1 dZ).symm,by rw [HY.out.2.2.1]; exact (Ah l _ 2 dZ).symm,by rw [HY.out.2.2.2,HM.out]; exact (Bu l _ 3 c HC.out dZ).symm⟩,(HR.out.1.setCell (by show w.heap.size≤w.heap.size+1; omega) _).drew,Blk.drew (Blk.eq_ (HR.out.2.1.set_ 0 _) (by rw [show ((y3*256+m:Nat):Int)=(y3:Int)*256+(m:Int) by omega]; rfl)),Blk.drew (HR.out.2.2.far (by show w.heap.size≠w.heap.size+1; omega) _)⟩,by simp [intOf]⟩))
  ·have p1:¬ (k:Int)<32:=om
   obtain rfl:k=32:=om
   have b0:y0<18446744073709551616:=by rw [HY.out.1]; exact CK l _ _
   have b1:y1<18446744073709551616:=by rw [HY.out.2.1]; exact CK l _ _
   have b2:y2<18446744073709551616:=by rw [HY.out.2.2.1]; exact CK l _ _
   have b3:y3<18446744073709551616:=by rw [HY.out.2.2.2]; exact CK l _ _
   obtain ⟨z,hz⟩:=xE (y3+18446744073709551616*y2+340282366920938463463374607431768211456*y1+6277101735386680763835789423207666416102355444464034512896*y0)
   have fz:=Ch y3 y2 y1 y0 b3 b2 b1 b0
   rw [← hz] at fz
   have hzv:Ai l=z:=by rw [Ii l HL.out,hz,HY.out.1,HY.out.2.1,HY.out.2.2.1,HY.out.2.2.2]
   have HZ:=Lib.hid hzv
   have FZ:=Lib.hid fz.symm
   have HP:=Lib.hid hP
   have HR:=Lib.hid hR
   clear HY b0 b1 b2 b3 hz fz hzv q0 q1 q2 q3 ff hP hR
   go_wp2_with (first | ((with_reducible refine AD (d:=some 31) ?_); refine AB U _ _ U (w.heap.size+1) rfl (z) _ _ _ (HP.out) (FZ.out) AH U kZ ?_) | ((with_reducible refine AE ?_); refine AA U _ _ _ U (w.heap.size) (fcs (z)) U U _ _ (HR.out) kZ (by rfl) (AF _) ?_; intro vz hLz hqz hKz))
   exact bodyPost_ret (results_cell_row U _ _ w.heap.size _ _ (0,0) _ U hLz AH U kZ) rfl ⟨by rw [HZ.out]; rfl,hb.trans (hqz _ om)⟩
end
end
section
namespace Cu
open Go.RowKit Sy
theorem QI (w:World) (g o cp:Nat) (l:List UInt8) (hl:l.length=32) (hg:g<w.heap.size) (hc:∀ j u,l[j]? = some u→w.cell? ⟨g,o+j,none⟩=some (bv u)) (h1:32≤cp) (h2:cp≤9223372036854775807):Calls Tryz.prog 152 #[.slice (some ⟨g,o,none⟩) 32 cp] w (Gets w (.tuple #[fv (Sc.readS l).1,.bool (Sc.readS l).2])):=by
 refine Sy.enter (args:=[.slice (some ⟨g,o,none⟩) 32 cp]) Tryz.func152 U kL<|sC<|sM 42 (fcs 0) (λg0=>?_)
 refine sP (.bool false)<|sA<|sP (.slice (some ⟨g,o,none⟩) 32 cp)<|sS (fv (Ai l)) (qG 127 #[.slice (some ⟨g,o,none⟩) 32 cp] (λw hw=>J4 w g o cp l hl (Nat.lt_of_lt_of_le hg hw.below.size) (λj u hj=>(Below.cell (p:=⟨g,o+j,none⟩) hw.below hg).trans (hc j u hj)) h1 h2))<|sM 90 (fcs 0) (λg1=>?_)
 refine sW 1 g1 90 (fcs 0) (fcs (Ai l)) (wS 0 90 (fcs (Ai l)) U)<|sH (λj=>false) ?_
 refine sD 0 U (.agg NK) (qF 47 #[] (Sc.refN_any))<|sD 1 U (fv (Ai l)) (qL 1 g1 0 4 90 90 (fcs (Ai l)) U AH) ?_
 obtain ⟨b1,hb1⟩:=xE (decide (Ai l<Sc.pM))
 refine sD 2 U (.bool b1) (qF 172 #[.agg NK,fv (Ai l)] (λw=>by rw [hb1]; exact Sc.rightR_any w (Ai l) (B9 l hl)))<|sZ 3 U (.bool b1)<|sI<|Sy.seq<|sC<|sP (.slice (some ⟨g,o,none⟩) 32 cp)<|sP (.int .i64 32)<|sP (.bool false)<|sP (.bool false)<|sP (.bool b1) ?_
 cases b1
 ·refine sP (.bool true)<|sP (.bool true) ?_
  refine sG<|sT<|sC<|sP (fv 0)<|sW 0 g0 42 (fcs 0) (fcs 0) (wS 0 42 (fcs 0) rfl)<|sP (.bool false)<|sG<|Sy.ret<|Sy.then_ret ?_
  rw [show (.tuple #[fv (Sc.readS l).1,.bool (Sc.readS l).2]:Value)=.tuple #[fv 0,.bool false] from by unfold Sc.readS; rw [if_neg (of_decide_eq_false hb1.symm)]]
  exact Sy.ret2 (v:=fv 0) (u:=.bool false) rfl (.inl (Res.cell (ty':=42) g0 0 (fcs 0) _ kR kR Ak U kR kR)) (.inl (show _=_ by kernel_rfl))
 ·refine sP (.bool false)<|sP (.bool false) ?_
  refine sG<|sU<|Sy.skip<|sB<|sS (fv (Ai l)) (qL 1 g1 0 4 90 90 (fcs (Ai l)) U AH)<|sS (fv (Ai l)) (qF 60 #[fv (Ai l)] (λw=>Sc.refSc_any w (Ai l) (by first | assumption | exact Sc.mod_lt _ | exact lt4 _ | exact B9 _ (by first | assumption | exact AQ _) | decide +kernel)))<|sW 0 g0 42 (fcs 0) (fcs (Ai l)) (wS 0 42 (fcs (Ai l)) U)<|sP (.bool true)<|sG<|Sy.ret ?_
  rw [show (.tuple #[fv (Sc.readS l).1,.bool (Sc.readS l).2]:Value)=.tuple #[fv (Ai l),.bool true] from by unfold Sc.readS; rw [if_pos (of_decide_eq_true hb1.symm)]]
  exact Sy.ret2 (v:=fv (Ai l)) (u:=.bool true) rfl (.inl (Res.cell (ty':=42) g0 0 (fcs (Ai l)) _ kR kR Ak U kR kR)) (.inl (show _=_ by kernel_rfl))
theorem QD {a b:List UInt8} {u:Value} {k:Nat} (ha:a.length=32) (hb:b.length=32) (hk:k<32):(sgx (Db a b k) u).toArray.setIfInBounds (0+k*1) (bv (a.getD k 0))=(sgx (Db a b (k+1)) u).toArray:=by
 have hl:=G6 ha hb (show k≤32 by omega)
 rw [List.setIfInBounds_toArray, ← NM ha hb hk]
 unfold sgx
 rw [show 0+k*1=k by omega,List.set_append_left _ _ (by rw [List.length_map]; omega),List.map_set]
theorem Mx {a b:List UInt8} {u:Value} {k:Nat} (ha:a.length=32) (hb:b.length=32) (hk:k<32):0+k*1<(sgx (Db a b k) u).toArray.size:=by
 rw [List.size_toArray,GG (G6 ha hb om)]
 omega
theorem Sr {m:List UInt8} {g o k:Nat} {w:World} (h:∀ j u,m[j]? = some u→w.cell? ⟨g,o+j,none⟩=some (bv u)):∀ j u,(b32 m k)[j]? = some u→w.cell? ⟨g,o+32*k+j,none⟩=some (bv u):=λj u hj=>by
 have hl:=(List.getElem?_eq_some_iff.1 hj).1
 unfold b32 at hj hl
 rw [List.length_take] at hl
 rw [List.getElem?_take_of_lt om,List.getElem?_drop] at hj
 rw [Nat.add_assoc]
 exact h _ u hj
theorem PS (w:World) (A:Option Addr) (m:List UInt8) (n c:Nat) (hm:m.length=n) (hc:n≤c) (hc2:c≤9223372036854775807) (hs:Sh.Src w A m) (Z:Option Addr) (N zc:Nat) (D:Nat→Int) (hDl:∀ i, -9223372036854775808≤D i∧D i<9223372036854775808) (hN:N≤4611686018427387904) (hlz:Lst w 1 Z N (λk=>[.int .i64 (D k)])) :
  Calls Tryz.prog 89 #[.slice A n c,.slice Z N zc] w (GetsN w (DecR (Hi m D N) (m.take 32) (nmD m λi=>(D i).toNat) (λi=>(D i).toNat) N)):=by
 obtain ⟨E,hE⟩:∃ E:Nat→Nat,E=λi=>(D i).toNat:=⟨_,rfl⟩
 rw [show Hi m D N=(szZ N D && (decide (m.length=Aj E N) && IZ m E N)) by rw [hE]; rfl, ← hE]
 obtain ⟨gz,oz,hZ⟩:=hlz
 refine Sy.enter (args:=[.slice A n c,.slice Z N zc]) Tryz.func89 U kL<|sC<|sM 31 zS33.toArray (λg0=>?_)
 refine sP (.bool false)<|sG<|Sy.seq<|sC<|sP (.slice Z N zc)<|sP (iZ N) ?_
 obtain ⟨b1,hb1⟩:=xE (decide (N<1))
 refine sS (.bool b1) (qls U U U hb1)<|sP (.bool b1) ?_
 cases b1
 ·have lb1:=dN hb1
  refine sP (.slice Z N zc)<|sP (iZ N) ?_
  obtain ⟨b2,hb2⟩:=xE (decide (N>32))
  refine sS (.bool b2) (qgt U U U hb2)<|sP (.bool b2)<|sG ?_
  cases b2
  ·have lb2:=dN hb2
   refine sU<|Sy.skip<|sB<|sP (.int .i64 1)<|sG<|Sy.seq<|sC<|sP (.int .i64 0)<|sG<|Sy.block<|Sy.loopH N (λk1=>(∀ i,i<k1→1≤D i∧D i≤64)∧A4 E k1≤64*k1) (λk1=>[(0,.slice A n c),(1,.slice Z N zc),(4,ptr g0),(6,iZ (1+A4 E k1)),(7,iZ k1)]) (λk1=>[(g0,31,zS33.toArray)]) [true] (M:=[(g0,31,zS33.toArray)]) ⟨λi hi=>absurd hi (Nat.not_lt_zero _),Nat.le_refl _⟩ ac5 kR U (λk1 hk1 hh=>?_)
   obtain ⟨hh1,hh2⟩:=hh
   refine Sy.seq<|sC ?_
   obtain ⟨b3,hb3⟩:=xE (decide (k1<N))
   refine sP (iZ k1)<|sP (.slice Z N zc)<|sP (iZ N)<|sS (.bool b3) (qls U U U hb3)<|sG ?_
   cases b3
   ·have lb3:=dN hb3
    obtain rfl:N=k1:=om
    refine sU<|Sy.exit<|Sy.then_exit<|Sy.then_exit<|Sy.in_exit ?_
    have hsz:szZ N D=true:=(EJ N D).2 ⟨by omega,by omega,hh1⟩
    have hDE:∀ i,i<N→D i=((E i:Nat):Int)∧1≤E i∧E i≤64:=λi hi=>by
     have:=hh1 i hi
     rw [hE]
     show D i=(((D i).toNat:Nat):Int)∧1≤(D i).toNat∧(D i).toNat≤64
     omega
    obtain ⟨tl,htl⟩:=xE (Aj E N)
    have htl2:tl=32*(1+A4 E N):=by rw [htl]; exact Cd E N
    rw [hsz,Bool.true_and]
    refine Sy.then_<|Sy.seq<|sC ?_
    obtain ⟨b6,hb6⟩:=xE (decide (n≠tl))
    refine sP (.slice A n c)<|sP (iZ n)<|sP (iZ (1+A4 E N))<|sS (iZ tl) (qml U U U)<|sS (.bool b6) (qne U U U hb6)<|sG ?_
    cases b6
    ·have hn:n=tl:=Decidable.of_not_not (of_decide_eq_false hb6.symm)
     have hml:m.length=Aj E N:=by rw [hm,hn,htl]
     have hP:∀ k,k<N→Aj E k+32*E k≤n:=λk hk=>by rw [hn,htl]; exact GL E hk
     have hL32:∀ k,32≤Aj E k:=λk=>by rw [Cd]; omega
     have h0N:0<N:=om
     have hP0:=hP 0 h0N
     have hE0:=(hDE 0 h0N).2.1
     have hL0:Aj E 0=32:=rfl
     have hne:m≠[]:=λe=>by
      rw [e] at hm
      have:n=0:=hm.symm
      omega
     have hA:=hs hne
     obtain ⟨g,o,rfl,hg,hcl⟩:=hA
     obtain ⟨d,hd⟩:=xE (m.take 32)
     have hdl:d.length=32:=by rw [hd,List.length_take]; omega
     obtain ⟨z,hz⟩:=xE (List.replicate 32 (0:UInt8))
     have hzl:z.length=32:=by rw [hz]; exact List.length_replicate
     have hby:∀ k,k<32→w.cell? ⟨g,o+k*1,none⟩=some (bv (d.getD k 0)):=λk hk=>by
      rw [Nat.mul_one]
      refine hcl k _ ?_
      rw [hd,List.getD_eq_getElem?_getD,List.getElem?_take_of_lt hk,List.getElem?_eq_getElem om]
      rfl
     refine sU<|Sy.skip<|sB<|sP (AX (List.replicate 32 (0:UInt8)) none 0 0)<|sM 31 zS33.toArray (λg1=>?_)
     refine sW 1 g1 31 zS33.toArray (sgx (Db d z 0) (.slice none 0 0)).toArray (Writes.row 31 (sgx (Db d z 0) (.slice none 0 0)) 33 _ _ U kR (by rw [NL,hz]; kernel_rfl) kR (GG (G6 hdl hzl om)) (by rw [List.size_toArray,Ag List.length_replicate]) BV)<|sG<|Sy.seq<|sC<|sP (.int .i64 0)<|sG<|Sy.block<|Sy.loopH 32 (λ_=>True) (λk2=>[(0,.slice (some ⟨g,o,none⟩) n c),(1,.slice Z N zc),(4,ptr g0),(8,ptr g1),(9,iZ k2)]) (λk2=>[(g0,31,zS33.toArray),(g1,31,(sgx (Db d z k2) (.slice none 0 0)).toArray)]) [true,true] (M:=[(g0,31,zS33.toArray),(g1,31,(sgx (Db d z 0) (.slice none 0 0)).toArray)]) trivial ac5 kR U (λk2 hk2 _=>?_)
     refine Sy.seq<|sC ?_
     obtain ⟨b7,hb7⟩:=xE (decide (k2<32))
     refine sP (iZ k2)<|sS (.bool b7) (qls U U U hb7)<|sG ?_
     cases b7
     ·have lb7:=dN hb7
      obtain rfl:k2=32:=om
      rw [show Db d z 32=d from Ov hdl hzl]
      refine sU<|Sy.exit<|Sy.then_exit<|Sy.then_exit<|Sy.in_exit<|sB<|sP (.int .i64 32)<|sG<|Sy.seq<|sC<|sP (.int .i64 0)<|sG<|Sy.block<|Sy.loopT (Y:=(Nat→Slc)×Slc) N (λk1 y1=>[(0,.slice (some ⟨g,o,none⟩) n c),(1,.slice Z N zc),(4,ptr g0),(8,ptr g1),(10,iZ (Aj E k1)),(11,iZ k1)]) (λk1 y1=>[(g0,31,zS33.toArray),(g1,31,(sgx d y1.2.v).toArray)]++(Av y1.1 N++(y1.2.bl++[])))
       (λk1 y1=>RowsAre y1.1 42 4 (λi j=>fws (nmD m E i j)) (Bw E k1 0)∧y1.2.Is 51 1 ((List.range k1).map λi=>[(y1.1 i).v])∧(∀ i,k1≤i→y1.1 i=nilS)∧∀ i,i<k1→JK m E i=true)
       (λ_=>nilS,nilS) ⟨(RowsAre.nil _ _ _).cnt (Ea E),Slc.Is.nil _ _,λ_ _=>rfl,λi hi=>absurd hi (Nat.not_lt_zero _)⟩
       ac6 (λw hw=>by rw [EN]; exact hw) (λk1 y1 hk1 hh1=>?_)
      obtain ⟨q1,O1⟩:=y1
      dsimp only at hh1 ⊢
      obtain ⟨hr1,hO1,hn1,hk1ok⟩:=hh1
      refine Sy.seq<|sC ?_
      obtain ⟨b8,hb8⟩:=xE (decide (k1<N))
      refine sP (iZ k1)<|sP (.slice Z N zc)<|sP (iZ N)<|sS (.bool b8) (qls U U U hb8)<|sG ?_
      cases b8
      ·have lb8:=dN hb8
       obtain rfl:N=k1:=om
       obtain ⟨gO,cO,spO,hOv,hOb,hO2,hcO,hO3⟩:=hO1.open h0N
       obtain ⟨ov,ob⟩:=O1
       obtain rfl:ov=_:=hOv
       obtain rfl:ob=_:=hOb
       refine sU<|Sy.exit<|Sy.then_exit<|Sy.then_exit<|Sy.in_exit<|sB<|sS (AX d (pA gO) N cO) (Quiet.load 1 g1 0 33 31 31 (AM d (pA gO) N cO).toArray _ _ U kR kR C8 U kR _ (C_ hdl) (Ek hdl))<|sW 0 g0 31 zS33.toArray (AM d (pA gO) N cO).toArray (Writes.row 31 (AM d (pA gO) N cO) 33 _ _ U kR kR kR (Ag hdl) (by rw [List.size_toArray,Ag List.length_replicate]) BV)<|Sy.setT<|sP (.bool true)<|sG<|Sy.ret ?_
       exact BJ ((gO,51,(AO (λj=>[(q1 j).v]) N++spO).toArray)::Av q1 N) rfl (v:=AX d (pA gO) N cO) (u:=.bool true) (.inl (Res.cell (ty':=31) g0 0 (AM d (pA gO) N cO).toArray _ kR kR C8 U (by rw [List.size_toArray,Ag hdl]; kernel_rfl) rfl)) (.inl (show _=_ by kernel_rfl))
        (λw hw=>St.parts (ls:=[[(g0,31,(AM d (pA gO) N cO).toArray)],[(g1,31,(AM d (pA gO) N cO).toArray)],Av q1 N,[(gO,51,(AO (λj=>[(q1 j).v]) N++spO).toArray)]]) (ms:=[[(gO,51,(AO (λj=>[(q1 j).v]) N++spO).toArray)],Av q1 N]) [[(g0,31,(AM d (pA gO) N cO).toArray)],[(g1,31,(AM d (pA gO) N cO).toArray)]] [3,2,0,1] kR (by rfl) (by rfl) (by simp) hw)
        (.inr ⟨by rw [decide_eq_true hml,Fv hk1ok]; rfl,_,rfl,gO,cO,spO,q1,by rw [← hd],hcO,rfl,hr1⟩)
      ·have lb8:=dY hb8
       have hEk:=hDE k1 lb8
       have hPk:=hP k1 lb8
       have hLk:=hL32 k1
       refine sT<|Sy.skip<|Sy.then_<|Sy.seq<|Sy.block<|sC<|sP (.slice none 0 0)<|sG<|Sy.seq<|sC<|sP (.int .i64 0)<|sG<|Sy.block<|Sy.loopT (Y:=Slc) (E k1) (λk2 y2=>[(0,.slice (some ⟨g,o,none⟩) n c),(1,.slice Z N zc),(4,ptr g0),(8,ptr g1),(10,iZ (Aj E k1+32*k2)),(11,iZ k1),(12,y2.v),(13,iZ k2)]) (λk2 y2=>[(g0,31,zS33.toArray),(g1,31,(sgx d O1.v).toArray)]++(y2.bl++(Av q1 N++(O1.bl++[]))))
        (λk2 y2=>y2.Is 42 4 ((List.range k2).map λj=>fws (nmD m E k1 j))∧∀ j,j<k2→nmD m E k1 j<Sc.pM) nilS ⟨Slc.Is.nil _ _,λi hi=>absurd hi (Nat.not_lt_zero _)⟩
        ac8 (λw hw=>hw) (λk2 y2 hk2 hh2'=>?_)
       obtain ⟨hy2,hok2⟩:=hh2'
       refine Sy.seq<|sC ?_
       obtain ⟨b9,hb9⟩:=xE (decide (k2<E k1))
       refine sP (iZ k2)<|sP (.slice Z N zc)<|sP (iZ k1)<|sS (.pointer (some ⟨gz,oz+k1*1,none⟩)) (Quiet.pure (AJ 131 _ _ _ Z gz oz N zc k1 1 .i64 (hZ om).1 U U U C9 kF om))<|sS (iZ (E k1)) (Quiet.thereOne gz (oz+k1*1) 3 _ _ U kR (hZ om).2.1 _ (AR ((hZ om).2.2 k1 om) 0 (by show some (Value.int .i64 (D k1))=_; rw [hEk.1])) uy3 U)<|sS (.bool b9) (qls U U U hb9)<|sG ?_
       cases b9
       ·have lb9:=dN hb9
        obtain ⟨e1,he1⟩:=xE (E k1)
        obtain rfl:k2=E k1:=om
        have hok1:JK m E k1=true:=List.all_eq_true.2 λj hj=>decide_eq_true (hok2 j (List.mem_range.1 hj))
        obtain ⟨gk,ck,sp,hkv,hkb,hk1s,hk2s,hk3s⟩:=hy2.open om
        obtain ⟨rv,rb⟩:=y2
        obtain rfl:rv=_:=hkv
        obtain rfl:rb=_:=hkb
        obtain ⟨bk,hbk⟩:∃ b:Nat×TypeId×Array Value,b=(gk,42,(AO (λj=>fws (nmD m E k1 j)) (E k1)++sp).toArray):=⟨_,rfl⟩
        rw [← hbk] at hy2 ⊢
        refine sU<|Sy.exit<|Sy.then_exit<|Sy.then_exit<|Sy.in_exit<|Sy.then_<|Sy.region<|Sy.permS (M:=[(g0,31,zS33.toArray),(g1,31,(sgx d O1.v).toArray)]++(O1.bl++([bk]++(Av q1 N++[])))) (Sy.flat_perm (ls:=[[(g0,31,zS33.toArray),(g1,31,(sgx d O1.v).toArray)],[bk],Av q1 N,O1.bl]) (ms:=[[(g0,31,zS33.toArray),(g1,31,(sgx d O1.v).toArray)],O1.bl,[bk],Av q1 N]) [0,3,1,2] kZ (by rfl) (by simp) (by simp))<|sP (pT g1 32)<|sS O1.v (Quiet.cell 1 g1 32 31 29 (sgx d O1.v).toArray _ _ U kR kR B4 U _ (OD hdl))<|sP (.slice (pA gk) (E k1) ck)<|Sy.make kR 51 #[.slice (pA gk) (E k1) ck] (λg=>.slice (pA g) 1 1) (λ_=>kR) (λg7=>?_)
        refine Sy.movT<|Sy.appendR kR 29 51 _ _ 1 24 B4 FD U U U U dZ _ _ U hO1 kR [.slice (pA gk) (E k1) ck] rfl (Er _ _ _) 2 g7 51 kR kR (by rw [List.length_map,List.length_range]; omega) (by rw [List.length_map,List.length_range]; simp only [maxLen]; omega) (λr1 hr1'=>?_)
        refine sP (pT g1 32)<|sW 1 g1 31 (sgx d O1.v).toArray (sgx d r1.v).toArray (Writes.one 32 29 r1.v _ _ U kR kR kR hr1'.cells.1 hr1'.cells.2 (OC hdl) (L6 hdl))<|Sy.setT<|Sy.nil<|Sy.in_<|Sy.then_<|Sy.region<|sP (iZ k1)<|sS (iZ (k1+1)) (qad U U U)<|sP (iZ (k1+1))<|Sy.nil ?_
        have eL:Aj E (k1+1)=Aj E k1+32*E k1:=by show Aj E k1+E k1*32=_; omega
        exact Sy.againT (CO q1 k1 ⟨.slice (pA gk) (E k1) ck,[bk]⟩,r1) om
         ⟨RowsAre.full hr1 hy2,by rw [List.range_succ,List.map_append,J_]; show Slc.Is _ _ _ (_++[[(CO q1 k1 _ k1).v]]); rw [Cm]; exact hr1',λi hi=>by show CO _ _ _ i=nilS; rw [DO om]; exact hn1 i om,
          λi hi=>(Nat.lt_succ_iff_lt_or_eq.1 hi).elim (hk1ok i) (λh=>by rw [h]; exact hok1)⟩
         (all_cons kR (all_cons kR (all_cons kR (all_cons kR (all_cons (by dsimp only; rw [eL]; kernel_rfl) ac1)))))
         (λw hw=>by
          have q:=St.row_in (i:=k1) (v:=.slice (pA gk) (E k1) ck) (M:=[(g0,31,zS33.toArray),(g1,31,(sgx d r1.v).toArray)]) (b:=bk) (n:=N) (r:=q1) (R:=r1.bl++[]) lb8 (hn1 k1 (Nat.le_refl _)) (St.parts (ls:=[[(g0,31,zS33.toArray)],[(g1,31,(sgx d r1.v).toArray)],[(g7,51,#[.slice (pA gk) (E k1) ck])],r1.bl,[bk],Av q1 N]) (ms:=[[(g0,31,zS33.toArray)],[(g1,31,(sgx d r1.v).toArray)],[bk],Av q1 N,r1.bl]) [[(g7,51,#[.slice (pA gk) (E k1) ck])]] [0,1,4,5,3,2] kR (by rfl) (by simp) (by simp) hw)
          exact q)
       ·have lb9:=dY hb9
        obtain ⟨q,hq⟩:=xE (1+A4 E k1+k2)
        have hq2:Aj E k1+32*k2=32*q:=by rw [Cd,hq]; omega
        have hqn:nmD m E k1 k2=nmB m q:=by rw [hq]; rfl
        obtain ⟨bl,hbl⟩:=xE (b32 m q)
        have hl32:bl.length=32:=by rw [hbl]; unfold b32; rw [List.length_take,List.length_drop]; omega
        have hbc:∀ j u,bl[j]? = some u→w.cell? ⟨g,o+32*q+j,none⟩=some (bv u):=by rw [hbl]; exact Sr hcl
        obtain ⟨kx,hkx⟩:=xE ((Sc.readS bl).1)
        obtain ⟨c1,hc1⟩:=xE ((Sc.readS bl).2)
        refine sT<|Sy.skip<|Sy.then_<|Sy.seq<|Sy.block<|sC<|sP (.slice (some ⟨g,o,none⟩) n c)<|sP (iZ (Aj E k1+32*k2))<|sP (iZ (Aj E k1+32*k2))<|sS (iZ (Aj E k1+32*k2+32)) (qad U U U) <|
         sS (.slice (some ⟨g,o+32*q,none⟩) 32 (c - 32*q)) (Quiet.pure (λw=>(PD _ _ _ _ g o n c (Aj E k1+32*k2) (Aj E k1+32*k2+32) 1 .i64 .i64 U U U U CI kF om om om w).trans (by rw [hq2,Nat.mul_one,Nat.add_sub_cancel_left]))) <|
         sS (.tuple #[fv kx,.bool c1]) (qG 152 #[.slice (some ⟨g,o+32*q,none⟩) 32 (c - 32*q)] (λw' hw=>by rw [hkx,hc1]; exact QI w' g (o+32*q) (c - 32*q) bl hl32 (Nat.lt_of_lt_of_le hg hw.below.size) (λj u hj=>(Below.cell (p:=⟨g,o+32*q+j,none⟩) hw.below hg).trans (hbc j u hj)) om om)) <|
         sP (.tuple #[fv kx,.bool c1])<|sP (fv kx)<|sP (.bool c1) ?_
        refine sM 42 (fcs 0) (λg4=>?_)
        refine Sy.movT<|sW 2 g4 42 (fcs 0) (fcs kx) (wS 0 42 (fcs kx) rfl)<|Sy.setT<|sP (.bool c1)<|sG<|Sy.seq<|sC<|sP (.bool c1) ?_
        cases c1
        ·have hno:¬ nmB m q<Sc.pM:=λh=>by
          unfold Sc.readS at hc1
          rw [show Ai bl=nmB m q from by rw [hbl]; rfl,if_pos h] at hc1
          cases hc1
         have hrow:JK m E k1=false:=List.all_eq_false.2 ⟨k2,List.mem_range.2 lb9,by rw [hqn,decide_eq_false hno]; decide⟩
         rw [KS lb8 hrow,Bool.and_false]
         refine sP (.bool true)<|sG<|sT<|sC<|sP (AX (List.replicate 32 (0:UInt8)) none 0 0)<|sW 0 g0 31 zS33.toArray zS33.toArray (Writes.row 31 zS33 33 _ _ U kR kR kR (Ag List.length_replicate) (by rw [List.size_toArray,Ag List.length_replicate]) BV)<|Sy.setT<|sP (.bool false)<|sG<|Sy.ret ?_
         repeat' first | refine Sy.then_ret ?_ | refine Sy.in_ret ?_
         exact BJ [] rfl (v:=AX (List.replicate 32 (0:UInt8)) none 0 0) (u:=.bool false) (.inl (Res.cell (ty':=31) g0 0 zS33.toArray _ kR kR C8 U (by rw [List.size_toArray,Ag List.length_replicate]; kernel_rfl) rfl)) (.inl (show _=_ by kernel_rfl)) (λ_ hw=>hw.none) (.inl ⟨rfl,rfl,rfl⟩)
        ·obtain ⟨hlt,hkv⟩:nmB m q<Sc.pM∧kx=nmB m q:=by
          unfold Sc.readS at hc1 hkx
          rw [show Ai bl=nmB m q from by rw [hbl]; rfl] at hc1 hkx
          by_cases h:nmB m q<Sc.pM
          ·rw [if_pos h] at hkx; exact ⟨h,hkx⟩
          ·rw [if_neg h] at hc1; cases hc1
         refine sP (.bool false)<|sG<|sU<|Sy.skip<|sB<|sP y2.v<|sS (fv kx) (qL 2 g4 0 4 42 42 (fcs kx) rfl Ak)<|Sy.make kR 42 (fcs kx) (λg=>.slice (pA g) 1 1) (λ_=>kR) (λg5=>?_)
         refine Sy.movT<|Sy.appendR kR 51 42 _ _ 4 32 B3 Du U U U U dZ _ _ U hy2 kR (fws kx) rfl (C2 _) 3 g5 42 kR kR (by rw [List.length_map,List.length_range]; omega) (by rw [List.length_map,List.length_range]; simp only [maxLen]; omega) (λr hr=>?_)
         refine sP r.v<|sG<|Sy.region<|sP (iZ (Aj E k1+32*k2))<|sS (iZ (Aj E k1+32*(k2+1))) (qad U U U)<|sP (iZ (Aj E k1+32*(k2+1)))<|Sy.nil<|Sy.in_<|Sy.then_<|Sy.region<|sP (iZ k2)<|sS (iZ (k2+1)) (qad U U U)<|sP (iZ (k2+1))<|Sy.nil ?_
         exact Sy.againT r om ⟨by rw [List.range_succ,List.map_append,List.map_singleton,hqn, ← hkv]; exact hr,λj hj=>(Nat.lt_succ_iff_lt_or_eq.1 hj).elim (hok2 j) (λh=>by rw [h,hqn]; exact hlt)⟩
          ac8 (λw hw=>St.pick [0,1] dZ kZ hw)
     ·have lb7:=dY hb7
      refine sT<|Sy.skip<|Sy.then_<|Sy.seq<|Sy.block<|Sy.region<|sP (iZ k2)<|sP (.slice (some ⟨g,o,none⟩) n c)<|sP (iZ k2)<|sS (.pointer (some ⟨g,o+k2*1,none⟩)) (Quiet.pure (BT 24 _ _ _ g o n c k2 1 .i64 U U U CI kF om))<|sS (bv (d.getD k2 0)) (Quiet.thereOne g (o+k2*1) 5 _ _ U kR hg _ (hby k2 lb7) uy5 U)<|sP (pT g1 0) <|
       sS (.pointer (some ⟨g1,0+k2*1,none⟩)) (Quiet.pure (Au 23 _ _ _ g1 0 _ k2 1 .i64 U U U D6 kF om))<|sW 1 g1 31 (sgx (Db d z k2) (.slice none 0 0)).toArray (sgx (Db d z (k2+1)) (.slice none 0 0)).toArray (Writes.one (0+k2*1) 5 (bv (d.getD k2 0)) _ _ U kR kR kR U U (Mx hdl hzl lb7) (QD hdl hzl lb7)) ?_
      refine Sy.nil<|Sy.in_<|Sy.then_<|Sy.region<|sP (iZ k2)<|sS (iZ (k2+1)) (qad U U U)<|sP (iZ (k2+1))<|Sy.nil ?_
      exact Sy.againH [true,true] (M:=[(g0,31,zS33.toArray),(g1,31,(sgx (Db d z (k2+1)) (.slice none 0 0)).toArray)]) om trivial ac5 kR U
    ·have hn:=dY hb6
     rw [show decide (m.length=Aj E N)=false from decide_eq_false (by rw [hm, ← htl]; exact hn),Bool.false_and]
     refine sT<|sC<|sP (AX (List.replicate 32 (0:UInt8)) none 0 0)<|sW 0 g0 31 zS33.toArray zS33.toArray (Writes.row 31 zS33 33 _ _ U kR kR kR (Ag List.length_replicate) (by rw [List.size_toArray,Ag List.length_replicate]) BV)<|sP (.bool false)<|sG<|Sy.ret ?_
     repeat' first | refine Sy.then_ret ?_ | refine Sy.in_ret ?_
     exact BJ [] rfl (v:=AX (List.replicate 32 (0:UInt8)) none 0 0) (u:=.bool false) (.inl (Res.cell (ty':=31) g0 0 zS33.toArray _ kR kR C8 U (by rw [List.size_toArray,Ag List.length_replicate]; kernel_rfl) rfl)) (.inl (show _=_ by kernel_rfl)) (λ_ hw=>hw.none) (.inl ⟨rfl,rfl,rfl⟩)
   ·have lb3:=dY hb3
    have hD9:=hDl k1
    refine sT<|Sy.skip<|Sy.then_<|Sy.seq<|Sy.block<|Sy.seq<|sC ?_
    obtain ⟨b4,hb4⟩:=xE (decide (D k1<1))
    refine sP (.slice Z N zc)<|sP (iZ k1)<|sS (.pointer (some ⟨gz,oz+k1*1,none⟩)) (Quiet.pure (AJ 131 _ _ _ Z gz oz N zc k1 1 .i64 (hZ om).1 U U U C9 kF om))<|sS (.int .i64 (D k1)) (Quiet.thereOne gz (oz+k1*1) 3 _ _ U kR (hZ om).2.1 _ (AR ((hZ om).2.2 k1 om) 0 U) uy3 U)<|sS (.bool b4) (Quiet.pure (AU .lss _ _ _ .i64 _ _ _ U U U (JD _ _ _ _ _ hb4.symm)))<|sP (.bool b4) ?_
    cases b4
    ·have lb4:=dN hb4
     obtain ⟨b5,hb5⟩:=xE (decide (D k1>64))
     refine sP (.slice Z N zc)<|sP (iZ k1)<|sS (.pointer (some ⟨gz,oz+k1*1,none⟩)) (Quiet.pure (AJ 131 _ _ _ Z gz oz N zc k1 1 .i64 (hZ om).1 U U U C9 kF om))<|sS (.int .i64 (D k1)) (Quiet.thereOne gz (oz+k1*1) 3 _ _ U kR (hZ om).2.1 _ (AR ((hZ om).2.2 k1 om) 0 U) uy3 U)<|sS (.bool b5) (Quiet.pure (AU .gtr _ _ _ .i64 _ _ _ U U U (C1 _ _ _ _ _ hb5.symm)))<|sP (.bool b5)<|sG ?_
     cases b5
     ·have lb5:=dN hb5
      have hEk:D k1=((E k1:Nat):Int)∧E k1≤64:=by
       rw [hE]
       show D k1=(((D k1).toNat:Nat):Int)∧(D k1).toNat≤64
       omega
      have hsu:A4 E (k1+1)=A4 E k1+E k1:=rfl
      refine sU<|Sy.skip<|Sy.then_<|Sy.region<|sP (iZ (1+A4 E k1))<|sP (.slice Z N zc)<|sP (iZ k1)<|sS (.pointer (some ⟨gz,oz+k1*1,none⟩)) (Quiet.pure (AJ 131 _ _ _ Z gz oz N zc k1 1 .i64 (hZ om).1 U U U C9 kF om))<|sS (iZ (E k1)) (Quiet.thereOne gz (oz+k1*1) 3 _ _ U kR (hZ om).2.1 _ (AR ((hZ om).2.2 k1 om) 0 (by show some (Value.int .i64 (D k1))=_; rw [hEk.1])) uy3 U)<|sS (iZ (1+A4 E (k1+1))) (qad U U U)<|sP (iZ (1+A4 E (k1+1)))<|Sy.nil<|Sy.in_<|Sy.then_<|Sy.region<|sP (iZ k1)<|sS (iZ (k1+1)) (qad U U U)<|sP (iZ (k1+1))<|Sy.nil ?_
      exact Sy.againH [true] (M:=[(g0,31,zS33.toArray)]) om ⟨λi hi=>(Nat.lt_succ_iff_lt_or_eq.1 hi).elim (hh1 i) (λh=>by rw [h]; omega),by omega⟩ ac5 kR U
     ·have lb5:=dY hb5
      rw [show szZ N D=false from by rw [← Bool.not_eq_true,EJ]; intro q; have:=q.2.2 k1 lb3; omega,Bool.false_and]
      refine sT<|sC<|sP (AX (List.replicate 32 (0:UInt8)) none 0 0)<|sW 0 g0 31 zS33.toArray zS33.toArray (Writes.row 31 zS33 33 _ _ U kR kR kR (Ag List.length_replicate) (by rw [List.size_toArray,Ag List.length_replicate]) BV)<|sP (.bool false)<|sG<|Sy.ret ?_
      repeat' first | refine Sy.then_ret ?_ | refine Sy.in_ret ?_
      exact BJ [] rfl (v:=AX (List.replicate 32 (0:UInt8)) none 0 0) (u:=.bool false) (.inl (Res.cell (ty':=31) g0 0 zS33.toArray _ kR kR C8 U (by rw [List.size_toArray,Ag List.length_replicate]; kernel_rfl) rfl)) (.inl (show _=_ by kernel_rfl)) (λ_ hw=>hw.none) (.inl ⟨rfl,rfl,rfl⟩)
    ·have lb4:=dY hb4
     rw [show szZ N D=false from by rw [← Bool.not_eq_true,EJ]; intro q; have:=q.2.2 k1 lb3; omega,Bool.false_and]
     refine sN<|sN<|sN<|sN<|sN<|sP (.bool true)<|sG<|sT<|sC<|sP (AX (List.replicate 32 (0:UInt8)) none 0 0)<|sW 0 g0 31 zS33.toArray zS33.toArray (Writes.row 31 zS33 33 _ _ U kR kR kR (Ag List.length_replicate) (by rw [List.size_toArray,Ag List.length_replicate]) BV)<|sP (.bool false)<|sG<|Sy.ret ?_
     repeat' first | refine Sy.then_ret ?_ | refine Sy.in_ret ?_
     exact BJ [] rfl (v:=AX (List.replicate 32 (0:UInt8)) none 0 0) (u:=.bool false) (.inl (Res.cell (ty':=31) g0 0 zS33.toArray _ kR kR C8 U (by rw [List.size_toArray,Ag List.length_replicate]; kernel_rfl) rfl)) (.inl (show _=_ by kernel_rfl)) (λ_ hw=>hw.none) (.inl ⟨rfl,rfl,rfl⟩)
  ·have lb2:=dY hb2
   rw [Re lb2,Bool.false_and]
   refine sT<|sC<|sP (AX (List.replicate 32 (0:UInt8)) none 0 0)<|sW 0 g0 31 zS33.toArray zS33.toArray (Writes.row 31 zS33 33 _ _ U kR kR kR (Ag List.length_replicate) (by rw [List.size_toArray,Ag List.length_replicate]) BV)<|sP (.bool false)<|sG<|Sy.ret ?_
   repeat' first | refine Sy.then_ret ?_ | refine Sy.in_ret ?_
   exact BJ [] rfl (v:=AX (List.replicate 32 (0:UInt8)) none 0 0) (u:=.bool false) (.inl (Res.cell (ty':=31) g0 0 zS33.toArray _ kR kR C8 U (by rw [List.size_toArray,Ag List.length_replicate]; kernel_rfl) rfl)) (.inl (show _=_ by kernel_rfl)) (λ_ hw=>hw.none) (.inl ⟨rfl,rfl,rfl⟩)
 ·have lb1:=dY hb1
  rw [Rf lb1,Bool.false_and]
  refine sN<|sN<|sN<|sP (.bool true)<|sG<|sT<|sC<|sP (AX (List.replicate 32 (0:UInt8)) none 0 0)<|sW 0 g0 31 zS33.toArray zS33.toArray (Writes.row 31 zS33 33 _ _ U kR kR kR (Ag List.length_replicate) (by rw [List.size_toArray,Ag List.length_replicate]) BV)<|sP (.bool false)<|sG<|Sy.ret ?_
  repeat' first | refine Sy.then_ret ?_ | refine Sy.in_ret ?_
  exact BJ [] rfl (v:=AX (List.replicate 32 (0:UInt8)) none 0 0) (u:=.bool false) (.inl (Res.cell (ty':=31) g0 0 zS33.toArray _ kR kR C8 U (by rw [List.size_toArray,Ag List.length_replicate]; kernel_rfl) rfl)) (.inl (show _=_ by kernel_rfl)) (λ_ hw=>hw.none) (.inl ⟨rfl,rfl,rfl⟩)
end Cu
end
section
namespace Cu
open Go.RowKit Sy
theorem Pk {n:Nat} (h:n<1∨n>64):Ee n=false:=by
 unfold Ee
 rcases h with h | h
 ·rw [decide_eq_false (by omega:¬ 1≤n)]; rfl
 ·rw [decide_eq_false (by omega:¬ n≤64),Bool.and_false]
theorem Mp (w:World) (A:Option Addr) (n c:Nat) (X Y:Nat→Nat) (I:Nat→Bool) (hX:∀ k,X k<K4) (hY:∀ k,Y k<K4) (hn:n≤9223372036854775807) (ax ay:Nat) (ai:Bool) (hax:ax<K4) (hay:ay<K4) (B:Option Addr) (m:List UInt8) (q cp:Nat) (hm:m.length=q) (hcp:q≤cp) (hcp2:cp≤9223372036854775807) (hs:Sh.Src w B m)
  (hlk:Lst w 9 A n (λk=>pml (X k) (Y k) (I k))) (htr:Sh.TabAt w 0) :
  Calls Tryz.prog 35 #[.slice A n c,pv ax ay ai,.slice B q cp] w (Gets w (.bool (sjB ax ay ai X Y I n m))):=by
 unfold sjB
 refine Sy.enter (args:=[.slice A n c,pv ax ay ai,.slice B q cp]) Tryz.func35 U kL<|sC<|sM 48 (pcs ax ay ai) (λg0=>?_)
 refine sP (.bool false)<|sG<|Sy.seq<|sC ?_
 obtain ⟨b0,hb0⟩:=xE (decide (n<1))
 refine sP (.slice A n c)<|sP (iZ n)<|sS (.bool b0) (qls U U U hb0)<|sP (.bool b0) ?_
 cases b0
 ·have lb0:=dN hb0
  obtain ⟨b1,hb1⟩:=xE (decide (n>64))
  refine sP (.slice A n c)<|sP (iZ n)<|sS (.bool b1) (qgt U U U hb1)<|sP (.bool b1)<|sP (.bool b1) ?_
  cases b1
  ·have lb1:=dN hb1
   have hn64:n≤64:=om
   have hn1:1≤n:=om
   have hn:n≤4611686018427387904:=Nat.le_trans hn64 dZ
   have ha:Ee n=true:=alw_iff.2 ⟨hn1,hn64⟩
   obtain ⟨b2,hb2⟩:=xE (decide (q=0))
   rw [ha,show decide (m.length=0)=b2 from by rw [hm,hb2]]
   refine sP (.slice B q cp)<|sP (iZ q)<|sS (.bool b2) (qeq U U U hb2)<|sP (.bool b2)<|sP (.bool b2) ?_
   cases b2
   ·have hq0:=dN hb2
    have hne:m≠[]:=λe=>by rw [e] at hm; exact hq0 hm.symm
    have hA:=hs hne
    obtain ⟨g,o,rfl,hg,hcl⟩:=hA
    obtain ⟨u0,hu0⟩:=xE (m.getD 0 0)
    have h0:m[0]? = some u0:=by
     rw [hu0,List.getD_eq_getElem?_getD,List.getElem?_eq_getElem om]
     rfl
    rw [← hu0]
    obtain ⟨b3,hb3⟩:=xE (decide (u0.toNat≠n))
    have hu:=u0.toNat_lt
    rw [← hb3]
    refine sP (.slice (some ⟨g,o,none⟩) q cp)<|sS (.pointer (some ⟨g,o+0*1,none⟩)) (Quiet.pure (BT 24 _ _ _ g o q cp 0 1 .i64 U U U CI kF om))<|sS (bv u0) (Quiet.thereOne g (o+0*1) 5 _ _ U kR hg _ (hcl 0 u0 h0) uy5 U)<|sS (iZ u0.toNat) (Quiet.pure (λw=>KV w _ _ _ u0 U U)) <|
     sP (.slice A n c)<|sP (iZ n)<|sS (.bool b3) (qne U U U hb3)<|sP (.bool b3) ?_
    refine sG ?_
    cases b3
    ·obtain ⟨E,hE⟩:∃ E:Nat→Nat,E=λ_=>n:=⟨_,rfl⟩
     have hDI:(λ_:Nat=>(((n:Nat):Int)).toNat)=E:=by rw [hE]; exact funext λ_=>Int.toNat_natCast _
     obtain ⟨b4,hb4⟩:=xE (Hi (m.drop 1) (λ_=>((n:Nat):Int)) 1)
     obtain ⟨d0,hd0_⟩:=xE (uD true b4 ((m.drop 1).take 32))
     obtain ⟨N0,hN0_⟩:=xE (uN true b4 1)
     obtain ⟨s0,hs0_⟩:=xE (nmD (m.drop 1) E)
     have hN0:N0≤1:=by rw [hN0_]; exact Rb
     have hd0:d0.length=32:=by
      rw [hd0_]
      unfold uD
      cases b4 with
      | false=>exact List.length_replicate
      | true=>have:=(IY hb4.symm).2.2.1; show ((m.drop 1).take 32).length=32; rw [List.length_take]; omega
     obtain ⟨fK,hfK⟩:∃ f:Nat→List Value,f=(λj=>pml (pX (BF ax ay ai (X j) (Y j) (I j))) (pY (BF ax ay ai (X j) (Y j) (I j))) (pI (BF ax ay ai (X j) (Y j) (I j)))):=⟨_,rfl⟩
     have hf9:∀ j,(fK j).length=9:=λj=>by rw [hfK]; rfl
     unfold sjV
     rw [← hb4]
     obtain ⟨A2,hA2⟩:∃ a:Addr,a=⟨g,if cp=1 then o else o+1*1,none⟩:=⟨_,rfl⟩
     have hs2:Sh.Src w (some A2) (m.drop 1):=by rw [hA2]; exact IB hm om hcp hcl hg
     refine sU<|Sy.skip<|sB<|sP (.slice (some ⟨g,o,none⟩) q cp)<|sS (.slice (some A2) (q - 1) (cp - 1)) (Quiet.pure (λw=>by rw [hA2]; exact Fs _ _ _ g o q cp 1 1 .i64 U U U CI kF om w))<|sP (.slice A n c)<|sP (iZ n)<|Sy.make kR 3 #[iZ n] (λg=>.slice (pA g) 1 1) kF (λg1=>?_)
     refine Sy.callN kR 89 #[.slice (some A2) (q - 1) (cp - 1),.slice (pA g1) 1 1] kF (CX (Base.of w) d0 N0 E s0 (.bool b4)) (λw' hw=>by
      have q0:=PS w' (some A2) (m.drop 1) (q - 1) (cp - 1) (by rw [List.length_drop,hm]) om om (hs2.below hw.below) (pA g1) 1 1 (λ_=>((n:Nat):Int)) (λ_=>om) dZ (DT (hw.get (i:=1) rfl) rfl)
      rw [hDI, ← hb4] at q0
      rw [hd0_,hN0_,hs0_]
      exact Calls.mono q0 (λe w' ⟨v,M,q1,q2,q3⟩=>⟨v,M,q1,DecR.uniC q2,q3⟩)) (λv M1 hR0=>?_)
     obtain ⟨W1,c1,sa1,sc1,rfl,hU1⟩:=hR0
     refine sP (.tuple #[AX d0 W1 N0 c1,.bool b4])<|sP (AX d0 W1 N0 c1)<|sP (.bool b4)<|sM 31 zS33.toArray (λg2=>?_)
     refine Sy.movT<|sW 2 g2 31 zS33.toArray (AM d0 W1 N0 c1).toArray (Writes.row 31 (AM d0 W1 N0 c1) 33 _ _ U kR kR kR (Ag hd0) (by rw [List.size_toArray,Ag List.length_replicate]) BV)<|Sy.setT<|sP (.bool b4)<|sG<|Sy.seq<|sC<|sP (.bool b4)<|sP (.bool (!b4))<|sG ?_
     cases b4
     ·refine sT<|sC ?_
      refine sP (.bool false)<|sG<|Sy.ret<|Sy.then_ret ?_
      exact rV (.bool false) rfl
     ·obtain rfl:1=N0:=hN0_.symm
      obtain ⟨bV,hbV⟩:=xE (vfB (Aw (dec ax ay ai)) 1 (λ_=>n) (sjX ax ay ai X Y I) (sjY ax ay ai X Y I) (sjI ax ay ai X Y I) s0 d0 1 (λ_=>n))
      refine sU<|Sy.skip<|sR (λj=>false) ?_
      refine sD 0 U (pv ax ay ai) (qL 0 g0 0 9 48 48 (pcs ax ay ai) rfl Ac)<|sZ 2 U (.slice A n c)<|sD 3 U (pv ax ay ai) (qL 0 g0 0 9 48 48 (pcs ax ay ai) rfl Ac)<|sD 5 U (AX d0 W1 1 c1) (Quiet.load 2 g2 0 33 31 31 (AM d0 W1 1 c1).toArray _ _ U kR kR C8 U kR _ (C_ hd0) (Ek hd0))<|Sy.callND 1 U kR kR 42 #[pv ax ay ai] kF (λvq Mq=>∃ (g:Nat) (sp:List Value) (cap:Nat),vq=.slice (pA g) 33 cap∧(33≤cap∧cap≤9223372036854775807)∧Mq=[(g,5,((Aw (dec ax ay ai)).map bv++sp).toArray)]) (λw _=>Hh w ax ay ai hax hay) (λv M hR0=>?_)
      obtain ⟨gt,spt,ct,rfl,hct,rfl⟩:=hR0
      refine Sy.callND 4 U kR kR 87 #[.slice A n c,pv ax ay ai] kF (RgL fK n) (λw hw=>by rw [hfK]; exact OO w A n c X Y I hX hY ax ay ai hax hay hn64 (hlk.below hw.below)) (λv M hR0=>?_)
      obtain ⟨r,gr,rfl,rfl,hr⟩:=hR0
      obtain ⟨ga,ca,spa,hrv,hrb,_,hca,hca2⟩:=hr.open hn1
      rw [hrv,hrb]
      refine sD 6 U (.bool bV) (qG 80 #[.slice (pA gt) 33 ct,.slice (pA gr) 1 1,AX d0 W1 1 c1] (λw' hw=>by
       have h1:=(hw.blk gt 5 ((Aw (dec ax ay ai)).map bv++spt).toArray (by simp)).2
       have h2:=Iy hf9 hw (g:=ga) (e:=48) (m:=n) (sp:=spa) (by simp)
       have h3:=(hw.blk gr 45 #[.slice (pA ga) n ca] (by simp)).2
       have u:=hU1.2 w' _ hw (λb hb=>by simp only [List.mem_append]; exact .inl (.inl (.inr hb)))
       rw [hE] at u
       have q0:=Jc w' (pA gt) (Aw (dec ax ay ai)) 33 ct (Ap _) dZ hct.1 hct.2 (EK h1) (pA gr) 1 1 (λ_=>some ⟨ga,0,none⟩) (λ_=>n) (λ_=>ca) (sjX ax ay ai X Y I) (sjY ax ay ai X Y I) (sjI ax ay ai X Y I) (λ_ _=>Eh _) (λ_ _=>Eg _) dZ (λ_=>hn) (DT h3 U) (λi _=>by rw [hfK] at h2; exact h2) d0 hd0 W1 1 c1 sa1 (λ_=>n) sc1 s0 (λi k=>by rw [hs0_]; exact Ty _ _) dZ (λ_ _=>hn) u.1 u.2 (htr.below hw.below htr.lt)
       rw [hbV]
       exact q0))<|sZ 7 U (.bool bV) ?_
      refine sI<|Sy.ret ?_
      rw [hs0_,show d0=(m.drop 1).take 32 from hd0_,hE] at hbV
      rw [← hbV]
      exact rV (.bool bV) rfl
    ·refine sT<|sC ?_
     refine sP (.bool false)<|sG<|Sy.ret<|Sy.then_ret ?_
     exact rV (.bool false) rfl
   ·refine sN<|sN<|sN<|sN<|sN<|sN<|sN<|sP (.bool true) ?_
    refine sG<|sT<|sC<|sP (.bool false)<|sG<|Sy.ret<|Sy.then_ret ?_
    exact rV (.bool false) rfl
  ·have lb1:=dY hb1
   rw [Pk (.inr lb1)]
   refine sN<|sN<|sN<|sP (.bool true)<|sP (.bool true)<|sN<|sN<|sN<|sN<|sN<|sN<|sN<|sP (.bool true)<|sG<|sT<|sC<|sP (.bool false)<|sG<|Sy.ret<|Sy.then_ret ?_
   exact rV (.bool false) rfl
 ·have lb0:=dY hb0
  rw [Pk (.inl lb0)]
  refine sN<|sN<|sN<|sP (.bool true)<|sP (.bool true)<|sN<|sN<|sN<|sP (.bool true)<|sP (.bool true)<|sN<|sN<|sN<|sN<|sN<|sN<|sN<|sP (.bool true)<|sG<|sT<|sC<|sP (.bool false)<|sG<|Sy.ret<|Sy.then_ret ?_
  exact rV (.bool false) rfl
end Cu
end
section
namespace Cu
open Go.RowKit Sy
theorem law_surjectverifies (w:World) (A:Option Addr) (n c:Nat) (X Y:Nat→Nat) (I:Nat→Bool) (hX:∀ k,X k<K4) (hY:∀ k,Y k<K4) (hn:n≤9223372036854775807) (hlk:Lst w 9 A n (λk=>pml (X k) (Y k) (I k))) (ax ay:Nat) (ai:Bool) (hax:ax<K4) (hay:ay<K4) (B:Option Addr) (m:List UInt8) (q cp:Nat) (hm:m.length=q) (hq9:q≤999000000) (hcp:q≤cp) (hcp2:cp≤9223372036854775807) (hs:Sh.Src w B m)
  (ht:Sh.TabAt w 1) (htr:Sh.TabAt w 0) :
  Calls Tryz.prog 9 #[.slice A n c,pv ax ay ai,.slice B q cp] w (Gets w (.bool true)):=by
 obtain ⟨bS,hbS⟩:=xE (sjB ax ay ai X Y I n m)
 refine Sy.enter (args:=[.slice A n c,pv ax ay ai,.slice B q cp]) Tryz.func9 U kL ?_
 refine sC<|sM 48 (pcs ax ay ai) (λg0=>?_)
 refine sP (.bool false)<|sA<|Sy.make kR 5 #[] (λg=>.slice (pA g) 0 0) kF (λg1=>?_)
 refine sP (.slice B q cp)<|Sy.appendE kR 24 5 _ _ 1 1 CI JF U U U U dZ _ _ U 1 g1 kR kR B q cp (m.map bv) kR (O_ hs) (by rw [List.length_map,hm,Nat.mul_one]) hcp (JA _) om (by simp only [maxLen]; omega) (λq1 c1 s1 e1 f1 m1=>?_)
 have l1:q≤c1∧c1≤9223372036854775807:=⟨f1,by simp only [maxLen] at m1; omega⟩
 refine sP (.slice (pA q1) q c1)<|sH (λj=>false) ?_
 refine sD 0 U (.bool true) (qG 33 #[] (λw hw=>RV w (ht.below hw.below ht.lt)))<|sZ 1 U (.bool true)<|sZ 2 U (.slice A n c)<|sD 3 U (pv ax ay ai) (qL 0 g0 0 9 48 48 (pcs ax ay ai) rfl Ac)<|sZ 4 U (.slice (pA q1) q c1) <|
  sD 5 U (.bool bS) (qG 34 #[.slice A n c,pv ax ay ai,.slice (pA q1) q c1] (λw' hw=>by
   have h1:=(hw.blk q1 5 (m.map bv++s1).toArray (by simp)).2
   rw [hbS]
   exact Ew w' A n c X Y I hX hY hn ax ay ai hax hay (pA q1) m q c1 hm hq9 l1.1 l1.2 (EK h1) (λ_=>hlk.below hw.below) (ht.below hw.below ht.lt)))<|sZ 6 U (.slice A n c)<|sD 7 U (pv ax ay ai) (qL 0 g0 0 9 48 48 (pcs ax ay ai) rfl Ac)<|sZ 8 U (.slice B q cp) <|
  sD 9 U (.bool bS) (qG 35 #[.slice A n c,pv ax ay ai,.slice B q cp] (λw' hw=>by
   rw [hbS]
   exact Mp w' A n c X Y I hX hY hn ax ay ai hax hay B m q cp hm hcp hcp2 (hs.below hw.below) (hlk.below hw.below) (htr.below hw.below htr.lt))) <|
  sD 10 U (.bool true) (Quiet.pure (λw=>Hx w _ _ _ _ bS U U U))<|sZ 11 U (.bool true)<|sZ 12 U (.bool true) <|
  sZ 13 U (.slice (pA q1) q c1)<|sD 14 U (.string ⟨m.toArray⟩) (TH (pA q1) m q c1 _ U U hm (λw' hw=>EK (hw.blk q1 5 (m.map bv++s1).toArray (by simp)).2))<|sZ 15 U (.slice B q cp)<|sD 16 U (.string ⟨m.toArray⟩) (TH B m q cp _ U U hm (λw' hw=>hs.below hw.below)) <|
  sD 17 U (.bool true) (Quiet.pure (λw=>(PF w _ _ _ _ m m U U U).trans (by rw [decide_eq_true U])))<|sZ 18 U (.bool true)<|sZ 19 U (.bool true) ?_
 refine sI<|Sy.ret ?_
 exact rV (.bool true) rfl
end Cu
end
end Go.Proofs.YtbjmjcpdonochaaGreatDoor
