/-
  Texts of ours, put together: TxsW, RingI, SymU, RingJ, RingH, RingK, RingL, SymS, RingM, SymP, RingF, RingN, SymM, EnA, EnB, EnC, ManA, RingG, RingO, RingR, RingS, RingT, RingU, SymN, RingV, RingP, RingQ, RingSignsL, PLift7, PLift8.
-/
import Derived.Test.YtmennpefjofhjaaGreatDoorBD4
set_option linter.unusedVariables false
set_option linter.unusedSimpArgs false
namespace Go.Proofs.YtmennpefjofhjaaGreatDoor
section
namespace Cu
open Go.RowKit Sy
structure TxsIs (w0:Base) (e:TypeId) (y:Slc) (T:Blocks) (ts:List Sh.Tx):Prop where
 row:y.Is e 1 (ts.map λt=>[t.val])
 ok:∀ (w:World) (L:Blocks),St w0 w L→(∀ b∈T,b∈L)→∀ t∈ts,t.ok w
section
variable {w0:Base} {e:TypeId} {y:Slc} {T:Blocks} {ts:List Sh.Tx}
theorem TxsIs.nil (w0:Base) (e:TypeId):TxsIs w0 e nilS [] []:=⟨Slc.Is.nil _ _,λ_ _ _ _ _ h=>(by cases h)⟩
theorem TxsIs.start {g:Nat} {A:Option Addr} {m:List UInt8} {n c:Nat} (hn:m.length=n) (hok:∀ w L,St w0 w L→(Sh.Tx.mk A m c).ok w):TxsIs w0 e ⟨.slice (some ⟨g,0,none⟩) 1 1,[(g,e,#[.slice A n c])]⟩ [] [⟨A,m,c⟩]:=by
 subst hn
 refine ⟨Slc.Is.mk' (cs:=[.slice A m.length c]) (λx hx=>?_) (λx hx u hu=>?_) rfl rfl rfl (Nat.le_refl _) (by decide),λw L hw _ t ht=>?_⟩
 ·rw [List.mem_singleton.1 hx]; rfl
 ·rw [List.mem_singleton.1 hx] at hu
  rw [List.mem_singleton.1 hu]; rfl
 ·rw [List.mem_singleton.1 ht]; exact hok w L hw
theorem TxsIs.texts (h:TxsIs w0 e y T ts):∃ A c,y.v=.slice A ts.length c∧ts.length≤c∧c≤maxLen∧∀ {w:World} {L:Blocks},St w0 w L→(∀ b∈y.bl,b∈L)→(∀ b∈T,b∈L)→Sh.Texts w A ts:=by
 obtain ⟨A,c,h1,h2,h3,h4⟩:=h.row.out
 rw [List.length_map] at h1 h2 h4
 refine ⟨A,c,h1,h2,h3,λ{w L} hw hy hT hne=>?_⟩
 obtain ⟨g,o,q⟩:=h4 hw hy
 obtain ⟨q1,q2,q3⟩:=q (List.length_pos_iff.2 hne)
 refine ⟨g,o,q1,q2,λj x hx=>⟨?_,h.ok w L hw hT x (List.mem_of_getElem? hx)⟩⟩
 have hj:=(List.getElem?_eq_some_iff.1 hx).1
 have q4:w.rangeAt g (o+j*1) ((ts.map λt=>[t.val]).getD j []):=q3 j hj
 rw [List.getD_eq_getElem?_getD,List.getElem?_map,hx] at q4
 have q5:=range_one q4 0 rfl
 rwa [Nat.mul_one,Nat.add_zero] at q5
theorem TxsIs.add (h:TxsIs w0 e y T ts) {y':Slc} {v:Value} (t:Sh.Tx) (T':Blocks) (hy:y'.Is e 1 (ts.map (λt=>[t.val])++[[v]])) (hv:t.val=v) (hok:∀ w L,St w0 w L→(∀ b∈T',b∈L)→t.ok w):TxsIs w0 e y' (T++T') (ts++[t]) :=
 ⟨by rw [List.map_append]; subst hv; exact hy,λw L hw hT x hx=>(List.mem_append.1 hx).elim (λh1=>h.ok w L hw (λb hb=>hT b (List.mem_append.2 (.inl hb))) x h1) (λh1=>by rw [List.mem_singleton.1 h1]; exact hok w L hw (λb hb=>hT b (List.mem_append.2 (.inr hb))))⟩
theorem cat_add (ts:List Sh.Tx) (t:Sh.Tx):Sh.cat (ts++[t])=Sh.cat ts++t.l:=by unfold Sh.cat; rw [List.flatMap_append]; simp
theorem ok_blk {g:Nat} {t:TypeId} {l:List UInt8} {c:Nat} (hl:l.length≤c) (hc:c≤9223372036854775807):∀ w L,St w0 w L→(∀ b∈[(g,t,(l.map bv).toArray)],b∈L)→(Sh.Tx.mk (some ⟨g,0,none⟩) l c).ok w:=λw L hw hT=>⟨Sh.Src.of_blk (hw.blk g t _ (hT _ (List.mem_singleton.2 rfl))).2,hl,hc⟩
theorem val_blk {g c n:Nat} {l:List UInt8} (hl:l.length=n):(Sh.Tx.mk (some ⟨g,0,none⟩) l c).val=.slice (some ⟨g,0,none⟩) n c:=by
 unfold Sh.Tx.val
 rw [hl]
end
end Cu
end
section
namespace Cu
open Go.RowKit Sy
noncomputable def infBnd:TypeInfo:=(Tryz.prog.info? 86).getD default
theorem info_bnd:Tryz.prog.info? 86=some infBnd:=by kernel_rfl
noncomputable def infSl:TypeInfo:=(Tryz.prog.info? 24).getD default
theorem info_sl:Tryz.prog.info? 24=some infSl:=by kernel_rfl
theorem one_sl (A:Option Addr) (n c:Nat):∀ u∈[Value.slice A n c],u.oneCell'=true:=λu hu=>by rw [List.mem_singleton.1 hu]; rfl
theorem bndc_len (R:Option Addr) (n c:Nat) {l:List UInt8} (h:l.length=32):(bndc R n c l).length=33:=by simp [bndc,h]
theorem bndc_one (R:Option Addr) (n c:Nat) (l:List UInt8):∀ u∈bndc R n c l,u.oneCell'=true:=λu hu=>by
 rcases List.mem_cons.1 hu with rfl | hu
 ·rfl
 ·obtain ⟨x,_,rfl⟩:=List.mem_map.1 hu; rfl
def keysT (X Y:Nat→Nat) (I:Nat→Bool):Nat→List UInt8
 | 0=>[]
 | k+1=>keysT X Y I k++encS (dec (X k) (Y k) (I k))
def ringsT (n:Nat→Nat) (X Y:Nat→Nat→Nat) (I:Nat→Nat→Bool):Nat→List UInt8
 | 0=>[]
 | k+1=>ringsT n X Y I k++(UInt8.ofNat (n k)::keysT (X k) (Y k) (I k) (n k))
theorem keysT_len (X Y:Nat→Nat) (I:Nat→Bool):∀ k,(keysT X Y I k).length=33*k
 | 0=>rfl
 | k+1=>by
  show (keysT X Y I k++_).length=_
  rw [List.length_append,keysT_len X Y I k,encS_length]
  omega
theorem ringsT_len {n:Nat→Nat} {N:Nat} (h:∀ i,i<N→n i≤64) (X Y:Nat→Nat→Nat) (I:Nat→Nat→Bool):∀ k,k≤N→(ringsT n X Y I k).length≤2113*k
 | 0,_=>Nat.le_refl _
 | k+1,hk=>by
  show (ringsT n X Y I k++(_::_)).length≤_
  have:=ringsT_len h X Y I k (by omega)
  have:=h k (by omega)
  rw [List.length_append,List.length_cons,keysT_len]
  omega
def rgM (m:List UInt8) (N:Nat) (n:Nat→Nat) (X Y:Nat→Nat→Nat) (I:Nat→Nat→Bool):List UInt8:=Sh.taggedS rgRing.data.toList (m++ringsT n X Y I N)
theorem rgM_len (m:List UInt8) (N:Nat) (n:Nat→Nat) (X Y:Nat→Nat→Nat) (I:Nat→Nat→Bool):(rgM m N n X Y I).length=32:=tagS_length _ _
set_option maxHeartbeats 4000000 in
set_option maxRecDepth 100000 in
theorem bind_any (w:World) (R:Option Addr) (NR cR:Nat) (a:Nat→Option Addr) (nk ck:Nat→Nat) (X Y:Nat→Nat→Nat) (I:Nat→Nat→Bool) (hX:∀ i k,X i k<K4) (hY:∀ i k,Y i k<K4) (hNR:NR≤4611686018427387904) (hnk:∀ i,nk i≤4611686018427387904) (hlr:Lst w 1 R NR (λi=>[.slice (a i) (nk i) (ck i)])) (hlk:∀ i,i<NR→Lst w 9 (a i) (nk i) (λk=>pml (X i k) (Y i k) (I i k))) (hN32:NR≤32) (hn64:∀ i,i<NR→nk i≤64) (A:Option Addr) (m:List UInt8) (n c:Nat) (hm:m.length=n) (hm9:n≤999000000) (hc:n≤c) (hc2:c≤9223372036854775807) (hs0:Sh.Src w A m) (ht:Sh.TabAt w 1):Calls Tryz.prog 46 #[.slice A n c,.slice R NR cR] w (Gets w (bndv R NR cR (rgM m NR nk X Y I))):=by
 have hlr0:=hlr
 obtain ⟨gR,oR,hR⟩:=hlr
 refine Sy.enter (args:=[.slice A n c,.slice R NR cR]) Tryz.func46 rfl kL ?_
 refine sC ?_
 refine sM 86 (bndc none 0 0 (List.replicate 32 (0:UInt8))).toArray (λg0=>?_)
 refine sA ?_
 refine sP (.slice A n c) ?_
 refine Sy.make kR 24 #[.slice A n c] (λg=>.slice (some ⟨g,0,none⟩) 1 1) kF (λg1=>?_)
 refine sP (.slice (some ⟨g1,0,none⟩) 1 1) ?_
 refine sG<|Sy.seq<|sC ?_
 refine sP (.slice R NR cR)<|sP (.int .i64 ((NR:Nat):Int))<|sP (.int .i64 0) ?_
 refine sG<|Sy.block ?_
 refine Sy.loopT (Y:=Slc×Blocks×List Sh.Tx) NR (λk1 y1=>[(1,.slice R NR cR),(4,.pointer (some ⟨g0,0,none⟩)),(5,y1.1.v),(12,.slice R NR cR),(13,.int .i64 ((NR:Nat):Int)),(14,.int .i64 ((k1:Nat):Int))]) (λk1 y1=>[(g0,86,(bndc none 0 0 (List.replicate 32 (0:UInt8))).toArray)]++(y1.1.bl++y1.2.1)) (λk1 y1=>TxsIs (Base.of w) 24 y1.1 y1.2.1 y1.2.2∧Sh.cat y1.2.2=m++ringsT nk X Y I k1∧y1.2.2.length≤1+65*k1) (⟨.slice (some ⟨g1,0,none⟩) 1 1,[(g1,24,#[.slice A n c])]⟩,[],[(⟨A,m,c⟩:Sh.Tx)]) ⟨TxsIs.start hm (λ_ _ hw=>⟨hs0.below hw.below,by show m.length≤c; omega,hc2⟩),by simp [Sh.cat,ringsT],by simp⟩ (all_cons kR (all_cons kR (all_cons kR (all_cons kR (all_cons kR (all_cons kR all_nil)))))) (λw hw=>hw) (λk1 y1 hk1 hh1=>?_)
 refine sC ?_
 obtain ⟨b1,hb1⟩:∃ z:Bool,z=decide (k1<NR):=⟨_,rfl⟩
 refine sS (.bool b1) (Quiet.pure (exec_int .lss _ _ _ .i64 _ _ _ rfl rfl rfl (int_lss _ _ _ _ _ (by rw [hb1]; exact decide_eq_decide.2 (by omega))))) ?_
 refine sG<|Sy.seq ?_
 cases b1
 ·have lb1:¬ (k1<NR):=of_decide_eq_false hb1.symm
  refine sU<|Sy.exit<|Sy.then_exit<|Sy.then_exit ?_
  obtain rfl:NR=k1:=by omega
  refine Sy.in_exit<|sB ?_
  refine sP (.slice R NR cR)<|sP (y1.1.v) ?_
  obtain ⟨bM,hbM⟩:∃ l,l=rgM m NR nk X Y I:=⟨_,rfl⟩
  have hbl:bM.length=32:=by rw [hbM]; exact rgM_len _ _ _ _ _ _
  refine sS (.agg (bM.map bv).toArray) (qG 106 #[.string rgRing,y1.1.v] (λw hw=>by obtain ⟨Q,d,hv,_,_,htx⟩:=hh1.1.texts; rw [hv,hbM]; have hq:=ringsT_len hn64 X Y I NR (Nat.le_refl _); have q:=Sh.tagged_any w rgRing Q y1.2.2 d (htx hw (λb hb=>List.mem_append.2 (.inr (List.mem_append.2 (.inl hb)))) (λb hb=>List.mem_append.2 (.inr (List.mem_append.2 (.inr hb))))) (ht.below hw.below ht.lt) (by decide) (by rw [hh1.2.1,List.length_append]; omega) (by omega); rw [hh1.2.1] at q; exact q))<|sS (bndv R NR cR bM) (Quiet.build2V 86 _ infBnd _ _ _ _ _ 32 rfl rfl rfl kR Tryz.underlying86 info_bnd rfl rfl kR ((List.length_map ..).trans hbl))<|sW 0 g0 86 (bndc none 0 0 (List.replicate 32 (0:UInt8))).toArray (bndc R NR cR bM).toArray (Writes.row 86 (bndc R NR cR bM) 33 _ _ rfl kR kR kR (bndc_len _ _ _ hbl) kR (bndc_one _ _ _ _)) ?_
  refine Sy.setT ?_
  refine sG<|Sy.ret ?_
  rw [← hbM]
  exact Sy.ret1 rfl (v:=bndv R NR cR bM) (.inl (Res.cell (ty':=86) g0 0 (bndc R NR cR bM).toArray _ kR kR Tryz.underlying86 rfl (by rw [List.size_toArray,bndc_len _ _ _ hbl]; kernel_rfl) rfl))
 ·have lb1:k1<NR:=of_decide_eq_true hb1.symm
  have hnk1:=hn64 k1 lb1
  obtain ⟨gK,oK,hT⟩:=hlk k1 lb1
  refine sT<|Sy.skip<|Sy.then_<|Sy.seq<|Sy.block<|sC ?_
  refine sS (.pointer (some ⟨gR,oR+k1*1,none⟩)) (Quiet.pure (exec_atO 25 _ _ _ R gR oR NR cR k1 1 .i64 (hR (by omega)).1 rfl rfl rfl Tryz.underlying25 kF (by omega)))<|sS (.slice (a k1) (nk k1) (ck k1)) (Quiet.thereOne gR (oR+k1*1) 45 _ _ rfl kR (hR (by omega)).2.1 _ (range_one ((hR (by omega)).2.2 k1 (by omega)) 0 rfl) Tryz.underlying45 rfl)<|sP (.slice (a k1) (nk k1) (ck k1)) ?_
  refine sA ?_
  refine sP (y1.1.v)<|sP (.slice (a k1) (nk k1) (ck k1))<|sP (.int .i64 (((nk k1):Nat):Int))<|sS (bv (UInt8.ofNat (nk k1))) (Quiet.pure (λw=>conv_u8 w _ _ _ (nk k1) (by omega) rfl rfl)) ?_
  refine Sy.make kR 5 #[bv (UInt8.ofNat (nk k1))] (λg=>.slice (some ⟨g,0,none⟩) 1 1) kF (λg2=>?_)
  refine Sy.movT ?_
  refine Sy.make kR 24 #[.slice (some ⟨g2,0,none⟩) 1 1] (λg=>.slice (some ⟨g,0,none⟩) 1 1) kF (λg3=>?_)
  refine Sy.movT ?_
  refine Sy.appendR kR 95 24 _ _ 1 24 Tryz.underlying95 info_sl rfl rfl rfl rfl (by decide) _ _ rfl hh1.1.row kR [.slice (some ⟨g2,0,none⟩) 1 1] rfl (one_sl _ _ _) 2 g3 24 kR kR (by (rw [List.length_map]); omega) (by (rw [List.length_map]); simp only [maxLen]; omega) (λr1 hr1=>?_)
  refine sP (r1.v) ?_
  refine sA ?_
  refine sP (.slice (a k1) (nk k1) (ck k1))<|sP (.int .i64 (((nk k1):Nat):Int))<|sP (.int .i64 0) ?_
  refine sG<|Sy.block ?_
  refine Sy.loopT (Y:=Slc×Blocks×List Sh.Tx) (nk k1) (λk2 y2=>[(1,.slice R NR cR),(4,.pointer (some ⟨g0,0,none⟩)),(5,y2.1.v),(7,.slice (a k1) (nk k1) (ck k1)),(12,.slice R NR cR),(13,.int .i64 ((NR:Nat):Int)),(14,.int .i64 ((k1:Nat):Int)),(25,.slice (a k1) (nk k1) (ck k1)),(26,.int .i64 (((nk k1):Nat):Int)),(27,.int .i64 ((k2:Nat):Int))]) (λk2 y2=>[(g0,86,(bndc none 0 0 (List.replicate 32 (0:UInt8))).toArray)]++(y2.1.bl++y2.2.1)) (λk2 y2=>TxsIs (Base.of w) 24 y2.1 y2.2.1 y2.2.2∧Sh.cat y2.2.2=m++(ringsT nk X Y I k1++(UInt8.ofNat (nk k1)::keysT (X k1) (Y k1) (I k1) k2))∧y2.2.2.length≤2+65*k1+k2) (r1,y1.2.1++[(g2,5,([UInt8.ofNat (nk k1)].map bv).toArray)],y1.2.2++[(⟨some ⟨g2,0,none⟩,[UInt8.ofNat (nk k1)],1⟩:Sh.Tx)]) ⟨hh1.1.add _ _ hr1 rfl (ok_blk (Nat.le_refl 1) (by decide)),by rw [cat_add,hh1.2.1,List.append_assoc]; rfl,by rw [List.length_append,List.length_singleton]; omega⟩ (all_cons kR (all_cons kR (all_cons kR (all_cons kR (all_cons kR (all_cons kR (all_cons kR (all_cons kR (all_cons kR (all_cons kR all_nil)))))))))) (λw hw=>Sy.St.pick2 (pre:=[(g0,86,(bndc none 0 0 (List.replicate 32 (0:UInt8))).toArray),(g2,5,#[bv (UInt8.ofNat (nk k1))]),(g3,24,#[.slice (some ⟨g2,0,none⟩) 1 1])]) (M:=[(g0,86,(bndc none 0 0 (List.replicate 32 (0:UInt8))).toArray)]) (N:=[(g2,5,([UInt8.ofNat (nk k1)].map bv).toArray)]) [0,1] (by decide) kR hw) (λk2 y2 hk2 hh2=>?_)
  refine sC ?_
  obtain ⟨b2,hb2⟩:∃ z:Bool,z=decide (k2<(nk k1)):=⟨_,rfl⟩
  refine sS (.bool b2) (Quiet.pure (exec_int .lss _ _ _ .i64 _ _ _ rfl rfl rfl (int_lss _ _ _ _ _ (by rw [hb2]; exact decide_eq_decide.2 (by omega))))) ?_
  refine sG<|Sy.seq ?_
  cases b2
  ·have lb2:¬ (k2<(nk k1)):=of_decide_eq_false hb2.symm
   refine sU<|Sy.exit<|Sy.then_exit<|Sy.then_exit ?_
   obtain rfl:k2=nk k1:=by omega
   refine Sy.in_exit<|Sy.in_<|Sy.then_<|Sy.region ?_
   refine sS (.int .i64 ((k1+1:Nat):Int)) (Quiet.pure (exec_int .add _ _ _ .i64 _ _ _ rfl rfl rfl (int_add _ _ _ _ _ ((wrap_i64 (by omega) (by omega)).trans (by omega)))))<|sP (.int .i64 ((k1+1:Nat):Int)) ?_
   refine Sy.nil ?_
   exact Sy.againT (y2) (by omega) (⟨hh2.1,by rw [hh2.2.1]; rfl,by omega⟩) (all_cons kR (all_cons kR (all_cons kR (all_cons kR (all_cons kR (all_cons kR all_nil)))))) (λw hw=>hw)
  ·have lb2:k2<(nk k1):=of_decide_eq_true hb2.symm
   refine sT<|Sy.skip<|Sy.then_<|Sy.seq<|Sy.block<|sC ?_
   refine sS (.pointer (some ⟨gK,oK+k2*9,none⟩)) (Quiet.pure (exec_atO 45 _ _ _ (a k1) gK oK (nk k1) (ck k1) k2 9 .i64 (hT (by omega)).1 rfl rfl rfl Tryz.underlying45 kF (by omega)))<|sS (pv (X k1 k2) (Y k1 k2) (I k1 k2)) (Quiet.there gK (oK+k2*9) 9 48 (pml (X k1 k2) (Y k1 k2) (I k1 k2)) _ _ rfl kR (hT (by omega)).2.1 ((hT (by omega)).2.2 k2 (by omega)) Tryz.underlying48 rfl kR rfl _ rfl) ?_
   refine sM 48 (pcs 0 0 false) (λg4=>?_)
   refine Sy.movT ?_
   refine sW 1 g4 48 (pcs 0 0 false) (pcs (X k1 k2) (Y k1 k2) (I k1 k2)) (wS 0 48 (pcs (X k1 k2) (Y k1 k2) (I k1 k2)) rfl) ?_
   refine Sy.setT ?_
   refine sG<|Sy.region ?_
   refine sP (y2.1.v)<|sS (pv (X k1 k2) (Y k1 k2) (I k1 k2)) (qL 1 g4 0 9 48 48 (pcs (X k1 k2) (Y k1 k2) (I k1 k2)) rfl Tryz.underlying48) ?_
   refine Sy.callN kR 105 #[pv (X k1 k2) (Y k1 k2) (I k1 k2)] kF ((CodeIs (dec (X k1 k2) (Y k1 k2) (I k1 k2)))) (λw hw=>code_any w _ _ _ (hX _ _) (hY _ _)) (λvq Mq hR0=>?_)
   obtain ⟨q7,rfl,rfl⟩:=hR0
   refine Sy.movT ?_
   refine Sy.make kR 24 #[.slice (some ⟨q7,0,none⟩) 33 33] (λg=>.slice (some ⟨g,0,none⟩) 1 1) kF (λg5=>?_)
   refine Sy.movT ?_
   refine Sy.appendR kR 95 24 _ _ 1 24 Tryz.underlying95 info_sl rfl rfl rfl rfl (by decide) _ _ rfl hh2.1.row kR [.slice (some ⟨q7,0,none⟩) 33 33] rfl (one_sl _ _ _) 3 g5 24 kR kR (by (rw [List.length_map]); omega) (by (rw [List.length_map]); simp only [maxLen]; omega) (λr2 hr2=>?_)
   refine sP (r2.v) ?_
   refine Sy.nil<|Sy.in_<|Sy.then_<|Sy.region ?_
   refine sS (.int .i64 ((k2+1:Nat):Int)) (Quiet.pure (exec_int .add _ _ _ .i64 _ _ _ rfl rfl rfl (int_add _ _ _ _ _ ((wrap_i64 (by omega) (by omega)).trans (by omega)))))<|sP (.int .i64 ((k2+1:Nat):Int)) ?_
   refine Sy.nil ?_
   exact Sy.againT ((r2,y2.2.1++[(q7,191,((encS (dec (X k1 k2) (Y k1 k2) (I k1 k2))).map bv).toArray)],y2.2.2++[(⟨some ⟨q7,0,none⟩,encS (dec (X k1 k2) (Y k1 k2) (I k1 k2)),33⟩:Sh.Tx)])) (by omega) (⟨hh2.1.add _ _ hr2 (val_blk (encS_length _)) (ok_blk (by rw [encS_length]; decide) (by decide)),by rw [cat_add,hh2.2.1,List.append_assoc,List.append_assoc,List.cons_append]; rfl,by rw [List.length_append,List.length_singleton]; omega⟩) (all_cons kR (all_cons kR (all_cons kR (all_cons kR (all_cons kR (all_cons kR (all_cons kR (all_cons kR (all_cons kR (all_cons kR all_nil)))))))))) (λw hw=>Sy.St.pick2 (pre:=[(g0,86,(bndc none 0 0 (List.replicate 32 (0:UInt8))).toArray),(g4,48,(pcs (X k1 k2) (Y k1 k2) (I k1 k2))),(q7,191,((encS (dec (X k1 k2) (Y k1 k2) (I k1 k2))).map bv).toArray),(g5,24,#[.slice (some ⟨q7,0,none⟩) 33 33])]) (M:=[(g0,86,(bndc none 0 0 (List.replicate 32 (0:UInt8))).toArray)]) (N:=[(q7,191,((encS (dec (X k1 k2) (Y k1 k2) (I k1 k2))).map bv).toArray)]) [0,2] (by decide) kR hw)
end Cu
end
section
namespace Sy
open Go.RowKit
section
variable {P:Program} {w0:Base} {n:Nat} {Q:Exit→Act→World→Prop} {F:Slots} {L pre T:Blocks} {ops:Array Oper} {o:Oper} {l:List Oper}
theorem appendZ (hg:good ops n F o=true) (ts tn e:TypeId) (inf:TypeInfo) (z:Value) (sz by_:Nat) (ht:P.underlying ts=some (.slice e)) (htn:P.underlying tn=some (.int .i64)) (hinf:P.info? e=some inf) (hz:inf.zero=some z) (hs1:inf.size=sz) (hb1:inf.bytes=by_) (hzs:z.cells.size=sz) (h0:0<sz)
  (s x:Operand) (ho:o.op=.call { callee:=.builtin .append,args:=#[s,x],argTypes:=#[ts,tn] }) (hs:evF F s=.slice none 0 0) (m:Nat) (hm0:0<m) (hx:evF F x=.int .i64 (m:Int)) (hsmall:m*by_≤140737488355328) (h63:m≤maxLen)
  (h:∀ (g cap:Nat) (cs:List Value),cs.length=cap*sz→m≤cap→cap≤maxLen→wpS P w0 n ops Q (putF F o.dst (.slice (some ⟨g,0,none⟩) m cap)) (L++[(g,e,cs.toArray)]) l):wpS P w0 n ops Q F L (o::l):=λa w ha hw=>by
 obtain ⟨k1,_,k3,_⟩:=good_spec hg
 refine wpList_step λK hK=>?_
 rw [if_pos (ha.wanted k1)]
 have h63':(m:Int)≤9223372036854775807:=by simp only [maxLen] at h63; omega
 have hr:=Lib.run_append_nil_zeros (P:=P) w ts tn o.type e inf z .i64 .i64 ht htn hinf hz m hm0 (by omega) h63' (by rw [hb1]; omega)
 have hc1:=grownCap_ge w m 0 e
 have hc2:=grownCap_le_maxLen w m 0 e h63
 unfold Oper.wp
 rw [good_exec hg ha]
 unfold execOp
 simp only [ho,resolve,invoke,builtin,Sem.run_bind,Sem.run_pure,Result.andThen_ok,List.map_toArray,List.map_cons,List.map_nil,hs,hx,hr]
 have hgr:Gr w (w.drew.alloc (.cells (Builtin.zeroCells z.cells m++Builtin.zeroCells z.cells (grownCap w m 0 e - m)) e)):=(show Gr w w.drew from (Below.refl _ _).drew).trans (gr_alloc _ _)
 exact hK _ _ (h w.heap.size (grownCap w m 0 e) (Builtin.zeroCells z.cells m++Builtin.zeroCells z.cells (grownCap w m 0 e - m)).toList (by
  rw [Array.length_toList,Array.size_append,size_zeroCells,size_zeroCells,hzs, ← Nat.add_mul]
  congr 1
  omega) hc1 hc2 _ _ (ha.put k3 _) (hw.add hgr (Nat.le_refl _) (Blk.new w.drew e _)))
theorem appendM (hg:good ops n F o=true) (ts e:TypeId) (inf:TypeInfo) (z:Value) (sz by_:Nat) (ht:P.underlying ts=some (.slice e)) (hinf:P.info? e=some inf) (hz:inf.zero=some z) (hs1:inf.size=sz) (hb1:inf.bytes=by_) (hzs:z.cells.size=sz) (h0:0<sz)
  (s x:Operand) (ho:o.op=.call { callee:=.builtin .append,args:=#[s,x],argTypes:=#[ts,ts] })
  {r:Slc} {xs ys:List (List Value)} (hr:r.Is e sz xs) (hs:evF F s=r.v) (hy:∀ y∈ys,y.length=sz) (hy1:∀ y∈ys, ∀ u∈y,u.oneCell'=true)
  (A:Option Addr) (m c:Nat) (hm:ys.length=m) (hmc:m≤c) (hx:evF F x=.slice A m c) (hf:∀ r:Slc,From w0 (pre++(r.bl++T)) A ys.flatten) (hsmall:(xs.length+m)*by_≤140737488355328) (h63:xs.length+m≤maxLen)
  (h:∀ r':Slc,r'.Is e sz (xs++ys)→wpS P w0 n ops Q (putF F o.dst r'.v) (pre++(r'.bl++T)) l):wpS P w0 n ops Q F (pre++(r.bl++T)) (o::l):=by
 have hlen:∀ u∈xs++ys,u.length=sz:=λu hu=>(List.mem_append.1 hu).elim (hr.len u) (hy u)
 have hone:∀ u∈xs++ys, ∀ v∈u,v.oneCell'=true:=λu hu=>(List.mem_append.1 hu).elim (hr.one u) (hy1 u)
 have hyl:ys.flatten.length=m*sz:=by rw [flat_len' hy,hm]
 have hyo:∀ u∈ys.flatten,u.oneCell'=true:=λu hu=>by
  obtain ⟨y,h1,h2⟩:=List.mem_flatten.1 hu
  exact hy1 y h1 u h2
 rcases hr.row with ⟨rfl,rfl⟩ | ⟨g,cap,sp,rfl,q1,q2,q3⟩
 ·rcases Nat.eq_zero_or_pos m with rfl | hm0
  ·obtain rfl:ys=[]:=List.eq_nil_of_length_eq_zero hm
   intro a w ha hw
   obtain ⟨k1,_,k3,_⟩:=good_spec hg
   refine wpList_step λK hK=>?_
   rw [if_pos (ha.wanted k1)]
   have hfc:(Builtin.firstCells inf.size 0 (.slice A 0 c)).run P w=.ok #[] w:=by
    cases A with
    | none=>simp [Builtin.firstCells,Sem.run_pure]
    | some a=>simpa using run_firstCells_some (P:=P) w inf.size 0 a 0 c [] (by simp) (λj u hj=>by cases hj)
   have hrn:(Builtin.append_ #[ts,ts] o.type #[.slice none 0 0,.slice A 0 c]).run P w=.ok (.slice none 0 0) w:=by
    simp [Builtin.append_,run_underlying ht,sizeOf,typeInfo,hinf,Builtin.lenOf,hfc]
   unfold Oper.wp
   rw [good_exec hg ha]
   unfold execOp
   simp only [ho,resolve,invoke,builtin,Sem.run_bind,Sem.run_pure,Result.andThen_ok,List.map_toArray,List.map_cons,List.map_nil,hs,hx,hrn]
   exact hK _ _ (h nilS (Slc.Is.nil e sz) _ _ (ha.put k3 _) hw)
  ·refine appendGNil hg ts e inf z sz by_ ht hinf hz hs1 hb1 hzs h0 s x ho hs A m c ys.flatten hx (hf _) hyl hm0 hyo (by simpa using hsmall) (by simpa using h63) (λg' cap' sp' h1 h2 h3=>?_)
   have hq:=h ⟨.slice (some ⟨g',0,none⟩) m cap',[(g',e,(ys.flatten++sp').toArray)]⟩ ⟨hlen,hone,.inr ⟨g',cap',sp',by simp [hm],by simpa [hm] using h1,by simpa [hm] using h2,h3⟩⟩
   exact permS (by
    rw [List.nil_append,List.append_assoc]
    exact (List.perm_append_comm (l₁:=T) (l₂:=[(g',e,(ys.flatten++sp').toArray)])).append_left pre) hq
 ·have hi:(pre++([(g,e,(xs.flatten++sp).toArray)]++T))[pre.length]? = some (g,e,(xs.flatten++sp).toArray):=by
   rw [List.getElem?_append_right (Nat.le_refl _),Nat.sub_self]
   rfl
  refine appendG hg ts e inf z sz by_ ht hinf hz hs1 hb1 hzs h0 s x ho pre.length g xs.length cap xs.flatten sp hs hi (flat_len' hr.len) q1 q3 A m c ys.flatten hx (hf ⟨.slice none 0 0,[(g,e,(xs.flatten++sp).toArray)]⟩) hyl hmc hyo hsmall h63 (λg' cap' sp' h1 h2 h3=>?_)
  have hq:=h ⟨.slice (some ⟨g',0,none⟩) (xs.length+m) cap',[(g',e,(xs.flatten++ys.flatten++sp').toArray)]⟩ ⟨hlen,hone,.inr ⟨g',cap',sp',by simp [hm],by simpa [hm] using h1,by simpa [hm] using h2,h3⟩⟩
  have he:(pre++([(g,e,(xs.flatten++sp).toArray)]++T)).set pre.length (g',e,(xs.flatten++ys.flatten++sp').toArray)=pre++([(g',e,(xs.flatten++ys.flatten++sp').toArray)]++T):=by
   rw [List.set_append_right _ _ (Nat.le_refl _),Nat.sub_self]
   rfl
  rw [he]
  exact hq
end
theorem From.lst {w0:Base} {L:Blocks} {s m:Nat} {A:Option Addr} {f:Nat→List Value} (hl:Lst w0.world s A m f) (hf:∀ k,(f k).length=s):From w0 L A ((List.range m).map f).flatten:=λw hw=>by
 rcases Nat.eq_zero_or_pos m with rfl | hm
 ·exact .inl rfl
 obtain ⟨g,o,q⟩:=hl
 obtain ⟨rfl,h2,h3⟩:=q hm
 refine .inr ⟨_,rfl,λj u hj=>?_⟩
 rw [addr_off]
 refine (hw.below.cell (p:=⟨g,o+j,none⟩) h2).trans ?_
 clear q
 induction m with
 | zero=>simp at hj
 | succ k ih =>
  rw [List.range_succ,List.map_append,List.flatten_append,List.map_singleton,List.flatten_singleton] at hj
  have hlen:((List.range k).map f).flatten.length=k*s:=by
   rw [flat_len' (sz:=s) (λx hx=>by obtain ⟨i,_,rfl⟩:=List.mem_map.1 hx; exact hf i),List.length_map,List.length_range]
  by_cases hjk:j<k*s
  ·rw [List.getElem?_append_left (by omega)] at hj
   exact ih (Nat.pos_of_ne_zero λh=>by subst h; simp at hjk) (λi hi=>h3 i (by omega)) hj
  ·rw [List.getElem?_append_right (by omega),hlen] at hj
   have:=h3 k (by omega) (j - k*s) u hj
   rwa [show o+k*s+(j - k*s)=o+j by omega] at this
theorem retGM {P:Program} {w1:World} {n:Nat} {F:Slots} {L:Blocks} {fn:Func} {r:ResultVar} {v:Value} {R:Value→Blocks→Prop} (M:Blocks) (hr:fn.results=#[r]) (h:Has P F L r v) (hM:∀ w,St (Base.of w1) w L→St (Base.of w1) w M) (hR:R v M):X (Base.of w1) n (bodyPost P fn (GetsN w1 R)) F L .ret:=λa w ha hw=>by
 refine bodyPost_ret (v:=v) ?_ ha.1 ⟨v,M,rfl,hR,hw.below,λg t cs hm=>(hM w hw).blk g t cs hm,(hM w hw).apart⟩
 rcases Res.run h ha hw with ⟨t,rfl,e1⟩ | ⟨t,ty,ad,rfl,e1,e2⟩ <;> simp [results,Result.andThen, *]
def GivesRow (e:TypeId) (sz:Nat) (xs:List (List Value)) (v:Value) (M:Blocks):Prop:=∃ y:Slc,y.Is e sz xs∧v=y.v∧M=y.bl
end Sy
end
section
namespace Cu
open Go.RowKit Sy
set_option maxRecDepth 100000
set_option maxHeartbeats 4000000
def sumN (n:Nat→Nat):Nat→Nat
 | 0=>0
 | k+1=>sumN n k+n k
theorem sumN_mono (n:Nat→Nat):∀ {k m:Nat},k≤m→sumN n k≤sumN n m
 | k,0,h=>by rw [Nat.le_zero.1 h]; exact Nat.le_refl _
 | k,m+1,h=>by
  rcases Nat.lt_or_eq_of_le h with h1 | h1
  ·exact Nat.le_trans (sumN_mono n (Nat.le_of_lt_succ h1)) (Nat.le_add_right _ _)
  ·rw [h1]; exact Nat.le_refl _
def catR (n:Nat→Nat) (f:Nat→Nat→List Value):Nat→List (List Value)
 | 0=>[]
 | k+1=>catR n f k++(List.range (n k)).map (f k)
theorem catR_len (n:Nat→Nat) (f:Nat→Nat→List Value):∀ k,(catR n f k).length=sumN n k
 | 0=>rfl
 | k+1=>by
  show (catR n f k++_).length=sumN n k+n k
  rw [List.length_append,catR_len n f k,List.length_map,List.length_range]
theorem growB_any (w:World) (q:Nat) (hq:q≤1000000):Calls Tryz.prog 220 #[.slice none 0 0,.int .i64 ((q:Nat):Int)] w (GetsN w (GivesRow 24 1 [])):=by
 refine Sy.enter (args:=[.slice none 0 0,.int .i64 ((q:Nat):Int)]) Tryz.func220 rfl kL ?_
 refine sC ?_
 refine sP (.slice none 0 0) ?_
 refine sG<|Sy.seq<|sC ?_
 refine sP (.int .i64 ((q:Nat):Int)) ?_
 obtain ⟨b1,hb1⟩:∃ z:Bool,z=decide (q<0):=⟨_,rfl⟩
 refine sS (.bool b1) (Quiet.pure (exec_int .lss _ _ _ .i64 _ _ _ rfl rfl rfl (int_lss _ _ _ _ _ (by rw [hb1]; exact decide_eq_decide.2 (by omega))))) ?_
 refine sG ?_
 cases b1
 ·have lb1:¬ (q<0):=of_decide_eq_false hb1.symm
  refine sU<|Sy.skip<|Sy.then_<|Sy.seq<|sC ?_
  refine sP (.int .i64 ((q:Nat):Int))<|sP (.slice none 0 0)<|sP (.int .i64 0)<|sP (.slice none 0 0)<|sP (.int .i64 0)<|sP (.int .i64 0)<|sS (.int .i64 ((q:Nat):Int)) (Quiet.pure (exec_int .sub _ _ _ .i64 _ _ _ rfl rfl rfl (int_sub _ _ _ _ _ ((wrap_i64 (by omega) (by omega)).trans (by omega)))))<|sP (.int .i64 ((q:Nat):Int)) ?_
  refine sA ?_
  refine sP (.int .i64 ((q:Nat):Int)) ?_
  obtain ⟨b2,hb2⟩:∃ z:Bool,z=decide (q>0):=⟨_,rfl⟩
  refine sS (.bool b2) (Quiet.pure (exec_int .gtr _ _ _ .i64 _ _ _ rfl rfl rfl (int_gtr _ _ _ _ _ (by rw [hb2]; exact decide_eq_decide.2 (by omega))))) ?_
  refine sG ?_
  cases b2
  ·have lb2:¬ (q>0):=of_decide_eq_false hb2.symm
   refine sU<|Sy.skip<|sB ?_
   refine sP (.slice none 0 0)<|sP (.slice none 0 0) ?_
   refine sG<|Sy.ret ?_
   exact retGM [] rfl (v:=.slice none 0 0) (.inl (show _=_ by kernel_rfl)) (λ_ hw=>hw) ⟨nilS,Slc.Is.nil _ _,rfl,rfl⟩
  ·have lb2:q>0:=of_decide_eq_true hb2.symm
   refine sT<|Sy.region ?_
   refine sP (.slice none 0 0)<|sP (.slice none 0 0)<|sP (.int .i64 0)<|sP (.slice none 0 0)<|sP (.int .i64 ((q:Nat):Int)) ?_
   refine Sy.appendZ kR 95 3 24 _ _ 1 24 Tryz.underlying95 Tryz.underlying3 info_sl rfl rfl rfl rfl (by decide) _ _ rfl rfl q (by omega) rfl (by omega) (by simp only [maxLen]; omega) (λgz cz zs hz1 hz2 hz3=>?_)
   refine sP (.slice none 0 0)<|sP (.int .i64 0)<|sS (.slice (some ⟨gz,0,none⟩) 0 cz) (Quiet.pure (exec_upto 95 _ _ gz 0 q cz 0 1 .i64 rfl rfl rfl Tryz.underlying95 kF (Nat.zero_le _)))<|sP (.slice (some ⟨gz,0,none⟩) 0 cz) ?_
   refine sA ?_
   refine sP (.slice (some ⟨gz,0,none⟩) 0 cz)<|sP (.slice (some ⟨gz,0,none⟩) 0 cz) ?_
   refine sG<|Sy.ret ?_
   exact retGM [(gz,24,zs.toArray)] rfl (v:=.slice (some ⟨gz,0,none⟩) 0 cz) (.inl (show _=_ by kernel_rfl)) (λ_ hw=>hw) ⟨⟨.slice (some ⟨gz,0,none⟩) 0 cz,[(gz,24,zs.toArray)]⟩,Slc.Is.mk' (by simp) (by simp) rfl (by simp) hz1 (Nat.zero_le _) hz3,rfl,rfl⟩
 ·have lb1:q<0:=of_decide_eq_true hb1.symm
  exact absurd lb1 (by omega)
theorem concatB_any (w:World) (T:Option Addr) (N d:Nat) (a:Nat→Option Addr) (n c:Nat→Nat) (f:Nat→Nat→List Value) (hf1:∀ i k,(f i k).length=1) (hf2:∀ i k, ∀ u∈f i k,u.oneCell'=true) (hN:N≤1000000) (hs:sumN n N≤1000000) (hnc:∀ i,i<N→n i≤c i) (hlt:Lst w 1 T N (λi=>[.slice (a i) (n i) (c i)])) (hl:∀ i,i<N→Lst w 1 (a i) (n i) (f i)):Calls Tryz.prog 172 #[.slice T N d] w (GetsN w (GivesRow 24 1 (catR n f N))):=by
 obtain ⟨gT,oT,hT⟩:=hlt
 refine Sy.enter (args:=[.slice T N d]) Tryz.func172 rfl kL ?_
 refine sC ?_
 refine sP (.slice none 0 0) ?_
 refine sA ?_
 refine sP (.int .i64 0) ?_
 refine sG<|Sy.seq<|sC ?_
 refine sP (.slice T N d)<|sP (.int .i64 ((N:Nat):Int))<|sP (.int .i64 0) ?_
 refine sG<|Sy.block ?_
 refine Sy.loopK N (λk1=>[(0,.slice T N d),(3,.int .i64 (((sumN n k1):Nat):Int)),(9,.slice T N d),(10,.int .i64 ((N:Nat):Int)),(11,.int .i64 ((k1:Nat):Int))]) (λk1=>[]) [] (M:=[]) (all_cons kR (all_cons kR (all_cons kR (all_cons kR (all_cons kR all_nil))))) kR rfl (λk1 hk1=>?_)
 refine sC ?_
 obtain ⟨b1,hb1⟩:∃ z:Bool,z=decide (k1<N):=⟨_,rfl⟩
 refine sS (.bool b1) (Quiet.pure (exec_int .lss _ _ _ .i64 _ _ _ rfl rfl rfl (int_lss _ _ _ _ _ (by rw [hb1]; exact decide_eq_decide.2 (by omega))))) ?_
 refine sG<|Sy.seq ?_
 cases b1
 ·have lb1:¬ (k1<N):=of_decide_eq_false hb1.symm
  refine sU<|Sy.exit<|Sy.then_exit<|Sy.then_exit ?_
  obtain rfl:N=k1:=by omega
  refine Sy.in_exit<|sB ?_
  refine sP (.int .i64 (((sumN n N):Nat):Int)) ?_
  refine Sy.callN kR 220 #[.slice none 0 0,.int .i64 (((sumN n N):Nat):Int)] kF (GivesRow 24 1 []) (λw hw=>growB_any w _ (by omega)) (λvq Mq hR0=>?_)
  obtain ⟨y0,hy0,rfl,rfl⟩:=hR0
  refine sP (y0.v) ?_
  refine sG<|Sy.seq<|sC ?_
  refine sP (.slice T N d)<|sP (.int .i64 ((N:Nat):Int))<|sP (.int .i64 0) ?_
  refine sG<|Sy.block ?_
  refine Sy.loopT (Y:=Slc) N (λk1 y1=>[(0,.slice T N d),(6,y1.v),(25,.slice T N d),(26,.int .i64 ((N:Nat):Int)),(27,.int .i64 ((k1:Nat):Int))]) (λk1 y1=>[]++(y1.bl++[])) (λk1 y1=>y1.Is 24 1 (catR n f k1)) y0 hy0 (all_cons kR (all_cons kR (all_cons kR (all_cons kR (all_cons kR all_nil))))) (λw hw=>by simpa using hw) (λk1 y1 hk1 hh1=>?_)
  refine sC ?_
  obtain ⟨b2,hb2⟩:∃ z:Bool,z=decide (k1<N):=⟨_,rfl⟩
  refine sS (.bool b2) (Quiet.pure (exec_int .lss _ _ _ .i64 _ _ _ rfl rfl rfl (int_lss _ _ _ _ _ (by rw [hb2]; exact decide_eq_decide.2 (by omega))))) ?_
  refine sG<|Sy.seq ?_
  cases b2
  ·have lb2:¬ (k1<N):=of_decide_eq_false hb2.symm
   refine sU<|Sy.exit<|Sy.then_exit<|Sy.then_exit ?_
   obtain rfl:N=k1:=by omega
   refine Sy.in_exit<|sB ?_
   refine sP (y1.v)<|sP (y1.v) ?_
   refine sG<|Sy.ret ?_
   exact retGM (y1.bl) rfl (v:=y1.v) (.inl (show _=_ by kernel_rfl)) (λ_ hw=>by simpa using hw) ⟨y1,hh1,rfl,rfl⟩
  ·have lb2:k1<N:=of_decide_eq_true hb2.symm
   have hsk:sumN n k1+n k1≤sumN n N:=sumN_mono n (show k1+1≤N by omega)
   refine sT<|Sy.skip<|Sy.then_<|Sy.seq<|Sy.block<|sC ?_
   refine sS (.pointer (some ⟨gT,oT+k1*1,none⟩)) (Quiet.pure (exec_atO 260 _ _ _ T gT oT N d k1 1 .i64 (hT (by omega)).1 rfl rfl rfl Tryz.underlying260 kF (by omega)))<|sS (.slice (a k1) (n k1) (c k1)) (Quiet.thereOne gT (oT+k1*1) 95 _ _ rfl kR (hT (by omega)).2.1 _ (range_one ((hT (by omega)).2.2 k1 (by omega)) 0 rfl) Tryz.underlying95 rfl)<|sP (.slice (a k1) (n k1) (c k1)) ?_
   refine sG<|Sy.region ?_
   refine sP (y1.v)<|sP (.slice (a k1) (n k1) (c k1)) ?_
   refine Sy.appendM kR 95 24 _ _ 1 24 Tryz.underlying95 info_sl rfl rfl rfl rfl (by decide) _ _ rfl (ys:=(List.range (n k1)).map (f k1)) hh1 kR (λz hz=>by obtain ⟨i,_,rfl⟩:=List.mem_map.1 hz; exact hf1 _ _) (λz hz=>by obtain ⟨i,_,rfl⟩:=List.mem_map.1 hz; exact hf2 _ _) (a k1) (n k1) (c k1) (by rw [List.length_map,List.length_range]) (hnc k1 (by omega)) kR (λ_=>From.lst (hl k1 (by omega)) (hf1 k1)) (by rw [catR_len]; omega) (by rw [catR_len]; simp only [maxLen]; omega) (λr1 hr1=>?_)
   refine sP (r1.v) ?_
   refine Sy.nil<|Sy.in_<|Sy.then_<|Sy.region ?_
   refine sS (.int .i64 ((k1+1:Nat):Int)) (Quiet.pure (exec_int .add _ _ _ .i64 _ _ _ rfl rfl rfl (int_add _ _ _ _ _ ((wrap_i64 (by omega) (by omega)).trans (by omega)))))<|sP (.int .i64 ((k1+1:Nat):Int)) ?_
   refine Sy.nil ?_
   exact Sy.againT (r1) (by omega) (hr1) (all_cons kR (all_cons kR (all_cons kR (all_cons kR (all_cons kR all_nil))))) (λw hw=>hw)
 ·have lb1:k1<N:=of_decide_eq_true hb1.symm
  have hsk:sumN n k1+n k1≤sumN n N:=sumN_mono n (show k1+1≤N by omega)
  refine sT<|Sy.skip<|Sy.then_<|Sy.seq<|Sy.block<|sC ?_
  refine sS (.pointer (some ⟨gT,oT+k1*1,none⟩)) (Quiet.pure (exec_atO 260 _ _ _ T gT oT N d k1 1 .i64 (hT (by omega)).1 rfl rfl rfl Tryz.underlying260 kF (by omega)))<|sS (.slice (a k1) (n k1) (c k1)) (Quiet.thereOne gT (oT+k1*1) 95 _ _ rfl kR (hT (by omega)).2.1 _ (range_one ((hT (by omega)).2.2 k1 (by omega)) 0 rfl) Tryz.underlying95 rfl)<|sP (.slice (a k1) (n k1) (c k1)) ?_
  refine sA ?_
  refine sP (.int .i64 (((sumN n k1):Nat):Int))<|sP (.slice (a k1) (n k1) (c k1))<|sP (.int .i64 (((n k1):Nat):Int))<|sS (.int .i64 (((sumN n k1)+(n k1):Nat):Int)) (Quiet.pure (exec_int .add _ _ _ .i64 _ _ _ rfl rfl rfl (int_add _ _ _ _ _ ((wrap_i64 (by omega) (by omega)).trans (by omega)))))<|sP (.int .i64 (((sumN n k1)+(n k1):Nat):Int)) ?_
  refine sA ?_
  refine sP (.int .i64 (((sumN n k1)+(n k1):Nat):Int)) ?_
  obtain ⟨b3,hb3⟩:∃ z:Bool,z=decide ((sumN n k1)+(n k1)<0):=⟨_,rfl⟩
  refine sS (.bool b3) (Quiet.pure (exec_int .lss _ _ _ .i64 _ _ _ rfl rfl rfl (int_lss _ _ _ _ _ (by rw [hb3]; exact decide_eq_decide.2 (by omega))))) ?_
  refine sG ?_
  cases b3
  ·have lb3:¬ ((sumN n k1)+(n k1)<0):=of_decide_eq_false hb3.symm
   refine sU<|Sy.skip<|Sy.in_<|Sy.then_<|Sy.region ?_
   refine sS (.int .i64 ((k1+1:Nat):Int)) (Quiet.pure (exec_int .add _ _ _ .i64 _ _ _ rfl rfl rfl (int_add _ _ _ _ _ ((wrap_i64 (by omega) (by omega)).trans (by omega)))))<|sP (.int .i64 ((k1+1:Nat):Int)) ?_
   refine Sy.nil ?_
   exact Sy.againK [] (M:=[]) (by omega) (all_cons kR (all_cons kR (all_cons kR (all_cons kR (all_cons kR all_nil))))) kR rfl
  ·have lb3:(sumN n k1)+(n k1)<0:=of_decide_eq_true hb3.symm
   exact absurd lb3 (by omega)
end Cu
end
section
namespace Cu
open Go.RowKit Sy
theorem bnd_whole {R:Option Addr} {NR cR:Nat} {bm:List UInt8} (h:bm.length=32):Value.agg ((((bndc R NR cR bm).toArray).toList.drop 0).take 33).toArray=bndv R NR cR bm:=by
 unfold bndv
 rw [List.drop_zero,List.take_of_length_le (by show (bndc R NR cR bm).length≤33; simp [bndc,h])]
theorem bnd_size {R:Option Addr} {NR cR:Nat} {bm:List UInt8} (h:bm.length=32):0+33≤((bndc R NR cR bm).toArray).size:=by simp [bndc,h]
def alX (s:Nat→Nat) (bm:List UInt8) (i f:Nat) (X Y:Nat→Nat) (I:Nat→Bool) (x:List UInt8):Nat→List UInt8
 | 0=>x
 | k+1=>encS (rPt (s (f+k)) (rgC bm (alX s bm i f X Y I x k) i (f+k)) (X (f+k)) (Y (f+k)) (I (f+k)))
theorem alX_len {s:Nat→Nat} {bm:List UInt8} {i f k:Nat} {X Y:Nat→Nat} {I:Nat→Bool} {x:List UInt8} (hk:0<k):(alX s bm i f X Y I x k).length=33:=by
 cases k with
 | zero=>exact absurd hk (Nat.lt_irrefl _)
 | succ k=>exact encS_length _
def AlS (A:Option Addr) (n c:Nat) (e:TypeId) (l:List UInt8) (k:Nat) (y:Value×Blocks):Prop:=(k=0∧y=(.slice A n c,[]))∨(0<k∧∃ q,y=(.slice (some ⟨q,0,none⟩) 33 33,[(q,e,(l.map bv).toArray)]))
def AlR (A:Option Addr) (n c M:Nat) (l:List UInt8) (v:Value) (L:Blocks):Prop:=(M=0∧v=.slice A n c∧L=[])∨(0<M∧∃ q,v=.slice (some ⟨q,0,none⟩) 33 33∧L=[(q,191,(l.map bv).toArray)])
theorem retG0 {w1:World} {n:Nat} {F:Slots} {L:Blocks} {fn:Func} {r:ResultVar} {v:Value} {R:Value→Blocks→Prop} (hr:fn.results=#[r]) (h:Sy.Has Tryz.prog F L r v) (hR:R v []):Sy.X (Sy.Base.of w1) n (bodyPost Tryz.prog fn (Sy.GetsN w1 R)) F L .ret:=λa w ha hw=>by
 refine bodyPost_ret (v:=v) ?_ ha.1 ⟨v,[],rfl,hR,hw.below,λg t cs hm=>(by cases hm),by simp⟩
 rcases Sy.Res.run h ha hw with ⟨t,rfl,e1⟩ | ⟨t,ty,ad,rfl,e1,e2⟩ <;> simp [results,Result.andThen, *]
set_option maxHeartbeats 4000000 in
set_option maxRecDepth 100000 in
theorem alongG_any (w:World) (R:Option Addr) (NR cR:Nat) (a:Nat→Option Addr) (nk ck:Nat→Nat) (X Y:Nat→Nat→Nat) (I:Nat→Nat→Bool) (hX:∀ i k,X i k<K4) (hY:∀ i k,Y i k<K4) (hNR:NR≤4611686018427387904) (hnk:∀ i,nk i≤4611686018427387904) (hlr:Lst w 1 R NR (λi=>[.slice (a i) (nk i) (ck i)])) (hlk:∀ i,i<NR→Lst w 9 (a i) (nk i) (λk=>pml (X i k) (Y i k) (I i k))) (bm:List UInt8) (hbm:bm.length=32) (A:Option Addr) (x:List UInt8) (n c:Nat) (hx:x.length=n) (hm:n≤999999900) (hc:n≤c) (hc2:c≤9223372036854775807) (hs0:Sh.Src w A x) (W:Option Addr) (NW cW:Nat) (s:Nat→Nat) (hsc:∀ k,s k<K4) (hlw:Lst w 4 W NW (λk=>fws (s k))) (i f M:Nat) (hi:i<NR) (hi2:i<256) (hM:f+M≤256) (hM1:f+M≤NW) (hM2:f+M≤nk i) (ht:Sh.TabAt w 1):Calls Tryz.prog 111 #[bndv R NR cR bm,.slice A n c,.slice W NW cW,.int .i64 ((i:Nat):Int),.int .i64 ((f:Nat):Int),.int .i64 (((f+M):Nat):Int)] w (GetsN w (AlR A n c M (alX s bm i f (X i) (Y i) (I i) x M))):=by
 obtain ⟨gR,oR,hR⟩:=hlr
 obtain ⟨gW,oW,hW⟩:=hlw
 obtain ⟨gK,oK,hT⟩:=hlk i hi
 refine Sy.enter (args:=[bndv R NR cR bm,.slice A n c,.slice W NW cW,.int .i64 ((i:Nat):Int),.int .i64 ((f:Nat):Int),.int .i64 (((f+M):Nat):Int)]) Tryz.func111 rfl kL ?_
 refine sC ?_
 refine sM 86 (bndc R NR cR bm).toArray (λg0=>?_)
 refine sP (.slice none 0 0) ?_
 refine sG<|Sy.seq<|sC ?_
 refine sP (.int .i64 ((f:Nat):Int))<|sP (.int .i64 ((f:Nat):Int)) ?_
 refine sG<|Sy.block ?_
 refine Sy.loopT (Y:=Value×Blocks) M (λk1 y1=>[(1,y1.1),(2,.slice W NW cW),(3,.int .i64 ((i:Nat):Int)),(5,.int .i64 (((f+M):Nat):Int)),(6,.pointer (some ⟨g0,0,none⟩)),(13,.int .i64 (((f+k1):Nat):Int))]) (λk1 y1=>[(g0,86,(bndc R NR cR bm).toArray)]++y1.2) (λk1 y1=>AlS A n c 191 (alX s bm i f (X i) (Y i) (I i) x k1) k1 y1) (.slice A n c,[]) (.inl ⟨rfl,rfl⟩) (all_cons kR (all_cons kR (all_cons kR (all_cons kR (all_cons kR (all_cons kR all_nil)))))) (λw hw=>hw) (λk1 y1 hk1 hh1=>?_)
 obtain ⟨xk,hxk⟩:∃ l,l=alX s bm i f (X i) (Y i) (I i) x k1:=⟨_,rfl⟩
 rw [← hxk] at hh1
 rcases hh1 with ⟨hk0,rfl⟩ | ⟨hk0,q0,rfl⟩
 ·have exk:xk=x:=by rw [hxk,hk0]; rfl
  refine Sy.seq<|sC ?_
  refine sP (.int .i64 (((f+k1):Nat):Int))<|sP (.int .i64 (((f+M):Nat):Int)) ?_
  obtain ⟨b1,hb1⟩:∃ z:Bool,z=decide ((f+k1)<(f+M)):=⟨_,rfl⟩
  refine sS (.bool b1) (Quiet.pure (exec_int .lss _ _ _ .i64 _ _ _ rfl rfl rfl (int_lss _ _ _ _ _ (by rw [hb1]; exact decide_eq_decide.2 (by omega))))) ?_
  refine sG ?_
  cases b1
  ·have lb1:¬ ((f+k1)<(f+M)):=of_decide_eq_false hb1.symm
   refine sU<|Sy.exit<|Sy.then_exit<|Sy.then_exit ?_
   obtain rfl:M=k1:=by omega
   refine Sy.in_exit<|sB ?_
   refine sP (.slice A n c)<|sP (.slice A n c) ?_
   refine sG<|Sy.ret ?_
   exact retG0 rfl (v:=.slice A n c) (.inl (show _=_ by kernel_rfl)) (.inl ⟨hk0,rfl,rfl⟩)
  ·have lb1:(f+k1)<(f+M):=of_decide_eq_true hb1.symm
   refine sT<|Sy.skip<|Sy.then_<|Sy.seq<|Sy.block ?_
   refine Sy.regionD (λj=>false) kR ?_
   refine sZ 0 rfl (.slice W NW cW)<|sZ 1 rfl (.int .i64 (((f+k1):Nat):Int))<|sD 2 rfl (.pointer (some ⟨gW,oW+(f+k1)*4,none⟩)) (Quiet.pure (exec_atO 51 _ _ _ W gW oW NW cW (f+k1) 4 .i64 (hW (by omega)).1 rfl rfl rfl Tryz.underlying51 kF (by omega)))<|sD 3 rfl (fv (s ((f+k1)))) (Quiet.there gW (oW+(f+k1)*4) 4 42 (fws (s ((f+k1)))) _ _ rfl kR (hW (by omega)).2.1 ((hW (by omega)).2.2 (f+k1) (by omega)) Tryz.underlying42 rfl kR rfl _ rfl)<|sD 4 rfl (bndv R NR cR bm) (Quiet.load 0 g0 0 33 86 86 (bndc R NR cR bm).toArray _ _ rfl kR kR Tryz.underlying86 rfl kR _ (bnd_whole hbm) (bnd_size hbm))<|sZ 5 rfl (.slice A n c)<|sZ 6 rfl (.int .i64 ((i:Nat):Int))<|sZ 7 rfl (.int .i64 (((f+k1):Nat):Int)) ?_
   refine sD 8 rfl (fv (rgC bm xk i (f+k1))) (Quiet.callS 113 #[bndv R NR cR bm,.slice A n c,.int .i64 ((i:Nat):Int),.int .i64 (((f+k1):Nat):Int)] kF (λw hw=>by rw [exk]; exact chalG_any w R NR cR bm hbm A x n c hx hm hc hc2 (hs0.below hw.below) i (f+k1) (by omega) (by omega) (ht.below hw.below ht.lt)))<|sZ 9 rfl (.pointer (some ⟨g0,0,none⟩))<|sD 10 rfl (.slice R NR cR) (Quiet.cell 0 g0 0 86 25 (bndc R NR cR bm).toArray _ _ rfl kR kR Tryz.underlying25 rfl _ kR)<|sZ 11 rfl (.int .i64 ((i:Nat):Int))<|sD 12 rfl (.pointer (some ⟨gR,oR+i*1,none⟩)) (Quiet.pure (exec_atO 25 _ _ _ R gR oR NR cR i 1 .i64 (hR (by omega)).1 rfl rfl rfl Tryz.underlying25 kF (by omega)))<|sD 13 rfl (.slice (a i) (nk i) (ck i)) (Quiet.thereOne gR (oR+i*1) 45 _ _ rfl kR (hR (by omega)).2.1 _ (range_one ((hR (by omega)).2.2 i (by omega)) 0 rfl) Tryz.underlying45 rfl)<|sZ 14 rfl (.int .i64 (((f+k1):Nat):Int))<|sD 15 rfl (.pointer (some ⟨gK,oK+(f+k1)*9,none⟩)) (Quiet.pure (exec_atO 45 _ _ _ (a i) gK oK (nk i) (ck i) (f+k1) 9 .i64 (hT (by omega)).1 rfl rfl rfl Tryz.underlying45 kF (by omega))) ?_
   refine sD 16 rfl (pv (X i (f+k1)) (Y i (f+k1)) (I i (f+k1))) (Quiet.there gK (oK+(f+k1)*9) 9 48 (pml (X i (f+k1)) (Y i (f+k1)) (I i (f+k1))) _ _ rfl kR (hT (by omega)).2.1 ((hT (by omega)).2.2 (f+k1) (by omega)) Tryz.underlying48 rfl kR rfl _ rfl) ?_
   refine Sy.callND 17 rfl kR kR 117 #[fv (s ((f+k1))),fv (rgC bm xk i (f+k1)),pv (X i (f+k1)) (Y i (f+k1)) (I i (f+k1))] kF ((CodeIs (rPt (s (f+k1)) (rgC bm xk i (f+k1)) (X i (f+k1)) (Y i (f+k1)) (I i (f+k1))))) (λw hw=>answer_any w _ _ _ _ _ (hsc _) (rgC_lt _ _ _ _) (hX _ _) (hY _ _)) (λvq Mq hR0=>?_)
   obtain ⟨q7,rfl,rfl⟩:=hR0
   refine sZ 18 rfl (.slice (some ⟨q7,0,none⟩) 33 33) ?_
   refine sE ?_
   refine Sy.in_<|Sy.then_<|Sy.region ?_
   refine sP (.int .i64 (((f+k1):Nat):Int))<|sS (.int .i64 (((f+k1)+1:Nat):Int)) (Quiet.pure (exec_int .add _ _ _ .i64 _ _ _ rfl rfl rfl (int_add _ _ _ _ _ ((wrap_i64 (by omega) (by omega)).trans (by omega)))))<|sP (.int .i64 (((f+k1)+1:Nat):Int)) ?_
   refine Sy.nil ?_
   exact Sy.againT (.slice (some ⟨q7,0,none⟩) 33 33,[(q7,191,((encS (rPt (s (f+k1)) (rgC bm xk i (f+k1)) (X i (f+k1)) (Y i (f+k1)) (I i (f+k1)))).map bv).toArray)]) (by omega) (.inr ⟨Nat.succ_pos _,q7,by subst hxk; rfl⟩) (all_cons kR (all_cons kR (all_cons kR (all_cons kR (all_cons kR (all_cons kR all_nil)))))) (λw hw=>hw)
 ·have hxl:xk.length=33:=by rw [hxk]; exact alX_len hk0
  refine Sy.seq<|sC ?_
  refine sP (.int .i64 (((f+k1):Nat):Int))<|sP (.int .i64 (((f+M):Nat):Int)) ?_
  obtain ⟨b2,hb2⟩:∃ z:Bool,z=decide ((f+k1)<(f+M)):=⟨_,rfl⟩
  refine sS (.bool b2) (Quiet.pure (exec_int .lss _ _ _ .i64 _ _ _ rfl rfl rfl (int_lss _ _ _ _ _ (by rw [hb2]; exact decide_eq_decide.2 (by omega))))) ?_
  refine sG ?_
  cases b2
  ·have lb2:¬ ((f+k1)<(f+M)):=of_decide_eq_false hb2.symm
   refine sU<|Sy.exit<|Sy.then_exit<|Sy.then_exit ?_
   obtain rfl:M=k1:=by omega
   refine Sy.in_exit<|sB ?_
   refine sP (.slice (some ⟨q0,0,none⟩) 33 33)<|sP (.slice (some ⟨q0,0,none⟩) 33 33) ?_
   refine sG<|Sy.ret ?_
   exact retG 1 (q0,191,(xk.map bv).toArray) rfl (v:=.slice (some ⟨q0,0,none⟩) 33 33) (.inl (show _=_ by kernel_rfl)) kR (.inr ⟨hk0,_,by subst hxk; rfl,by subst hxk; rfl⟩)
  ·have lb2:(f+k1)<(f+M):=of_decide_eq_true hb2.symm
   refine sT<|Sy.skip<|Sy.then_<|Sy.seq<|Sy.block ?_
   refine Sy.regionD (λj=>false) kR ?_
   refine sZ 0 rfl (.slice W NW cW)<|sZ 1 rfl (.int .i64 (((f+k1):Nat):Int))<|sD 2 rfl (.pointer (some ⟨gW,oW+(f+k1)*4,none⟩)) (Quiet.pure (exec_atO 51 _ _ _ W gW oW NW cW (f+k1) 4 .i64 (hW (by omega)).1 rfl rfl rfl Tryz.underlying51 kF (by omega)))<|sD 3 rfl (fv (s ((f+k1)))) (Quiet.there gW (oW+(f+k1)*4) 4 42 (fws (s ((f+k1)))) _ _ rfl kR (hW (by omega)).2.1 ((hW (by omega)).2.2 (f+k1) (by omega)) Tryz.underlying42 rfl kR rfl _ rfl)<|sD 4 rfl (bndv R NR cR bm) (Quiet.load 0 g0 0 33 86 86 (bndc R NR cR bm).toArray _ _ rfl kR kR Tryz.underlying86 rfl kR _ (bnd_whole hbm) (bnd_size hbm))<|sZ 5 rfl (.slice (some ⟨q0,0,none⟩) 33 33)<|sZ 6 rfl (.int .i64 ((i:Nat):Int))<|sZ 7 rfl (.int .i64 (((f+k1):Nat):Int)) ?_
   refine sD 8 rfl (fv (rgC bm xk i (f+k1))) (Quiet.callS 113 #[bndv R NR cR bm,.slice (some ⟨q0,0,none⟩) 33 33,.int .i64 ((i:Nat):Int),.int .i64 (((f+k1):Nat):Int)] kF (λw hw=>chalG_any w R NR cR bm hbm (some ⟨q0,0,none⟩) xk 33 33 hxl (by decide) (by decide) (by decide) (Sh.Src.of_blk (hw.get (i:=1) rfl)) i (f+k1) (by omega) (by omega) (ht.below hw.below ht.lt)))<|sZ 9 rfl (.pointer (some ⟨g0,0,none⟩))<|sD 10 rfl (.slice R NR cR) (Quiet.cell 0 g0 0 86 25 (bndc R NR cR bm).toArray _ _ rfl kR kR Tryz.underlying25 rfl _ kR)<|sZ 11 rfl (.int .i64 ((i:Nat):Int))<|sD 12 rfl (.pointer (some ⟨gR,oR+i*1,none⟩)) (Quiet.pure (exec_atO 25 _ _ _ R gR oR NR cR i 1 .i64 (hR (by omega)).1 rfl rfl rfl Tryz.underlying25 kF (by omega)))<|sD 13 rfl (.slice (a i) (nk i) (ck i)) (Quiet.thereOne gR (oR+i*1) 45 _ _ rfl kR (hR (by omega)).2.1 _ (range_one ((hR (by omega)).2.2 i (by omega)) 0 rfl) Tryz.underlying45 rfl)<|sZ 14 rfl (.int .i64 (((f+k1):Nat):Int))<|sD 15 rfl (.pointer (some ⟨gK,oK+(f+k1)*9,none⟩)) (Quiet.pure (exec_atO 45 _ _ _ (a i) gK oK (nk i) (ck i) (f+k1) 9 .i64 (hT (by omega)).1 rfl rfl rfl Tryz.underlying45 kF (by omega))) ?_
   refine sD 16 rfl (pv (X i (f+k1)) (Y i (f+k1)) (I i (f+k1))) (Quiet.there gK (oK+(f+k1)*9) 9 48 (pml (X i (f+k1)) (Y i (f+k1)) (I i (f+k1))) _ _ rfl kR (hT (by omega)).2.1 ((hT (by omega)).2.2 (f+k1) (by omega)) Tryz.underlying48 rfl kR rfl _ rfl) ?_
   refine Sy.callND 17 rfl kR kR 117 #[fv (s ((f+k1))),fv (rgC bm xk i (f+k1)),pv (X i (f+k1)) (Y i (f+k1)) (I i (f+k1))] kF ((CodeIs (rPt (s (f+k1)) (rgC bm xk i (f+k1)) (X i (f+k1)) (Y i (f+k1)) (I i (f+k1))))) (λw hw=>answer_any w _ _ _ _ _ (hsc _) (rgC_lt _ _ _ _) (hX _ _) (hY _ _)) (λvq Mq hR0=>?_)
   obtain ⟨q7,rfl,rfl⟩:=hR0
   refine sZ 18 rfl (.slice (some ⟨q7,0,none⟩) 33 33) ?_
   refine sE ?_
   refine Sy.in_<|Sy.then_<|Sy.region ?_
   refine sP (.int .i64 (((f+k1):Nat):Int))<|sS (.int .i64 (((f+k1)+1:Nat):Int)) (Quiet.pure (exec_int .add _ _ _ .i64 _ _ _ rfl rfl rfl (int_add _ _ _ _ _ ((wrap_i64 (by omega) (by omega)).trans (by omega)))))<|sP (.int .i64 (((f+k1)+1:Nat):Int)) ?_
   refine Sy.nil ?_
   exact Sy.againT (.slice (some ⟨q7,0,none⟩) 33 33,[(q7,191,((encS (rPt (s (f+k1)) (rgC bm xk i (f+k1)) (X i (f+k1)) (Y i (f+k1)) (I i (f+k1)))).map bv).toArray)]) (by omega) (.inr ⟨Nat.succ_pos _,q7,by subst hxk; rfl⟩) (all_cons kR (all_cons kR (all_cons kR (all_cons kR (all_cons kR (all_cons kR all_nil)))))) (λw hw=>(St.pick (T:=[]) (pre:=[(g0,86,(bndc R NR cR bm).toArray),(q0,191,(xk.map bv).toArray),(q7,191,((encS (rPt (s (f+k1)) (rgC bm xk i (f+k1)) (X i (f+k1)) (Y i (f+k1)) (I i (f+k1)))).map bv).toArray)]) (M:=[(g0,86,(bndc R NR cR bm).toArray),(q7,191,((encS (rPt (s (f+k1)) (rgC bm xk i (f+k1)) (X i (f+k1)) (Y i (f+k1)) (I i (f+k1)))).map bv).toArray)]) [0,2] (by decide) kR hw))
end Cu
end
section
namespace Cu
open Go.RowKit Sy
def rgT (bm l:List UInt8):List UInt8:=Sh.taggedS rgFirst.data.toList (bm++l)
theorem rgT_len (bm l:List UInt8):(rgT bm l).length=32:=tagS_length _ _
theorem catG2_c {w:World} {g3 g2:Nat} {t3 t2:TypeId} {x:Sh.Tx} {xv:Value} {E:Option Addr} {NE cE:Nat} {ts:List Sh.Tx} (hx:x.val=xv) (h3:Blk w g3 t3 #[.slice (some ⟨g2,0,none⟩) 1 1,.slice E NE cE]) (h2:Blk w g2 t2 #[xv]) (hT:Sh.Texts w E ts) (hn:ts.length=NE) (hc:NE≤cE) (hN:NE≤100000) :
  Calls Tryz.prog 172 #[.slice (some ⟨g3,0,none⟩) 2 2] w (GetsN w (GivesRow 24 1 ((x::ts).map λt=>[t.val]))):=by
 subst hn
 have q:=concatB_any w (some ⟨g3,0,none⟩) 2 2 (λi=>if i=0 then some ⟨g2,0,none⟩ else E) (λi=>if i=0 then 1 else ts.length) (λi=>if i=0 then 1 else cE) (λi k=>if i=0 then [xv] else [(ts.getD k x).val]) (λi k=>by split <;> rfl) (λi k u hu=>by
  skip
  split at hu
  ·rw [List.mem_singleton.1 hu, ← hx]; rfl
  ·rw [List.mem_singleton.1 hu]; rfl) (by decide) (by simp [sumN]; omega) (λi hi=>by split <;> omega)
  ⟨g3,0,λ_=>⟨rfl,h3.lt,λj hj=>by
   match j,hj with
   | 0,_=>exact blk_range h3 rfl
   | 1,_=>exact blk_range h3 rfl⟩⟩
  (λi hi=>by
   match i,hi with
   | 0,_=>exact ⟨g2,0,λ_=>⟨rfl,h2.lt,λj hj=>by
     obtain rfl:j=0:=by simpa using hj
     exact blk_range h2 rfl⟩⟩
   | 1,_ =>
    by_cases h0:ts=[]
    ·subst h0
     exact ⟨0,0,λh=>absurd h (by simp)⟩
    ·obtain ⟨b,o,e,hlt,hc⟩:=hT h0
     refine ⟨b,o,λ_=>⟨e,hlt,λj hj=>?_⟩⟩
     have hj':j<ts.length:=by simpa using hj
     intro k v hk
     cases k with
     | succ k=>simp at hk
     | zero =>
      have hv:(ts.getD j x).val=v:=by simpa using hk
      rw [← hv,Nat.mul_one,Nat.add_zero]
      exact (hc j _ (by rw [List.getD_eq_getElem?_getD,List.getElem?_eq_getElem hj']; rfl)).1)
 have e:catR (λi=>if i=0 then 1 else ts.length) (λi k=>if i=0 then [xv] else [(ts.getD k x).val]) 2=(x::ts).map λt=>[t.val]:=by
  show ([]++[[xv]])++(List.range ts.length).map (λk=>[(ts.getD k x).val])=_
  rw [List.map_cons,hx,List.nil_append,List.singleton_append]
  refine congrArg _ (List.ext_getElem (by simp) λi h1 h2=>?_)
  have h3:i<ts.length:=by simpa using h1
  rw [List.getElem_map,List.getElem_map,List.getElem_range,List.getD_eq_getElem?_getD,List.getElem?_eq_getElem h3]
  rfl
 rw [e] at q
 exact q
set_option maxHeartbeats 4000000 in
set_option maxRecDepth 100000 in
theorem firstG_any (w:World) (R:Option Addr) (NR cR:Nat) (bm:List UInt8) (hbm:bm.length=32) (E:Option Addr) (NE cE:Nat) (ts:List Sh.Tx) (hT:Sh.Texts w E ts) (hok:∀ t∈ts,t.ok w) (hn:ts.length=NE) (hc:NE≤cE) (hN:NE≤100000) (hl9:(Sh.cat ts).length≤999999000) (ht:Sh.TabAt w 1):Calls Tryz.prog 112 #[bndv R NR cR bm,.slice E NE cE] w (Gets w (.agg ((rgT bm (Sh.cat ts)).map bv).toArray)):=by
 refine Sy.enter (args:=[bndv R NR cR bm,.slice E NE cE]) Tryz.func112 rfl kL ?_
 refine sC ?_
 refine sM 86 (bndc R NR cR bm).toArray (λg0=>?_)
 refine sM 23 (Zl 32).toArray (λg1=>?_)
 refine sA ?_
 refine sP (.pointer (some ⟨g0,1,none⟩))<|sP (.slice (some ⟨g0,1,none⟩) 32 32) ?_
 refine Sy.make kR 24 #[.slice (some ⟨g0,1,none⟩) 32 32] (λg=>.slice (some ⟨g,0,none⟩) 1 1) kF (λg2=>?_)
 refine sP (.slice E NE cE) ?_
 refine Sy.make kR 95 #[.slice (some ⟨g2,0,none⟩) 1 1,.slice E NE cE] (λg=>.slice (some ⟨g,0,none⟩) 2 2) kF (λg3=>?_)
 refine Sy.callN kR 172 #[.slice (some ⟨g3,0,none⟩) 2 2] kF (GivesRow 24 1 (((⟨some ⟨g0,1,none⟩,bm,32⟩:Sh.Tx)::ts).map λt=>[t.val])) (λw hw=>catG2_c (by unfold Sh.Tx.val; rw [hbm]) (hw.get (i:=3) rfl) (hw.get (i:=2) rfl) (hT.below hw.below) hn hc hN) (λvq Mq hR0=>?_)
 obtain ⟨y0,hy0,rfl,rfl⟩:=hR0
 obtain ⟨d0,hd0⟩:∃ l,l=rgT bm (Sh.cat ts):=⟨_,rfl⟩
 have hd1:d0.length=32:=by rw [hd0]; exact rgT_len _ _
 have hx:TxsIs (Base.of w) 24 y0 [(g0,86,(bndc R NR cR bm).toArray)] ((⟨some ⟨g0,1,none⟩,bm,32⟩:Sh.Tx)::ts):=⟨hy0,λv L hv hb t ht=>by
  rcases List.mem_cons.1 ht with rfl | ht
  ·exact ⟨src_tail (v:=.slice R NR cR) (hv.blk _ _ _ (hb _ (List.mem_singleton.2 rfl))).2,by show bm.length≤32; omega,by show 32≤9223372036854775807; decide⟩
  ·exact (hok t ht).below hv.below⟩
 refine sS (.agg (d0.map bv).toArray) (qG 106 #[.string rgFirst,y0.v] (λw hw=>by obtain ⟨Q,d,hv,_,_,htx⟩:=hx.texts; rw [hv,hd0]; have q:=Sh.tagged_any w rgFirst Q _ d (htx hw (λb hb=>List.mem_append.2 (.inr hb)) (λb hb=>List.mem_append.2 (.inl (by rw [List.mem_singleton.1 hb]; exact List.mem_of_getElem? (i:=0) rfl)))) (ht.below hw.below ht.lt) (by decide) (by show (bm++Sh.cat ts).length≤_; rw [List.length_append]; omega) (by rw [List.length_cons]; omega); exact q))<|sW 1 g1 23 (Zl 32).toArray (d0.map bv).toArray (Writes.store 0 23 (d0.map bv).toArray _ _ rfl kR kR (by rw [key_sz d0 hd1]; kernel_rfl) (by rw [key_sz d0 hd1]; exact Nat.le_of_ble_eq_true kR) (key_one _) (key_set _ _ (by rw [hd1]; kernel_rfl))) ?_
 refine Sy.setT ?_
 refine sG<|Sy.ret ?_
 rw [show (.agg ((rgT bm (Sh.cat ts)).map bv).toArray:Value)=.agg (d0.map bv).toArray from by rw [← hd0]]
 exact Sy.ret1 (v:=.agg (d0.map bv).toArray) rfl (.inl (Res.cell (ty':=23) g1 1 (d0.map bv).toArray _ kR kR Tryz.underlying23 rfl (by rw [key_sz d0 hd1]; kernel_rfl) kR))
end Cu
end
section
namespace Cu
open Go.RowKit Sy
noncomputable def infSc:TypeInfo:=(Tryz.prog.info? 42).getD default
theorem info_sc:Tryz.prog.info? 42=some infSc:=by kernel_rfl
noncomputable def infScs:TypeInfo:=(Tryz.prog.info? 51).getD default
theorem info_scs:Tryz.prog.info? 51=some infScs:=by kernel_rfl
theorem fws_one (k:Nat):∀ u∈fws k,u.oneCell'=true:=all_one _ kR
def fkF (bm sd:List UInt8) (i j:Nat):List Value:=fws (rgF bm sd i j)
set_option maxHeartbeats 4000000 in
set_option maxRecDepth 100000 in
theorem fakesG_any (w:World) (R:Option Addr) (NR cR:Nat) (a:Nat→Option Addr) (nk ck:Nat→Nat) (X Y:Nat→Nat→Nat) (I:Nat→Nat→Bool) (hX:∀ i k,X i k<K4) (hY:∀ i k,Y i k<K4) (hNR:NR≤4611686018427387904) (hnk:∀ i,nk i≤4611686018427387904) (hlr:Lst w 1 R NR (λi=>[.slice (a i) (nk i) (ck i)])) (hlk:∀ i,i<NR→Lst w 9 (a i) (nk i) (λk=>pml (X i k) (Y i k) (I i k))) (hN32:NR≤32) (hn64:∀ i,i<NR→nk i≤64) (bm:List UInt8) (hbm:bm.length=32) (sd:List UInt8) (hsd:sd.length=32) (ht:Sh.TabAt w 1):Calls Tryz.prog 107 #[bndv R NR cR bm,.agg (sd.map bv).toArray] w (GetsN w (GivesRows 51 42 4 (fkF bm sd) (cntR nk NR 0) NR)):=by
 have hlr0:=hlr
 obtain ⟨gR,oR,hR⟩:=hlr
 refine Sy.enter (args:=[bndv R NR cR bm,.agg (sd.map bv).toArray]) Tryz.func107 rfl kL ?_
 refine sC ?_
 refine sM 86 (bndc R NR cR bm).toArray (λg0=>?_)
 refine sM 23 (sd.map bv).toArray (λg1=>?_)
 refine sP (.slice none 0 0) ?_
 refine sA ?_
 refine sP (.pointer (some ⟨g0,0,none⟩))<|sS (.slice R NR cR) (Quiet.cell 0 g0 0 86 25 (bndc R NR cR bm).toArray _ _ rfl kR kR Tryz.underlying25 rfl _ kR)<|sP (.int .i64 ((NR:Nat):Int)) ?_
 refine Sy.make kR 51 (flat (λ_=>[.slice none 0 0]) NR).toArray (λg=>.slice (some ⟨g,0,none⟩) NR NR) (Makes.slice 29 51 _ (.slice none 0 0) 1 24 _ _ .i64 .i64 NR [.slice none 0 0] rfl rfl rfl Tryz.underlying29 info_scs kR kR (by decide) kR kR kR (by omega) (by omega)) (λg2=>?_)
 refine sP (.slice (some ⟨g2,0,none⟩) NR NR) ?_
 refine sG<|Sy.seq<|sC ?_
 refine sP (.pointer (some ⟨g0,0,none⟩))<|sS (.slice R NR cR) (Quiet.cell 0 g0 0 86 25 (bndc R NR cR bm).toArray _ _ rfl kR kR Tryz.underlying25 rfl _ kR)<|sP (.int .i64 ((NR:Nat):Int))<|sP (.int .i64 0) ?_
 refine sG<|Sy.block ?_
 refine Sy.loopT (Y:=Nat→Slc) NR (λk1 y1=>[(2,.pointer (some ⟨g0,0,none⟩)),(3,.pointer (some ⟨g1,0,none⟩)),(5,.slice (some ⟨g2,0,none⟩) NR NR),(14,.slice R NR cR),(15,.int .i64 ((NR:Nat):Int)),(16,.int .i64 ((k1:Nat):Int))]) (λk1 y1=>[(g0,86,(bndc R NR cR bm).toArray),(g1,23,(sd.map bv).toArray),(g2,51,(rowsC y1 NR))]++(rowsB y1 NR++[])) (λk1 y1=>RowsAre y1 42 4 (fkF bm sd) (cntR nk k1 0)) (λ_=>nilS) ((RowsAre.nil _ _ _).cnt (cntR_zero nk)) (all_cons kR (all_cons kR (all_cons kR (all_cons kR (all_cons kR (all_cons kR all_nil)))))) (λw hw=>by rw [rowsB_nil]; exact hw) (λk1 y1 hk1 hh1=>?_)
 refine sC ?_
 obtain ⟨b1,hb1⟩:∃ z:Bool,z=decide (k1<NR):=⟨_,rfl⟩
 refine sS (.bool b1) (Quiet.pure (exec_int .lss _ _ _ .i64 _ _ _ rfl rfl rfl (int_lss _ _ _ _ _ (by rw [hb1]; exact decide_eq_decide.2 (by omega))))) ?_
 refine sG<|Sy.seq ?_
 cases b1
 ·have lb1:¬ (k1<NR):=of_decide_eq_false hb1.symm
  refine sU<|Sy.exit<|Sy.then_exit<|Sy.then_exit ?_
  obtain rfl:NR=k1:=by omega
  refine Sy.in_exit<|sB ?_
  refine sP (.slice (some ⟨g2,0,none⟩) NR NR)<|sP (.slice (some ⟨g2,0,none⟩) NR NR) ?_
  refine sG<|Sy.ret ?_
  exact retGM ((g2,51,rowsC y1 NR)::rowsB y1 NR) rfl (v:=.slice (some ⟨g2,0,none⟩) NR NR) (.inl (show _=_ by kernel_rfl)) (λw hw=>by simpa using St.pick (pre:=[(g0,86,(bndc R NR cR bm).toArray),(g1,23,(sd.map bv).toArray),(g2,51,(rowsC y1 NR))]) (M:=[(g2,51,rowsC y1 NR)]) [2] (by decide) kR hw) ⟨_,y1,rfl,rfl,hh1⟩
 ·have lb1:k1<NR:=of_decide_eq_true hb1.symm
  have hnk1:=hn64 k1 lb1
  refine sT<|Sy.skip<|Sy.then_<|Sy.seq<|Sy.block<|sC ?_
  refine sP (.int .i64 ((k1:Nat):Int))<|sS (.pointer (some ⟨gR,oR+k1*1,none⟩)) (Quiet.pure (exec_atO 25 _ _ _ R gR oR NR cR k1 1 .i64 (hR (by omega)).1 rfl rfl rfl Tryz.underlying25 kF (by omega)))<|sS (.slice (a k1) (nk k1) (ck k1)) (Quiet.thereOne gR (oR+k1*1) 45 _ _ rfl kR (hR (by omega)).2.1 _ (range_one ((hR (by omega)).2.2 k1 (by omega)) 0 rfl) Tryz.underlying45 rfl)<|sP (.int .i64 ((k1:Nat):Int))<|sP (.slice (a k1) (nk k1) (ck k1)) ?_
  refine sA ?_
  refine sP (.slice (a k1) (nk k1) (ck k1))<|sP (.int .i64 (((nk k1):Nat):Int))<|sP (.int .i64 0) ?_
  refine sG<|Sy.block ?_
  refine Sy.loopT (Y:=Nat→Slc) (nk k1) (λk2 y2=>[(2,.pointer (some ⟨g0,0,none⟩)),(3,.pointer (some ⟨g1,0,none⟩)),(5,.slice (some ⟨g2,0,none⟩) NR NR),(6,.int .i64 ((k1:Nat):Int)),(7,.slice (a k1) (nk k1) (ck k1)),(14,.slice R NR cR),(15,.int .i64 ((NR:Nat):Int)),(16,.int .i64 ((k1:Nat):Int)),(21,.slice (a k1) (nk k1) (ck k1)),(22,.int .i64 (((nk k1):Nat):Int)),(23,.int .i64 ((k2:Nat):Int))]) (λk2 y2=>[(g0,86,(bndc R NR cR bm).toArray),(g1,23,(sd.map bv).toArray),(g2,51,(rowsC y2 NR))]++(rowsB y2 NR++[])) (λk2 y2=>RowsAre y2 42 4 (fkF bm sd) (cntR nk k1 k2)) y1 hh1 (all_cons kR (all_cons kR (all_cons kR (all_cons kR (all_cons kR (all_cons kR (all_cons kR (all_cons kR (all_cons kR (all_cons kR (all_cons kR all_nil))))))))))) (λw hw=>hw) (λk2 y2 hk2 hh2=>?_)
  refine sC ?_
  obtain ⟨b2,hb2⟩:∃ z:Bool,z=decide (k2<(nk k1)):=⟨_,rfl⟩
  refine sS (.bool b2) (Quiet.pure (exec_int .lss _ _ _ .i64 _ _ _ rfl rfl rfl (int_lss _ _ _ _ _ (by rw [hb2]; exact decide_eq_decide.2 (by omega))))) ?_
  refine sG<|Sy.seq ?_
  cases b2
  ·have lb2:¬ (k2<(nk k1)):=of_decide_eq_false hb2.symm
   refine sU<|Sy.exit<|Sy.then_exit<|Sy.then_exit ?_
   obtain rfl:k2=nk k1:=by omega
   refine Sy.in_exit<|Sy.in_<|Sy.then_<|Sy.region ?_
   refine sS (.int .i64 ((k1+1:Nat):Int)) (Quiet.pure (exec_int .add _ _ _ .i64 _ _ _ rfl rfl rfl (int_add _ _ _ _ _ ((wrap_i64 (by omega) (by omega)).trans (by omega)))))<|sP (.int .i64 ((k1+1:Nat):Int)) ?_
   refine Sy.nil ?_
   exact Sy.againT (y2) (by omega) (hh2.cnt (cntR_next nk k1)) (all_cons kR (all_cons kR (all_cons kR (all_cons kR (all_cons kR (all_cons kR all_nil)))))) (λw hw=>hw)
  ·have lb2:k2<(nk k1):=of_decide_eq_true hb2.symm
   refine sT<|Sy.skip<|Sy.then_<|Sy.seq<|Sy.block<|sC ?_
   refine sP (.int .i64 ((k2:Nat):Int))<|sP (.int .i64 ((k2:Nat):Int)) ?_
   refine sG ?_
   refine Sy.regionD (λj=>j == 12 || j == 14) kR ?_
   refine Sy.stepDA 0 rfl kR (λ_ _ _ _ h=>h) kR (.slice (some ⟨g2,0,none⟩) NR NR) kF ?_
   refine Sy.stepDA 1 rfl kR (λ_ _ _ _ h=>h) kR (.int .i64 ((k1:Nat):Int)) kF ?_
   refine Sy.stepDB 2 [4,5,12,13,14] rfl kR (λ_ _ _ _ h=>h) kR (.slice (some ⟨g2,0,none⟩) NR NR) qP ?_
   refine Sy.stepDB 3 [4,5,12,13,14] rfl kR (λ_ _ _ _ h=>h) kR (.int .i64 ((k1:Nat):Int)) qP ?_
   refine Sy.stepDB 4 [5,12,13,14] rfl kR (λ_ _ _ _ h=>h) kR (.pointer (some ⟨g2,0+k1*1,none⟩)) (Quiet.pure (exec_at 29 _ _ _ g2 0 NR NR k1 1 .i64 rfl rfl rfl Tryz.underlying29 kF (by omega))) ?_
   refine sD 5 rfl ((y2 k1).v) (Quiet.cell 2 g2 (0+k1*1) 51 51 (rowsC y2 NR) _ _ rfl kR kR Tryz.underlying51 rfl _ (rowsC_get (by omega) rfl)) ?_
   refine Sy.stepDB 6 [10,11,12,13,14] rfl kR (λ_ _ _ _ h=>h) kR (bndv R NR cR bm) (Quiet.load 0 g0 0 33 86 86 (bndc R NR cR bm).toArray _ _ rfl kR kR Tryz.underlying86 rfl kR _ (bnd_whole hbm) (bnd_size hbm)) ?_
   refine Sy.stepDB 7 [10,11,12,13,14] rfl kR (λ_ _ _ _ h=>h) kR (.agg (sd.map bv).toArray) (Quiet.load 1 g1 0 32 23 23 (sd.map bv).toArray _ _ rfl kR kR Tryz.underlying23 rfl kR _ (key_whole sd hsd) (key_size sd hsd)) ?_
   refine Sy.stepDB 8 [10,11,12,13,14] rfl kR (λ_ _ _ _ h=>h) kR (.int .i64 ((k1:Nat):Int)) qP ?_
   refine Sy.stepDB 9 [10,11,12,13,14] rfl kR (λ_ _ _ _ h=>h) kR (.int .i64 ((k2:Nat):Int)) qP ?_
   refine sD 10 rfl (fv (rgF bm sd k1 k2)) (Quiet.callS 171 #[bndv R NR cR bm,.agg (sd.map bv).toArray,.int .i64 ((k1:Nat):Int),.int .i64 ((k2:Nat):Int)] kF (λw hw=>fakeG_any w R NR cR bm hbm sd hsd k1 k2 (by omega) (by omega) (ht.below hw.below ht.lt))) ?_
   refine Sy.makeD 11 rfl kR kR 42 (fcs (rgF bm sd k1 k2)) (λg=>.slice (some ⟨g,0,none⟩) 1 1) kF (λg3=>?_)
   refine Sy.movTD ?_
   refine Sy.soleD 12 rfl (λQ1 hq1=>?_)
   refine Sy.permS (Sy.out_perm y2 (i:=k1) (by omega)) ?_
   refine Sy.appendR kR 51 42 _ _ 4 32 Tryz.underlying51 info_sc rfl rfl rfl rfl (by decide) _ _ rfl (hh2 k1) kR (fws (rgF bm sd k1 k2)) rfl (fws_one _) 3 g3 42 kR kR (by rw [List.length_map,List.length_range,cntR_at]; omega) (by rw [List.length_map,List.length_range,cntR_at]; simp only [maxLen]; omega) (λr1 hr1=>?_)
   refine hq1 _ _ ?_
   refine Sy.anyOf [13] kR (by decide) (Sy.each1 ?_)
   refine Sy.oneQuiet rfl kR (.pointer (some ⟨g2,0+k1*1,none⟩)) (Quiet.pure (exec_at 29 _ _ _ g2 0 NR NR k1 1 .i64 rfl rfl rfl Tryz.underlying29 kF (by omega))) ?_
   refine Sy.writeD 14 rfl kR (by rfl) kR 2 g2 51 (rowsC y2 NR) (rowsC (putR y2 k1 r1) NR) kR (Writes.one (0+k1*1) 51 (r1.v) _ _ rfl kR kR kR hr1.cells.1 hr1.cells.2 (rowsC_lt (by omega) rfl) (rowsC_set (by omega) rfl rfl)) ?_
   refine Sy.setTD ?_
   refine Sy.permD (Sy.in_perm (by omega)) ?_
   refine sE ?_
   refine Sy.in_<|Sy.then_<|Sy.region ?_
   refine sS (.int .i64 ((k2+1:Nat):Int)) (Quiet.pure (exec_int .add _ _ _ .i64 _ _ _ rfl rfl rfl (int_add _ _ _ _ _ ((wrap_i64 (by omega) (by omega)).trans (by omega)))))<|sP (.int .i64 ((k2+1:Nat):Int)) ?_
   refine Sy.nil ?_
   exact Sy.againT (putR y2 k1 r1) (by omega) (hh2.put' hr1 rfl) (all_cons kR (all_cons kR (all_cons kR (all_cons kR (all_cons kR (all_cons kR (all_cons kR (all_cons kR (all_cons kR (all_cons kR (all_cons kR all_nil))))))))))) (λw hw=>St.pick (pre:=[(g0,86,(bndc R NR cR bm).toArray),(g1,23,(sd.map bv).toArray),(g2,51,(rowsC (putR y2 k1 r1) NR)),(g3,42,(fcs (rgF bm sd k1 k2)))]) (M:=[(g0,86,(bndc R NR cR bm).toArray),(g1,23,(sd.map bv).toArray),(g2,51,(rowsC (putR y2 k1 r1) NR))]) [0,1,2] (by decide) kR hw)
end Cu
end
section
namespace Sy
open Go.RowKit
section
variable {P:Program} {w0:Base} {n:Nat} {Q:Exit→Act→World→Prop} {F:Slots} {L:Blocks}
theorem scope {c:Code} (h:wpC P w0 n (Exit.noGoto Q) F L c) (hf:w0.fence=Fence.wide:=by rfl):wpC P w0 n Q F L (.scope c):=λa w ha hw=>by
 have q:=h a w ha hw
 rw [hf] at q ⊢
 exact wpIn_wide.2 (wp_scope_straight (wpIn_wide.1 q))
theorem sc_r (h:X w0 n Q F L .ret):X w0 n (Exit.noGoto Q) F L .ret:=h
theorem label {i:Nat} (h:X w0 n Q F L .normal):wpC P w0 n Q F L (.label i):=λa w ha hw=>wpIn_label (h a w ha hw)
theorem retGM2 {w1:World} {fn:Func} {r s:ResultVar} {v u:Value} {R:Value→Blocks→Prop} (M:Blocks) (hr:fn.results=#[r,s]) (h:Has P F L r v) (k:Has P F L s u) (hM:∀ w,St (Base.of w1) w L→St (Base.of w1) w M) (hR:R (.tuple #[v,u]) M):X (Base.of w1) n (bodyPost P fn (GetsN w1 R)) F L .ret:=λa w ha hw=>by
 refine bodyPost_ret (v:=.tuple #[v,u]) ?_ ha.1 ⟨_,M,rfl,hR,hw.below,λg t cs hm=>(hM w hw).blk g t cs hm,(hM w hw).apart⟩
 rcases Res.run h ha hw with ⟨t,rfl,e1⟩ | ⟨t,ty,ad,rfl,e1,e2⟩ <;> rcases Res.run k ha hw with ⟨t',rfl,f1⟩ | ⟨t',ty',ad',rfl,f1,f2⟩ <;> simp [results,Result.andThen, *]
theorem St.none {w:World} (h:St w0 w L):St w0 w []:=h.less (List.nil_sublist _)
end
section
variable {pre A B C D M N:Blocks}
theorem rot_perm:(pre++(A++(B++C))).Perm (pre++(B++(C++A))):=by
 rw [← List.append_assoc B]
 exact List.perm_append_comm.append_left pre
theorem tor_perm:(pre++(B++(C++A))).Perm (pre++(A++(B++C))):=rot_perm.symm
theorem St.pick3 {w0:Base} {w:World} (is:List Nat) (hn:is.Nodup) (hm:is.map (λi=>pre[i]?)=(M++N).map some) (hw:St w0 w (pre++(A++(B++(C++D))))):St w0 w (M++(A++(B++(C++N)))):=by
 have h1:(pre++((A++B)++C)).Sublist (pre++(A++(B++(C++D)))):=by
  rw [List.append_assoc]
  exact (List.Sublist.refl pre).append ((List.Sublist.refl A).append ((List.Sublist.refl B).append (List.sublist_append_left C D)))
 have h2:=St.pick2 (a:=A++B) (T:=C) is hn hm (hw.less h1)
 rwa [List.append_assoc] at h2
end
end Sy
end
section
namespace Cu
open Go.RowKit Sy
def sgc33 (d:List UInt8) (W:Option Addr) (NW cW:Nat):List Value:=d.map bv++[.slice W NW cW]
def sgv33 (d:List UInt8) (W:Option Addr) (NW cW:Nat):Value:=.agg (sgc33 d W NW cW).toArray
section
variable {d:List UInt8} {W:Option Addr} {NW cW:Nat}
theorem sg_len (h:d.length=32):(sgc33 d W NW cW).length=33:=by simp [sgc33,h]
theorem sg_one:∀ u∈sgc33 d W NW cW,u.oneCell'=true:=λu hu=>by
 rcases List.mem_append.1 hu with hu | hu
 ·obtain ⟨x,_,rfl⟩:=List.mem_map.1 hu; rfl
 ·rw [List.mem_singleton.1 hu]; rfl
theorem sg_at (h:d.length=32):(sgc33 d W NW cW).toArray[32]? = some (.slice W NW cW):=by
 rw [List.getElem?_toArray]
 unfold sgc33
 rw [List.getElem?_append_right (by rw [List.length_map,h]; exact Nat.le_refl _),List.length_map,h]
 rfl
theorem sg_first (h:d.length=32):Value.agg (((sgc33 d W NW cW).toArray.toList.drop 0).take 32).toArray=.agg (d.map bv).toArray:=by
 show Value.agg ((((sgc33 d W NW cW)).drop 0).take 32).toArray=_
 rw [List.drop_zero]
 unfold sgc33
 rw [List.take_left' (by rw [List.length_map,h])]
theorem sg_fits (h:d.length=32):0+32≤(sgc33 d W NW cW).toArray.size:=by rw [List.size_toArray,sg_len h]; decide
theorem sg_whole (h:d.length=32):Value.agg (((sgc33 d W NW cW).toArray.toList.drop 0).take 33).toArray=sgv33 d W NW cW:=by
 show Value.agg ((((sgc33 d W NW cW)).drop 0).take 33).toArray=_
 rw [List.drop_zero,List.take_of_length_le (by rw [sg_len h]; exact Nat.le_refl _)]
 rfl
theorem sg_fit (h:d.length=32):0+33≤(sgc33 d W NW cW).toArray.size:=by rw [List.size_toArray,sg_len h]; decide
theorem sg_src {w:World} {g:Nat} {t:TypeId} (hb:Blk w g t (sgc33 d W NW cW).toArray):Sh.Src w (some ⟨g,0,none⟩) d:=λ_=>⟨g,0,rfl,hb.lt,λj u hj=>by
 refine (hb.cell (0+j)).trans ?_
 have hl:=(List.getElem?_eq_some_iff.1 hj).1
 rw [Nat.zero_add,List.getElem?_toArray]
 unfold sgc33
 rw [List.getElem?_append_left (by simpa using hl),List.getElem?_map,hj]
 rfl⟩
end
section
variable (s:Nat→Nat→Nat) (bm:List UInt8) (X Y:Nat→Nat→Nat) (I:Nat→Nat→Bool) (d:List UInt8)
def eE (i j:Nat):Nat:=rgC bm (alX (s i) bm i 0 (X i) (Y i) (I i) d j) i j
def eF (i j:Nat):List Value:=fws (eE s bm X Y I d i j)
def endsT (nk:Nat→Nat):Nat→List UInt8
 | 0=>[]
 | k+1=>endsT nk k++alX (s k) bm k 0 (X k) (Y k) (I k) d (nk k)
def rowOk (sn nk:Nat→Nat) (i:Nat):Bool:=decide (sn i=nk i) && (List.range (sn i)).all λj=>decide (s i j%Sc.pM=s i j)
def chB (NW NR:Nat) (sn nk:Nat→Nat):Bool:=decide (NW=NR) && ((List.range NR).all (rowOk s sn nk) && decide (rgT bm (endsT s bm X Y I d nk NR)=d))
end
section
variable {s:Nat→Nat→Nat} {bm:List UInt8} {X Y:Nat→Nat→Nat} {I:Nat→Nat→Bool} {d:List UInt8} {NW NR:Nat} {sn nk:Nat→Nat}
theorem eE_lt (i j:Nat):eE s bm X Y I d i j<K4:=rgC_lt _ _ _ _
theorem alX0_succ (s:Nat→Nat) (bm:List UInt8) (i:Nat) (X Y:Nat→Nat) (I:Nat→Bool) (x:List UInt8) (k:Nat):alX s bm i 0 X Y I x (k+1)=encS (rPt (s k) (rgC bm (alX s bm i 0 X Y I x k) i k) (X k) (Y k) (I k)):=by
 show encS (rPt (s (0+k)) (rgC bm (alX s bm i 0 X Y I x k) i (0+k)) (X (0+k)) (Y (0+k)) (I (0+k)))=_
 rw [Nat.zero_add]
theorem endsT_len (h:d.length=32):∀ k,(endsT s bm X Y I d nk k).length≤33*k
 | 0=>Nat.le_refl _
 | k+1=>by
  show (endsT s bm X Y I d nk k++_).length≤_
  have h1:=endsT_len h k
  have h2:(alX (s k) bm k 0 (X k) (Y k) (I k) d (nk k)).length≤33:=by
   rcases Nat.eq_zero_or_pos (nk k) with h0 | h0
   ·rw [h0]; show d.length≤33; omega
   ·rw [alX_len h0]; exact Nat.le_refl _
  rw [List.length_append]
  omega
theorem rowOk_len {i:Nat} (h:sn i≠nk i):rowOk s sn nk i=false:=by unfold rowOk; rw [decide_eq_false h]; rfl
theorem rowOk_num {i j:Nat} (hj:j<sn i) (h:s i j%Sc.pM≠s i j):rowOk s sn nk i=false:=by
 unfold rowOk
 rw [show ((List.range (sn i)).all λj=>decide (s i j%Sc.pM=s i j))=false from List.all_eq_false.2 ⟨j,List.mem_range.2 hj,by rw [decide_eq_false h]; decide⟩,Bool.and_false]
theorem rowOk_yes {i:Nat} (h1:sn i=nk i) (h2:∀ j,j<sn i→s i j%Sc.pM=s i j):rowOk s sn nk i=true:=by
 unfold rowOk
 rw [decide_eq_true h1,List.all_eq_true.2 λj hj=>decide_eq_true (h2 j (List.mem_range.1 hj))]
 rfl
theorem chB_len (h:NW≠NR):chB s bm X Y I d NW NR sn nk=false:=by unfold chB; rw [decide_eq_false h]; rfl
theorem chB_row {k:Nat} (hk:k<NR) (h:rowOk s sn nk k=false):chB s bm X Y I d NW NR sn nk=false:=by
 unfold chB
 rw [show (List.range NR).all (rowOk s sn nk)=false from List.all_eq_false.2 ⟨k,List.mem_range.2 hk,by rw [h]; decide⟩,Bool.false_and,Bool.and_false]
theorem chB_end (h:rgT bm (endsT s bm X Y I d nk NR)≠d):chB s bm X Y I d NW NR sn nk=false:=by
 unfold chB
 rw [decide_eq_false h,Bool.and_false,Bool.and_false]
theorem chB_yes (h0:NW=NR) (h1:∀ i,i<NR→rowOk s sn nk i=true) (h:rgT bm (endsT s bm X Y I d nk NR)=d):chB s bm X Y I d NW NR sn nk=true:=by
 unfold chB
 rw [decide_eq_true h0,decide_eq_true h,List.all_eq_true.2 λi hi=>h1 i (List.mem_range.1 hi)]
 rfl
end
def xlen:Nat→Nat
 | 0=>32
 | _+1=>33
def XtIs (g:Nat) (d l:List UInt8) (j:Nat) (xt:Sh.Tx) (xb:Blocks):Prop:=(j=0∧xt=⟨some ⟨g,0,none⟩,d,32⟩∧xb=[]∧l=d)∨(0<j∧l.length=33∧∃ q,xt=⟨some ⟨q,0,none⟩,l,33⟩∧xb=[(q,191,(l.map bv).toArray)])
section
variable {g j:Nat} {d l:List UInt8} {xt:Sh.Tx} {xb:Blocks} {w0:Base} {w:World} {L:Blocks}
theorem XtIs.li (h:XtIs g d l j xt xb):xt.l=l:=by
 rcases h with ⟨_,rfl,_,rfl⟩ | ⟨_,_,q,rfl,_⟩ <;> rfl
theorem XtIs.xl (h:XtIs g d l j xt xb) (hd:d.length=32):xt.l.length=xlen j:=by
 rcases h with ⟨rfl,rfl,_,rfl⟩ | ⟨hj,hl,q,rfl,_⟩
 ·exact hd
 ·cases j with
  | zero=>omega
  | succ j=>exact hl
theorem XtIs.val (h:XtIs g d l j xt xb) (hd:d.length=32):xt.val=.slice xt.A (xlen j) xt.c:=by
 unfold Sh.Tx.val
 rw [h.xl hd]
theorem XtIs.len (h:XtIs g d l j xt xb) (hd:d.length=32):xt.l.length≤33∧xt.l.length≤xt.c∧xt.c≤33:=by
 rcases h with ⟨_,rfl,_,rfl⟩ | ⟨_,hl,q,rfl,_⟩
 ·show l.length≤33∧l.length≤32∧32≤33; omega
 ·show l.length≤33∧l.length≤33∧33≤33; omega
theorem XtIs.src (h:XtIs g d l j xt xb) {t:TypeId} {W:Option Addr} {NW cW:Nat} (hw:St w0 w L) (hg:(g,t,(sgc33 d W NW cW).toArray)∈L) (hb:∀ b∈xb,b∈L):Sh.Src w xt.A xt.l:=by
 rcases h with ⟨_,rfl,_,rfl⟩ | ⟨_,_,q,rfl,rfl⟩
 ·exact sg_src (hw.blk _ _ _ hg).2
 ·exact Sh.Src.of_blk (hw.blk _ _ _ (hb _ (List.mem_singleton.2 rfl))).2
theorem XtIs.ok (h:XtIs g d l j xt xb) (hj:0<j):∀ w L,St w0 w L→(∀ b∈xb,b∈L)→xt.ok w:=by
 rcases h with ⟨h0,_⟩ | ⟨_,hl,q,rfl,rfl⟩
 ·omega
 ·exact ok_blk (by omega) (by decide)
end
def ChR (b:Bool) (f:Nat→Nat→List Value) (nk:Nat→Nat) (NR:Nat) (v:Value) (M:Blocks):Prop:=(b=false∧v=.tuple #[.slice none 0 0,.bool false]∧M=[])∨(b=true∧∃ u,v=.tuple #[u,.bool true]∧GivesRows 51 42 4 f (cntR nk NR 0) NR u M)
set_option maxHeartbeats 4000000 in
set_option maxRecDepth 100000 in
theorem challengesG_any (w:World) (R:Option Addr) (NR cR:Nat) (a:Nat→Option Addr) (nk ck:Nat→Nat) (X Y:Nat→Nat→Nat) (I:Nat→Nat→Bool) (hX:∀ i k,X i k<K4) (hY:∀ i k,Y i k<K4) (hNR:NR≤4611686018427387904) (hnk:∀ i,nk i≤4611686018427387904) (hlr:Lst w 1 R NR (λi=>[.slice (a i) (nk i) (ck i)])) (hlk:∀ i,i<NR→Lst w 9 (a i) (nk i) (λk=>pml (X i k) (Y i k) (I i k))) (hN32:NR≤32) (hn64:∀ i,i<NR→nk i≤64) (hn1:∀ i,i<NR→1≤nk i) (bm:List UInt8) (hbm:bm.length=32) (d:List UInt8) (hd:d.length=32) (W:Option Addr) (NW cW:Nat) (sa:Nat→Option Addr) (sn sc:Nat→Nat) (s:Nat→Nat→Nat) (hsc:∀ i k,s i k<K4) (hNW:NW≤4611686018427387904) (hsn9:∀ i,i<NW→sn i≤4611686018427387904) (hlw:Lst w 1 W NW (λi=>[.slice (sa i) (sn i) (sc i)])) (hls:∀ i,i<NW→Lst w 4 (sa i) (sn i) (λk=>fws (s i k))) (ht:Sh.TabAt w 1):Calls Tryz.prog 48 #[bndv R NR cR bm,sgv33 d W NW cW] w (GetsN w (ChR (chB s bm X Y I d NW NR sn nk) (eF s bm X Y I d) nk NR)):=by
 have hlr0:=hlr
 obtain ⟨gR,oR,hR⟩:=hlr
 obtain ⟨gW,oW,hW⟩:=hlw
 refine Sy.enter (args:=[bndv R NR cR bm,sgv33 d W NW cW]) Tryz.func48 rfl kL ?_
 refine sC ?_
 refine sM 86 (bndc R NR cR bm).toArray (λg0=>?_)
 refine sM 31 (sgc33 d W NW cW).toArray (λg1=>?_)
 refine sP (.slice none 0 0)<|sP (.bool false) ?_
 refine sG ?_
 refine Sy.scope ?_
 refine Sy.seq<|sC ?_
 refine sP (.pointer (some ⟨g1,32,none⟩))<|sS (.slice W NW cW) (Quiet.cell 1 g1 32 31 29 (sgc33 d W NW cW).toArray _ _ rfl kR kR Tryz.underlying29 rfl _ (sg_at hd))<|sP (.int .i64 ((NW:Nat):Int))<|sP (.pointer (some ⟨g0,0,none⟩))<|sS (.slice R NR cR) (Quiet.cell 0 g0 0 86 25 (bndc R NR cR bm).toArray _ _ rfl kR kR Tryz.underlying25 rfl _ kR)<|sP (.int .i64 ((NR:Nat):Int)) ?_
 obtain ⟨b1,hb1⟩:∃ z:Bool,z=decide (NW≠NR):=⟨_,rfl⟩
 refine sS (.bool b1) (Quiet.pure (exec_int .neq _ _ _ .i64 _ _ _ rfl rfl rfl (int_neq _ _ _ _ _ (by rw [hb1]; exact decide_eq_decide.2 (by omega))))) ?_
 refine sG ?_
 cases b1
 ·have lb1:¬ (NW≠NR):=of_decide_eq_false hb1.symm
  obtain rfl:NR=NW:=by omega
  refine sU<|Sy.skip<|sB ?_
  refine sP (.pointer (some ⟨g0,0,none⟩))<|sS (.slice R NR cR) (Quiet.cell 0 g0 0 86 25 (bndc R NR cR bm).toArray _ _ rfl kR kR Tryz.underlying25 rfl _ kR)<|sP (.int .i64 ((NR:Nat):Int)) ?_
  refine Sy.make kR 51 (flat (λ_=>[.slice none 0 0]) NR).toArray (λg=>.slice (some ⟨g,0,none⟩) NR NR) (Makes.slice 29 51 _ (.slice none 0 0) 1 24 _ _ .i64 .i64 NR [.slice none 0 0] rfl rfl rfl Tryz.underlying29 info_scs kR kR (by decide) kR kR kR (by omega) (by omega)) (λg2=>?_)
  refine sP (.slice (some ⟨g2,0,none⟩) NR NR) ?_
  refine sA ?_
  refine sP (.slice none 0 0) ?_
  refine sG<|Sy.seq ?_
  refine Sy.label ?_
  refine Sy.then_<|Sy.seq<|sC ?_
  refine sP (.pointer (some ⟨g1,32,none⟩))<|sS (.slice W NR cW) (Quiet.cell 1 g1 32 31 29 (sgc33 d W NR cW).toArray _ _ rfl kR kR Tryz.underlying29 rfl _ (sg_at hd))<|sP (.int .i64 ((NR:Nat):Int))<|sP (.int .i64 0) ?_
  refine sG<|Sy.block ?_
  refine Sy.loopT (Y:=(Nat→Slc)×Slc×Blocks×List Sh.Tx) NR (λk1 y1=>[(2,.pointer (some ⟨g0,0,none⟩)),(3,.pointer (some ⟨g1,0,none⟩)),(6,.slice (some ⟨g2,0,none⟩) NR NR),(7,y1.2.1.v),(26,.slice W NR cW),(27,.int .i64 ((NR:Nat):Int)),(28,.int .i64 ((k1:Nat):Int))]) (λk1 y1=>[(g0,86,(bndc R NR cR bm).toArray),(g1,31,(sgc33 d W NR cW).toArray),(g2,51,(rowsC y1.1 NR))]++(rowsB y1.1 NR++(y1.2.1.bl++y1.2.2.1))) (λk1 y1=>RowsAre y1.1 42 4 (eF s bm X Y I d) (cntR nk k1 0)∧TxsIs (Base.of w) 24 y1.2.1 y1.2.2.1 y1.2.2.2∧Sh.cat y1.2.2.2=endsT s bm X Y I d nk k1∧y1.2.2.2.length=k1∧∀ i,i<k1→rowOk s sn nk i=true) (λ_=>nilS,nilS,[],[]) ⟨(RowsAre.nil _ _ _).cnt (cntR_zero nk),TxsIs.nil _ _,rfl,rfl,λi hi=>absurd hi (Nat.not_lt_zero _)⟩ (all_cons kR (all_cons kR (all_cons kR (all_cons kR (all_cons kR (all_cons kR (all_cons kR all_nil))))))) (λw hw=>by rw [rowsB_nil]; exact hw) (λk1 y1 hk1 hh1=>?_)
  refine sC ?_
  obtain ⟨b2,hb2⟩:∃ z:Bool,z=decide (k1<NR):=⟨_,rfl⟩
  refine sS (.bool b2) (Quiet.pure (exec_int .lss _ _ _ .i64 _ _ _ rfl rfl rfl (int_lss _ _ _ _ _ (by rw [hb2]; exact decide_eq_decide.2 (by omega))))) ?_
  refine sG<|Sy.seq ?_
  cases b2
  ·have lb2:¬ (k1<NR):=of_decide_eq_false hb2.symm
   refine sU<|Sy.exit<|Sy.then_exit<|Sy.then_exit ?_
   obtain rfl:NR=k1:=by omega
   refine Sy.in_exit<|Sy.then_<|Sy.seq<|Sy.seq ?_
   refine Sy.regionD (λj=>false) kR ?_
   refine sZ 0 rfl (y1.2.1.v)<|sD 1 rfl (.int .i64 ((NR:Nat):Int)) (Quiet.lenR hh1.2.1.row (by rw [List.length_map]; exact hh1.2.2.2.1) _ Tryz.underlying95 rfl rfl)<|sZ 2 rfl (.pointer (some ⟨g0,0,none⟩))<|sD 3 rfl (.slice R NR cR) (Quiet.cell 0 g0 0 86 25 (bndc R NR cR bm).toArray _ _ rfl kR kR Tryz.underlying25 rfl _ kR)<|sZ 4 rfl (.int .i64 ((NR:Nat):Int)) ?_
   obtain ⟨b3,hb3⟩:∃ z:Bool,z=decide (NR≠NR):=⟨_,rfl⟩
   refine sD 5 rfl (.bool b3) (Quiet.pure (exec_int .neq _ _ _ .i64 _ _ _ rfl rfl rfl (int_neq _ _ _ _ _ (by rw [hb3]; exact decide_eq_decide.2 (by omega)))))<|sZ 6 rfl (.bool b3) ?_
   cases b3
   ·have lb3:¬ (NR≠NR):=of_decide_eq_false hb3.symm
    refine sD 7 rfl (bndv R NR cR bm) (Quiet.load 0 g0 0 33 86 86 (bndc R NR cR bm).toArray _ _ rfl kR kR Tryz.underlying86 rfl kR _ (bnd_whole hbm) (bnd_size hbm))<|sZ 8 rfl (y1.2.1.v) ?_
    obtain ⟨d0,hd0⟩:∃ l,l=rgT bm (endsT s bm X Y I d nk NR):=⟨_,rfl⟩
    have hd1:d0.length=32:=by rw [hd0]; exact rgT_len _ _
    refine sD 9 rfl (.agg (d0.map bv).toArray) (Quiet.callS 112 #[bndv R NR cR bm,y1.2.1.v] kF (λw hw=>by obtain ⟨Q,dd,hv,hc9,_,htx⟩:=hh1.2.1.texts; rw [hv,hd0, ← hh1.2.2.1]; have hel:=endsT_len (s:=s) (bm:=bm) (X:=X) (Y:=Y) (I:=I) (nk:=nk) hd NR; exact firstG_any w R NR cR bm hbm Q _ dd y1.2.2.2 (htx hw (λb hb=>List.mem_append.2 (.inr (List.mem_append.2 (.inr (List.mem_append.2 (.inl hb)))))) (λb hb=>List.mem_append.2 (.inr (List.mem_append.2 (.inr (List.mem_append.2 (.inr hb))))))) (hh1.2.1.ok w _ hw (λb hb=>List.mem_append.2 (.inr (List.mem_append.2 (.inr (List.mem_append.2 (.inr hb))))))) rfl hc9 (by omega) (by rw [hh1.2.2.1]; omega) (ht.below hw.below ht.lt)))<|sZ 10 rfl (.pointer (some ⟨g1,0,none⟩))<|sD 11 rfl (.agg (d.map bv).toArray) (Quiet.load 1 g1 0 32 31 23 (sgc33 d W NR cW).toArray _ _ rfl kR kR Tryz.underlying23 rfl kR _ (sg_first hd) (sg_fits hd)) ?_
    obtain ⟨b4,hb4⟩:∃ z:Bool,z=decide (d0≠d):=⟨_,rfl⟩
    refine sD 12 rfl (.bool b4) (Quiet.pure (λw=>by rw [hb4]; exact neq_digest w _ _ _ _ d0 d hd1 hd rfl rfl rfl))<|sZ 13 rfl (.bool b4) ?_
    refine sI ?_
    cases b4
    ·have lb4:¬ (d0≠d):=of_decide_eq_false hb4.symm
     refine sU<|Sy.skip<|sB ?_
     refine sP (.slice (some ⟨g2,0,none⟩) NR NR)<|sP (.slice (some ⟨g2,0,none⟩) NR NR)<|sP (.bool true) ?_
     refine sG<|Sy.ret ?_
     refine Sy.sc_r ?_
     exact retGM2 ((g2,51,rowsC y1.1 NR)::rowsB y1.1 NR) rfl (v:=.slice (some ⟨g2,0,none⟩) NR NR) (u:=.bool true) (.inl (show _=_ by kernel_rfl)) (.inl (show _=_ by kernel_rfl)) (λw hw=>(St.pick (pre:=[(g0,86,(bndc R NR cR bm).toArray),(g1,31,(sgc33 d W NR cW).toArray),(g2,51,(rowsC y1.1 NR))]) (M:=[(g2,51,rowsC y1.1 NR)]) [2] (by decide) kR hw).less (by rw [← List.append_assoc]; exact List.sublist_append_left _ _)) (.inr ⟨chB_yes rfl hh1.2.2.2.2 (by rw [← hd0]; exact Decidable.of_not_not lb4),_,rfl,_,y1.1,rfl,rfl,hh1.1⟩)
    ·have lb4:d0≠d:=of_decide_eq_true hb4.symm
     refine sT<|sC ?_
     refine sP (.slice none 0 0)<|sP (.bool false) ?_
     refine sG<|Sy.ret<|Sy.then_ret ?_
     refine Sy.sc_r ?_
     exact retGM2 [] rfl (v:=.slice none 0 0) (u:=.bool false) (.inl (show _=_ by kernel_rfl)) (.inl (show _=_ by kernel_rfl)) (λ_ hw=>hw.none) (.inl ⟨chB_end (by rw [← hd0]; exact lb4),rfl,rfl⟩)
   ·have lb3:NR≠NR:=of_decide_eq_true hb3.symm
    exact absurd rfl lb3
  ·have lb2:k1<NR:=of_decide_eq_true hb2.symm
   have hnk1:=hn64 k1 lb2
   have hnk0:=hn1 k1 lb2
   obtain ⟨gK,oK,hT⟩:=hlk k1 lb2
   obtain ⟨gS,oS,hS⟩:=hls k1 lb2
   have hsn8:=hsn9 k1 lb2
   refine sT<|Sy.skip<|Sy.then_<|Sy.seq<|Sy.block<|sC ?_
   refine sP (.int .i64 ((k1:Nat):Int))<|sS (.pointer (some ⟨gW,oW+k1*1,none⟩)) (Quiet.pure (exec_atO 29 _ _ _ W gW oW NR cW k1 1 .i64 (hW (by omega)).1 rfl rfl rfl Tryz.underlying29 kF (by omega)))<|sS (.slice (sa k1) (sn k1) (sc k1)) (Quiet.thereOne gW (oW+k1*1) 51 _ _ rfl kR (hW (by omega)).2.1 _ (range_one ((hW (by omega)).2.2 k1 (by omega)) 0 rfl) Tryz.underlying51 rfl)<|sP (.int .i64 ((k1:Nat):Int))<|sP (.slice (sa k1) (sn k1) (sc k1)) ?_
   refine sG<|Sy.seq<|sC ?_
   refine sP (.slice (sa k1) (sn k1) (sc k1))<|sP (.int .i64 (((sn k1):Nat):Int))<|sP (.pointer (some ⟨g0,0,none⟩))<|sS (.slice R NR cR) (Quiet.cell 0 g0 0 86 25 (bndc R NR cR bm).toArray _ _ rfl kR kR Tryz.underlying25 rfl _ kR)<|sP (.int .i64 ((k1:Nat):Int))<|sS (.pointer (some ⟨gR,oR+k1*1,none⟩)) (Quiet.pure (exec_atO 25 _ _ _ R gR oR NR cR k1 1 .i64 (hR (by omega)).1 rfl rfl rfl Tryz.underlying25 kF (by omega)))<|sS (.slice (a k1) (nk k1) (ck k1)) (Quiet.thereOne gR (oR+k1*1) 45 _ _ rfl kR (hR (by omega)).2.1 _ (range_one ((hR (by omega)).2.2 k1 (by omega)) 0 rfl) Tryz.underlying45 rfl)<|sP (.int .i64 (((nk k1):Nat):Int)) ?_
   obtain ⟨b5,hb5⟩:∃ z:Bool,z=decide ((sn k1)≠(nk k1)):=⟨_,rfl⟩
   refine sS (.bool b5) (Quiet.pure (exec_int .neq _ _ _ .i64 _ _ _ rfl rfl rfl (int_neq _ _ _ _ _ (by rw [hb5]; exact decide_eq_decide.2 (by omega))))) ?_
   refine sG ?_
   cases b5
   ·have lb5:¬ ((sn k1)≠(nk k1)):=of_decide_eq_false hb5.symm
    have hsn:sn k1=nk k1:=by omega
    refine sU<|Sy.skip<|sB ?_
    refine sP (.pointer (some ⟨g1,0,none⟩))<|sP (.slice (some ⟨g1,0,none⟩) 32 32)<|sP (.slice (some ⟨g1,0,none⟩) 32 32) ?_
    refine sG<|Sy.seq<|sC ?_
    refine sP (.slice (sa k1) (sn k1) (sc k1))<|sP (.int .i64 (((sn k1):Nat):Int))<|sP (.int .i64 0) ?_
    refine sG<|Sy.block ?_
    refine Sy.loopT (Y:=(Nat→Slc)×Sh.Tx×Blocks) (sn k1) (λk2 y2=>[(2,.pointer (some ⟨g0,0,none⟩)),(3,.pointer (some ⟨g1,0,none⟩)),(6,.slice (some ⟨g2,0,none⟩) NR NR),(7,y1.2.1.v),(8,.int .i64 ((k1:Nat):Int)),(9,.slice (sa k1) (sn k1) (sc k1)),(10,.slice y2.2.1.A (xlen k2) y2.2.1.c),(26,.slice W NR cW),(27,.int .i64 ((NR:Nat):Int)),(28,.int .i64 ((k1:Nat):Int)),(44,.slice (sa k1) (sn k1) (sc k1)),(45,.int .i64 (((sn k1):Nat):Int)),(46,.int .i64 ((k2:Nat):Int))]) (λk2 y2=>[(g0,86,(bndc R NR cR bm).toArray),(g1,31,(sgc33 d W NR cW).toArray),(g2,51,(rowsC y2.1 NR))]++(rowsB y2.1 NR++(y1.2.1.bl++(y1.2.2.1++y2.2.2)))) (λk2 y2=>RowsAre y2.1 42 4 (eF s bm X Y I d) (cntR nk k1 k2)∧XtIs g1 d (alX (s k1) bm k1 0 (X k1) (Y k1) (I k1) d k2) k2 y2.2.1 y2.2.2∧∀ i,i<k2→s k1 i%Sc.pM=s k1 i) (y1.1,⟨some ⟨g1,0,none⟩,d,32⟩,[]) ⟨hh1.1,.inl ⟨rfl,rfl,rfl,rfl⟩,λi hi=>absurd hi (Nat.not_lt_zero _)⟩ (all_cons kR (all_cons kR (all_cons kR (all_cons kR (all_cons kR (all_cons kR (all_cons kR (all_cons kR (all_cons kR (all_cons kR (all_cons kR (all_cons kR (all_cons kR all_nil))))))))))))) (λw hw=>by rw [List.append_nil]; exact hw) (λk2 y2 hk2 hh2=>?_)
    refine sC ?_
    obtain ⟨b6,hb6⟩:∃ z:Bool,z=decide (k2<(sn k1)):=⟨_,rfl⟩
    refine sS (.bool b6) (Quiet.pure (exec_int .lss _ _ _ .i64 _ _ _ rfl rfl rfl (int_lss _ _ _ _ _ (by rw [hb6]; exact decide_eq_decide.2 (by omega))))) ?_
    refine sG<|Sy.seq ?_
    cases b6
    ·have lb6:¬ (k2<(sn k1)):=of_decide_eq_false hb6.symm
     refine sU<|Sy.exit<|Sy.then_exit<|Sy.then_exit ?_
     obtain rfl:k2=sn k1:=by omega
     refine Sy.in_exit<|Sy.then_<|Sy.region ?_
     refine sP (y1.2.1.v)<|sP (.slice y2.2.1.A (xlen (sn k1)) y2.2.1.c) ?_
     refine Sy.make kR 24 #[.slice y2.2.1.A (xlen (sn k1)) y2.2.1.c] (λg=>.slice (some ⟨g,0,none⟩) 1 1) kF (λg3=>?_)
     refine Sy.movT ?_
     refine Sy.permS Sy.rot_perm ?_
     refine Sy.appendR kR 95 24 _ _ 1 24 Tryz.underlying95 info_sl rfl rfl rfl rfl (by decide) _ _ rfl hh1.2.1.row kR [.slice y2.2.1.A (xlen (sn k1)) y2.2.1.c] rfl (one_sl _ _ _) 3 g3 24 kR kR (by rw [List.length_map,hh1.2.2.2.1]; omega) (by rw [List.length_map,hh1.2.2.2.1]; simp only [maxLen]; omega) (λr1 hr1=>?_)
     refine Sy.permS Sy.tor_perm ?_
     refine sP (r1.v) ?_
     refine Sy.nil<|Sy.in_<|Sy.then_<|Sy.region ?_
     refine sS (.int .i64 ((k1+1:Nat):Int)) (Quiet.pure (exec_int .add _ _ _ .i64 _ _ _ rfl rfl rfl (int_add _ _ _ _ _ ((wrap_i64 (by omega) (by omega)).trans (by omega)))))<|sP (.int .i64 ((k1+1:Nat):Int)) ?_
     refine Sy.nil ?_
     exact Sy.againT ((y2.1,r1,y1.2.2.1++y2.2.2,y1.2.2.2++[y2.2.1])) (by omega) (⟨hh2.1.cnt (λi=>by rw [hsn]; exact cntR_next nk k1 i),hh1.2.1.add y2.2.1 y2.2.2 hr1 (hh2.2.1.val hd) (hh2.2.1.ok (by omega)),by rw [cat_add,hh1.2.2.1,hh2.2.1.li,hsn]; rfl,by rw [List.length_append,hh1.2.2.2.1]; rfl,λi hi=>(Nat.lt_succ_iff_lt_or_eq.1 hi).elim (hh1.2.2.2.2 i) (λh=>by rw [h]; exact rowOk_yes hsn hh2.2.2)⟩) (all_cons kR (all_cons kR (all_cons kR (all_cons kR (all_cons kR (all_cons kR (all_cons kR all_nil))))))) (λw hw=>St.pick (pre:=[(g0,86,(bndc R NR cR bm).toArray),(g1,31,(sgc33 d W NR cW).toArray),(g2,51,(rowsC y2.1 NR)),(g3,24,#[.slice y2.2.1.A (xlen (sn k1)) y2.2.1.c])]) (M:=[(g0,86,(bndc R NR cR bm).toArray),(g1,31,(sgc33 d W NR cW).toArray),(g2,51,(rowsC y2.1 NR))]) [0,1,2] (by decide) kR hw)
    ·have lb6:k2<(sn k1):=of_decide_eq_true hb6.symm
     refine sT<|Sy.skip<|Sy.then_<|Sy.seq<|Sy.block<|sC ?_
     refine sP (.int .i64 ((k2:Nat):Int))<|sS (.pointer (some ⟨gS,oS+k2*4,none⟩)) (Quiet.pure (exec_atO 51 _ _ _ (sa k1) gS oS (sn k1) (sc k1) k2 4 .i64 (hS (by omega)).1 rfl rfl rfl Tryz.underlying51 kF (by omega)))<|sS (fv (s k1 k2)) (Quiet.there gS (oS+k2*4) 4 42 (fws (s k1 k2)) _ _ rfl kR (hS (by omega)).2.1 ((hS (by omega)).2.2 k2 (by omega)) Tryz.underlying42 rfl kR rfl _ rfl) ?_
     refine sM 42 (fcs 0) (λg4=>?_)
     refine Sy.movT ?_
     refine sP (.int .i64 ((k2:Nat):Int))<|sW 3 g4 42 (fcs 0) (fcs (s k1 k2)) (wS 0 42 (fcs (s k1 k2)) rfl) ?_
     refine Sy.setT ?_
     refine sG<|Sy.seq<|Sy.seq ?_
     refine Sy.regionD (λj=>false) kR ?_
     refine sD 0 rfl (fv (s k1 k2)) (qL 3 g4 0 4 42 42 (fcs (s k1 k2)) rfl Tryz.underlying42)<|sD 1 rfl (fv (s k1 k2%Sc.pM)) (qF 116 #[fv (s k1 k2)] (λw=>Sc.norm_any w (s k1 k2) (hsc k1 k2)))<|sD 2 rfl (fv (s k1 k2)) (qL 3 g4 0 4 42 42 (fcs (s k1 k2)) rfl Tryz.underlying42) ?_
     obtain ⟨b7,hb7⟩:∃ z:Bool,z=decide ((s k1 k2%Sc.pM)≠(s k1 k2)):=⟨_,rfl⟩
     refine sD 3 rfl (.bool b7) (Quiet.pure (λw=>by rw [hb7,decide_not]; exact neq_sc w _ _ _ _ _ _ rfl rfl rfl (by first | exact hsc _ _ | exact Sc.mod_lt _ | exact rgC_lt _ _ _ _ | exact rgF_lt _ _ _ _ | assumption) (by first | exact hsc _ _ | exact Sc.mod_lt _ | exact rgC_lt _ _ _ _ | exact rgF_lt _ _ _ _ | assumption))) ?_
     refine sI ?_
     cases b7
     ·have lb7:¬ ((s k1 k2%Sc.pM)≠(s k1 k2)):=of_decide_eq_false hb7.symm
      have hnorm:s k1 k2%Sc.pM=s k1 k2:=Decidable.of_not_not lb7
      refine sU<|Sy.skip<|sB ?_
      refine sS (bndv R NR cR bm) (Quiet.load 0 g0 0 33 86 86 (bndc R NR cR bm).toArray _ _ rfl kR kR Tryz.underlying86 rfl kR _ (bnd_whole hbm) (bnd_size hbm))<|sP (.slice y2.2.1.A (xlen k2) y2.2.1.c)<|sP (.int .i64 ((k1:Nat):Int))<|sP (.int .i64 ((k2:Nat):Int))<|sS (fv (eE s bm X Y I d k1 k2)) (Quiet.callS 113 #[bndv R NR cR bm,.slice y2.2.1.A (xlen k2) y2.2.1.c,.int .i64 ((k1:Nat):Int),.int .i64 ((k2:Nat):Int)] kF (λw hw=>by have hl:=hh2.2.1.len hd; have hx:=hh2.2.1.xl hd; have q:=chalG_any w R NR cR bm hbm y2.2.1.A y2.2.1.l (xlen k2) y2.2.1.c hx (by omega) (by omega) (by omega) (hh2.2.1.src hw (List.mem_append.2 (.inl (List.mem_of_getElem? (i:=1) rfl))) (λb hb=>List.mem_append.2 (.inr (List.mem_append.2 (.inr (List.mem_append.2 (.inr (List.mem_append.2 (.inr hb))))))))) k1 k2 (by omega) (by omega) (ht.below hw.below ht.lt); rwa [show rgC bm y2.2.1.l k1 k2=eE s bm X Y I d k1 k2 by rw [hh2.2.1.li]; rfl] at q)) ?_
      refine sM 42 (fcs 0) (λg5=>?_)
      refine Sy.movT ?_
      refine sW 4 g5 42 (fcs 0) (fcs (eE s bm X Y I d k1 k2)) (wS 0 42 (fcs (eE s bm X Y I d k1 k2)) rfl) ?_
      refine Sy.setT ?_
      refine sH (λj=>j == 8 || j == 10) ?_
      refine Sy.stepDA 0 rfl kR (λ_ _ _ _ h=>h) kR (.slice (some ⟨g2,0,none⟩) NR NR) kF ?_
      refine Sy.stepDA 1 rfl kR (λ_ _ _ _ h=>h) kR (.int .i64 ((k1:Nat):Int)) kF ?_
      refine Sy.stepDB 2 [4,5,8,9,10] rfl kR (λ_ _ _ _ h=>h) kR (.slice (some ⟨g2,0,none⟩) NR NR) qP ?_
      refine Sy.stepDB 3 [4,5,8,9,10] rfl kR (λ_ _ _ _ h=>h) kR (.int .i64 ((k1:Nat):Int)) qP ?_
      refine Sy.stepDB 4 [5,8,9,10] rfl kR (λ_ _ _ _ h=>h) kR (.pointer (some ⟨g2,0+k1*1,none⟩)) (Quiet.pure (exec_at 29 _ _ _ g2 0 NR NR k1 1 .i64 rfl rfl rfl Tryz.underlying29 kF (by omega))) ?_
      refine sD 5 rfl ((y2.1 k1).v) (Quiet.cell 2 g2 (0+k1*1) 51 51 (rowsC y2.1 NR) _ _ rfl kR kR Tryz.underlying51 rfl _ (rowsC_get (by omega) rfl)) ?_
      refine Sy.stepDB 6 [7,8,9,10] rfl kR (λ_ _ _ _ h=>h) kR (fv (eE s bm X Y I d k1 k2)) (qL 4 g5 0 4 42 42 (fcs (eE s bm X Y I d k1 k2)) rfl Tryz.underlying42) ?_
      refine Sy.makeD 7 rfl kR kR 42 (fcs (eE s bm X Y I d k1 k2)) (λg=>.slice (some ⟨g,0,none⟩) 1 1) kF (λg6=>?_)
      refine Sy.movTD ?_
      refine Sy.soleD 8 rfl (λQ2 hq2=>?_)
      refine Sy.permS (Sy.out_perm y2.1 (i:=k1) (by omega)) ?_
      refine Sy.appendR kR 51 42 _ _ 4 32 Tryz.underlying51 info_sc rfl rfl rfl rfl (by decide) _ _ rfl (hh2.1 k1) kR (fws (eE s bm X Y I d k1 k2)) rfl (fws_one _) 5 g6 42 kR kR (by rw [List.length_map,List.length_range,cntR_at]; omega) (by rw [List.length_map,List.length_range,cntR_at]; simp only [maxLen]; omega) (λr2 hr2=>?_)
      refine hq2 _ _ ?_
      refine Sy.anyOf [9] kR (by decide) (Sy.each1 ?_)
      refine Sy.oneQuiet rfl kR (.pointer (some ⟨g2,0+k1*1,none⟩)) (Quiet.pure (exec_at 29 _ _ _ g2 0 NR NR k1 1 .i64 rfl rfl rfl Tryz.underlying29 kF (by omega))) ?_
      refine Sy.writeD 10 rfl kR (by rfl) kR 2 g2 51 (rowsC y2.1 NR) (rowsC (putR y2.1 k1 r2) NR) kR (Writes.one (0+k1*1) 51 (r2.v) _ _ rfl kR kR kR hr2.cells.1 hr2.cells.2 (rowsC_lt (by omega) rfl) (rowsC_set (by omega) rfl rfl)) ?_
      refine Sy.setTD ?_
      refine Sy.permD (Sy.in_perm (by omega)) ?_
      refine sI ?_
      refine Sy.regionD (λj=>false) kR ?_
      refine sD 0 rfl (fv (s k1 k2)) (qL 3 g4 0 4 42 42 (fcs (s k1 k2)) rfl Tryz.underlying42)<|sD 1 rfl (fv (eE s bm X Y I d k1 k2)) (qL 4 g5 0 4 42 42 (fcs (eE s bm X Y I d k1 k2)) rfl Tryz.underlying42)<|sZ 2 rfl (.pointer (some ⟨g0,0,none⟩))<|sD 3 rfl (.slice R NR cR) (Quiet.cell 0 g0 0 86 25 (bndc R NR cR bm).toArray _ _ rfl kR kR Tryz.underlying25 rfl _ kR)<|sZ 4 rfl (.int .i64 ((k1:Nat):Int))<|sD 5 rfl (.pointer (some ⟨gR,oR+k1*1,none⟩)) (Quiet.pure (exec_atO 25 _ _ _ R gR oR NR cR k1 1 .i64 (hR (by omega)).1 rfl rfl rfl Tryz.underlying25 kF (by omega)))<|sD 6 rfl (.slice (a k1) (nk k1) (ck k1)) (Quiet.thereOne gR (oR+k1*1) 45 _ _ rfl kR (hR (by omega)).2.1 _ (range_one ((hR (by omega)).2.2 k1 (by omega)) 0 rfl) Tryz.underlying45 rfl)<|sZ 7 rfl (.int .i64 ((k2:Nat):Int)) ?_
      refine sD 8 rfl (.pointer (some ⟨gK,oK+k2*9,none⟩)) (Quiet.pure (exec_atO 45 _ _ _ (a k1) gK oK (nk k1) (ck k1) k2 9 .i64 (hT (by omega)).1 rfl rfl rfl Tryz.underlying45 kF (by omega)))<|sD 9 rfl (pv (X k1 k2) (Y k1 k2) (I k1 k2)) (Quiet.there gK (oK+k2*9) 9 48 (pml (X k1 k2) (Y k1 k2) (I k1 k2)) _ _ rfl kR (hT (by omega)).2.1 ((hT (by omega)).2.2 k2 (by omega)) Tryz.underlying48 rfl kR rfl _ rfl) ?_
      refine Sy.callND 10 rfl kR kR 117 #[fv (s k1 k2),fv (eE s bm X Y I d k1 k2),pv (X k1 k2) (Y k1 k2) (I k1 k2)] kF ((CodeIs (rPt (s k1 k2) (eE s bm X Y I d k1 k2) (X k1 k2) (Y k1 k2) (I k1 k2)))) (λw hw=>answer_any w _ _ _ _ _ (hsc _ _) (eE_lt _ _) (hX _ _) (hY _ _)) (λvq Mq hR0=>?_)
      obtain ⟨q7,rfl,rfl⟩:=hR0
      refine Sy.movTD ?_
      refine sZ 11 rfl (.slice (some ⟨q7,0,none⟩) 33 33) ?_
      refine sE ?_
      refine Sy.in_<|Sy.then_<|Sy.region ?_
      refine sS (.int .i64 ((k2+1:Nat):Int)) (Quiet.pure (exec_int .add _ _ _ .i64 _ _ _ rfl rfl rfl (int_add _ _ _ _ _ ((wrap_i64 (by omega) (by omega)).trans (by omega)))))<|sP (.int .i64 ((k2+1:Nat):Int)) ?_
      refine Sy.nil ?_
      exact Sy.againT ((putR y2.1 k1 r2,(⟨some ⟨q7,0,none⟩,encS (rPt (s k1 k2) (eE s bm X Y I d k1 k2) (X k1 k2) (Y k1 k2) (I k1 k2)),33⟩:Sh.Tx),[(q7,191,((encS (rPt (s k1 k2) (eE s bm X Y I d k1 k2) (X k1 k2) (Y k1 k2) (I k1 k2))).map bv).toArray)])) (by omega) (⟨hh2.1.put' hr2 rfl,by rw [alX0_succ]; exact .inr ⟨Nat.succ_pos _,encS_length _,q7,rfl,rfl⟩,λi hi=>(Nat.lt_succ_iff_lt_or_eq.1 hi).elim (hh2.2.2 i) (λh=>by rw [h]; exact hnorm)⟩) (all_cons kR (all_cons kR (all_cons kR (all_cons kR (all_cons kR (all_cons kR (all_cons kR (all_cons kR (all_cons kR (all_cons kR (all_cons kR (all_cons kR (all_cons kR all_nil))))))))))))) (λw hw=>St.pick3 (pre:=[(g0,86,(bndc R NR cR bm).toArray),(g1,31,(sgc33 d W NR cW).toArray),(g2,51,(rowsC (putR y2.1 k1 r2) NR)),(g4,42,(fcs (s k1 k2))),(g5,42,(fcs (eE s bm X Y I d k1 k2))),(g6,42,(fcs (eE s bm X Y I d k1 k2))),(q7,191,((encS (rPt (s k1 k2) (eE s bm X Y I d k1 k2) (X k1 k2) (Y k1 k2) (I k1 k2))).map bv).toArray)]) (M:=[(g0,86,(bndc R NR cR bm).toArray),(g1,31,(sgc33 d W NR cW).toArray),(g2,51,(rowsC (putR y2.1 k1 r2) NR))]) (N:=[(q7,191,((encS (rPt (s k1 k2) (eE s bm X Y I d k1 k2) (X k1 k2) (Y k1 k2) (I k1 k2))).map bv).toArray)]) [0,1,2,6] (by decide) kR hw)
     ·have lb7:(s k1 k2%Sc.pM)≠(s k1 k2):=of_decide_eq_true hb7.symm
      refine sT<|Sy.exit<|Sy.then_exit ?_
      refine Sy.in_pass (by decide) ?_
      refine Sy.then_exit<|Sy.then_exit ?_
      refine Sy.in_pass (by decide) ?_
      refine Sy.then_exit ?_
      refine Sy.in_pass (by decide) ?_
      refine Sy.then_exit<|Sy.then_exit<|Sy.in_exit<|Sy.then_<|Sy.seq<|Sy.seq ?_
      refine Sy.regionD (λj=>false) kR ?_
      refine sZ 0 rfl (y1.2.1.v)<|sD 1 rfl (.int .i64 ((k1:Nat):Int)) (Quiet.lenR hh1.2.1.row (by rw [List.length_map]; exact hh1.2.2.2.1) _ Tryz.underlying95 rfl rfl)<|sZ 2 rfl (.pointer (some ⟨g0,0,none⟩))<|sD 3 rfl (.slice R NR cR) (Quiet.cell 0 g0 0 86 25 (bndc R NR cR bm).toArray _ _ rfl kR kR Tryz.underlying25 rfl _ kR)<|sZ 4 rfl (.int .i64 ((NR:Nat):Int)) ?_
      obtain ⟨b8,hb8⟩:∃ z:Bool,z=decide (k1≠NR):=⟨_,rfl⟩
      refine sD 5 rfl (.bool b8) (Quiet.pure (exec_int .neq _ _ _ .i64 _ _ _ rfl rfl rfl (int_neq _ _ _ _ _ (by rw [hb8]; exact decide_eq_decide.2 (by omega)))))<|sZ 6 rfl (.bool b8) ?_
      cases b8
      ·have lb8:¬ (k1≠NR):=of_decide_eq_false hb8.symm
       exact absurd (show k1≠NR by omega) lb8
      ·have lb8:k1≠NR:=of_decide_eq_true hb8.symm
       refine sQ 7 rfl<|sQ 8 rfl<|sQ 9 rfl<|sQ 10 rfl<|sQ 11 rfl<|sQ 12 rfl<|sZ 13 rfl (.bool true) ?_
       refine sI ?_
       refine sT<|sC ?_
       refine sP (.slice none 0 0)<|sP (.bool false) ?_
       refine sG<|Sy.ret<|Sy.then_ret ?_
       refine Sy.sc_r ?_
       exact retGM2 [] rfl (v:=.slice none 0 0) (u:=.bool false) (.inl (show _=_ by kernel_rfl)) (.inl (show _=_ by kernel_rfl)) (λ_ hw=>hw.none) (.inl ⟨chB_row (by assumption) (rowOk_num (by assumption) lb7),rfl,rfl⟩)
   ·have lb5:(sn k1)≠(nk k1):=of_decide_eq_true hb5.symm
    refine sT<|Sy.exit<|Sy.then_exit ?_
    refine Sy.in_pass (by decide) ?_
    refine Sy.then_exit<|Sy.then_exit<|Sy.in_exit<|Sy.then_<|Sy.seq<|Sy.seq ?_
    refine Sy.regionD (λj=>false) kR ?_
    refine sZ 0 rfl (y1.2.1.v)<|sD 1 rfl (.int .i64 ((k1:Nat):Int)) (Quiet.lenR hh1.2.1.row (by rw [List.length_map]; exact hh1.2.2.2.1) _ Tryz.underlying95 rfl rfl)<|sZ 2 rfl (.pointer (some ⟨g0,0,none⟩))<|sD 3 rfl (.slice R NR cR) (Quiet.cell 0 g0 0 86 25 (bndc R NR cR bm).toArray _ _ rfl kR kR Tryz.underlying25 rfl _ kR)<|sZ 4 rfl (.int .i64 ((NR:Nat):Int)) ?_
    obtain ⟨b9,hb9⟩:∃ z:Bool,z=decide (k1≠NR):=⟨_,rfl⟩
    refine sD 5 rfl (.bool b9) (Quiet.pure (exec_int .neq _ _ _ .i64 _ _ _ rfl rfl rfl (int_neq _ _ _ _ _ (by rw [hb9]; exact decide_eq_decide.2 (by omega)))))<|sZ 6 rfl (.bool b9) ?_
    cases b9
    ·have lb9:¬ (k1≠NR):=of_decide_eq_false hb9.symm
     exact absurd (show k1≠NR by omega) lb9
    ·have lb9:k1≠NR:=of_decide_eq_true hb9.symm
     refine sQ 7 rfl<|sQ 8 rfl<|sQ 9 rfl<|sQ 10 rfl<|sQ 11 rfl<|sQ 12 rfl<|sZ 13 rfl (.bool true) ?_
     refine sI ?_
     refine sT<|sC ?_
     refine sP (.slice none 0 0)<|sP (.bool false) ?_
     refine sG<|Sy.ret<|Sy.then_ret ?_
     refine Sy.sc_r ?_
     exact retGM2 [] rfl (v:=.slice none 0 0) (u:=.bool false) (.inl (show _=_ by kernel_rfl)) (.inl (show _=_ by kernel_rfl)) (λ_ hw=>hw.none) (.inl ⟨chB_row (by assumption) (rowOk_len lb5),rfl,rfl⟩)
 ·have lb1:NW≠NR:=of_decide_eq_true hb1.symm
  refine sT<|sC ?_
  refine sP (.slice none 0 0)<|sP (.bool false) ?_
  refine sG<|Sy.ret<|Sy.then_ret ?_
  refine Sy.sc_r ?_
  exact retGM2 [] rfl (v:=.slice none 0 0) (u:=.bool false) (.inl (show _=_ by kernel_rfl)) (.inl (show _=_ by kernel_rfl)) (λ_ hw=>hw.none) (.inl ⟨chB_len lb1,rfl,rfl⟩)
end Cu
end
section
namespace Sy
open Go.RowKit
section
variable {r:Nat→Slc} {n i:Nat} {pre A B C D M N T:Blocks} {b b':Nat×TypeId×Array Value} {v:Value} {w0:Base} {w:World}
theorem end_perm:((pre++(A++B))++D).Perm (pre++(A++(B++D))):=by
 rw [List.append_assoc,List.append_assoc]
theorem end_perm3:((pre++(A++(B++C)))++D).Perm (pre++(A++(B++(C++D)))):=by
 rw [List.append_assoc,List.append_assoc,List.append_assoc]
theorem out1 (r:Nat→Slc) (hi:i<n) (hb:(r i).bl=[b]):(pre++(rowsB r n++T)).Perm ((pre++[b])++(rowsX r n i++T)):=by
 have h:=out_perm (pre:=pre) (T:=T) r hi
 rw [hb] at h
 rwa [List.append_assoc]
theorem St.back1 (hi:i<n) (hw:St w0 w ((M++[b'])++(rowsX r n i++T))):St w0 w (M++(rowsB (putR r i ⟨v,[b']⟩) n++[])):=by
 have h1:((M++[b'])++(rowsX r n i++[])).Sublist ((M++[b'])++(rowsX r n i++T)):=(List.Sublist.refl _).append ((List.Sublist.refl _).append (List.nil_sublist _))
 refine (hw.less h1).perm ?_
 rw [List.append_assoc]
 exact in_perm (x:=⟨v,[b']⟩) hi
theorem rowsC_same {x:Slc} (h:x.v=(r i).v):rowsC (putR r i x) n=rowsC r n:=by
 unfold rowsC
 refine congrArg List.toArray (flat_congr λj _=>?_)
 by_cases hj:j=i
 ·rw [hj,putR_self,h]
 ·rw [putR_ne hj]
theorem RowsAre.upd {e:TypeId} {sz:Nat} {f f':Nat→Nat→List Value} {c:Nat→Nat} {x:Slc} (h:RowsAre r e sz f c) (hx:x.Is e sz ((List.range (c i)).map (f' i))) (hf:∀ j,j≠i→f' j=f j):RowsAre (putR r i x) e sz f' c:=λj=>by
 by_cases hj:j=i
 ·subst hj; rw [putR_self]; exact hx
 ·rw [putR_ne hj,hf j hj]; exact h j
theorem St.pick4 (is:List Nat) (hn:is.Nodup) (hm:is.map (λi=>pre[i]?)=(M++N).map some) (hw:St w0 w (pre++(A++(B++(C++D))))):St w0 w (M++(A++(B++(C++(D++N))))):=by
 have h2:=St.pick2 (a:=A++B) (T:=C++D) is hn hm (by rwa [List.append_assoc])
 rwa [List.append_assoc,List.append_assoc C] at h2
end
theorem Slc.Is.open {r:Slc} {e:TypeId} {sz m:Nat} {f:Nat→List Value} (h:r.Is e sz ((List.range m).map f)) (hm:0<m):∃ g cap sp,r.v=.slice (some ⟨g,0,none⟩) m cap∧r.bl=[(g,e,(flat f m++sp).toArray)]∧sp.length+m*sz=cap*sz∧m≤cap∧cap≤maxLen:=by
 rcases h.row with ⟨h0,_⟩ | ⟨g,cap,sp,rfl,h1,h2,h3⟩
 ·have:=congrArg List.length h0
  simp at this
  omega
 ·rw [List.length_map,List.length_range] at h1 h2
  exact ⟨g,cap,sp,by rw [List.length_map,List.length_range],by rw [show ((List.range m).map f).flatten=flat f m from (List.flatMap_def ..).symm],h1,h2,h3⟩
theorem Slc.Is.close {e:TypeId} {sz m g cap:Nat} {f:Nat→List Value} {sp:List Value} (hf:∀ k,(f k).length=sz) (h1:∀ k, ∀ u∈f k,u.oneCell'=true) (hs:sp.length+m*sz=cap*sz) (hm:m≤cap) (hc:cap≤maxLen):Slc.Is ⟨.slice (some ⟨g,0,none⟩) m cap,[(g,e,(flat f m++sp).toArray)]⟩ e sz ((List.range m).map f) :=
 ⟨λx hx=>by obtain ⟨k,_,rfl⟩:=List.mem_map.1 hx; exact hf k,λx hx=>by obtain ⟨k,_,rfl⟩:=List.mem_map.1 hx; exact h1 k,.inr ⟨g,cap,sp,by rw [List.length_map,List.length_range,show ((List.range m).map f).flatten=flat f m from (List.flatMap_def ..).symm],by rw [List.length_map,List.length_range]; exact hs,by rw [List.length_map,List.length_range]; exact hm,hc⟩⟩
theorem row_lst {w0:Base} {w:World} {L:Blocks} {g sz m:Nat} {e:TypeId} {f:Nat→List Value} {sp:List Value} (hf:∀ k,(f k).length=sz) (hw:St w0 w L) (hb:(g,e,(flat f m++sp).toArray)∈L):Lst w sz (some ⟨g,0,none⟩) m f:=by
 have hbk:=(hw.blk _ _ _ hb).2
 refine ⟨g,0,λ_=>⟨rfl,hbk.lt,λj hj=>?_⟩⟩
 rw [Nat.zero_add]
 refine blk_range hbk ?_
 show (((flat f m++sp)).drop (j*sz)).take _=_
 rw [hf j,flat_split hj,List.append_assoc,List.drop_append_of_le_length (by rw [flat_len hf]; exact Nat.le_refl _),List.drop_of_length_le (by rw [flat_len hf]; exact Nat.le_refl _),List.nil_append,List.append_assoc,List.take_left' (hf j)]
theorem flat_put1 {f:Nat→List Value} {sz m k o:Nat} {sp v:List Value} (hf:∀ k,(f k).length=sz) (hv:v.length=sz) (hk:k<m) (ho:o=0+k*sz):setAll (flat f m++sp).toArray o v=(flat (λj=>if j=k then v else f j) m++sp).toArray:=by
 have hl:=flat_len hf m
 have hkm:k*sz+sz≤m*sz:=by have:=Nat.mul_le_mul_right sz (show k+1≤m from hk); rwa [Nat.succ_mul] at this
 have h1:=setAll_is v o (flat f m++sp).toArray (by rw [List.size_toArray,List.length_append]; omega)
 have h2:=setAll_is v o (flat f m).toArray (by rw [List.size_toArray]; omega)
 have h3:=flat_set (f:=f) hf hv hk (show o=k*sz by omega)
 rw [h2] at h3
 have h4:=congrArg Array.toList h3
 rw [h1]
 refine congrArg List.toArray ?_
 simp only at h4 ⊢
 rw [← h4,List.take_append_of_le_length (by omega),List.drop_append_of_le_length (by omega),List.append_assoc,List.append_assoc]
theorem flat_fit1 {f:Nat→List Value} {sz m k o:Nat} {sp:List Value} (hf:∀ k,(f k).length=sz) (hk:k<m) (ho:o=0+k*sz):o+sz≤(flat f m++sp).toArray.size:=by
 have hkm:k*sz+sz≤m*sz:=by have:=Nat.mul_le_mul_right sz (show k+1≤m from hk); rwa [Nat.succ_mul] at this
 rw [List.size_toArray,List.length_append,flat_len hf]
 omega
end Sy
end
section
namespace Cu
open Go.RowKit Sy
def sec5 (z:Int) (x:Nat):List Value:=.int .i64 z::fws x
section
variable (At:Nat→Int) (sx:Nat→Nat) (n:Nat→Nat) (X Y:Nat→Nat→Nat) (I:Nat→Nat→Bool)
def fitI (i:Nat):Bool:=decide (0≤At i) && (decide (At i<(n i:Int)) && openB (sx i) (X i (At i).toNat) (Y i (At i).toNat) (I i (At i).toNat))
def fitB (NS NR:Nat):Bool:=decide (NS=NR) && (List.range NR).all (fitI At sx n X Y I)
end
section
variable {At:Nat→Int} {sx:Nat→Nat} {n:Nat→Nat} {X Y:Nat→Nat→Nat} {I:Nat→Nat→Bool} {NS NR k q:Nat}
theorem fit_low (h:At k<0):fitI At sx n X Y I k=false:=by unfold fitI; rw [decide_eq_false (by omega:¬ 0≤At k)]; rfl
theorem fit_high (h:At k ≥ ((n k:Nat):Int)):fitI At sx n X Y I k=false:=by unfold fitI; rw [decide_eq_false (by omega:¬ At k<(n k:Int)),Bool.false_and,Bool.and_false]
theorem fit_op (h1:¬ At k<0) (h2:¬ At k ≥ ((n k:Nat):Int)) (hq:At k=(q:Int)):fitI At sx n X Y I k=openB (sx k) (X k q) (Y k q) (I k q):=by
 unfold fitI
 rw [decide_eq_true (by omega:0≤At k),decide_eq_true (by omega:At k<(n k:Int)),hq]
 rfl
theorem fitB_len (h:¬ NS=NR):fitB At sx n X Y I NS NR=false:=by unfold fitB; rw [decide_eq_false h]; rfl
theorem fitB_at (hk:k<NR) (h:fitI At sx n X Y I k=false):fitB At sx n X Y I NS NR=false:=by
 unfold fitB
 rw [show (List.range NR).all (fitI At sx n X Y I)=false from List.all_eq_false.2 ⟨k,List.mem_range.2 hk,by rw [h]; decide⟩,Bool.and_false]
theorem fitB_all (h1:NS=NR) (h:∀ j,j<NR→fitI At sx n X Y I j=true):fitB At sx n X Y I NS NR=true:=by
 unfold fitB
 rw [decide_eq_true h1,List.all_eq_true.2 λj hj=>h j (List.mem_range.1 hj)]
 rfl
end
set_option maxHeartbeats 4000000 in
set_option maxRecDepth 100000 in
theorem fit_any (w:World) (S:Option Addr) (NS cS:Nat) (At:Nat→Int) (sx:Nat→Nat) (hsx:∀ i,sx i<K4) (hNS:NS≤4611686018427387904) (hls:Lst w 5 S NS (λi=>sec5 (At i) (sx i))) (R:Option Addr) (NR cR:Nat) (a:Nat→Option Addr) (n c:Nat→Nat) (X Y:Nat→Nat→Nat) (I:Nat→Nat→Bool) (hX:∀ i k,X i k<K4) (hY:∀ i k,Y i k<K4) (hNR:NR≤4611686018427387904) (hn:∀ i,n i≤4611686018427387904) (hlr:Lst w 1 R NR (λi=>[.slice (a i) (n i) (c i)])) (hlk:∀ i,i<NR→Lst w 9 (a i) (n i) (λk=>pml (X i k) (Y i k) (I i k))):Calls Tryz.prog 45 #[.slice S NS cS,.slice R NR cR] w (Gets w (.bool (fitB At sx n X Y I NS NR))):=by
 have hls0:=hls
 obtain ⟨gS,oS,hS⟩:=hls
 have hlr0:=hlr
 obtain ⟨gR,oR,hR⟩:=hlr
 refine Sy.enter (args:=[.slice S NS cS,.slice R NR cR]) Tryz.func45 rfl kL ?_
 refine sC ?_
 refine sP (.bool false) ?_
 refine sG<|Sy.seq<|sC ?_
 refine sP (.slice S NS cS)<|sP (.int .i64 ((NS:Nat):Int))<|sP (.slice R NR cR)<|sP (.int .i64 ((NR:Nat):Int)) ?_
 obtain ⟨b1,hb1⟩:∃ z:Bool,z=decide (NS≠NR):=⟨_,rfl⟩
 refine sS (.bool b1) (Quiet.pure (exec_int .neq _ _ _ .i64 _ _ _ rfl rfl rfl (int_neq _ _ _ _ _ (by rw [hb1]; exact decide_eq_decide.2 (by omega))))) ?_
 refine sG ?_
 cases b1
 ·have lb1:¬ (NS≠NR):=of_decide_eq_false hb1.symm
  refine sU<|Sy.skip<|Sy.then_<|Sy.seq<|sC ?_
  refine sP (.slice R NR cR)<|sP (.int .i64 ((NR:Nat):Int))<|sP (.int .i64 0) ?_
  refine sG<|Sy.block ?_
  refine Sy.loopH NR (λk1=>∀ j,j<k1→fitI At sx n X Y I j=true) (λk1=>[(0,.slice S NS cS),(1,.slice R NR cR),(13,.slice R NR cR),(14,.int .i64 ((NR:Nat):Int)),(15,.int .i64 ((k1:Nat):Int))]) (λk1=>[]) [] (M:=[]) (λj hj=>absurd hj (Nat.not_lt_zero _)) (all_cons kR (all_cons kR (all_cons kR (all_cons kR (all_cons kR all_nil))))) kR rfl (λk1 hk1 hh=>?_)
  have hh1:=hh
  refine sC ?_
  obtain ⟨b2,hb2⟩:∃ z:Bool,z=decide (k1<NR):=⟨_,rfl⟩
  refine sS (.bool b2) (Quiet.pure (exec_int .lss _ _ _ .i64 _ _ _ rfl rfl rfl (int_lss _ _ _ _ _ (by rw [hb2]; exact decide_eq_decide.2 (by omega))))) ?_
  refine sG<|Sy.seq ?_
  cases b2
  ·have lb2:¬ (k1<NR):=of_decide_eq_false hb2.symm
   refine sU<|Sy.exit<|Sy.then_exit<|Sy.then_exit ?_
   obtain rfl:NR=k1:=by omega
   refine Sy.in_exit<|sB ?_
   refine sP (.bool true) ?_
   refine sG<|Sy.ret ?_
   rw [show (.bool (fitB At sx n X Y I NS NR):Value)=.bool true from by rw [fitB_all (by omega) (λj hj=>hh1 j (by omega))]]
   exact rV (.bool true) rfl
  ·have lb2:k1<NR:=of_decide_eq_true hb2.symm
   refine sT<|Sy.skip<|Sy.then_<|Sy.seq<|Sy.block<|sC ?_
   refine sP (.int .i64 ((k1:Nat):Int))<|sS (.pointer (some ⟨gR,oR+k1*1,none⟩)) (Quiet.pure (exec_atO 25 _ _ _ R gR oR NR cR k1 1 .i64 (hR (by omega)).1 rfl rfl rfl Tryz.underlying25 kF (by omega)))<|sS (.slice (a k1) (n k1) (c k1)) (Quiet.thereOne gR (oR+k1*1) 45 _ _ rfl kR (hR (by omega)).2.1 _ (range_one ((hR (by omega)).2.2 k1 (by omega)) 0 rfl) Tryz.underlying45 rfl)<|sP (.int .i64 ((k1:Nat):Int))<|sP (.slice (a k1) (n k1) (c k1)) ?_
   refine sA ?_
   refine sP (.slice S NS cS)<|sP (.int .i64 ((k1:Nat):Int))<|sS (.pointer (some ⟨gS,oS+k1*5,none⟩)) (Quiet.pure (exec_atO 26 _ _ _ S gS oS NS cS k1 5 .i64 (hS (by omega)).1 rfl rfl rfl Tryz.underlying26 kF (by omega)))<|sP (.pointer (some ⟨gS,oS+k1*5+0,none⟩))<|sS (.int .i64 (At k1)) (Quiet.thereOne gS (oS+k1*5+0) 3 _ _ rfl kR (hS (by omega)).2.1 _ (range_one ((hS (by omega)).2.2 k1 (by omega)) 0 rfl) Tryz.underlying3 rfl)<|sP (.int .i64 (At k1)) ?_
   refine sH (λj=>false) ?_
   refine sZ 0 rfl (.int .i64 (At k1)) ?_
   obtain ⟨b3,hb3⟩:∃ z:Bool,z=decide ((At k1)<0):=⟨_,rfl⟩
   refine sD 1 rfl (.bool b3) (Quiet.pure (exec_int .lss _ _ _ .i64 _ _ _ rfl rfl rfl (int_lss _ _ _ _ _ hb3.symm)))<|sZ 2 rfl (.bool b3) ?_
   cases b3
   ·have lb3:¬ ((At k1)<0):=of_decide_eq_false hb3.symm
    refine sZ 3 rfl (.int .i64 (At k1))<|sZ 4 rfl (.slice (a k1) (n k1) (c k1))<|sZ 5 rfl (.int .i64 (((n k1):Nat):Int)) ?_
    obtain ⟨b4,hb4⟩:∃ z:Bool,z=decide ((At k1) ≥ (((n k1):Nat):Int)):=⟨_,rfl⟩
    refine sD 6 rfl (.bool b4) (Quiet.pure (exec_int .geq _ _ _ .i64 _ _ _ rfl rfl rfl (int_geq _ _ _ _ _ hb4.symm)))<|sZ 7 rfl (.bool b4)<|sZ 8 rfl (.bool b4) ?_
    cases b4
    ·have lb4:¬ ((At k1) ≥ (((n k1):Nat):Int)):=of_decide_eq_false hb4.symm
     refine sZ 9 rfl (.slice S NS cS)<|sZ 10 rfl (.int .i64 ((k1:Nat):Int))<|sD 11 rfl (.pointer (some ⟨gS,oS+k1*5,none⟩)) (Quiet.pure (exec_atO 26 _ _ _ S gS oS NS cS k1 5 .i64 (hS (by omega)).1 rfl rfl rfl Tryz.underlying26 kF (by omega)))<|sZ 12 rfl (.pointer (some ⟨gS,oS+k1*5+1,none⟩))<|sD 13 rfl (fv (sx k1)) (Quiet.there gS (oS+k1*5+1) 4 42 (fws (sx k1)) _ _ rfl kR (hS (by omega)).2.1 (range_sub ((hS (by omega)).2.2 k1 (by omega)) 1 rfl) Tryz.underlying42 rfl kR rfl _ rfl)<|sZ 14 rfl (.slice (a k1) (n k1) (c k1))<|sZ 15 rfl (.int .i64 (At k1)) ?_
     obtain ⟨gK,oK,hT⟩:=hlk k1 (by omega)
     obtain ⟨q1,hq1⟩:∃ q:Nat,(At k1)=(q:Int):=⟨((At k1)).toNat,by omega⟩
     refine sD 16 rfl (.pointer (some ⟨gK,oK+q1*9,none⟩)) (Quiet.pure (exec_atO 45 _ _ _ (a k1) gK oK (n k1) (c k1) q1 9 .i64 (hT (by omega)).1 rfl rfl (show Value.int .i64 (At k1)=.int .i64 ((q1:Nat):Int) from by rw [hq1]) Tryz.underlying45 kF (by omega)))<|sD 17 rfl (pv (X k1 q1) (Y k1 q1) (I k1 q1)) (Quiet.there gK (oK+q1*9) 9 48 (pml (X k1 q1) (Y k1 q1) (I k1 q1)) _ _ rfl kR (hT (by omega)).2.1 ((hT (by omega)).2.2 q1 (by omega)) Tryz.underlying48 rfl kR rfl _ rfl) ?_
     obtain ⟨b5,hb5⟩:∃ z:Bool,z=openB (sx k1) (X k1 q1) (Y k1 q1) (I k1 q1):=⟨_,rfl⟩
     refine sD 18 rfl (.bool b5) (qF 104 #[fv (sx k1),pv (X k1 q1) (Y k1 q1) (I k1 q1)] (λw=>by rw [hb5]; exact opens_any w _ _ _ _ (hsx k1) (hX k1 q1) (hY k1 q1))) ?_
     cases b5
     ·refine sZ 19 rfl (.bool true)<|sZ 20 rfl (.bool true) ?_
      refine sI ?_
      refine sT<|sC ?_
      refine sP (.bool false) ?_
      refine sG<|Sy.ret<|Sy.in_ret<|Sy.then_ret<|Sy.then_ret<|Sy.in_ret<|Sy.then_ret ?_
      rw [show (.bool (fitB At sx n X Y I NS NR):Value)=.bool false from by rw [fitB_at (by omega) ((fit_op lb3 lb4 hq1).trans hb5.symm)]]
      exact rV (.bool false) rfl
     ·refine sZ 19 rfl (.bool false)<|sZ 20 rfl (.bool false) ?_
      refine sI ?_
      refine sU<|Sy.skip<|Sy.in_<|Sy.then_<|Sy.region ?_
      refine sS (.int .i64 ((k1+1:Nat):Int)) (Quiet.pure (exec_int .add _ _ _ .i64 _ _ _ rfl rfl rfl (int_add _ _ _ _ _ ((wrap_i64 (by omega) (by omega)).trans (by omega)))))<|sP (.int .i64 ((k1+1:Nat):Int)) ?_
      refine Sy.nil ?_
      exact Sy.againH [] (M:=[]) (by omega) (λj hj=>(Nat.lt_succ_iff_lt_or_eq.1 hj).elim (hh1 j) (λh=>by rw [h]; exact (fit_op lb3 lb4 hq1).trans hb5.symm)) (all_cons kR (all_cons kR (all_cons kR (all_cons kR (all_cons kR all_nil))))) kR rfl
    ·have lb4:(At k1) ≥ (((n k1):Nat):Int):=of_decide_eq_true hb4.symm
     refine sQ 9 rfl<|sQ 10 rfl<|sQ 11 rfl<|sQ 12 rfl<|sQ 13 rfl<|sQ 14 rfl<|sQ 15 rfl<|sQ 16 rfl ?_
     refine sQ 17 rfl<|sQ 18 rfl<|sQ 19 rfl<|sZ 20 rfl (.bool true) ?_
     refine sI ?_
     refine sT<|sC ?_
     refine sP (.bool false) ?_
     refine sG<|Sy.ret<|Sy.in_ret<|Sy.then_ret<|Sy.then_ret<|Sy.in_ret<|Sy.then_ret ?_
     rw [show (.bool (fitB At sx n X Y I NS NR):Value)=.bool false from by rw [fitB_at (by omega) (fit_high lb4)]]
     exact rV (.bool false) rfl
   ·have lb3:(At k1)<0:=of_decide_eq_true hb3.symm
    refine sQ 3 rfl<|sQ 4 rfl<|sQ 5 rfl<|sQ 6 rfl<|sZ 7 rfl (.bool true)<|sZ 8 rfl (.bool true)<|sQ 9 rfl<|sQ 10 rfl ?_
    refine sQ 11 rfl<|sQ 12 rfl<|sQ 13 rfl<|sQ 14 rfl<|sQ 15 rfl<|sQ 16 rfl<|sQ 17 rfl<|sQ 18 rfl ?_
    refine sQ 19 rfl<|sZ 20 rfl (.bool true) ?_
    refine sI ?_
    refine sT<|sC ?_
    refine sP (.bool false) ?_
    refine sG<|Sy.ret<|Sy.in_ret<|Sy.then_ret<|Sy.then_ret<|Sy.in_ret<|Sy.then_ret ?_
    rw [show (.bool (fitB At sx n X Y I NS NR):Value)=.bool false from by rw [fitB_at (by omega) (fit_low lb3)]]
    exact rV (.bool false) rfl
 ·have lb1:NS≠NR:=of_decide_eq_true hb1.symm
  refine sT<|sC ?_
  refine sP (.bool false) ?_
  refine sG<|Sy.ret<|Sy.then_ret ?_
  rw [show (.bool (fitB At sx n X Y I NS NR):Value)=.bool false from by rw [fitB_len lb1]]
  exact rV (.bool false) rfl
end Cu
end
section
namespace Cu
open Go.RowKit Sy
section
variable (bm sd:List UInt8) (X Y:Nat→Nat→Nat) (I:Nat→Nat→Bool) (at_:Nat→Nat) (nk:Nat→Nat) (sx:Nat→Nat)
def sgX (i:Nat):List UInt8:=encS (evP (rgN bm sd i))
def sgL (i:Nat):List UInt8:=alX (rgF bm sd i) bm i (at_ i+1) (X i) (Y i) (I i) (sgX bm sd i) (nk i - (at_ i+1))
def sgEnds:Nat→List UInt8
 | 0=>[]
 | k+1=>sgEnds k++sgL bm sd X Y I at_ nk k
def sgD (NR:Nat):List UInt8:=rgT bm (sgEnds bm sd X Y I at_ nk NR)
def sgE (d:List UInt8) (i:Nat):Nat:=rgC bm (alX (rgF bm sd i) bm i 0 (X i) (Y i) (I i) d (at_ i)) i (at_ i)
def sgS (d:List UInt8) (i j:Nat):Nat:=if j=at_ i then Sc.subP (rgN bm sd i) (Sc.mulP (sgE bm sd X Y I at_ d i) (sx i)) else rgF bm sd i j
def sgK (d:List UInt8) (k i j:Nat):List Value:=fws (if i<k then sgS bm sd X Y I at_ sx d i j else rgF bm sd i j)
def sgF (d:List UInt8) (i j:Nat):List Value:=fws (sgS bm sd X Y I at_ sx d i j)
end
section
variable {bm sd:List UInt8} {X Y:Nat→Nat→Nat} {I:Nat→Nat→Bool} {at_:Nat→Nat} {nk:Nat→Nat} {sx:Nat→Nat} {d:List UInt8}
theorem sgX_len (i:Nat):(sgX bm sd i).length=33:=encS_length _
theorem alX_or {s:Nat→Nat} {i f k:Nat} {X Y:Nat→Nat} {I:Nat→Bool} {x:List UInt8} (h:x.length=33):(alX s bm i f X Y I x k).length=33:=by
 rcases Nat.eq_zero_or_pos k with h0 | h0
 ·rw [h0]; exact h
 ·exact alX_len h0
theorem sgL_len (i:Nat):(sgL bm sd X Y I at_ nk i).length=33:=alX_or (sgX_len i)
theorem sgEnds_len:∀ k,(sgEnds bm sd X Y I at_ nk k).length=33*k
 | 0=>rfl
 | k+1=>by
  show (sgEnds bm sd X Y I at_ nk k++_).length=_
  rw [List.length_append,sgEnds_len k,sgL_len]
  omega
theorem sgD_len (NR:Nat):(sgD bm sd X Y I at_ nk NR).length=32:=rgT_len _ _
theorem sgS_lt (i j:Nat):sgS bm sd X Y I at_ sx d i j<K4:=by
 unfold sgS
 split
 ·exact Sc.subP_lt _ _
 ·exact rgF_lt _ _ _ _
theorem sgK_zero:sgK bm sd X Y I at_ sx d 0=fkF bm sd:=by
 funext i j
 unfold sgK fkF
 rw [if_neg (Nat.not_lt_zero _)]
theorem sgK_at (k:Nat):sgK bm sd X Y I at_ sx d k k=λj=>fws (rgF bm sd k j):=by
 funext j
 unfold sgK
 rw [if_neg (Nat.lt_irrefl _)]
theorem sgK_ne {k i:Nat} (h:i≠k):sgK bm sd X Y I at_ sx d (k+1) i=sgK bm sd X Y I at_ sx d k i:=by
 funext j
 unfold sgK
 by_cases h1:i<k
 ·rw [if_pos h1,if_pos (by omega)]
 ·rw [if_neg h1,if_neg (by omega)]
theorem sgK_all {r:Nat→Slc} {e:TypeId} {NR:Nat} (h:RowsAre r e 4 (sgK bm sd X Y I at_ sx d NR) (cntR nk NR 0)):RowsAre r e 4 (sgF bm sd X Y I at_ sx d) (cntR nk NR 0):=λi=>by
 have q:=h i
 by_cases hi:i<NR
 ·have e:sgK bm sd X Y I at_ sx d NR i=sgF bm sd X Y I at_ sx d i:=by
   funext j
   unfold sgK sgF
   rw [if_pos hi]
  rwa [e] at q
 ·have e:cntR nk NR 0 i=0:=by unfold cntR; rw [if_neg hi]; split <;> rfl
  rw [e,List.range_zero,List.map_nil] at q ⊢
  exact q
theorem sgK_upd (k:Nat):(λj=>if j=at_ k then fws (Sc.subP (rgN bm sd k) (Sc.mulP (sgE bm sd X Y I at_ d k) (sx k))) else fws (rgF bm sd k j))=sgK bm sd X Y I at_ sx d (k+1) k:=by
 funext j
 unfold sgK sgS
 rw [if_pos (Nat.lt_succ_self k)]
 split <;> rfl
end
theorem AlR.tx {A:Option Addr} {n c M:Nat} {l:List UInt8} {v:Value} {Mq:Blocks} (h:AlR A n c M l v Mq) (hl:0<M→l.length=33) {w0:Base} (T0:Blocks) (h0:M=0→l.length=n∧n≤c∧c≤33∧∀ w L,St w0 w L→(∀ b∈T0,b∈L)→Sh.Src w A l) :
  ∃ (B:Option Addr) (k:Nat),v=.slice B (if M=0 then n else 33) k∧l.length=(if M=0 then n else 33)∧l.length≤k∧k≤33∧∀ w L,St w0 w L→(∀ b∈T0++Mq,b∈L)→Sh.Src w B l:=by
 rcases h with ⟨h1,rfl,rfl⟩ | ⟨h1,q,rfl,rfl⟩
 ·obtain ⟨a1,a2,a3,a4⟩:=h0 h1
  exact ⟨A,c,by rw [if_pos h1],by rw [if_pos h1,a1],by omega,a3,λw L hw hb=>a4 w L hw (λb h=>hb b (List.mem_append.2 (.inl h)))⟩
 ·have hne:¬ M=0:=by omega
  have hl:=hl h1
  exact ⟨_,33,by rw [if_neg hne],by rw [if_neg hne,hl],by omega,Nat.le_refl _,λw L hw hb=>Sh.Src.of_blk (hw.blk _ _ _ (hb _ (List.mem_append.2 (.inr (List.mem_singleton.2 rfl))))).2⟩
theorem sgL_tx {bm sd:List UInt8} {X Y:Nat→Nat→Nat} {I:Nat→Nat→Bool} {at_ nk:Nat→Nat} {q7 i:Nat} {v:Value} {Mq:Blocks} {w0:Base} (h:AlR (some ⟨q7,0,none⟩) 33 33 (nk i - (at_ i+1)) (sgL bm sd X Y I at_ nk i) v Mq) :
  ∃ (B:Option Addr) (k:Nat),v=.slice B 33 k∧(sgL bm sd X Y I at_ nk i).length=33∧(sgL bm sd X Y I at_ nk i).length≤k∧k≤33∧∀ w L,St w0 w L→(∀ b∈[(q7,191,((sgX bm sd i).map bv).toArray)]++Mq,b∈L)→Sh.Src w B (sgL bm sd X Y I at_ nk i):=by
 have q:=AlR.tx (w0:=w0) h (λ_=>sgL_len i) [(q7,191,((sgX bm sd i).map bv).toArray)] (λh0=>by
  have e:sgL bm sd X Y I at_ nk i=sgX bm sd i:=by
   unfold sgL
   rw [h0]
   rfl
  rw [e]
  exact ⟨sgX_len _,by decide,by decide,λv L hv hb=>Sh.Src.of_blk (hv.blk _ _ _ (hb _ (List.mem_singleton.2 rfl))).2⟩)
 rw [ite_self] at q
 exact q
theorem sg_put {z d:List UInt8} {W:Option Addr} {N c:Nat} (hz:z.length=32) (hd:d.length=32):setAll (sgc33 z W N c).toArray 0 (d.map bv).toArray.toList=(sgc33 d W N c).toArray:=by
 have h:=setAll_is (d.map bv) 0 (sgc33 z W N c).toArray (by rw [List.size_toArray,sg_len hz,List.length_map,hd]; decide)
 rw [show (d.map bv).toArray.toList=d.map bv from rfl,h]
 refine congrArg List.toArray ?_
 simp only [List.take_zero,List.nil_append,List.length_map,hd]
 unfold sgc33
 rw [List.drop_left' (by rw [List.length_map,hz])]
def SgGives (d:List UInt8) (f:Nat→Nat→List Value) (nk:Nat→Nat) (NR:Nat) (v:Value) (M:Blocks):Prop:=∃ g r,v=sgv33 d (some ⟨g,0,none⟩) NR NR∧M=(g,51,rowsC r NR)::rowsB r NR∧RowsAre r 42 4 f (cntR nk NR 0)
set_option maxHeartbeats 4000000 in
set_option maxRecDepth 100000 in
theorem signG_any (w:World) (R:Option Addr) (NR cR:Nat) (a:Nat→Option Addr) (nk ck:Nat→Nat) (X Y:Nat→Nat→Nat) (I:Nat→Nat→Bool) (hX:∀ i k,X i k<K4) (hY:∀ i k,Y i k<K4) (hNR:NR≤4611686018427387904) (hnk:∀ i,nk i≤4611686018427387904) (hlr:Lst w 1 R NR (λi=>[.slice (a i) (nk i) (ck i)])) (hlk:∀ i,i<NR→Lst w 9 (a i) (nk i) (λk=>pml (X i k) (Y i k) (I i k))) (hN32:NR≤32) (hn64:∀ i,i<NR→nk i≤64) (hn1:∀ i,i<NR→1≤nk i) (bm:List UInt8) (hbm:bm.length=32) (sd:List UInt8) (hsd:sd.length=32) (S:Option Addr) (cS:Nat) (at_:Nat→Nat) (sx:Nat→Nat) (hsx:∀ i,sx i<K4) (hls:Lst w 5 S NR (λi=>sec5 ((at_ i:Nat):Int) (sx i))) (hat:∀ i,i<NR→at_ i<nk i) (ht:Sh.TabAt w 1):Calls Tryz.prog 47 #[bndv R NR cR bm,.agg (sd.map bv).toArray,.slice S NR cS] w (GetsN w (SgGives (sgD bm sd X Y I at_ nk NR) (sgF bm sd X Y I at_ sx (sgD bm sd X Y I at_ nk NR)) nk NR)):=by
 have hlr0:=hlr
 obtain ⟨gR,oR,hR⟩:=hlr
 obtain ⟨gQ,oQ,hQ⟩:=hls
 refine Sy.enter (args:=[bndv R NR cR bm,.agg (sd.map bv).toArray,.slice S NR cS]) Tryz.func47 rfl kL ?_
 refine sC ?_
 refine sM 86 (bndc R NR cR bm).toArray (λg0=>?_)
 refine sM 23 (sd.map bv).toArray (λg1=>?_)
 refine sM 31 (sgc33 (List.replicate 32 (0:UInt8)) none 0 0).toArray (λg2=>?_)
 refine sA ?_
 refine sS (bndv R NR cR bm) (Quiet.load 0 g0 0 33 86 86 (bndc R NR cR bm).toArray _ _ rfl kR kR Tryz.underlying86 rfl kR _ (bnd_whole hbm) (bnd_size hbm))<|sS (.agg (sd.map bv).toArray) (Quiet.load 1 g1 0 32 23 23 (sd.map bv).toArray _ _ rfl kR kR Tryz.underlying23 rfl kR _ (key_whole sd hsd) (key_size sd hsd)) ?_
 refine Sy.callN kR 107 #[bndv R NR cR bm,.agg (sd.map bv).toArray] kF (GivesRows 51 42 4 (fkF bm sd) (cntR nk NR 0) NR) (λw hw=>fakesG_any w R NR cR a nk ck X Y I hX hY hNR hnk (hlr0.below hw.below) (λi hi=>(hlk i hi).below hw.below) hN32 hn64 bm hbm sd hsd (ht.below hw.below ht.lt)) (λvq Mq hR0=>?_)
 obtain ⟨gF,r0,rfl,rfl,hr0⟩:=hR0
 refine Sy.permS (M:=[(g0,86,(bndc R NR cR bm).toArray),(g1,23,(sd.map bv).toArray),(g2,31,(sgc33 (List.replicate 32 (0:UInt8)) none 0 0).toArray),(gF,51,(rowsC r0 NR))]++(rowsB r0 NR++(nilS.bl++[]))) (by show List.Perm _ ([(g0,86,(bndc R NR cR bm).toArray),(g1,23,(sd.map bv).toArray),(g2,31,(sgc33 (List.replicate 32 (0:UInt8)) none 0 0).toArray),(gF,51,(rowsC r0 NR))]++(rowsB r0 NR++[])); rw [List.append_nil]; exact List.Perm.refl _) ?_
 refine sP (sgv33 (List.replicate 32 (0:UInt8)) (some ⟨gF,0,none⟩) NR NR) ?_
 refine sM 31 (sgc33 (List.replicate 32 (0:UInt8)) none 0 0).toArray (λg3=>?_)
 refine Sy.movT ?_
 refine sW 4 g3 31 (sgc33 (List.replicate 32 (0:UInt8)) none 0 0).toArray (sgc33 (List.replicate 32 (0:UInt8)) (some ⟨gF,0,none⟩) NR NR).toArray (Writes.row 31 (sgc33 (List.replicate 32 (0:UInt8)) (some ⟨gF,0,none⟩) NR NR) 33 _ _ rfl kR kR kR (sg_len List.length_replicate) (by rw [List.size_toArray,sg_len List.length_replicate]) sg_one) ?_
 refine Sy.setT ?_
 refine sA ?_
 refine sP (.slice none 0 0) ?_
 refine sG<|Sy.seq<|sC ?_
 refine sP (.slice S NR cS)<|sP (.int .i64 ((NR:Nat):Int))<|sP (.int .i64 0) ?_
 refine sG<|Sy.block ?_
 refine Sy.loopT (Y:=Slc×Blocks×List Sh.Tx) NR (λk1 y1=>[(2,.slice S NR cS),(3,.pointer (some ⟨g0,0,none⟩)),(4,.pointer (some ⟨g1,0,none⟩)),(6,.pointer (some ⟨g2,0,none⟩)),(7,.pointer (some ⟨g3,0,none⟩)),(8,y1.1.v),(20,.slice S NR cS),(21,.int .i64 ((NR:Nat):Int)),(22,.int .i64 ((k1:Nat):Int))]) (λk1 y1=>[(g0,86,(bndc R NR cR bm).toArray),(g1,23,(sd.map bv).toArray),(g2,31,(sgc33 (List.replicate 32 (0:UInt8)) none 0 0).toArray),(gF,51,(rowsC r0 NR)),(g3,31,(sgc33 (List.replicate 32 (0:UInt8)) (some ⟨gF,0,none⟩) NR NR).toArray)]++(rowsB r0 NR++(y1.1.bl++y1.2.1))) (λk1 y1=>TxsIs (Base.of w) 24 y1.1 y1.2.1 y1.2.2∧Sh.cat y1.2.2=sgEnds bm sd X Y I at_ nk k1∧y1.2.2.length=k1) (nilS,[],[]) ⟨TxsIs.nil _ _,rfl,rfl⟩ (all_cons kR (all_cons kR (all_cons kR (all_cons kR (all_cons kR (all_cons kR (all_cons kR (all_cons kR (all_cons kR all_nil))))))))) (λw hw=>hw) (λk1 y1 hk1 hh1=>?_)
 refine sC ?_
 obtain ⟨b1,hb1⟩:∃ z:Bool,z=decide (k1<NR):=⟨_,rfl⟩
 refine sS (.bool b1) (Quiet.pure (exec_int .lss _ _ _ .i64 _ _ _ rfl rfl rfl (int_lss _ _ _ _ _ (by rw [hb1]; exact decide_eq_decide.2 (by omega))))) ?_
 refine sG<|Sy.seq ?_
 cases b1
 ·have lb1:¬ (k1<NR):=of_decide_eq_false hb1.symm
  refine sU<|Sy.exit<|Sy.then_exit<|Sy.then_exit ?_
  obtain rfl:NR=k1:=by omega
  refine Sy.in_exit<|sB ?_
  refine sS (bndv R NR cR bm) (Quiet.load 0 g0 0 33 86 86 (bndc R NR cR bm).toArray _ _ rfl kR kR Tryz.underlying86 rfl kR _ (bnd_whole hbm) (bnd_size hbm))<|sP (y1.1.v) ?_
  obtain ⟨d0,hd0⟩:∃ l,l=sgD bm sd X Y I at_ nk NR:=⟨_,rfl⟩
  have hdl:d0.length=32:=by rw [hd0]; exact sgD_len _
  refine sS (.agg (d0.map bv).toArray) (Quiet.callS 112 #[bndv R NR cR bm,y1.1.v] kF (λw hw=>by obtain ⟨Q,dd,hv,hc9,_,htx⟩:=hh1.1.texts; rw [hv,hd0]; have hel:=sgEnds_len (bm:=bm) (sd:=sd) (X:=X) (Y:=Y) (I:=I) (at_:=at_) (nk:=nk) NR; have q:=firstG_any w R NR cR bm hbm Q _ dd y1.2.2 (htx hw (λb hb=>List.mem_append.2 (.inr (List.mem_append.2 (.inr (List.mem_append.2 (.inl hb)))))) (λb hb=>List.mem_append.2 (.inr (List.mem_append.2 (.inr (List.mem_append.2 (.inr hb))))))) (hh1.1.ok w _ hw (λb hb=>List.mem_append.2 (.inr (List.mem_append.2 (.inr (List.mem_append.2 (.inr hb))))))) rfl hc9 (by omega) (by rw [hh1.2.1]; omega) (ht.below hw.below ht.lt); rw [hh1.2.1] at q; exact q))<|sP (.pointer (some ⟨g3,0,none⟩))<|sW 4 g3 31 (sgc33 (List.replicate 32 (0:UInt8)) (some ⟨gF,0,none⟩) NR NR).toArray (sgc33 d0 (some ⟨gF,0,none⟩) NR NR).toArray (Writes.store 0 23 (d0.map bv).toArray _ _ rfl kR kR (by rw [key_sz d0 hdl]; kernel_rfl) (by rw [key_sz d0 hdl,List.size_toArray,sg_len List.length_replicate]; decide) (key_one _) (sg_put List.length_replicate hdl)) ?_
  refine Sy.setT ?_
  refine sG<|Sy.seq<|sC ?_
  refine sP (.slice S NR cS)<|sP (.int .i64 ((NR:Nat):Int))<|sP (.int .i64 0) ?_
  refine sG<|Sy.block ?_
  refine Sy.loopT (Y:=Nat→Slc) NR (λk1 y1=>[(3,.pointer (some ⟨g0,0,none⟩)),(4,.pointer (some ⟨g1,0,none⟩)),(6,.pointer (some ⟨g2,0,none⟩)),(7,.pointer (some ⟨g3,0,none⟩)),(60,.slice S NR cS),(61,.int .i64 ((NR:Nat):Int)),(62,.int .i64 ((k1:Nat):Int))]) (λk1 y1=>[(g0,86,(bndc R NR cR bm).toArray),(g1,23,(sd.map bv).toArray),(g2,31,(sgc33 (List.replicate 32 (0:UInt8)) none 0 0).toArray),(gF,51,(rowsC y1 NR)),(g3,31,(sgc33 d0 (some ⟨gF,0,none⟩) NR NR).toArray)]++(rowsB y1 NR++[])) (λk1 y1=>RowsAre y1 42 4 (sgK bm sd X Y I at_ sx d0 k1) (cntR nk NR 0)) r0 (by rw [sgK_zero]; exact hr0) (all_cons kR (all_cons kR (all_cons kR (all_cons kR (all_cons kR (all_cons kR (all_cons kR all_nil))))))) (λw hw=>(hw.less ((List.Sublist.refl _).append ((List.Sublist.refl _).append (List.nil_sublist _))))) (λk1 y1 hk1 hh1=>?_)
  refine sC ?_
  obtain ⟨b2,hb2⟩:∃ z:Bool,z=decide (k1<NR):=⟨_,rfl⟩
  refine sS (.bool b2) (Quiet.pure (exec_int .lss _ _ _ .i64 _ _ _ rfl rfl rfl (int_lss _ _ _ _ _ (by rw [hb2]; exact decide_eq_decide.2 (by omega))))) ?_
  refine sG<|Sy.seq ?_
  cases b2
  ·have lb2:¬ (k1<NR):=of_decide_eq_false hb2.symm
   refine sU<|Sy.exit<|Sy.then_exit<|Sy.then_exit ?_
   obtain rfl:NR=k1:=by omega
   refine Sy.in_exit<|sB ?_
   refine sS (sgv33 d0 (some ⟨gF,0,none⟩) NR NR) (Quiet.load 4 g3 0 33 31 31 (sgc33 d0 (some ⟨gF,0,none⟩) NR NR).toArray _ _ rfl kR kR Tryz.underlying31 rfl kR _ (sg_whole hdl) (sg_fit hdl))<|sW 2 g2 31 (sgc33 (List.replicate 32 (0:UInt8)) none 0 0).toArray (sgc33 d0 (some ⟨gF,0,none⟩) NR NR).toArray (Writes.row 31 (sgc33 d0 (some ⟨gF,0,none⟩) NR NR) 33 _ _ rfl kR kR kR (sg_len hdl) (by rw [List.size_toArray,sg_len List.length_replicate]) sg_one) ?_
   refine Sy.setT ?_
   refine sG<|Sy.ret ?_
   exact retGM ((gF,51,rowsC y1 NR)::rowsB y1 NR) rfl (v:=sgv33 d0 (some ⟨gF,0,none⟩) NR NR) (.inl (Res.cell (ty':=31) g2 2 (sgc33 d0 (some ⟨gF,0,none⟩) NR NR).toArray _ kR kR Tryz.underlying31 rfl (by rw [List.size_toArray,sg_len hdl]; kernel_rfl) rfl)) (λw hw=>by simpa using St.pick (pre:=[(g0,86,(bndc R NR cR bm).toArray),(g1,23,(sd.map bv).toArray),(g2,31,(sgc33 d0 (some ⟨gF,0,none⟩) NR NR).toArray),(gF,51,(rowsC y1 NR)),(g3,31,(sgc33 d0 (some ⟨gF,0,none⟩) NR NR).toArray)]) (M:=[(gF,51,rowsC y1 NR)]) [3] (by decide) kR hw) ⟨gF,y1,by rw [hd0],rfl,by rw [← hd0]; exact sgK_all hh1⟩
  ·have lb2:k1<NR:=of_decide_eq_true hb2.symm
   have hnk1:=hn64 k1 lb2
   have hat1:=hat k1 lb2
   obtain ⟨gk,ck2,sp,hkv,hkb,hk1s,hk2s,hk3s⟩:=(show (y1 k1).Is _ _ _ from hh1 k1).open (by rw [cntR_all lb2]; omega)
   rw [cntR_all lb2] at hkv hkb hk1s hk2s
   rw [sgK_at] at hkb
   obtain ⟨fR,hfR⟩:∃ f:Nat→List Value,f=λj=>fws (rgF bm sd k1 j):=⟨_,rfl⟩
   rw [← hfR] at hkb
   have hf4:∀ j,(fR j).length=4:=λj=>by rw [hfR]; rfl
   refine Sy.permC (Sy.out1 y1 lb2 hkb) ?_
   refine sT<|Sy.skip<|Sy.then_<|Sy.seq<|Sy.block<|sC ?_
   refine sP (.int .i64 ((k1:Nat):Int))<|sS (.pointer (some ⟨gQ,oQ+k1*5,none⟩)) (Quiet.pure (exec_atO 26 _ _ _ S gQ oQ NR cS k1 5 .i64 (hQ (by omega)).1 rfl rfl rfl Tryz.underlying26 kF (by omega)))<|sS (.agg (sec5 (((at_ k1):Nat):Int) (sx k1)).toArray) (Quiet.there gQ (oQ+k1*5) 5 44 (sec5 ((at_ k1:Nat):Int) (sx k1)) _ _ rfl kR (hQ (by omega)).2.1 ((hQ (by omega)).2.2 k1 (by omega)) Tryz.underlying44 rfl kR rfl _ rfl) ?_
   refine sM 44 (sec5 ((0:Nat):Int) 0).toArray (λg4=>?_)
   refine Sy.movT ?_
   refine sP (.int .i64 ((k1:Nat):Int))<|sW 6 g4 44 (sec5 ((0:Nat):Int) 0).toArray (sec5 (((at_ k1):Nat):Int) (sx k1)).toArray (Writes.row 44 (sec5 (((at_ k1):Nat):Int) (sx k1)) 5 _ _ rfl kR kR kR rfl kR (λu hu=>by rcases List.mem_cons.1 hu with rfl | hu; exact rfl; exact fws_one _ u hu)) ?_
   refine Sy.setT ?_
   refine sH (λj=>false) ?_
   refine sD 0 rfl (bndv R NR cR bm) (Quiet.load 0 g0 0 33 86 86 (bndc R NR cR bm).toArray _ _ rfl kR kR Tryz.underlying86 rfl kR _ (bnd_whole hbm) (bnd_size hbm))<|sZ 1 rfl (.pointer (some ⟨g3,0,none⟩))<|sZ 2 rfl (.slice (some ⟨g3,0,none⟩) 32 32)<|sZ 3 rfl (.pointer (some ⟨g3,32,none⟩))<|sD 4 rfl (.slice (some ⟨gF,0,none⟩) NR NR) (Quiet.cell 4 g3 32 31 29 (sgc33 d0 (some ⟨gF,0,none⟩) NR NR).toArray _ _ rfl kR kR Tryz.underlying29 rfl _ (sg_at hdl))<|sZ 5 rfl (.int .i64 ((k1:Nat):Int))<|sD 6 rfl (.pointer (some ⟨gF,0+k1*1,none⟩)) (Quiet.pure (exec_at 29 _ _ _ gF 0 NR NR k1 1 .i64 rfl rfl rfl Tryz.underlying29 kF (by omega)))<|sD 7 rfl (.slice (some ⟨gk,0,none⟩) (nk k1) ck2) (Quiet.cell 3 gF (0+k1*1) 51 51 (rowsC y1 NR) _ _ rfl kR kR Tryz.underlying51 rfl _ ((rowsC_get (by omega) rfl).trans (congrArg some hkv))) ?_
   refine sZ 8 rfl (.int .i64 ((k1:Nat):Int))<|sZ 9 rfl (.pointer (some ⟨g4,0,none⟩))<|sD 10 rfl (.int .i64 (((at_ k1):Nat):Int)) (qC 6 g4 0 44 3 (sec5 (((at_ k1):Nat):Int) (sx k1)).toArray rfl Tryz.underlying3) ?_
   refine Sy.callND 11 rfl kR kR 111 #[bndv R NR cR bm,.slice (some ⟨g3,0,none⟩) 32 32,.slice (some ⟨gk,0,none⟩) (nk k1) ck2,.int .i64 ((k1:Nat):Int),.int .i64 0,.int .i64 (((at_ k1):Nat):Int)] kF (AlR (some ⟨g3,0,none⟩) 32 32 (at_ k1) (alX (rgF bm sd k1) bm k1 0 (X k1) (Y k1) (I k1) d0 (at_ k1))) (λw hw=>by have q:=alongG_any w R NR cR a nk ck X Y I hX hY hNR hnk (hlr0.below hw.below) (λi hi=>(hlk i hi).below hw.below) bm hbm (some ⟨g3,0,none⟩) d0 32 32 hdl (by decide) (by decide) (by decide) (sg_src (hw.get (i:=4) rfl)) (some ⟨gk,0,none⟩) (nk k1) ck2 (rgF bm sd k1) (λ_=>rgF_lt _ _ _ _) (by rw [← hfR]; exact row_lst hf4 hw (List.mem_append.2 (.inl (List.mem_of_getElem? (i:=5) rfl)))) k1 0 (at_ k1) (by omega) (by omega) (by omega) (by omega) (by omega) (ht.below hw.below ht.lt); rw [Nat.zero_add] at q; exact q) (λvq Mq hR0=>?_)
   obtain ⟨xA,xk,hxv,hxl,hxk,hx33,hxs⟩:=AlR.tx (w0:=Base.of w) hR0 (λh=>alX_len h) [(g3,31,(sgc33 d0 (some ⟨gF,0,none⟩) NR NR).toArray)] (λh=>by rw [h]; exact ⟨hdl,by decide,by decide,λv L hv hb=>sg_src (hv.blk _ _ _ (hb _ (List.mem_singleton.2 rfl))).2⟩)
   obtain ⟨xn,hxn⟩:∃ k,k=(if at_ k1=0 then 32 else 33):=⟨_,rfl⟩
   rw [← hxn] at hxl hxv
   subst hxv
   refine Sy.permD Sy.end_perm ?_
   refine sZ 12 rfl (.slice xA xn xk) ?_
   refine sE ?_
   refine sB ?_
   refine sS (bndv R NR cR bm) (Quiet.load 0 g0 0 33 86 86 (bndc R NR cR bm).toArray _ _ rfl kR kR Tryz.underlying86 rfl kR _ (bnd_whole hbm) (bnd_size hbm))<|sP (.slice xA xn xk)<|sP (.int .i64 ((k1:Nat):Int))<|sP (.pointer (some ⟨g4,0,none⟩))<|sS (.int .i64 (((at_ k1):Nat):Int)) (qC 6 g4 0 44 3 (sec5 (((at_ k1):Nat):Int) (sx k1)).toArray rfl Tryz.underlying3) ?_
   obtain ⟨ek,hek⟩:∃ k,k=sgE bm sd X Y I at_ d0 k1:=⟨_,rfl⟩
   refine sS (fv ek) (Quiet.callS 113 #[bndv R NR cR bm,.slice xA xn xk,.int .i64 ((k1:Nat):Int),.int .i64 (((at_ k1):Nat):Int)] kF (λw hw=>by rw [hek]; exact chalG_any w R NR cR bm hbm xA _ xn xk hxl (by omega) (by omega) (by omega) (hxs w _ hw (λb hb=>(List.mem_append.1 hb).elim (λh=>List.mem_append.2 (.inl (by rw [List.mem_singleton.1 h]; exact List.mem_of_getElem? (i:=4) rfl))) (λh=>List.mem_append.2 (.inr (List.mem_append.2 (.inr (List.mem_append.2 (.inr h)))))))) k1 (at_ k1) (by omega) (by omega) (ht.below hw.below ht.lt))) ?_
   refine sM 42 (fcs 0) (λg5=>?_)
   refine Sy.movT ?_
   refine sW 7 g5 42 (fcs 0) (fcs ek) (wS 0 42 (fcs ek) rfl) ?_
   refine Sy.setT ?_
   refine sG ?_
   refine Sy.regionD (λj=>j == 17) kR ?_
   refine sZ 0 rfl (.pointer (some ⟨g3,32,none⟩))<|sD 1 rfl (.slice (some ⟨gF,0,none⟩) NR NR) (Quiet.cell 4 g3 32 31 29 (sgc33 d0 (some ⟨gF,0,none⟩) NR NR).toArray _ _ rfl kR kR Tryz.underlying29 rfl _ (sg_at hdl))<|sZ 2 rfl (.int .i64 ((k1:Nat):Int))<|sD 3 rfl (.pointer (some ⟨gF,0+k1*1,none⟩)) (Quiet.pure (exec_at 29 _ _ _ gF 0 NR NR k1 1 .i64 rfl rfl rfl Tryz.underlying29 kF (by omega)))<|sD 4 rfl (.slice (some ⟨gk,0,none⟩) (nk k1) ck2) (Quiet.cell 3 gF (0+k1*1) 51 51 (rowsC y1 NR) _ _ rfl kR kR Tryz.underlying51 rfl _ ((rowsC_get (by omega) rfl).trans (congrArg some hkv)))<|sZ 5 rfl (.pointer (some ⟨g4,0,none⟩))<|sD 6 rfl (.int .i64 (((at_ k1):Nat):Int)) (qC 6 g4 0 44 3 (sec5 (((at_ k1):Nat):Int) (sx k1)).toArray rfl Tryz.underlying3)<|sD 7 rfl (bndv R NR cR bm) (Quiet.load 0 g0 0 33 86 86 (bndc R NR cR bm).toArray _ _ rfl kR kR Tryz.underlying86 rfl kR _ (bnd_whole hbm) (bnd_size hbm)) ?_
   refine sD 8 rfl (.agg (sd.map bv).toArray) (Quiet.load 1 g1 0 32 23 23 (sd.map bv).toArray _ _ rfl kR kR Tryz.underlying23 rfl kR _ (key_whole sd hsd) (key_size sd hsd))<|sZ 9 rfl (.int .i64 ((k1:Nat):Int)) ?_
   obtain ⟨kn,hkn⟩:∃ k,k=rgN bm sd k1:=⟨_,rfl⟩
   refine sD 10 rfl (fv kn) (Quiet.callS 109 #[bndv R NR cR bm,.agg (sd.map bv).toArray,.int .i64 ((k1:Nat):Int)] kF (λw hw=>by rw [hkn]; exact nonceG_any w R NR cR bm hbm sd hsd k1 (by omega) (ht.below hw.below ht.lt)))<|sD 11 rfl (fv ek) (qL 7 g5 0 4 42 42 (fcs ek) rfl Tryz.underlying42)<|sZ 12 rfl (.pointer (some ⟨g4,1,none⟩))<|sD 13 rfl (fv (sx k1)) (qL 6 g4 1 4 44 42 (sec5 (((at_ k1):Nat):Int) (sx k1)).toArray rfl Tryz.underlying42) ?_
   obtain ⟨km,hkm⟩:∃ k,k=Sc.mulP ek (sx k1):=⟨_,rfl⟩
   refine sD 14 rfl (fv km) (qF 115 #[fv ek,fv (sx k1)] (λw=>by rw [hkm]; exact Sc.mulF_any w _ _ (by rw [hek]; exact rgC_lt _ _ _ _) (hsx _))) ?_
   obtain ⟨ks,hks⟩:∃ k,k=Sc.subP kn km:=⟨_,rfl⟩
   refine sD 15 rfl (fv ks) (qF 114 #[fv kn,fv km] (λw=>by rw [hks]; exact Sc.subF_any w _ _ (by rw [hkn]; exact rgN_lt _ _ _) (by rw [hkm]; exact Sc.mod_lt _)))<|sD 16 rfl (.pointer (some ⟨gk,0+(at_ k1)*4,none⟩)) (Quiet.pure (exec_at 51 _ _ _ gk 0 (nk k1) ck2 (at_ k1) 4 .i64 rfl rfl rfl Tryz.underlying51 kF (by omega)))<|sX 17 rfl 5 gk 42 (flat fR (nk k1)++sp).toArray (flat (λj=>if j=(at_ k1) then fws ks else fR j) (nk k1)++sp).toArray (Writes.store (0+(at_ k1)*4) 42 (fcs ks) _ _ rfl kR kR kR (flat_fit1 (k:=(at_ k1)) hf4 (by omega) rfl) kR (flat_put1 (k:=(at_ k1)) (v:=fws ks) hf4 rfl (by omega) rfl)) ?_
   refine Sy.setTD ?_
   refine sE ?_
   refine Sy.in_<|Sy.then_<|Sy.region ?_
   refine sS (.int .i64 ((k1+1:Nat):Int)) (Quiet.pure (exec_int .add _ _ _ .i64 _ _ _ rfl rfl rfl (int_add _ _ _ _ _ ((wrap_i64 (by omega) (by omega)).trans (by omega)))))<|sP (.int .i64 ((k1+1:Nat):Int)) ?_
   refine Sy.nil ?_
   exact Sy.againT (putR y1 k1 ⟨.slice (some ⟨gk,0,none⟩) (nk k1) ck2,[(gk,42,(flat (λj=>if j=(at_ k1) then fws ks else fR j) (nk k1)++sp).toArray)]⟩) (by omega) (hh1.upd (by rw [cntR_all (by omega), ← sgK_upd, ← hkn, ← hek, ← hkm, ← hks,hfR]; exact Slc.Is.close (λk=>by split <;> rfl) (λk=>by split <;> exact fws_one _) hk1s hk2s hk3s) (λi hi=>sgK_ne hi)) (all_cons kR (all_cons kR (all_cons kR (all_cons kR (all_cons kR (all_cons kR (all_cons kR all_nil))))))) (λw hw=>by rw [rowsC_same (by exact hkv.symm)]; exact St.back1 (by omega) (St.pick (pre:=[(g0,86,(bndc R NR cR bm).toArray),(g1,23,(sd.map bv).toArray),(g2,31,(sgc33 (List.replicate 32 (0:UInt8)) none 0 0).toArray),(gF,51,(rowsC y1 NR)),(g3,31,(sgc33 d0 (some ⟨gF,0,none⟩) NR NR).toArray),(gk,42,(flat (λj=>if j=(at_ k1) then fws ks else fR j) (nk k1)++sp).toArray),(g4,44,(sec5 (((at_ k1):Nat):Int) (sx k1)).toArray),(g5,42,(fcs ek))]) (M:=[(g0,86,(bndc R NR cR bm).toArray),(g1,23,(sd.map bv).toArray),(g2,31,(sgc33 (List.replicate 32 (0:UInt8)) none 0 0).toArray),(gF,51,(rowsC y1 NR)),(g3,31,(sgc33 d0 (some ⟨gF,0,none⟩) NR NR).toArray)]++[(gk,42,(flat (λj=>if j=(at_ k1) then fws ks else fR j) (nk k1)++sp).toArray)]) [0,1,2,3,4,5] (by decide) kR hw))
 ·have lb1:k1<NR:=of_decide_eq_true hb1.symm
  have hnk1:=hn64 k1 lb1
  have hat1:=hat k1 lb1
  obtain ⟨wA,wc,hwv,_,_,hwl⟩:=hr0.lst (cntR_all lb1) lb1
  refine sT<|Sy.skip<|Sy.then_<|Sy.seq<|Sy.block<|sC ?_
  refine sP (.int .i64 ((k1:Nat):Int))<|sS (.pointer (some ⟨gQ,oQ+k1*5,none⟩)) (Quiet.pure (exec_atO 26 _ _ _ S gQ oQ NR cS k1 5 .i64 (hQ (by omega)).1 rfl rfl rfl Tryz.underlying26 kF (by omega)))<|sS (.agg (sec5 (((at_ k1):Nat):Int) (sx k1)).toArray) (Quiet.there gQ (oQ+k1*5) 5 44 (sec5 ((at_ k1:Nat):Int) (sx k1)) _ _ rfl kR (hQ (by omega)).2.1 ((hQ (by omega)).2.2 k1 (by omega)) Tryz.underlying44 rfl kR rfl _ rfl) ?_
  refine sM 44 (sec5 ((0:Nat):Int) 0).toArray (λg6=>?_)
  refine Sy.movT ?_
  refine sP (.int .i64 ((k1:Nat):Int))<|sW 5 g6 44 (sec5 ((0:Nat):Int) 0).toArray (sec5 (((at_ k1):Nat):Int) (sx k1)).toArray (Writes.row 44 (sec5 (((at_ k1):Nat):Int) (sx k1)) 5 _ _ rfl kR kR kR rfl kR (λu hu=>by rcases List.mem_cons.1 hu with rfl | hu; exact rfl; exact fws_one _ u hu)) ?_
  refine Sy.setT ?_
  refine sA ?_
  refine sS (bndv R NR cR bm) (Quiet.load 0 g0 0 33 86 86 (bndc R NR cR bm).toArray _ _ rfl kR kR Tryz.underlying86 rfl kR _ (bnd_whole hbm) (bnd_size hbm))<|sS (.agg (sd.map bv).toArray) (Quiet.load 1 g1 0 32 23 23 (sd.map bv).toArray _ _ rfl kR kR Tryz.underlying23 rfl kR _ (key_whole sd hsd) (key_size sd hsd))<|sP (.int .i64 ((k1:Nat):Int))<|sS (fv (rgN bm sd k1)) (Quiet.callS 109 #[bndv R NR cR bm,.agg (sd.map bv).toArray,.int .i64 ((k1:Nat):Int)] kF (λw hw=>nonceG_any w R NR cR bm hbm sd hsd k1 (by omega) (ht.below hw.below ht.lt)))<|sS (pv gx.val gy.val false) (qF 110 #[] (base_c))<|sS (pv (pX (evP (rgN bm sd k1))) (pY (evP (rgN bm sd k1))) (pI (evP (rgN bm sd k1)))) (qF 108 #[fv (rgN bm sd k1),pv gx.val gy.val false] (λw=>mul_of7 (rgN_lt _ _ _) (lt4 _) (lt4 _) (show dec gx.val gy.val false=bP from dec_fin gx gy bP_on) rfl w)) ?_
  refine Sy.callN kR 105 #[pv (pX (evP (rgN bm sd k1))) (pY (evP (rgN bm sd k1))) (pI (evP (rgN bm sd k1)))] kF ((CodeIs (evP (rgN bm sd k1)))) (λw hw=>by have q:=code_any w (pX (evP (rgN bm sd k1))) (pY (evP (rgN bm sd k1))) (pI (evP (rgN bm sd k1))) (pX_lt _) (pY_lt _); rwa [dec_parts (evP_on _)] at q) (λvq Mq hR0=>?_)
  obtain ⟨q7,rfl,rfl⟩:=hR0
  refine Sy.movT ?_
  refine sP (.slice (some ⟨q7,0,none⟩) 33 33) ?_
  refine sG ?_
  refine Sy.regionD (λj=>j == 20) kR ?_
  refine sZ 0 rfl (y1.1.v) ?_
  refine Sy.stepDB 1 [18,19,20,21] rfl kR (λ_ _ _ _ h=>h) kR (bndv R NR cR bm) (Quiet.load 0 g0 0 33 86 86 (bndc R NR cR bm).toArray _ _ rfl kR kR Tryz.underlying86 rfl kR _ (bnd_whole hbm) (bnd_size hbm)) ?_
  refine Sy.stepDB 2 [18,19,20,21] rfl kR (λ_ _ _ _ h=>h) kR (.slice (some ⟨q7,0,none⟩) 33 33) qP ?_
  refine Sy.stepDB 3 [4,6,7,18,19,20,21] rfl kR (λ_ _ _ _ h=>h) kR (.pointer (some ⟨g3,32,none⟩)) qP ?_
  refine Sy.stepDB 4 [6,7,18,19,20,21] rfl kR (λ_ _ _ _ h=>h) kR (.slice (some ⟨gF,0,none⟩) NR NR) (Quiet.cell 4 g3 32 31 29 (sgc33 (List.replicate 32 (0:UInt8)) (some ⟨gF,0,none⟩) NR NR).toArray _ _ rfl kR kR Tryz.underlying29 rfl _ (sg_at List.length_replicate)) ?_
  refine Sy.stepDB 5 [6,7,18,19,20,21] rfl kR (λ_ _ _ _ h=>h) kR (.int .i64 ((k1:Nat):Int)) qP ?_
  refine Sy.stepDB 6 [7,18,19,20,21] rfl kR (λ_ _ _ _ h=>h) kR (.pointer (some ⟨gF,0+k1*1,none⟩)) (Quiet.pure (exec_at 29 _ _ _ gF 0 NR NR k1 1 .i64 rfl rfl rfl Tryz.underlying29 kF (by omega))) ?_
  refine Sy.stepDB 7 [18,19,20,21] rfl kR (λ_ _ _ _ h=>h) kR (.slice wA (nk k1) wc) (Quiet.cell 3 gF (0+k1*1) 51 51 (rowsC r0 NR) _ _ rfl kR kR Tryz.underlying51 rfl _ ((rowsC_get (by omega) rfl).trans (congrArg some hwv))) ?_
  refine Sy.stepDB 8 [18,19,20,21] rfl kR (λ_ _ _ _ h=>h) kR (.int .i64 ((k1:Nat):Int)) qP ?_
  refine Sy.stepDB 9 [10,11,18,19,20,21] rfl kR (λ_ _ _ _ h=>h) kR (.pointer (some ⟨g6,0,none⟩)) qP ?_
  refine Sy.stepDB 10 [11,18,19,20,21] rfl kR (λ_ _ _ _ h=>h) kR (.int .i64 (((at_ k1):Nat):Int)) (qC 5 g6 0 44 3 (sec5 (((at_ k1):Nat):Int) (sx k1)).toArray rfl Tryz.underlying3) ?_
  refine Sy.stepDB 11 [18,19,20,21] rfl kR (λ_ _ _ _ h=>h) kR (.int .i64 (((at_ k1)+1:Nat):Int)) (Quiet.pure (exec_int .add _ _ _ .i64 _ _ _ rfl rfl rfl (int_add _ _ _ _ _ ((wrap_i64 (by omega) (by omega)).trans (by omega))))) ?_
  refine Sy.stepDB 12 [13,15,16,17,18,19,20,21] rfl kR (λ_ _ _ _ h=>h) kR (.pointer (some ⟨g3,32,none⟩)) qP ?_
  refine Sy.stepDB 13 [15,16,17,18,19,20,21] rfl kR (λ_ _ _ _ h=>h) kR (.slice (some ⟨gF,0,none⟩) NR NR) (Quiet.cell 4 g3 32 31 29 (sgc33 (List.replicate 32 (0:UInt8)) (some ⟨gF,0,none⟩) NR NR).toArray _ _ rfl kR kR Tryz.underlying29 rfl _ (sg_at List.length_replicate)) ?_
  refine Sy.stepDB 14 [15,16,17,18,19,20,21] rfl kR (λ_ _ _ _ h=>h) kR (.int .i64 ((k1:Nat):Int)) qP ?_
  refine Sy.stepDB 15 [16,17,18,19,20,21] rfl kR (λ_ _ _ _ h=>h) kR (.pointer (some ⟨gF,0+k1*1,none⟩)) (Quiet.pure (exec_at 29 _ _ _ gF 0 NR NR k1 1 .i64 rfl rfl rfl Tryz.underlying29 kF (by omega))) ?_
  refine Sy.stepDB 16 [17,18,19,20,21] rfl kR (λ_ _ _ _ h=>h) kR (.slice wA (nk k1) wc) (Quiet.cell 3 gF (0+k1*1) 51 51 (rowsC r0 NR) _ _ rfl kR kR Tryz.underlying51 rfl _ ((rowsC_get (by omega) rfl).trans (congrArg some hwv))) ?_
  refine Sy.stepDB 17 [18,19,20,21] rfl kR (λ_ _ _ _ h=>h) kR (.int .i64 (((nk k1):Nat):Int)) qP ?_
  refine Sy.callND 18 rfl kR kR 111 #[bndv R NR cR bm,.slice (some ⟨q7,0,none⟩) 33 33,.slice wA (nk k1) wc,.int .i64 ((k1:Nat):Int),.int .i64 (((at_ k1)+1:Nat):Int),.int .i64 (((nk k1):Nat):Int)] kF (AlR (some ⟨q7,0,none⟩) 33 33 (nk k1 - (at_ k1+1)) (sgL bm sd X Y I at_ nk k1)) (λw hw=>by have q:=alongG_any w R NR cR a nk ck X Y I hX hY hNR hnk (hlr0.below hw.below) (λi hi=>(hlk i hi).below hw.below) bm hbm (some ⟨q7,0,none⟩) (sgX bm sd k1) 33 33 (sgX_len _) (by decide) (by decide) (by decide) (Sh.Src.of_blk (hw.get (i:=6) rfl)) wA (nk k1) wc (rgF bm sd k1) (λ_=>rgF_lt _ _ _ _) (hwl hw (λb hb=>List.mem_append.2 (.inr (List.mem_append.2 (.inl hb))))) k1 (at_ k1+1) (nk k1 - (at_ k1+1)) (by omega) (by omega) (by omega) (by omega) (by omega) (ht.below hw.below ht.lt); rwa [show at_ k1+1+(nk k1 - (at_ k1+1))=nk k1 by omega] at q) (λvq Mq hR0=>?_)
  obtain ⟨xA,xk,rfl,hxl,hxk,hx33,hxs⟩:=sgL_tx (w0:=Base.of w) hR0
  refine Sy.permD Sy.end_perm3 ?_
  refine Sy.makeD 19 rfl kR kR 24 #[.slice xA 33 xk] (λg=>.slice (some ⟨g,0,none⟩) 1 1) kF (λg7=>?_)
  refine Sy.movTD ?_
  refine Sy.soleD 20 rfl (λQ1 hq1=>?_)
  refine Sy.permS Sy.rot_perm ?_
  refine Sy.appendR kR 95 24 _ _ 1 24 Tryz.underlying95 info_sl rfl rfl rfl rfl (by decide) _ _ rfl hh1.1.row kR [.slice xA 33 xk] rfl (one_sl _ _ _) 7 g7 24 kR kR (by rw [List.length_map,hh1.2.2]; omega) (by rw [List.length_map,hh1.2.2]; simp only [maxLen]; omega) (λr1 hr1=>?_)
  refine Sy.permS Sy.tor_perm ?_
  refine hq1 _ _ ?_
  refine Sy.anyOf [21] kR (by decide) (Sy.each1 ?_)
  refine Sy.oneQuiet rfl kR (r1.v) qP ?_
  refine sE ?_
  refine Sy.in_<|Sy.then_<|Sy.region ?_
  refine sS (.int .i64 ((k1+1:Nat):Int)) (Quiet.pure (exec_int .add _ _ _ .i64 _ _ _ rfl rfl rfl (int_add _ _ _ _ _ ((wrap_i64 (by omega) (by omega)).trans (by omega)))))<|sP (.int .i64 ((k1+1:Nat):Int)) ?_
  refine Sy.nil ?_
  exact Sy.againT ((r1,y1.2.1++(Mq++[(q7,191,((sgX bm sd k1).map bv).toArray)]),y1.2.2++[(⟨xA,sgL bm sd X Y I at_ nk k1,xk⟩:Sh.Tx)])) (by omega) (⟨hh1.1.add (⟨xA,sgL bm sd X Y I at_ nk k1,xk⟩:Sh.Tx) (Mq++[(q7,191,((sgX bm sd k1).map bv).toArray)]) hr1 (by unfold Sh.Tx.val; rw [show (sgL bm sd X Y I at_ nk k1).length=33 from hxl]) (λv L hv hb=>⟨hxs v L hv (λb h=>hb b ((List.mem_append.1 h).elim (λh=>List.mem_append.2 (.inr h)) (λh=>List.mem_append.2 (.inl h)))),hxk,by show xk≤9223372036854775807; omega⟩),by rw [cat_add,hh1.2.1]; rfl,by rw [List.length_append,hh1.2.2]; rfl⟩) (all_cons kR (all_cons kR (all_cons kR (all_cons kR (all_cons kR (all_cons kR (all_cons kR (all_cons kR (all_cons kR all_nil))))))))) (λw hw=>St.pick4 (pre:=[(g0,86,(bndc R NR cR bm).toArray),(g1,23,(sd.map bv).toArray),(g2,31,(sgc33 (List.replicate 32 (0:UInt8)) none 0 0).toArray),(gF,51,(rowsC r0 NR)),(g3,31,(sgc33 (List.replicate 32 (0:UInt8)) (some ⟨gF,0,none⟩) NR NR).toArray),(g6,44,(sec5 (((at_ k1):Nat):Int) (sx k1)).toArray),(q7,191,((sgX bm sd k1).map bv).toArray),(g7,24,#[.slice xA 33 xk])]) (M:=[(g0,86,(bndc R NR cR bm).toArray),(g1,23,(sd.map bv).toArray),(g2,31,(sgc33 (List.replicate 32 (0:UInt8)) none 0 0).toArray),(gF,51,(rowsC r0 NR)),(g3,31,(sgc33 (List.replicate 32 (0:UInt8)) (some ⟨gF,0,none⟩) NR NR).toArray)]) (N:=[(q7,191,((sgX bm sd k1).map bv).toArray)]) [0,1,2,3,4,6] (by decide) kR hw)
end Cu
end
section
namespace Sy
open Go.RowKit Go.ChangeShapes Go.WideShapes Go.MapKept Go.ChangeMaps Go.WideElems
open Go.WideMaps (KeyLaw ArrKey)
section
variable {P:Program} {w0:Base} {n:Nat} {Q:Exit→Act→World→Prop} {F:Slots} {L:Blocks} {ops:Array Oper} {o:Oper} {l:List Oper} {ex:Nat→Bool} {fuel:Nat} {listed:Array Bool}
end
section
variable {P:Program} {t k e:TypeId} {es:Array MapEntry} {clock:Nat} {ks:List Value}
open Classical in
end
end Sy
end
section
namespace Cu
open Go.RowKit Sy Go.ChangeShapes Go.WideShapes Go.MapKept Go.ChangeMaps Go.WideElems
open Go.WideMaps (KeyLaw ArrKey)
section
variable {m:List UInt8} {T:Int} {N M:Nat} {K:Nat→List UInt8} {Z:Nat→Int} {S:Nat→List UInt8}
end
end Cu
end
section
namespace Cu
open Go.RowKit Sy
set_option maxRecDepth 100000
set_option maxHeartbeats 4000000
end Cu
end
section
namespace Cu
open Go.RowKit Sy
set_option maxRecDepth 100000
set_option maxHeartbeats 4000000
end Cu
end
section
namespace Cu
open Go.RowKit Sy
section
variable {x:Nat→Nat} {m:List UInt8}
end
section
variable {l:List (List UInt8×List UInt8)} {m:List UInt8}
theorem Lst_ext {w:World} {s n:Nat} {A:Option Addr} {e e':Nat→List Value} (h:Lst w s A n e) (he:∀ i,i<n→e i=e' i):Lst w s A n e':=by
 obtain ⟨g,o,h⟩:=h
 refine ⟨g,o,λhn=>?_⟩
 obtain ⟨h1,h2,h3⟩:=h hn
 exact ⟨h1,h2,λj hj=>by rw [← he j hj]; exact h3 j hj⟩
end
end Cu
end
section
namespace Cu
open Go.RowKit Sy
noncomputable def infInt:TypeInfo:=(Tryz.prog.info? 3).getD default
theorem info_int:Tryz.prog.info? 3=some infInt:=by kernel_rfl
theorem one_intG (z:Int):∀ u∈[Value.int .i64 z],u.oneCell'=true:=λu hu=>by rw [List.mem_singleton.1 hu]; rfl
def szR (n:Nat→Nat) (k:Nat):List (List Value):=(List.range k).map λi=>[.int .i64 ((n i:Nat):Int)]
theorem szR_len (n:Nat→Nat) (k:Nat):(szR n k).length=k:=by simp [szR]
theorem szR_succ (n:Nat→Nat) (k:Nat):szR n (k+1)=szR n k++[[.int .i64 ((n k:Nat):Int)]]:=by
 unfold szR
 rw [List.range_succ,List.map_append]
 rfl
theorem szR_get {n:Nat→Nat} {k i:Nat} (hi:i<k):(szR n k).getD i []=[.int .i64 ((n i:Nat):Int)]:=by
 unfold szR
 rw [List.getD_eq_getElem?_getD,List.getElem?_map,List.getElem?_range hi]
 rfl
def rgtB (NR:Nat) (n:Nat→Nat) (X Y:Nat→Nat→Nat) (I:Nat→Nat→Bool):Bool:=szB NR n && !(List.range NR).any (badR n X Y I)
set_option maxHeartbeats 4000000 in
set_option maxRecDepth 100000 in
theorem rightG_any (w:World) (R:Option Addr) (NR cR:Nat) (a:Nat→Option Addr) (n c:Nat→Nat) (X Y:Nat→Nat→Nat) (I:Nat→Nat→Bool) (hX:∀ i k,X i k<K4) (hY:∀ i k,Y i k<K4) (hNR:NR≤4611686018427387904) (hn:∀ i,n i≤4611686018427387904) (hlr:Lst w 1 R NR (λi=>[.slice (a i) (n i) (c i)])) (hlk:∀ i,i<NR→Lst w 9 (a i) (n i) (λk=>pml (X i k) (Y i k) (I i k))) (hN9:NR≤17592186044416):Calls Tryz.prog 44 #[.slice R NR cR] w (Gets w (.bool (rgtB NR n X Y I))):=by
 have hlr0:=hlr
 obtain ⟨gR,oR,hR⟩:=hlr
 refine Sy.enter (args:=[.slice R NR cR]) Tryz.func44 rfl kL ?_
 refine sC ?_
 refine sP (.bool false) ?_
 refine sA ?_
 refine sP (.slice none 0 0) ?_
 refine sG<|Sy.seq<|sC ?_
 refine sP (.slice R NR cR)<|sP (.int .i64 ((NR:Nat):Int))<|sP (.int .i64 0) ?_
 refine sG<|Sy.block ?_
 refine Sy.loopT (Y:=Slc) NR (λk1 y1=>[(0,.slice R NR cR),(3,y1.v),(6,.slice R NR cR),(7,.int .i64 ((NR:Nat):Int)),(8,.int .i64 ((k1:Nat):Int))]) (λk1 y1=>[]++(y1.bl++[])) (λk1 y1=>y1.Is 3 1 (szR n k1)) ⟨.slice none 0 0,[]⟩ (Slc.Is.nil _ _) (all_cons kR (all_cons kR (all_cons kR (all_cons kR (all_cons kR all_nil))))) (λw hw=>hw) (λk1 y1 hk1 hh1=>?_)
 refine sC ?_
 obtain ⟨b1,hb1⟩:∃ z:Bool,z=decide (k1<NR):=⟨_,rfl⟩
 refine sS (.bool b1) (Quiet.pure (exec_int .lss _ _ _ .i64 _ _ _ rfl rfl rfl (int_lss _ _ _ _ _ (by rw [hb1]; exact decide_eq_decide.2 (by omega))))) ?_
 refine sG<|Sy.seq ?_
 cases b1
 ·have lb1:¬ (k1<NR):=of_decide_eq_false hb1.symm
  refine sU<|Sy.exit<|Sy.then_exit<|Sy.then_exit ?_
  obtain rfl:NR=k1:=by omega
  refine Sy.in_exit<|sB ?_
  refine sP (y1.v) ?_
  obtain ⟨b2,hb2⟩:∃ z:Bool,z=szB NR n:=⟨_,rfl⟩
  refine sS (.bool b2) (qG 69 #[y1.v] (λw hw=>by obtain ⟨A,c2,hv,_,_,hl⟩:=hh1.out; rw [szR_len] at hv hl; rw [hv,hb2]; exact allowed_any w A NR c2 n hNR (Lst_ext (hl hw (λb hb=>List.mem_append.2 (.inr (List.mem_append.2 (.inl hb))))) (λi hi=>szR_get hi))))<|sP (.bool b2) ?_
  cases b2
  ·refine sN<|sN<|sN ?_
   refine sP (.bool false)<|sP (.bool false) ?_
   refine sG<|Sy.ret ?_
   rw [show (.bool (rgtB NR n X Y I):Value)=.bool false from by unfold rgtB; rw [← hb2]; rfl]
   exact rV (.bool false) rfl
  ·refine sP (.slice R NR cR) ?_
   obtain ⟨b3,hb3⟩:∃ z:Bool,z=(List.range NR).any (badR n X Y I):=⟨_,rfl⟩
   refine sS (.bool b3) (Quiet.callS 102 #[.slice R NR cR,.func (.func 103) #[] #[]] kF (λw hw=>by rw [hb3]; exact cnr_any w R NR cR a n c X Y I hX hY hNR hn (hlr0.below hw.below) (λi hi=>(hlk i hi).below hw.below))) ?_
   cases b3
   ·refine sP (.bool true)<|sP (.bool true)<|sP (.bool true) ?_
    refine sG<|Sy.ret ?_
    rw [show (.bool (rgtB NR n X Y I):Value)=.bool true from by unfold rgtB; rw [← hb2, ← hb3]; rfl]
    exact rV (.bool true) rfl
   ·refine sP (.bool false)<|sP (.bool false)<|sP (.bool false) ?_
    refine sG<|Sy.ret ?_
    rw [show (.bool (rgtB NR n X Y I):Value)=.bool false from by unfold rgtB; rw [← hb2, ← hb3]; rfl]
    exact rV (.bool false) rfl
 ·have lb1:k1<NR:=of_decide_eq_true hb1.symm
  refine sT<|Sy.skip<|Sy.then_<|Sy.seq<|Sy.block<|sC ?_
  refine sS (.pointer (some ⟨gR,oR+k1*1,none⟩)) (Quiet.pure (exec_atO 25 _ _ _ R gR oR NR cR k1 1 .i64 (hR (by omega)).1 rfl rfl rfl Tryz.underlying25 kF (by omega)))<|sS (.slice (a k1) (n k1) (c k1)) (Quiet.thereOne gR (oR+k1*1) 45 _ _ rfl kR (hR (by omega)).2.1 _ (range_one ((hR (by omega)).2.2 k1 (by omega)) 0 rfl) Tryz.underlying45 rfl)<|sP (.slice (a k1) (n k1) (c k1)) ?_
  refine sG<|Sy.region ?_
  refine sP (y1.v)<|sP (.slice (a k1) (n k1) (c k1))<|sP (.int .i64 (((n k1):Nat):Int)) ?_
  refine Sy.make kR 3 #[.int .i64 (((n k1):Nat):Int)] (λg=>.slice (some ⟨g,0,none⟩) 1 1) kF (λg0=>?_)
  refine Sy.movT ?_
  refine Sy.appendR kR 57 3 _ _ 1 8 Tryz.underlying57 info_int rfl rfl rfl rfl (by decide) _ _ rfl hh1 kR [.int .i64 (((n k1):Nat):Int)] rfl (one_intG _) 0 g0 3 kR kR (by rw [szR_len]; omega) (by rw [szR_len]; simp only [maxLen]; omega) (λr1 hr1=>?_)
  refine sP (r1.v) ?_
  refine Sy.nil<|Sy.in_<|Sy.then_<|Sy.region ?_
  refine sS (.int .i64 ((k1+1:Nat):Int)) (Quiet.pure (exec_int .add _ _ _ .i64 _ _ _ rfl rfl rfl (int_add _ _ _ _ _ ((wrap_i64 (by omega) (by omega)).trans (by omega)))))<|sP (.int .i64 ((k1+1:Nat):Int)) ?_
  refine Sy.nil ?_
  exact Sy.againT r1 (by omega) (by rw [szR_succ]; exact hr1) (all_cons kR (all_cons kR (all_cons kR (all_cons kR (all_cons kR all_nil))))) (λw hw=>hw.pick [] (by decide) kR)
end Cu
end
section
namespace Cu
open Go.RowKit Sy
set_option maxRecDepth 100000
set_option maxHeartbeats 4000000
theorem rgt_small {NR:Nat} {nk:Nat→Nat} {X Y:Nat→Nat→Nat} {I:Nat→Nat→Bool} (h:true=rgtB NR nk X Y I):NR≤32∧(∀ i,i<NR→nk i≤64)∧(∀ i,i<NR→1≤nk i)∧1≤NR:=by
 unfold rgtB at h
 have q:=(szB_iff NR nk).1 (Bool.and_eq_true_iff.1 h.symm).1
 exact ⟨q.2.1,λi hi=>(q.2.2 i hi).2,λi hi=>(q.2.2 i hi).1,q.1⟩
theorem fit_parts {At:Nat→Int} {sx:Nat→Nat} {nk:Nat→Nat} {X Y:Nat→Nat→Nat} {I:Nat→Nat→Bool} {NS NR:Nat} (h:true=fitB At sx nk X Y I NS NR):NS=NR∧∀ i,i<NR→At i=(((At i).toNat:Nat):Int)∧(At i).toNat<nk i∧openB (sx i) (X i (At i).toNat) (Y i (At i).toNat) (I i (At i).toNat)=true:=by
 unfold fitB at h
 obtain ⟨h1,h2⟩:=Bool.and_eq_true_iff.1 h.symm
 refine ⟨of_decide_eq_true h1,λi hi=>?_⟩
 have q:=List.all_eq_true.1 h2 i (List.mem_range.2 hi)
 unfold fitI at q
 rw [Bool.and_eq_true,Bool.and_eq_true,decide_eq_true_iff,decide_eq_true_iff] at q
 exact ⟨by omega,by omega,q.2.2⟩
def vfB (m:List UInt8) (NR:Nat) (nk:Nat→Nat) (X Y:Nat→Nat→Nat) (I:Nat→Nat→Bool) (s:Nat→Nat→Nat) (d:List UInt8) (NW:Nat) (sn:Nat→Nat):Bool:=rgtB NR nk X Y I && chB s (rgM m NR nk X Y I) X Y I d NW NR sn nk
theorem ChR.tup {b:Bool} {f:Nat→Nat→List Value} {nk:Nat→Nat} {NR:Nat} {v:Value} {M:Blocks} (h:ChR b f nk NR v M):∃ u,v=.tuple #[u,.bool b]:=by
 rcases h with ⟨rfl,rfl,_⟩ | ⟨rfl,u,rfl,_⟩ <;> exact ⟨_,rfl⟩
def SgnR (br bf:Bool) (d:List UInt8) (f:Nat→Nat→List Value) (nk:Nat→Nat) (NR:Nat) (v:Value) (M:Blocks):Prop :=
 (br=false∧v=.tuple #[sgv33 (List.replicate 32 0) none 0 0,.int .i64 80]∧M=[])∨(br=true∧bf=false∧v=.tuple #[sgv33 (List.replicate 32 0) none 0 0,.int .i64 81]∧M=[])∨(br=true∧bf=true∧∃ u,v=.tuple #[u,.int .i64 0]∧SgGives d f nk NR u M)
theorem VerifyG_any (w:World) (A:Option Addr) (m:List UInt8) (n c:Nat) (hm:m.length=n) (hm9:n≤999000000) (hc:n≤c) (hc2:c≤9223372036854775807) (hs0:Sh.Src w A m) (R:Option Addr) (NR cR:Nat) (a:Nat→Option Addr) (nk ck:Nat→Nat) (X Y:Nat→Nat→Nat) (I:Nat→Nat→Bool) (hX:∀ i k,X i k<K4) (hY:∀ i k,Y i k<K4) (hNR:NR≤4611686018427387904) (hnk:∀ i,nk i≤4611686018427387904) (hlr:Lst w 1 R NR (λi=>[.slice (a i) (nk i) (ck i)])) (hlk:∀ i,i<NR→Lst w 9 (a i) (nk i) (λk=>pml (X i k) (Y i k) (I i k))) (hN9:NR≤17592186044416) (d:List UInt8) (hd:d.length=32) (W:Option Addr) (NW cW:Nat) (sa:Nat→Option Addr) (sn sc:Nat→Nat) (s:Nat→Nat→Nat) (hsc:∀ i k,s i k<K4) (hNW:NW≤4611686018427387904) (hsn9:∀ i,i<NW→sn i≤4611686018427387904) (hlw:Lst w 1 W NW (λi=>[.slice (sa i) (sn i) (sc i)])) (hls:∀ i,i<NW→Lst w 4 (sa i) (sn i) (λk=>fws (s i k))) (ht:Sh.TabAt w 1):Calls Tryz.prog 15 #[.slice A n c,.slice R NR cR,sgv33 d W NW cW] w (Gets w (.bool (vfB m NR nk X Y I s d NW sn))):=by
 have hlr0:=hlr
 obtain ⟨gR,oR,hR⟩:=hlr
 refine Sy.enter (args:=[.slice A n c,.slice R NR cR,sgv33 d W NW cW]) Tryz.func15 rfl kL ?_
 refine sC ?_
 refine sM 31 (sgc33 d W NW cW).toArray (λg0=>?_)
 refine sP (.bool false) ?_
 refine sG<|Sy.seq<|sC ?_
 refine sP (.slice R NR cR) ?_
 obtain ⟨b1,hb1⟩:∃ z:Bool,z=rgtB NR nk X Y I:=⟨_,rfl⟩
 refine sS (.bool b1) (qG 44 #[.slice R NR cR] (λw hw=>by rw [hb1]; exact rightG_any w R NR cR a nk ck X Y I hX hY hNR hnk (hlr0.below hw.below) (λi hi=>(hlk i hi).below hw.below) hN9)) ?_
 cases b1
 ·refine sP (.bool true) ?_
  refine sG<|sT<|sC ?_
  refine sP (.bool false) ?_
  refine sG<|Sy.ret<|Sy.then_ret ?_
  rw [show (.bool (vfB m NR nk X Y I s d NW sn):Value)=.bool false from by unfold vfB; rw [← hb1]; rfl]
  exact rV (.bool false) rfl
 ·obtain ⟨hN32,hn64,hn1,hN1⟩:=rgt_small hb1
  refine sP (.bool false) ?_
  refine sG<|sU<|Sy.skip ?_
  refine sR (λj=>false) ?_
  refine sZ 0 rfl (.slice A n c)<|sZ 1 rfl (.slice R NR cR) ?_
  obtain ⟨bM,hbM⟩:∃ l,l=rgM m NR nk X Y I:=⟨_,rfl⟩
  have hbl:bM.length=32:=by rw [hbM]; exact rgM_len _ _ _ _ _ _
  refine sD 2 rfl (bndv R NR cR bM) (qG 46 #[.slice A n c,.slice R NR cR] (λw hw=>by rw [hbM]; exact bind_any w R NR cR a nk ck X Y I hX hY hNR hnk (hlr0.below hw.below) (λi hi=>(hlk i hi).below hw.below) hN32 hn64 A m n c hm hm9 hc hc2 (hs0.below hw.below) (ht.below hw.below ht.lt)))<|sD 3 rfl (sgv33 d W NW cW) (Quiet.load 0 g0 0 33 31 31 (sgc33 d W NW cW).toArray _ _ rfl kR kR Tryz.underlying31 rfl kR _ (sg_whole hd) (sg_fit hd)) ?_
  obtain ⟨b2,hb2⟩:∃ z:Bool,z=chB s bM X Y I d NW NR sn nk:=⟨_,rfl⟩
  refine Sy.callND 4 rfl kR kR 48 #[bndv R NR cR bM,sgv33 d W NW cW] kF (ChR b2 (eF s bM X Y I d) nk NR) (λw hw=>by rw [hb2]; exact challengesG_any w R NR cR a nk ck X Y I hX hY hNR hnk (hlr0.below hw.below) (λi hi=>(hlk i hi).below hw.below) hN32 hn64 hn1 bM hbl d hd W NW cW sa sn sc s hsc hNW hsn9 (hlw.below hw.below) (λi hi=>(hls i hi).below hw.below) (ht.below hw.below ht.lt)) (λvq Mq hR0=>?_)
  obtain ⟨u,rfl⟩:=hR0.tup
  refine sZ 5 rfl (.tuple #[u,.bool b2])<|sZ 6 rfl (u)<|sZ 7 rfl (.bool b2)<|sZ 8 rfl (u)<|sZ 9 rfl (.bool b2) ?_
  refine sE ?_
  refine sB ?_
  refine sP (.bool b2)<|sP (.bool b2) ?_
  refine sG<|Sy.ret ?_
  rw [show (.bool (vfB m NR nk X Y I s d NW sn):Value)=.bool b2 from by unfold vfB; rw [← hb1, ← hbM, ← hb2]; rfl]
  exact rV (.bool b2) rfl
theorem SignG_any (w:World) (sd:List UInt8) (hsd:sd.length=32) (A:Option Addr) (m:List UInt8) (n c:Nat) (hm:m.length=n) (hm9:n≤999000000) (hc:n≤c) (hc2:c≤9223372036854775807) (hs0:Sh.Src w A m) (R:Option Addr) (NR cR:Nat) (a:Nat→Option Addr) (nk ck:Nat→Nat) (X Y:Nat→Nat→Nat) (I:Nat→Nat→Bool) (hX:∀ i k,X i k<K4) (hY:∀ i k,Y i k<K4) (hNR:NR≤4611686018427387904) (hnk:∀ i,nk i≤4611686018427387904) (hlr:Lst w 1 R NR (λi=>[.slice (a i) (nk i) (ck i)])) (hlk:∀ i,i<NR→Lst w 9 (a i) (nk i) (λk=>pml (X i k) (Y i k) (I i k))) (hN9:NR≤17592186044416) (S:Option Addr) (NS cS:Nat) (At:Nat→Int) (sx:Nat→Nat) (hsx:∀ i,sx i<K4) (hNS:NS≤4611686018427387904) (hls:Lst w 5 S NS (λi=>sec5 (At i) (sx i))) (ht:Sh.TabAt w 1):Calls Tryz.prog 13 #[.agg (sd.map bv).toArray,.slice A n c,.slice R NR cR,.slice S NS cS] w (GetsN w (SgnR (rgtB NR nk X Y I) (fitB At sx nk X Y I NS NR) (sgD (rgM m NR nk X Y I) sd X Y I (λi=>(At i).toNat) nk NR) (sgF (rgM m NR nk X Y I) sd X Y I (λi=>(At i).toNat) sx (sgD (rgM m NR nk X Y I) sd X Y I (λi=>(At i).toNat) nk NR)) nk NR)):=by
 have hls0:=hls
 obtain ⟨gS,oS,hS⟩:=hls
 have hlr0:=hlr
 obtain ⟨gR,oR,hR⟩:=hlr
 refine Sy.enter (args:=[.agg (sd.map bv).toArray,.slice A n c,.slice R NR cR,.slice S NS cS]) Tryz.func13 rfl kL ?_
 refine sC ?_
 refine sM 23 (sd.map bv).toArray (λg0=>?_)
 refine sM 31 (sgc33 (List.replicate 32 (0:UInt8)) none 0 0).toArray (λg1=>?_)
 refine sP (.int .i64 0) ?_
 refine sG<|Sy.seq<|sC ?_
 refine sP (.slice R NR cR) ?_
 obtain ⟨b1,hb1⟩:∃ z:Bool,z=rgtB NR nk X Y I:=⟨_,rfl⟩
 refine sS (.bool b1) (qG 44 #[.slice R NR cR] (λw hw=>by rw [hb1]; exact rightG_any w R NR cR a nk ck X Y I hX hY hNR hnk (hlr0.below hw.below) (λi hi=>(hlk i hi).below hw.below) hN9)) ?_
 cases b1
 ·refine sP (.bool true) ?_
  refine sG<|sT<|sC ?_
  refine sP (sgv33 (List.replicate 32 (0:UInt8)) none 0 0)<|sW 1 g1 31 (sgc33 (List.replicate 32 (0:UInt8)) none 0 0).toArray (sgc33 (List.replicate 32 (0:UInt8)) none 0 0).toArray (Writes.row 31 (sgc33 (List.replicate 32 (0:UInt8)) none 0 0) 33 _ _ rfl kR kR kR (sg_len List.length_replicate) (by rw [List.size_toArray,sg_len List.length_replicate]) sg_one)<|sP (.int .i64 80) ?_
  refine sG<|Sy.ret<|Sy.then_ret ?_
  exact retGM2 [] rfl (v:=sgv33 (List.replicate 32 (0:UInt8)) none 0 0) (u:=.int .i64 80) (.inl (Res.cell (ty':=31) g1 1 (sgc33 (List.replicate 32 (0:UInt8)) none 0 0).toArray _ kR kR Tryz.underlying31 rfl (by rw [List.size_toArray,sg_len List.length_replicate]; kernel_rfl) rfl)) (.inl (show _=_ by kernel_rfl)) (λ_ hw=>hw.none) (.inl ⟨hb1.symm,rfl,rfl⟩)
 ·obtain ⟨hN32,hn64,hn1,hN1⟩:=rgt_small hb1
  refine sP (.bool false) ?_
  refine sG<|sU<|Sy.skip<|Sy.then_<|Sy.seq<|sC ?_
  refine sP (.slice S NS cS)<|sP (.slice R NR cR) ?_
  obtain ⟨b2,hb2⟩:∃ z:Bool,z=fitB At sx nk X Y I NS NR:=⟨_,rfl⟩
  refine sS (.bool b2) (qG 45 #[.slice S NS cS,.slice R NR cR] (λw hw=>by rw [hb2]; exact fit_any w S NS cS At sx hsx hNS (hls0.below hw.below) R NR cR a nk ck X Y I hX hY hNR hnk (hlr0.below hw.below) (λi hi=>(hlk i hi).below hw.below))) ?_
  cases b2
  ·refine sP (.bool true) ?_
   refine sG<|sT<|sC ?_
   refine sP (sgv33 (List.replicate 32 (0:UInt8)) none 0 0)<|sW 1 g1 31 (sgc33 (List.replicate 32 (0:UInt8)) none 0 0).toArray (sgc33 (List.replicate 32 (0:UInt8)) none 0 0).toArray (Writes.row 31 (sgc33 (List.replicate 32 (0:UInt8)) none 0 0) 33 _ _ rfl kR kR kR (sg_len List.length_replicate) (by rw [List.size_toArray,sg_len List.length_replicate]) sg_one)<|sP (.int .i64 81) ?_
   refine sG<|Sy.ret<|Sy.then_ret ?_
   exact retGM2 [] rfl (v:=sgv33 (List.replicate 32 (0:UInt8)) none 0 0) (u:=.int .i64 81) (.inl (Res.cell (ty':=31) g1 1 (sgc33 (List.replicate 32 (0:UInt8)) none 0 0).toArray _ kR kR Tryz.underlying31 rfl (by rw [List.size_toArray,sg_len List.length_replicate]; kernel_rfl) rfl)) (.inl (show _=_ by kernel_rfl)) (λ_ hw=>hw.none) (.inr (.inl ⟨hb1.symm,hb2.symm,rfl,rfl⟩))
  ·obtain ⟨hNE,hfp⟩:=fit_parts hb2
   obtain rfl:NR=NS:=hNE.symm
   refine sP (.bool false) ?_
   refine sG<|sU<|Sy.skip ?_
   refine sR (λj=>j == 6) ?_
   refine sZ 0 rfl (.slice A n c)<|sZ 1 rfl (.slice R NR cR) ?_
   obtain ⟨bM,hbM⟩:∃ l,l=rgM m NR nk X Y I:=⟨_,rfl⟩
   have hbl:bM.length=32:=by rw [hbM]; exact rgM_len _ _ _ _ _ _
   refine sD 2 rfl (bndv R NR cR bM) (qG 46 #[.slice A n c,.slice R NR cR] (λw hw=>by rw [hbM]; exact bind_any w R NR cR a nk ck X Y I hX hY hNR hnk (hlr0.below hw.below) (λi hi=>(hlk i hi).below hw.below) hN32 hn64 A m n c hm hm9 hc hc2 (hs0.below hw.below) (ht.below hw.below ht.lt)))<|sD 3 rfl (.agg (sd.map bv).toArray) (Quiet.load 0 g0 0 32 23 23 (sd.map bv).toArray _ _ rfl kR kR Tryz.underlying23 rfl kR _ (key_whole sd hsd) (key_size sd hsd))<|sZ 4 rfl (.slice S NR cS) ?_
   obtain ⟨d0,hd0⟩:∃ l,l=(sgD bM sd X Y I (λi=>(At i).toNat) nk NR):=⟨_,rfl⟩
   have hdl:d0.length=32:=by rw [hd0]; exact sgD_len _
   refine Sy.callND 5 rfl kR kR 47 #[bndv R NR cR bM,.agg (sd.map bv).toArray,.slice S NR cS] kF (SgGives d0 (sgF bM sd X Y I (λi=>(At i).toNat) sx d0) nk NR) (λw hw=>by rw [hd0]; exact signG_any w R NR cR a nk ck X Y I hX hY hNR hnk (hlr0.below hw.below) (λi hi=>(hlk i hi).below hw.below) hN32 hn64 hn1 bM hbl sd hsd S cS (λi=>(At i).toNat) sx hsx (Lst_ext (hls0.below hw.below) (λi hi=>by rw [← (hfp i hi).1])) (λi hi=>(hfp i hi).2.1) (ht.below hw.below ht.lt)) (λvq Mq hR0=>?_)
   obtain ⟨gF,r0,rfl,rfl,hr0⟩:=hR0
   refine Sy.permD (M:=[(g0,23,(sd.map bv).toArray),(g1,31,(sgc33 (List.replicate 32 (0:UInt8)) none 0 0).toArray),(gF,51,(rowsC r0 NR))]++(rowsB r0 NR++[])) (by rw [List.append_nil]; exact List.Perm.refl _) ?_
   refine sX 6 rfl 1 g1 31 (sgc33 (List.replicate 32 (0:UInt8)) none 0 0).toArray (sgc33 d0 (some ⟨gF,0,none⟩) NR NR).toArray (Writes.row 31 (sgc33 d0 (some ⟨gF,0,none⟩) NR NR) 33 _ _ rfl kR kR kR (sg_len hdl) (by rw [List.size_toArray,sg_len List.length_replicate]) sg_one) ?_
   refine Sy.setTD ?_
   refine Sy.anyOf [7] kR (by decide) (Sy.each1 ?_)
   refine Sy.oneQuiet rfl kR (.int .i64 0) qP ?_
   refine sI ?_
   refine Sy.ret ?_
   exact retGM2 ((gF,51,rowsC r0 NR)::rowsB r0 NR) rfl (v:=sgv33 d0 (some ⟨gF,0,none⟩) NR NR) (u:=.int .i64 0) (.inl (Res.cell (ty':=31) g1 1 (sgc33 d0 (some ⟨gF,0,none⟩) NR NR).toArray _ kR kR Tryz.underlying31 rfl (by rw [List.size_toArray,sg_len hdl]; kernel_rfl) rfl)) (.inl (show _=_ by kernel_rfl)) (λw hw=>by simpa using St.pick (pre:=[(g0,23,(sd.map bv).toArray),(g1,31,(sgc33 d0 (some ⟨gF,0,none⟩) NR NR).toArray),(gF,51,(rowsC r0 NR))]) (M:=[(gF,51,rowsC r0 NR)]) [2] (by decide) kR hw) (.inr (.inr ⟨hb1.symm,hb2.symm,_,rfl,gF,r0,by rw [hd0,hbM],rfl,by rw [hd0,hbM] at hr0; exact hr0⟩))
end Cu
end
section
namespace Cu
open Go.RowKit Sy
set_option maxRecDepth 100000
set_option maxHeartbeats 4000000
end Cu
end
section
namespace Cu
open Go.RowKit Sy
set_option maxRecDepth 100000
set_option maxHeartbeats 4000000
section
variable {NR:Nat} {nk:Nat→Nat} {X Y:Nat→Nat→Nat} {I:Nat→Nat→Bool}
theorem rgt_yes (h1:¬ NR<1) (h2:¬ NR>32) (h3:∀ k,k<NR→(1≤nk k∧nk k≤64)∧∀ j,j<nk k→rightB (X k j) (Y k j) (I k j)=true):rgtB NR nk X Y I=true:=by
 unfold rgtB
 have hs:szB NR nk=true:=(szB_iff NR nk).2 ⟨by omega,by omega,λj hj=>(h3 j hj).1⟩
 have:(List.range NR).any (badR nk X Y I)=false:=by
  rw [List.any_eq_false]
  intro k hk
  rw [Bool.not_eq_true]
  unfold badR
  rw [List.any_eq_false]
  intro j hj
  unfold badK
  rw [(h3 k (List.mem_range.1 hk)).2 j (List.mem_range.1 hj)]
  decide
 rw [hs,this]
 rfl
end
def bytesR (l:List UInt8):List (List Value):=l.map λb=>[bv b]
theorem bytesR_len (l:List UInt8):(bytesR l).length=l.length:=List.length_map ..
theorem bytesR_flat:∀ l:List UInt8,(bytesR l).flatten=l.map bv
 | []=>rfl
 | b::l=>by
  show [bv b]++(bytesR l).flatten=_
  rw [bytesR_flat l]
  rfl
theorem bytesR_one (l:List UInt8):∀ y∈bytesR l,y.length=1:=λy hy=>by obtain ⟨b,_,rfl⟩:=List.mem_map.1 hy; rfl
theorem bytesR_cell (l:List UInt8):∀ y∈bytesR l, ∀ u∈y,u.oneCell'=true:=λy hy u hu=>by
 obtain ⟨b,_,rfl⟩:=List.mem_map.1 hy
 rw [List.mem_singleton.1 hu]
 rfl
theorem bytesR_add (a b:List UInt8):bytesR (a++b)=bytesR a++bytesR b:=List.map_append
theorem From.src {w0:Base} {L:Blocks} {A:Option Addr} {l:List UInt8} (hs:Sh.Src w0.world A l):From w0 L A (bytesR l).flatten:=λw hw=>by
 rw [bytesR_flat]
 by_cases h0:l=[]
 ·subst h0; exact .inl rfl
 ·obtain ⟨b,o,rfl,h2,h3⟩:=hs h0
  refine .inr ⟨_,rfl,λj u hj=>?_⟩
  rw [addr_off]
  rw [List.getElem?_map] at hj
  cases hx:l[j]? with
  | none=>rw [hx] at hj; cases hj
  | some x =>
   rw [hx] at hj
   injection hj with hj
   rw [← hj]
   exact (hw.below.cell (p:=⟨b,o+j,none⟩) h2).trans (h3 j x hx)
theorem From.arr {w0:Base} {L:Blocks} {i g:Nat} {t:TypeId} {l:List UInt8} (hL:L[i]? = some (g,t,(l.map bv).toArray)):From w0 L (some ⟨g,0,none⟩) (bytesR l).flatten:=by
 rw [bytesR_flat]
 refine From.blk hL ?_
 show ((l.map bv).drop 0).take _=_
 rw [List.drop_zero,List.take_of_length_le (Nat.le_refl _)]
theorem bytesR_start {g:Nat} {e:TypeId}:Slc.Is ⟨.slice (some ⟨g,0,none⟩) 0 0,[(g,e,#[])]⟩ e 1 (bytesR []):=Slc.Is.mk' (cs:=[]) (by simp [bytesR]) (by simp [bytesR]) rfl rfl rfl (Nat.le_refl _) (Nat.zero_le _)
theorem src_row {w:World} {A:Option Addr} {n:Nat} {l:List UInt8} (hn:l.length=n) (h:Lst w 1 A n (λi=>(bytesR l).getD i [])):Sh.Src w A l:=λhne=>by
 obtain ⟨g,o,q⟩:=h
 obtain ⟨q1,q2,q3⟩:=q (by rw [← hn]; exact List.length_pos_iff.2 hne)
 refine ⟨g,o,q1,q2,λj u hj=>?_⟩
 have hl:=(List.getElem?_eq_some_iff.1 hj).1
 have q4:w.rangeAt g (o+j*1) ((bytesR l).getD j []):=q3 j (by omega)
 rw [List.getD_eq_getElem?_getD,show (bytesR l)[j]? = some [bv u] from by unfold bytesR; rw [List.getElem?_map,hj]; rfl] at q4
 have q5:=range_one q4 0 rfl
 rwa [Nat.mul_one,Nat.add_zero] at q5
theorem row_tx {e:TypeId} {y:Slc} {l:List UInt8} (h:y.Is e 1 (bytesR l)):∃ A c,y.v=.slice A l.length c∧l.length≤c∧c≤maxLen∧∀ {w0:Base} {w:World} {L:Blocks},St w0 w L→(∀ b∈y.bl,b∈L)→Sh.Src w A l:=by
 obtain ⟨A,c,h1,h2,h3,h4⟩:=h.out
 rw [bytesR_len] at h1 h2 h4
 exact ⟨A,c,h1,h2,h3,λhw hb=>src_row rfl (h4 hw hb)⟩
noncomputable def infB9:TypeInfo:=(Tryz.prog.info? 5).getD default
theorem info_b8:Tryz.prog.info? 5=some infB9:=by kernel_rfl
end Cu
end
section
namespace Cu
open Go.RowKit Sy
section
variable {l:List UInt8} {j:Nat} {xt:Sh.Tx} {xb:Blocks} {w0:Base} {w:World} {L:Blocks}
end
end Cu
end
section
namespace Cu
open Go.RowKit Sy
section
variable (s v:Nat→Nat→Nat) (sn vn:Nat→Nat)
end
section
variable {s v:Nat→Nat→Nat} {sn vn:Nat→Nat} {d d2:List UInt8} {NW NV:Nat}
end
end Cu
end
section
namespace Sy
open Go.RowKit
section
variable {L M:Blocks} {w0:Base} {w:World}
theorem flat_perm {ls ms:List Blocks} (is:List Nat) (hi:is.isPerm (List.range ls.length)=true) (hm:is.map (λi=>ls[i]?)=ms.map some) (hL:L=ls.flatten) (hM:M=ms.flatten):L.Perm M:=by
 rw [hL,hM]
 exact (perm_at is hi hm).flatten
theorem St.parts {ls ms:List Blocks} (os:List Blocks) (is:List Nat) (hi:is.isPerm (List.range ls.length)=true) (hm:is.map (λi=>ls[i]?)=(ms++os).map some) (hL:L=ls.flatten) (hM:M=ms.flatten) (hw:St w0 w L):St w0 w M:=by
 have h1:L.Perm (M++os.flatten):=by
  rw [hL,hM, ← List.flatten_append]
  exact (perm_at is hi hm).flatten
 exact (hw.perm h1).less (List.sublist_append_left _ _)
end
section
variable {f:Nat→List Value} {s m k o:Nat} {sp:List Value}
theorem flat_load_sp (h:∀ j,(f j).length=s) (hk:k<m) (ho:o=0+k*s):Value.agg (((flat f m++sp).toArray.toList.drop o).take s).toArray=.agg (f k).toArray:=by
 show Value.agg (((flat f m++sp).drop o).take s).toArray=_
 rw [show o=k*s by omega,flat_split hk,List.append_assoc,List.drop_append_of_le_length (by rw [flat_len h]; exact Nat.le_refl _),List.drop_of_length_le (by rw [flat_len h]; exact Nat.le_refl _),List.nil_append,List.append_assoc,List.take_left' (h k)]
end
section
variable {r:Nat→Slc} {n i:Nat} {pre M R D E:Blocks} {b:Nat×TypeId×Array Value} {v:Value} {w0:Base} {w:World}
theorem end_front:((pre++R)++D).Perm (pre++(D++R)):=by
 rw [List.append_assoc]
 exact List.perm_append_comm.append_left pre
theorem St.row_in (hi:i<n) (h:r i=nilS) (hw:St w0 w (M++([b]++(rowsB r n++R)))):St w0 w (M++(rowsB (putR r i ⟨v,[b]⟩) n++R)):=by
 refine hw.perm (List.Perm.append_left M ?_)
 have h1:=rows_perm r hi
 rw [h] at h1
 have h2:(rowsB r n).Perm (rowsX r n i):=h1
 have h3:=rows_back (r:=r) (x:=⟨v,[b]⟩) hi
 rw [← List.append_assoc]
 exact (((h2.append_left [b]).trans h3)).append_right R
end
end Sy
end
section
namespace Cu
open Go.RowKit Sy
def sgx (d:List UInt8) (u:Value):List Value:=d.map bv++[u]
section
variable {d z:List UInt8} {u x:Value}
theorem sgx_len (h:d.length=32):(sgx d u).length=33:=by simp [sgx,h]
theorem sgx_at (h:d.length=32):(sgx d u).toArray[32]? = some u:=by
 rw [List.getElem?_toArray]
 unfold sgx
 rw [List.getElem?_append_right (by rw [List.length_map,h]; exact Nat.le_refl _),List.length_map,h]
 rfl
theorem sgx_set (h:d.length=32):(sgx d u).toArray.setIfInBounds 32 x=(sgx d x).toArray:=by
 rw [List.setIfInBounds_toArray]
 unfold sgx
 rw [List.set_append_right _ _ (by rw [List.length_map,h]; exact Nat.le_refl _),List.length_map,h]
 rfl
theorem sgx_lt (h:d.length=32):32<(sgx d u).toArray.size:=by rw [List.size_toArray,sgx_len h]; decide
end
theorem RowsAre.full {r:Nat→Slc} {e:TypeId} {sz k:Nat} {f:Nat→Nat→List Value} {n:Nat→Nat} {x:Slc} (h:RowsAre r e sz f (cntR n k 0)) (hx:x.Is e sz ((List.range (n k)).map (f k))):RowsAre (putR r k x) e sz f (cntR n (k+1) 0):=λi=>by
 rw [cntR_next]
 by_cases hi:i=k
 ·subst hi
  rw [putR_self,cntR_at]
  exact hx
 ·rw [putR_ne hi]
  have q:=h i
  have e:cntR n k (n k) i=cntR n k 0 i:=by unfold cntR; simp [hi]
  rw [e]
  exact q
def SgGives8 (d:List UInt8) (f:Nat→Nat→List Value) (nk:Nat→Nat) (NR:Nat) (v:Value) (M:Blocks):Prop:=∃ g cap sp r,v=sgv33 d (some ⟨g,0,none⟩) NR cap∧NR≤cap∧M=(g,51,(flat (λj=>[(r j).v]) NR++sp).toArray)::rowsB r NR∧RowsAre r 42 4 f (cntR nk NR 0)
theorem map_putR {r:Nat→Slc} {k:Nat} {x:Slc}:(List.range k).map (λi=>[(putR r k x i).v])=(List.range k).map λi=>[(r i).v] :=
 List.map_congr_left λi hi=>by rw [putR_ne (by have:=List.mem_range.1 hi; omega)]
end Cu
end
section
namespace Cu
open Go.RowKit Sy
theorem rPt_ring (k e x:Nat) {px py:Nat} {pi:Bool} (hd:dec px py pi=evP x):rPt (Sc.subP k (Sc.mulP e x)) e px py pi=evP k:=by
 have oB:Ec.On bP:=bP_on
 have oX:Ec.On (evP x):=evP_on x
 unfold rPt
 rw [hd,nm_p oB,nm_p oX]
 have e1:Ec.nm finv (Sc.subP k (Sc.mulP e x)) bP=Ec.add finv (Ec.nm finv k bP) (Ec.neg (Ec.nm finv e (evP x))):=by
  unfold Sc.subP
  rw [nm_p oB,Ec.nm_add fld oB]
  have e2:Ec.nm finv (Sc.pM - Sc.mulP e x%Sc.pM) bP=Ec.nm finv (Sc.negP (Sc.mulP e x)%Sc.pM) bP:=by
   unfold Sc.negP
   rw [nm_p oB,nm_p oB]
  rw [e2,nm_negP oB,nm_p oB]
  unfold Sc.mulP evP
  rw [nm_p oB,Ec.nm_mul fld oB,nm_p oB]
 rw [e1]
 have o1:=oX.nm fld e
 rw [Ec.assoc fld (oB.nm fld k) o1.neg o1,Ec.neg_add,Ec.add_zero]
 unfold evP
 rw [nm_p oB]
theorem open_dec {x px py:Nat} {pi:Bool} (h:openB x px py pi=true):dec px py pi=evP x:=by
 unfold openB sameB at h
 rw [Bool.and_eq_true,Bool.and_eq_true,decide_eq_true_iff,decide_eq_true_iff,beq_iff_eq] at h
 rw [← h.1, ← h.2.1, ← h.2.2]
 exact dec_parts (evP_on x)
section
variable {s s':Nat→Nat} {bm x:List UInt8} {i:Nat} {X Y:Nat→Nat} {I:Nat→Bool}
theorem alX_congr {f:Nat}:∀ k,(∀ j,j<k→s (f+j)=s' (f+j))→alX s bm i f X Y I x k=alX s' bm i f X Y I x k
 | 0,_=>rfl
 | k+1,h=>by
  show encS (rPt (s (f+k)) (rgC bm (alX s bm i f X Y I x k) i (f+k)) (X (f+k)) (Y (f+k)) (I (f+k)))=encS (rPt (s' (f+k)) (rgC bm (alX s' bm i f X Y I x k) i (f+k)) (X (f+k)) (Y (f+k)) (I (f+k)))
  rw [alX_congr k (λj hj=>h j (by omega)),h k (Nat.lt_succ_self k)]
theorem alX_add (f:Nat):∀ k,alX s bm i 0 X Y I x (f+k)=alX s bm i f X Y I (alX s bm i 0 X Y I x f) k
 | 0=>rfl
 | k+1=>by
  rw [← Nat.add_assoc,alX0_succ,alX_add f k]
  rfl
end
section
variable {bm sd:List UInt8} {X Y:Nat→Nat→Nat} {I:Nat→Nat→Bool} {at_ nk sx:Nat→Nat} {d:List UInt8}
theorem sgS_ne {i j:Nat} (h:j≠at_ i):sgS bm sd X Y I at_ sx d i j=rgF bm sd i j:=if_neg h
theorem sgS_at (i:Nat):sgS bm sd X Y I at_ sx d i (at_ i)=Sc.subP (rgN bm sd i) (Sc.mulP (sgE bm sd X Y I at_ d i) (sx i)):=if_pos rfl
theorem sgS_mod (i j:Nat):sgS bm sd X Y I at_ sx d i j%Sc.pM=sgS bm sd X Y I at_ sx d i j:=by
 unfold sgS
 split
 ·exact Nat.mod_mod _ _
 ·exact Nat.mod_mod _ _
theorem sg_ahead (i:Nat):alX (sgS bm sd X Y I at_ sx d i) bm i 0 (X i) (Y i) (I i) d (at_ i)=alX (rgF bm sd i) bm i 0 (X i) (Y i) (I i) d (at_ i) :=
 alX_congr _ λj hj=>sgS_ne (by omega)
theorem sg_behind {i:Nat} (h:openB (sx i) (X i (at_ i)) (Y i (at_ i)) (I i (at_ i))=true):alX (sgS bm sd X Y I at_ sx d i) bm i 0 (X i) (Y i) (I i) d (at_ i+1)=sgX bm sd i:=by
 rw [alX0_succ,sg_ahead,sgS_at]
 show encS (rPt (Sc.subP (rgN bm sd i) (Sc.mulP (sgE bm sd X Y I at_ d i) (sx i))) (sgE bm sd X Y I at_ d i) _ _ _)=encS _
 rw [rPt_ring _ _ _ (open_dec h)]
theorem sg_round {i:Nat} (ha:at_ i<nk i) (h:openB (sx i) (X i (at_ i)) (Y i (at_ i)) (I i (at_ i))=true):alX (sgS bm sd X Y I at_ sx d i) bm i 0 (X i) (Y i) (I i) d (nk i)=sgL bm sd X Y I at_ nk i:=by
 have e:nk i=at_ i+1+(nk i - (at_ i+1)):=by omega
 rw [e,alX_add,sg_behind h]
 unfold sgL
 exact alX_congr _ λj hj=>sgS_ne (by omega)
theorem sg_ends:∀ k,(∀ i,i<k→at_ i<nk i∧openB (sx i) (X i (at_ i)) (Y i (at_ i)) (I i (at_ i))=true)→endsT (sgS bm sd X Y I at_ sx d) bm X Y I d nk k=sgEnds bm sd X Y I at_ nk k
 | 0,_=>rfl
 | k+1,h=>by
  show endsT _ bm X Y I d nk k++alX _ bm k 0 _ _ _ d (nk k)=sgEnds bm sd X Y I at_ nk k++sgL bm sd X Y I at_ nk k
  rw [sg_ends k (λi hi=>h i (by omega)),sg_round (h k (Nat.lt_succ_self k)).1 (h k (Nat.lt_succ_self k)).2]
theorem chB_sign {NR:Nat} {sn:Nat→Nat} (hs:∀ i,i<NR→sn i=nk i) (h:∀ i,i<NR→at_ i<nk i∧openB (sx i) (X i (at_ i)) (Y i (at_ i)) (I i (at_ i))=true):chB (sgS bm sd X Y I at_ sx (sgD bm sd X Y I at_ nk NR)) bm X Y I (sgD bm sd X Y I at_ nk NR) NR NR sn nk=true :=
 chB_yes rfl (λi hi=>rowOk_yes (hs i hi) λj _=>sgS_mod i j) (by rw [sg_ends NR h]; rfl)
end
end Cu
end
section
namespace Cu
open Go.RowKit Sy
theorem one_lst {w:World} {g s:Nat} {t:TypeId} {cs:Array Value} {f:Nat→List Value} (hb:Blk w g t cs) (hf:cs.toList=f 0):Lst w s (some ⟨g,0,none⟩) 1 f:=⟨g,0,λ_=>⟨rfl,hb.lt,λj hj=>by
 obtain rfl:j=0:=by omega
 rw [Nat.zero_mul]
 refine blk_range hb ?_
 rw [List.drop_zero,hf,List.take_of_length_le (Nat.le_refl _)]⟩⟩
end Cu
end
section
namespace Cu
open Go.RowKit Sy
def slA:Value→Option Addr
 | .slice A _ _=>A
 | _=>none
def slC:Value→Nat
 | .slice _ _ c=>c
 | _=>0
section
variable {w0:Base} {br bf:Bool} {d:List UInt8} {s:Nat→Nat→Nat} {nk:Nat→Nat} {NR:Nat} {v:Value} {M:Blocks}
def uD (br bf:Bool) (d:List UInt8):List UInt8:=if br && bf then d else List.replicate 32 0
def uN (br bf:Bool) (N:Nat):Nat:=if br && bf then N else 0
def uE (br bf:Bool):Int:=if br then (if bf then 0 else 81) else 80
theorem uD_len (h:d.length=32):(uD br bf d).length=32:=by unfold uD; split; exact h; exact List.length_replicate
theorem uN_le:uN br bf NR≤NR:=by unfold uN; split; exact Nat.le_refl _; exact Nat.zero_le _
end
def csl (sd:List UInt8) (us:List Value):List Value:=sd.map bv++us
def csv (sd:List UInt8) (us:List Value):Value:=.agg (csl sd us).toArray
section
variable {sd:List UInt8} {us:List Value}
theorem cs_at (h:sd.length=32) (k:Nat):(csl sd us).toArray[32+k]? = us[k]?:=by
 rw [List.getElem?_toArray]
 unfold csl
 rw [List.getElem?_append_right (by rw [List.length_map,h]; exact Nat.le_add_right _ _),List.length_map,h,Nat.add_sub_cancel_left]
theorem cs_first (h:sd.length=32):Value.agg (((csl sd us).toArray.toList.drop 0).take 32).toArray=.agg (sd.map bv).toArray:=by
 show Value.agg (((csl sd us).drop 0).take 32).toArray=_
 rw [List.drop_zero]
 unfold csl
 rw [List.take_left' (by rw [List.length_map,h])]
theorem cs_fits (h:sd.length=32):0+32≤(csl sd us).toArray.size:=by rw [List.size_toArray]; unfold csl; rw [List.length_append,List.length_map,h]; omega
end
end Cu
end
section
namespace Cu
open Go.ChangeShapes Go.WideShapes Go.ChangeAt Go.RowKit Sy Go.Deep
theorem bulk_mem {H:Type}:∀ {l:List (DataW H)} {d:DataW H},d∈l→Rows.uptoBulk d≤Rows.uptoBulkAll l
 | [],_,h=>by cases h
 | d'::r,d,h=>by
  simp only [Rows.uptoBulkAll]
  cases List.mem_cons.1 h with
  | inl e=>subst e; omega
  | inr h=>have:=bulk_mem h; omega
theorem open_listD {α:Type} [Inhabited α] (cells:α→List Value) (ok:α→Prop) (sz:α→Nat) (s:Nat) (hs:0<s) (hc:∀ x,(cells x).length=s) (h0:ok default) (h1:sz default=0) {H:Type} {enc:TypeId×Value→H} {P:Program} {W:World} {t e:TypeId} {fuel:Nat} {cs:List Value} {x:DataW H×List MemPlace}
  (ht:P.underlying t=some (.slice e)) (hce:P.cellsOf e=s) (hel:∀ (fuel:Nat) (cs:List Value) (x:DataW H×List MemPlace),cs.length=s→DataW.trod enc P W 0 (λ_=>true) true fuel e cs=some x→∃ y,ok y∧cs=cells y∧sz y≤Rows.uptoBulk x.1)
  (hf:DataW.trod enc P W 0 (λ_=>true) true fuel t cs=some x) :
  ∃ (A:Option Addr) (m c:Nat) (T:Nat→α),cs=[.slice A m c]∧m≤c∧c≤9223372036854775807∧(∀ j,ok (T j))∧(∀ j,sz (T j)≤Rows.uptoBulk x.1)∧Lst W s A m (λj=>cells (T j))∧m≤Rows.uptoBulk x.1:=by
 rcases open_slice ht hf with ⟨hcs,hx⟩ | ⟨a,len,cap,m,n,D,Pl,hcs,_,hl,hm,hme,hx,hall⟩
 ·exact ⟨none,0,0,λ_=>default,hcs,Nat.le_refl _,by omega,λ_=>h0,λ_=>by rw [h1]; exact Nat.zero_le _,lst_of λhn=>absurd hn (Nat.lt_irrefl _),Nat.zero_le _⟩
 ·simp only [if_true] at hme
  subst hme
  rw [hce] at hall
  have hb:∀ i,i<len→Rows.uptoBulk (D i)≤Rows.uptoBulk x.1:=λi hi=>by
   subst hx
   have:=bulk_mem (l:=(List.range len).map D) (d:=D i) (List.mem_map.2 ⟨i,List.mem_range.2 hi,rfl⟩)
   simp only [Rows.uptoBulk]
   omega
  obtain ⟨X,hX0,hX⟩:=choose_ltL (α:=α) (n:=len) (p:=λi y=>(ok y∧sz y≤Rows.uptoBulk x.1)∧W.cells? 0 (a.add (i*s)) s=some (cells y)) (λi hi=>by
   obtain ⟨cs',h1,h2⟩:=hall i (by omega)
   obtain ⟨y,hy,rfl,hz⟩:=hel _ _ _ (cells_lenL h1) h2
   exact ⟨y,⟨hy,Nat.le_trans hz (hb i hi)⟩,h1⟩) (λy=>ok y∧sz y≤Rows.uptoBulk x.1) ⟨h0,by rw [h1]; exact Nat.zero_le _⟩ (λ_ _ hp=>hp.1)
  refine ⟨some a,len,m,X,hcs,hl,by simpa [maxLen] using hm,λj=>(hX0 j).1,λj=>(hX0 j).2,lst_of λhpos=>?_,?_⟩
  ·obtain ⟨_,hc0⟩:=hX 0 hpos
   obtain ⟨v0,hv0⟩:∃ v0,(cells (X 0))[0]? = some v0:=⟨(cells (X 0))[0]'(by rw [hc]; exact hs),List.getElem?_eq_getElem _⟩
   have hcell:W.cell? a=some v0:=by
    have:=cells_eachL hc0 0 v0 hv0
    simpa [Addr.add] using this
   obtain ⟨b,o,rfl,hlt⟩:=cell_spotL hcell
   refine ⟨b,o,rfl,hlt,λj hj i v hi=>?_⟩
   have:=cells_eachL (hX j hj).2 i v hi
   rwa [add_midL,add_midL] at this
  ·subst hx
   have:=bulk_len ((List.range len).map D)
   simp only [Rows.uptoBulk]
   simp only [List.length_map,List.length_range] at this
   omega
end Cu
end
section
namespace Cu
open Go.ChangeShapes Go.WideShapes Go.ChangeAt Go.RowKit Sy Go.Deep
end Cu
end
end Go.Proofs.YtmennpefjofhjaaGreatDoor
