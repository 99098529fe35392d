/-
  Texts of ours.
-/
import Derived.Test.YtgemfpnlnipfnabGreatDoorBV5
set_option linter.unusedVariables false
set_option linter.unusedSimpArgs false
set_option maxRecDepth 100000
set_option maxHeartbeats 80000000
namespace Go.Proofs.YtgemfpnlnipfnabGreatDoor
section
namespace Sc
open Go.RowKit Go.Lib
theorem Ke (w:World) (l:AF) (hl:l.length=32):Calls Tryz.prog 128 #[.agg (l.map bv).toArray] w λe w'=>e=.returned (fv (A2 l))∧Below w.heap.size w w':=by
 have HL:=Lib.hid hl
 clear hl
 go_enter Tryz.func128,Tryz.ntmps128
 go_wp2_with ((with_reducible refine AD (d:=some 6) ?_); refine Az U _ _ U w.heap.size U _ _ _ (((Blk.new w _ _).alloc _).alloc _) Il U (C0 HL.out) ?_)
 go_loopw [7] (λi wr=>∃ k y0 y1 y2 y3:Nat,k≤32∧i=.int .i64 (k:Int)∧Hid (y0=wdB l k 0∧y1=wdB l k 1∧y2=wdB l k 2∧y3=wdB l k 3)∧Below w.heap.size w wr∧Blk wr (w.heap.size+2) 26 #[.int .u64 (y3:Int),.int .u64 (y2:Int),.int .u64 (y1:Int),.int .u64 (y0:Int)]∧Blk wr (w.heap.size+1) 26 #[.int .u64 0,.int .u64 0,.int .u64 0,.int .u64 0]) (λi _=>32 - (intOf i).toNat)
 case atStart=>exact ⟨0,0,0,0,0,by omega,rfl,Lib.hid ⟨(CS l 0).symm,(CS l 1).symm,(CS l 2).symm,(CS l 3).symm⟩,Ac w _ _ _,Ax w _ _ _ _,(AZ w _ _ _).alloc _⟩
 case round =>
  obtain ⟨k,y0,y1,y2,y3,hk,rfl,HY,hb,hP,hR⟩:=hrel
  have q3:wr.cell? ⟨w.heap.size+1+1,0,none⟩=some (.int .u64 (y3:Int)):=hP.cell 0
  have q2:wr.cell? ⟨w.heap.size+1+1,1,none⟩=some (.int .u64 (y2:Int)):=hP.cell 1
  have q1:wr.cell? ⟨w.heap.size+1+1,2,none⟩=some (.int .u64 (y1:Int)):=hP.cell 2
  have q0:wr.cell? ⟨w.heap.size+1+1,3,none⟩=some (.int .u64 (y0:Int)):=hP.cell 3
  have ff:∀ j,wr.frozen? ⟨w.heap.size+1+1,j,none⟩=false:=λj=>hP.frozen j
  by_cases hlt:k<32
  ·obtain ⟨c,hc⟩:∃ c,l[k]? = some c:=⟨l[k]'(by rw [HL.out]; exact hlt),List.getElem?_eq_getElem _⟩
   have HC:=Lib.hid hc
   obtain ⟨m,hm⟩:=xE c.toNat
   have hm8:m<256:=by rw [hm]; exact c.toNat_lt
   have hI:∀ W,(Instr.index 22 (.agg (l.map bv).toArray) (.int .i64 (k:Int))).run Tryz.prog W=.ok (.int .u8 (m:Int)) W:=λW=>by
    rw [GT W l k c hc hlt,hm]; rfl
   have HM:=Lib.hid hm
   have HR:=Lib.hid (And.intro hb (And.intro hP hR))
   clear hb hP hR hc hk hm
   rcases (EG k) with rfl|rfl|rfl|rfl|rfl|rfl|rfl|rfl|rfl|rfl|rfl|rfl|rfl|rfl|rfl|rfl|rfl|rfl|rfl|rfl|rfl|rfl|rfl|rfl|rfl|rfl|rfl|rfl|rfl|rfl|rfl|rfl
   all_goals
    simp only [Int.cast_ofNat_Int] at hI
   all_goals
    first
    | ((have hy:y0<72057594037927936:=by rw [HY.out.1]; exact Dj l _ 0 dZ); (have ho:=Ft y0 m hy hm8); go_wp2; (refine ⟨⟨_,y0*256+m,y1,y2,y3,by decide,rfl,Lib.hid ⟨by rw [HY.out.1,HM.out]; exact (CT l _ 0 c HC.out dZ).symm,by rw [HY.out.2.1]; exact (Aj l _ 1 dZ).symm,by rw [HY.out.2.2.1]; exact (Aj l _ 2 dZ).symm,by rw [HY.out.2.2.2]; exact (Aj l _ 3 dZ).symm⟩,HR.out.1.setCell (by show w.heap.size≤w.heap.size+1+1; omega) _,Blk.eq_ (HR.out.2.1.set_ 3 _) (by rw [show ((y0*256+m:Nat):Int)=(y0:Int)*256+(m:Int) by omega]; rfl),HR.out.2.2.far (by show w.heap.size+1≠w.heap.size+1+1; omega) _⟩,by simp [intOf]⟩))
    | ((have hy:y1<72057594037927936:=by rw [HY.out.2.1]; exact Dj l _ 1 dZ); (have ho:=Ft y1 m hy hm8); go_wp2; (refine ⟨⟨_,y0,y1*256+m,y2,y3,by decide,rfl,Lib.hid ⟨by rw [HY.out.1]; exact (Aj l _ 0 dZ).symm,by rw [HY.out.2.1,HM.out]; exact (CT l _ 1 c HC.out dZ).symm,by rw [HY.out.2.2.1]; exact (Aj l _ 2 dZ).symm,by rw [HY.out.2.2.2]; exact (Aj l _ 3 dZ).symm⟩,HR.out.1.setCell (by show w.heap.size≤w.heap.size+1+1; omega) _,Blk.eq_ (HR.out.2.1.set_ 2 _) (by rw [show ((y1*256+m:Nat):Int)=(y1:Int)*256+(m:Int) by omega]; rfl),HR.out.2.2.far (by show w.heap.size+1≠w.heap.size+1+1; omega) _⟩,by simp [intOf]⟩))
    | ((have hy:y2<72057594037927936:=by rw [HY.out.2.2.1]; exact Dj l _ 2 dZ); (have ho:=Ft y2 m hy hm8); go_wp2; (refine ⟨⟨_,y0,y1,y2*256+m,y3,by decide,rfl,Lib.hid ⟨by rw [HY.out.1]; exact (Aj l _ 0 dZ).symm,by rw [HY.out.2.1]; exact (Aj l _ 1 dZ).symm,by rw [HY.out.2.2.1,HM.out]; exact (CT l _ 2 c HC.out dZ).symm,by rw [HY.out.2.2.2]; exact (Aj l _ 3 dZ).symm⟩,HR.out.1.setCell (by show w.heap.size≤w.heap.size+1+1; omega) _,Blk.eq_ (HR.out.2.1.set_ 1 _) (by rw [show ((y2*256+m:Nat):Int)=(y2:Int)*256+(m:Int) by omega]; rfl),HR.out.2.2.far (by show w.heap.size+1≠w.heap.size+1+1; omega) _⟩,by simp [intOf]⟩))
    | ((have hy:y3<72057594037927936:=by rw [HY.out.2.2.2]; exact Dj l _ 3 dZ); (have ho:=Ft y3 m hy hm8); go_wp2; (refine ⟨⟨_,y0,y1,y2,y3*256+m,by decide,rfl,Lib.hid ⟨by rw [HY.out.1]; exact (Aj l _ 0 dZ).symm,by rw [HY.out.2.1]; exact (Aj l _ 1 dZ).symm,by rw [HY.out.2.2.1]; exact (Aj l _ 2 dZ).symm,by rw [HY.out.2.2.2,HM.out]; exact (CT l _ 3 c HC.out dZ).symm⟩,HR.out.1.setCell (by show w.heap.size≤w.heap.size+1+1; omega) _,Blk.eq_ (HR.out.2.1.set_ 0 _) (by rw [show ((y3*256+m:Nat):Int)=(y3:Int)*256+(m:Int) by omega]; rfl),HR.out.2.2.far (by show w.heap.size+1≠w.heap.size+1+1; omega) _⟩,by simp [intOf]⟩))
  ·have p1:¬ (k:Int)<32:=om
   obtain rfl:k=32:=om
   have b0:y0<18446744073709551616:=by rw [HY.out.1]; exact C1 l _ _
   have b1:y1<18446744073709551616:=by rw [HY.out.2.1]; exact C1 l _ _
   have b2:y2<18446744073709551616:=by rw [HY.out.2.2.1]; exact C1 l _ _
   have b3:y3<18446744073709551616:=by rw [HY.out.2.2.2]; exact C1 l _ _
   obtain ⟨z,hz⟩:=xE (y3+18446744073709551616*y2+340282366920938463463374607431768211456*y1+6277101735386680763835789423207666416102355444464034512896*y0)
   have fz:=DM y3 y2 y1 y0 b3 b2 b1 b0
   rw [← hz] at fz
   have hzv:A2 l=z:=by rw [Lc l HL.out,hz,HY.out.1,HY.out.2.1,HY.out.2.2.1,HY.out.2.2.2]
   have HZ:=Lib.hid hzv
   have FZ:=Lib.hid fz.symm
   have HP:=Lib.hid hP
   have HR:=Lib.hid hR
   clear HY b0 b1 b2 b3 hz fz hzv q0 q1 q2 q3 ff hP hR
   go_wp2_with (first | ((with_reducible refine AD (d:=some 25) ?_); refine AB U _ _ U (w.heap.size+2) rfl z _ _ _ HP.out FZ.out Au U kZ ?_) | ((with_reducible refine AE ?_); refine AA U _ _ _ U (w.heap.size+1) (fcs z) U U _ _ HR.out kZ (by rfl) (AG _) ?_; intro vz hLz hqz hKz))
   exact bodyPost_ret (results_cell_row U _ _ (w.heap.size+1) _ _ (0,0) _ U hLz Au U kZ) rfl ⟨by rw [HZ.out]; rfl,hb.trans (hqz _ om)⟩
def readS (l:AF):Nat×Bool:=if A2 l<pM then (A2 l,true) else (0,false)
theorem read_any (w:World) (l:AF) (hl:l.length=32):Calls Tryz.prog 235 #[.agg (l.map bv).toArray] w λe w'=>e=.returned (.tuple #[fv (readS l).1,.bool (readS l).2])∧Below w.heap.size w w':=by
 obtain ⟨z,hz⟩:=xE (A2 l)
 have hzl:z<(2^256):=by rw [hz]; exact Hy l hl
 obtain ⟨n,hn⟩:=xE (z%pM)
 have hnl:n<(2^256):=by rw [hn]; exact mod_lt z
 obtain ⟨b,hbd⟩:=xE (decide (n≠z))
 have eb:∀ W,(binOp .neq 26 (fv n) (fv z)).run Tryz.prog W=.ok (.bool b) W:=λW=>by rw [hbd]; exact run_neq_fv W n z hnl hzl
 have cw:∀ w,Calls Tryz.prog 128 #[.agg (l.map bv).toArray] w λe w'=>e=.returned (fv z)∧Below w.heap.size w w':=by
  intro w; rw [hz]; exact Ke w l hl
 have cn:∀ w,Calls Tryz.prog 127 #[fv z] w λe w'=>e=.returned (fv n)∧Below w.heap.size w w':=by
  intro w; rw [hn]; exact norm_any w z hzl
 have hS:readS l=if b=true then (0,false) else (z,true):=by
  unfold readS
  rw [← hz,hbd,hn]
  by_cases h:z<pM
  ·rw [if_pos h,Nat.mod_eq_of_lt h]; simp
  ·have h2:z%pM≠z:=λe=>h (by rw [← e]; exact mod_lt_p z)
   rw [if_neg h]; simp [h2]
 have HS:=Lib.hid hS
 have HL:=Lib.hid hl
 clear hl hz hzl hn hnl hbd hS
 go_enter Tryz.func235,Tryz.ntmps235
 go_wp2_with ((with_reducible refine AD (d:=some 5) ?_); refine Az U _ _ U w.heap.size U _ _ _ ((Blk.new w _ _).alloc _) Il U (C0 HL.out) ?_)
 refine (cw _).mono ?_
 rintro e w1 ⟨rfl,k1⟩
 have BR:=Gr.blk k1 (AZ w _ _ _)
 have sz:=BR.lt
 have hB:=Below.gr (Ad w _ _) k1
 clear k1 cw
 go_wp2_with ((with_reducible refine AE ?_); refine AA U _ _ _ U w1.heap.size (fcs z) U U _ _ (Blk.new w1 _ _) kZ (by rfl) (AG _) ?_; intro w2 hL2 hq2 hK2; have CR:=hK2 _ om _ _ (BR.alloc _); have hB2:=(hB.alloc om _).trans (hq2 _ om))
 refine AJ (λ_=>false) kZ ?_
 try simp only [Act.put]
 refine tkw 0 U (YieldsG.loadF (by rfl) _ _ U w1.heap.size rfl z _ _ hL2 (AU _) Au U kZ) ?_
 try simp only [aPS]
 refine tkw 1 U (YieldsG.call (v:=fv n) (by rfl) 127 _ (λw9=>by go_simp; try rfl) (λw9 h9=>cn w9)) ?_
 try simp only [aPS]
 refine tkw 2 U (YieldsG.loadF (by rfl) _ _ U w1.heap.size rfl z _ _ hL2 (AU _) Au U kZ) ?_
 try simp only [aPS]
 refine tkw 3 U (YieldsG.pure (v:=.bool b) (by rfl) (λw9 h9=>by go_simp; rw [run_eqGuard_fv]; simp only [Result.andThen_ok])) ?_
 try simp only [aPS]
 refine AH kZ (λu hu=>?_)
 have hbu:=Below.gr hB2 hu
 have BRu:=Gr.blk hu CR
 have BP:=Gr.blk hu hL2
 clear hu hB2 CR hL2 eb cn
 cases b
 ·have HT:Hid (readS l=(z,true)):=Lib.hid (by rw [HS.out]; rfl)
  clear HS
  go_wp2_with (first | ((with_reducible refine AD (d:=some 12) ?_); refine AB U _ _ U w1.heap.size rfl z _ _ _ BP (AU _) Au U kZ ?_) | ((with_reducible refine AE ?_); refine AA U _ _ _ U (w.heap.size+1) (fcs z) U U _ _ BRu kZ (by rfl) (AG _) ?_; intro vz hLz hqz hKz))
  exact bodyPost_ret (A9 U _ _ (w.heap.size+1) _ _ _ _ U hLz U Au U kZ) rfl ⟨by rw [HT.out]; rfl,hbu.trans (hqz _ om)⟩
 ·have HT:Hid (readS l=(0,false)):=Lib.hid (by rw [HS.out]; rfl)
  clear HS
  go_wp2_with ((with_reducible refine AE ?_); refine AA U _ _ _ U (w.heap.size+1) _ U U _ _ BRu kZ (by rfl) (by simp [Value.oneCell']) ?_; intro vz hLz hqz hKz)
  exact bodyPost_ret (A9 U _ _ (w.heap.size+1) _ _ _ _ U hLz U Au U kZ) rfl ⟨by rw [HT.out]; rfl,hbu.trans (hqz _ om)⟩
theorem reduceB_any (w:World) (l:AF) (hl:l.length=32):Calls Tryz.prog 62 #[.agg (l.map bv).toArray] w λe w'=>e=.returned (fv (A2 l%pM))∧Below w.heap.size w w':=by
 obtain ⟨z,hz⟩:=xE (A2 l)
 have hzl:z<(2^256):=by rw [hz]; exact Hy l hl
 obtain ⟨n,hn⟩:=xE (z%pM)
 have cw:∀ w,Calls Tryz.prog 128 #[.agg (l.map bv).toArray] w λe w'=>e=.returned (fv z)∧Below w.heap.size w w':=by
  intro w; rw [hz]; exact Ke w l hl
 have cn:∀ w,Calls Tryz.prog 127 #[fv z] w λe w'=>e=.returned (fv n)∧Below w.heap.size w w':=by
  intro w; rw [hn]; exact norm_any w z hzl
 rw [← hz, ← hn]
 have HL:=Lib.hid hl
 clear hl hz hzl hn
 go_enter Tryz.func62,Tryz.ntmps62
 go_wp2_with ((with_reducible refine AD (d:=some 3) ?_); refine Az U _ _ U w.heap.size U _ _ _ ((Blk.new w _ _).alloc _) Il U (C0 HL.out) ?_)
 refine (cw _).mono ?_
 rintro e w1 ⟨rfl,k1⟩
 go_wp2_with fail
 refine (cn _).mono ?_
 rintro e w2 ⟨rfl,k2⟩
 have BR:=Gr.blk k2 (Gr.blk k1 (AZ w _ _ _))
 have hB:=Below.gr (Below.gr (Ad w _ _) k1) k2
 clear k1 k2 cw cn
 go_wp2_with ((with_reducible refine AE ?_); refine AA U _ _ _ U (w.heap.size+1) (fcs n) U U _ _ BR kZ (by rfl) (AG _) ?_; intro vz hLz hqz hKz)
 exact bodyPost_ret (results_cell_row U _ _ (w.heap.size+1) _ _ (0,0) _ U hLz Au U kZ) rfl ⟨rfl,hB.trans (hqz _ om)⟩
end Sc
end
section
namespace Cu
open Go.RowKit Sy
theorem Kn {w:World} {g:Nat} {t:TypeId} {ts:List Sh.Tx} (hb:Blk w g t (ts.map Sh.Tx.val).toArray) (hok:∀ x∈ts,x.ok w):Sh.Texts w (pA g) ts:=λ_ =>
 ⟨g,0,rfl,hb.lt,λj y hy=>by
  rw [Nat.zero_add]
  refine ⟨(hb.cell j).trans ?_,hok y (List.mem_of_getElem? hy)⟩
  rw [List.getElem?_toArray,List.getElem?_map,hy]
  rfl⟩
theorem Sm (w:World) (nm:ByteArray) (hnm:nm.size≤1000000000) (g:Nat) (t:TypeId) (ts:List Sh.Tx) (n ct:Nat) (X:AF) (hX:Sh.cat ts=X) (hn:ts.length=n) (hb:Blk w g t (ts.map Sh.Tx.val).toArray) (hok:∀ x∈ts,x.ok w) (hl:X.length≤1000000000) (hn2:n≤1000000000) (ht:Sh.TabAt w 1) :
  Calls Tryz.prog 63 #[.string nm,.slice (pA g) n ct] w (Gets w (.agg ((Sh.taggedS nm.data.toList X).map bv).toArray)):=by
 subst hX hn
 exact Sh.tagged_any w nm _ ts ct (Kn hb hok) ht hnm hl hn2
theorem Tg {w:World} {g:Nat} {t:TypeId} {l:AF} (hb:Blk w g t (l.map bv).toArray) (hl:l.length=32):(Sh.Tx.mk (pA g) l 32).ok w:=⟨Sh.Src.of_blk hb,by show l.length≤32; omega,by show 32≤9223372036854775807; omega⟩
theorem ok3 {w:World} {a b c:Sh.Tx} (ha:a.ok w) (hb:b.ok w) (hc:c.ok w):∀ x∈[a,b,c],x.ok w:=λx hx=>by
 simp only [List.mem_cons,List.not_mem_nil,or_false] at hx
 rcases hx with rfl|rfl|rfl <;> assumption
theorem Dd (nm m:AF):(Sh.taggedS nm m).length=32:=Sh.sum_length _
end Cu
end
section
namespace Sy
open Go.RowKit
section
variable {P:Program} {w0:Base} {n:Nat} {Q:Exit→Act→World→Prop} {F:AO} {L:AC}
theorem Yi {c:Code} (N:Nat) (I:Nat→Act→World→Prop) (h0:∀ a w,Fr w0.ds a n F→St w0 w L→I 0 a w)
  (hr:∀ i,i≤N→∀ a w,I i a w→c.wpIn w0.fence w0.room P (Exit.then (λa w=>i<N∧I (i+1) a w) Q) a w):wpR P w0 n c Q (N+1) F L:=λa w ha hw=>by
 have key:∀ k i,i+k=N→∀ a w,I i a w→Code.roundsIn w0.fence w0.room P c Q (k+1) a w:=by
  intro k
  induction k with
  | zero =>
   intro i hi a w h
   refine wpIn_mono (hr i om a w h) λe a w hq=>?_
   cases e <;> first | exact hq | exact absurd hq.1 om
  | succ k ih =>
   intro i hi a w h
   refine wpIn_mono (hr i om a w h) λe a w hq=>?_
   cases e <;> first | exact hq | exact ih (i+1) om a w hq.2
 exact key N 0 om a w (h0 a w ha hw)
theorem loopXR {T:Type} {c:Code} (N:Nat) (FF:Nat→T→AO) (LL:Nat→T→AC) (H:Nat→T→Prop) (x0:T) (m:List Bool) (h0:H 0 x0) (hF:∀ p∈FF 0 x0,F.lookup p.1=some p.2) (hL:sel L m=LL 0 x0)
  (hr:∀ k x,k≤N→H k x→wpC P w0 n (Exit.then (OO w0 n N FF LL H k) Q) (FF k x) (LL k x) c):wpR P w0 n c Q (N+1) F L :=
 Yi N (λk a w=>∃ x,H k x∧Fr w0.ds a n (FF k x)∧St w0 w (LL k x)) (λ_ _ ha hw=>⟨x0,h0,ha.all hF,hL ▸ hw.less (CP L m)⟩)
  λk hk a w ⟨x,hx,ha,hw⟩=>hr k x hk hx a w ha hw
end
theorem U0 (l:AF) (k:Nat) {n:Nat} (hl:l.length=n) (s:List Value) (hk:k<n):((l.take k).map bv++([bv (l.getD k 0)]++s)).toArray.toList.take (k+1)=(l.take (k+1)).map bv:=by
 have hlt:k<l.length:=om
 have e:((l.take k).map bv).length=k:=by simp; omega
 rw [show ((l.take k).map bv++([bv (l.getD k 0)]++s)).toArray.toList=(l.take k).map bv++([bv (l.getD k 0)]++s) from rfl,List.take_append,e,List.take_of_length_le om,Nat.add_sub_cancel_left,List.take_succ_eq_append_getElem hlt,List.map_append]
 congr 1
 simp [List.getD,hlt]
theorem XC (l:AF) (k:Nat) {n:Nat} (hl:l.length=n) (hk:k<n):((l.take (k+1)).map bv).length=k+1:=by simp; omega
theorem U1 (l:AF) (k:Nat) {n:Nat} (hl:l.length=n) (s:List Value) {c:Nat} (hc:s.length+(k+1)=c) (hk:k<n):((l.take k).map bv++([bv (l.getD k 0)]++s)).toArray.size=c:=by simp; omega
theorem U2 (l:AF) (k:Nat) (hl:l.length=k+1) {s:List Value}:((l.take k).map bv++([bv (l.getD k 0)]++s))=l.map bv++s:=by
 have hlt:k<l.length:=om
 have e:l=l.take k++[l.getD k 0]:=by
  have h2:=List.take_succ_eq_append_getElem hlt
  rw [List.take_of_length_le om] at h2
  rw [List.getD_eq_getElem?_getD,List.getElem?_eq_getElem hlt]
  exact h2
 conv=>rhs; rw [e,List.map_append,List.append_assoc]
 rfl
theorem WT {l:AF} {n:Nat} (h:l.length=n) {k o:Nat} (hk:k<n) (ho:o=k):((l.map bv).toArray)[o]? = some (bv (l.getD k 0)):=by
 subst h ho
 rw [List.getElem?_toArray,List.getElem?_map,List.getD_eq_getElem?_getD,List.getElem?_eq_getElem hk]
 rfl
end Sy
end
section
namespace Cu
open Go.RowKit Sy
end Cu
end
section
namespace Sy
open Go.RowKit
abbrev VI (g1:Nat) (t1:TypeId) (c1:Array Value) (g2:Nat) (t2:TypeId) (c2:Array Value):List (Nat×Obj):=[(g1,.cells c1 t1),(g2,.cells c2 t2)]
section
variable {P:Program} {w0:Base} {n:Nat} {Q:Exit→Act→World→Prop} {F:AO} {L:AC} {ops:Array Oper} {V:List (Nat×Obj)} {fuel:Nat} {listed:Array Bool}
def wpV (P:Program) (w0:Base) (n:Nat) (ops:Array Oper) (Q:Exit→Act→World→Prop) (V:List (Nat×Obj)) (F:AO) (L:AC) (fuel:Nat) (listed:Array Bool):Prop:=∀ a wb w,Fr w0.ds a n F→St w0 wb L→GrV V wb w→C5 P V .any ops Q fuel listed a w
theorem regionV {i:Nat} (V:List (Nat×Obj)) (h:wpV P w0 n ops Q V F L ops.size (Array.replicate ops.size false)) (hm:P.follows .mixedOrders=true:=by kernel_rfl) (hf:w0.fence=Fence.wide:=by rfl):wpC P w0 n Q F L (.region i ops true):=λa w ha hw=>by
 rw [hf]
 exact wpIn_wide.2 (Mi V hm (h a w w ha hw (GrV.refl w)))
theorem takeV (i:Nat) {oi:Oper} (hi0:ops.toList[i]? = some oi) (v:Value) (h:wpV P w0 n ops Q V (Bo F oi.dst v) L fuel (listed.setIfInBounds i true)) (hq:∀ w,(execOp (evF F) oi).run P w=.ok (.value v) w:=by intro _; kernel_rfl) (hc:Dh .any ops listed i=true:=by kernel_rfl)
  (hg:Bv ops n F oi=true:=by kernel_rfl) (hQ:∀ c v a w,Q (.panic c) (a.put oi.dst v) w→Q (.panic c) a w:=by exact λ_ _ _ _ h=>h):wpV P w0 n ops Q V F L (fuel+1) listed:=λa wb w ha hw hv =>
 IW i hi0 hc (λc=>hQ c v) (YieldsV.pure (ha.wanted (AQ hg).1) (λw1 _=>by rw [Ao hg ha]; exact hq w1)) (h _ wb w (ha.put (AQ hg).2.2.1 v) hw hv)
theorem loadV (i:Nat) {oi:Oper} (hi0:ops.toList[i]? = some oi) (j g f:Nat) (t ty:TypeId) (cs:Array Value) (d:TypeDesc) (v:Value) (x:Operand) (ho:oi.op=.load ty x) (hu:P.underlying ty=some d) (hfar:∀ w,St w0 w L→V.all (λx=>x.1 != g)=true)
  (h:wpV P w0 n ops Q V (Bo F oi.dst v) L fuel (listed.setIfInBounds i true)) (hx:evF F x=pT g f:=by kernel_rfl) (hL:L[j]? = some (g,t,cs):=by kernel_rfl) (hd:d.isRow=false:=by rfl) (hv:cs[f]? = some v:=by kernel_rfl) (hc:Dh .any ops listed i=true:=by kernel_rfl)
  (hg:Bv ops n F oi=true:=by kernel_rfl) (hQ:∀ c v a w,Q (.panic c) (a.put oi.dst v) w→Q (.panic c) a w:=by exact λ_ _ _ _ h=>h):wpV P w0 n ops Q V F L (fuel+1) listed:=λa wb w ha hw hV =>
 IW i hi0 hc (λc=>hQ c v) (YieldsV.pure (ha.wanted (AQ hg).1) (λw1 h1=>by
  rw [Ao hg ha]
  have hb:=(hV.trans h1).blk (hw.get hL) (hfar wb hw)
  have hcell:w1.cell? ⟨g,f,none⟩=some v:=(hb.cell f).trans hv
  have hagg:(isAgg ty).run P w1=.ok false w1:=by
   cases d <;> first | (cases hd; done) | simp [isAgg,underlying,hu]
  unfold execOp
  simp only [ho,hx,Instr.loadAt,Instr.sureAddr,Sem.run_bind,Sem.run_pure,Result.andThen_ok,loadVar,hagg,Bool.false_eq_true,if_false,run_load,hcell])) (h _ wb w (ha.put (AQ hg).2.2.1 v) hw hV)
theorem storesV (i k:Nat) {oi ok:Oper} (hi0:ops.toList[i]? = some oi) (hk0:ops.toList[k]? = some ok) (p q g1 g2:Nat) (t1 t2:TypeId) (b1 b2 c1 c2:Array Value) (ty1 ty2:TypeId) (x1 y1 x2 y2:Operand) (ho1:oi.op=.store ty1 x1 y1) (ho2:ok.op=.store ty2 x2 y2)
  (hpq:p<q) (h:X w0 n Q (Bo (Bo F oi.dst undef) ok.dst undef) ((L.set p (g1,t1,c1)).set q (g2,t2,c2)) .normal)
  (hx1:evF F x1=pT g1 0:=by kernel_rfl) (hy1:evF F y1=.agg c1:=by kernel_rfl) (hx2:evF (Bo F oi.dst undef) x2=pT g2 0:=by kernel_rfl) (hy2:evF (Bo F oi.dst undef) y2=.agg c2:=by kernel_rfl)
  (hL1:L[p]? = some (g1,t1,b1):=by kernel_rfl) (hL2:L[q]? = some (g2,t2,b2):=by kernel_rfl) {n1 n2:Nat} (hs1:b1.size=n1:=by kernel_rfl) (hs2:b2.size=n2:=by kernel_rfl) (hc1:c1.size=n1:=by kernel_rfl) (hc2:c2.size=n2:=by kernel_rfl)
  (hr1:Region.ready .any ops listed=[i]:=by kernel_rfl) (hr2:Region.ready .any ops (listed.setIfInBounds i true)=[k]:=by kernel_rfl) (hr3:Region.ready .any ops ((listed.setIfInBounds i true).setIfInBounds k true)=[]:=by kernel_rfl)
  (hg1:Bv ops n F oi=true:=by kernel_rfl) (hg2:Bv ops n (Bo F oi.dst undef) ok=true:=by kernel_rfl) (hi1:(P.info? ty1).map (·.size)=some c1.size:=by kernel_rfl) (hi2:(P.info? ty2).map (·.size)=some c2.size:=by kernel_rfl)
  (ha1:c1.all (·.oneCell')=true:=by kernel_rfl) (ha2:c2.all (·.oneCell')=true:=by kernel_rfl):wpV P w0 n ops Q (VI g1 t1 c1 g2 t2 c2) F L (fuel+2) listed:=λa wb w ha hw hV=>by
 have hb1:=hw.get hL1
 have hb2:=hw.get hL2
 have hp:=(List.getElem?_eq_some_iff.1 hL1).1
 have hq:=(List.getElem?_eq_some_iff.1 hL2).1
 have hne:g1≠g2:=λe=>by
  have:=List.pairwise_iff_getElem.1 hw.apart p q (by simpa using hp) (by simpa using hq) hpq
  simp only [List.getElem_map] at this
  rw [(List.getElem?_eq_some_iff.1 hL1).2,(List.getElem?_eq_some_iff.1 hL2).2] at this
  exact this e
 refine Gw i hi0 hr1 (ha.wanted (AQ hg1).1) ty1 x1 y1 ho1 g1 c1 ((ha.eval ((AQ hg1).2.1 _ (by simp [ho1,Op.operands]))).trans hx1) ((ha.eval ((AQ hg1).2.1 _ (by simp [ho1,Op.operands]))).trans hy1) t1 (by simp) (λw1 h1=>(hV.trans h1).some hb1 (hs1.trans hc1.symm) (λo ho=>?_)) hi1 ha1 (λw1 h1 w2 h2 hB=>?_)
 ·simp only [List.mem_cons,Prod.mk.injEq,List.not_mem_nil,or_false] at ho
  rcases ho with ⟨_,rfl⟩ | ⟨e,_⟩
  ·exact ⟨c1,rfl,rfl⟩
  ·exact absurd e hne
 have ha':=ha.put (AQ hg1).2.2.1 undef
 refine Gw k hk0 hr2 (ha'.wanted (AQ hg2).1) ty2 x2 y2 ho2 g2 c2 ((ha'.eval ((AQ hg2).2.1 _ (by simp [ho2,Op.operands]))).trans hx2) ((ha'.eval ((AQ hg2).2.1 _ (by simp [ho2,Op.operands]))).trans hy2) t2 (by simp) (λw3 h3=>(((hV.trans h1).trans h2).trans h3).some hb2 (hs2.trans hc2.symm) (λo ho=>?_)) hi2 ha2 (λw3 h3 w4 h4 hB2=>?_)
 ·simp only [List.mem_cons,Prod.mk.injEq,List.not_mem_nil,or_false] at ho
  rcases ho with ⟨e,_⟩ | ⟨_,rfl⟩
  ·exact absurd e.symm hne
  ·exact ⟨c2,rfl,rfl⟩
 refine Mk hr3 (λw5 h5=>h _ _ (ha'.put (AQ hg2).2.2.1 undef) ?_)
 have hall:=((((hV.trans h1).trans h2).trans h3).trans h4).trans h5
 have f1:Blk w5 g1 t1 c1:=((h3.trans h4).trans h5).done hB (λo ho=>by
  simp only [List.mem_cons,Prod.mk.injEq,List.not_mem_nil,or_false] at ho
  rcases ho with ⟨_,rfl⟩ | ⟨e,_⟩
  ·rfl
  ·exact absurd e hne)
 have f2:Blk w5 g2 t2 c2:=h5.done hB2 (λo ho=>by
  simp only [List.mem_cons,Prod.mk.injEq,List.not_mem_nil,or_false] at ho
  rcases ho with ⟨e,_⟩ | ⟨_,rfl⟩
  ·exact absurd e.symm hne
  ·rfl)
 have hlow:∀ x∈VI g1 t1 c1 g2 t2 c2,w0.world.heap.size≤x.1:=λx hx=>by
  simp only [List.mem_cons,List.not_mem_nil,or_false] at hx
  rcases hx with rfl|rfl
  ·exact (hw.blk g1 t1 b1 (List.mem_of_getElem? hL1)).1
  ·exact (hw.blk g2 t2 b2 (List.mem_of_getElem? hL2)).1
 have hbel:=hall.below (B:=w0.world.heap.size) hw.below.size hlow
 refine ⟨hw.below.trans hbel,λg t cs hm=>?_,?_,Nat.le_trans hw.size hall.size,λz o hz ho hc=>?_⟩
 ·obtain ⟨j,hj⟩:=List.getElem?_of_mem hm
  rw [List.getElem?_set] at hj
  split at hj
  ·rename_i e
   have hj2:(g2,t2,c2)=(g,t,cs):=by simpa [hq] using hj
   cases hj2
   exact ⟨(hw.blk _ _ _ (List.mem_of_getElem? hL2)).1,f2⟩
  ·rw [List.getElem?_set] at hj
   split at hj
   ·have hj2:(g1,t1,c1)=(g,t,cs):=by simpa [hp] using hj
    cases hj2
    exact ⟨(hw.blk _ _ _ (List.mem_of_getElem? hL1)).1,f1⟩
   ·rename_i e2 e1
    refine ⟨(hw.blk _ _ _ (List.mem_of_getElem? hj)).1,hall.blk (hw.get hj) ?_⟩
    have hjl:=(List.getElem?_eq_some_iff.1 hj).1
    have hpair:=List.pairwise_iff_getElem.1 hw.apart
    have far:∀ (r gr:Nat) (tr:TypeId) (cr:Array Value),L[r]? = some (gr,tr,cr)→r≠j→gr≠g:=λr gr tr cr hr hrj e=>by
     have hrl:=(List.getElem?_eq_some_iff.1 hr).1
     rcases Nat.lt_or_gt_of_ne hrj with hlt | hlt
     ·have:=hpair r j (by simpa using hrl) (by simpa using hjl) hlt
      simp only [List.getElem_map] at this
      rw [(List.getElem?_eq_some_iff.1 hr).2,(List.getElem?_eq_some_iff.1 hj).2] at this
      exact this e
     ·have:=hpair j r (by simpa using hjl) (by simpa using hrl) hlt
      simp only [List.getElem_map] at this
      rw [(List.getElem?_eq_some_iff.1 hr).2,(List.getElem?_eq_some_iff.1 hj).2] at this
      exact this e.symm
    simp only [List.all_cons,List.all_nil,Bool.and_true,Bool.and_eq_true,bne_iff_ne]
    exact ⟨far p g1 t1 b1 hL1 e1,far q g2 t2 b2 hL2 e2⟩
 ·have hmap:((L.set p (g1,t1,c1)).set q (g2,t2,c2)).map (·.1)=L.map (·.1):=by
   refine List.ext_getElem? λj=>?_
   rw [List.getElem?_map,List.getElem?_map,List.getElem?_set,List.getElem?_set]
   split
   ·rename_i e
    subst e
    rw [hL2]
    simp [hq]
   ·split
    ·rename_i e
     subst e
     rw [hL1]
     simp [hp]
    ·rfl
  rw [hmap]
  exact hw.apart
 ·have h6:=hw.non z o hz ho hc
  rcases hall.block z (Array.getElem?_eq_some_iff.1 h6).1 with e | ⟨o',hm,e⟩
  ·exact e.trans h6
  ·exfalso
   simp only [List.mem_cons,Prod.mk.injEq,List.not_mem_nil,or_false] at hm
   rcases hm with ⟨rfl,_⟩ | ⟨rfl,_⟩
   ·unfold Blk at hb1
    rw [hb1] at h6
    cases h6
    cases hc
   ·unfold Blk at hb2
    rw [hb2] at h6
    cases h6
    cases hc
theorem F3 {i j k:Nat} {g1 g2 g:Nat} {t1 t2:TypeId} {c1 c2:Array Value} (h1:(L.map (·.1))[i]? = some g1:=by kernel_rfl) (h2:(L.map (·.1))[j]? = some g2:=by kernel_rfl) (h3:(L.map (·.1))[k]? = some g:=by kernel_rfl) (hik:i<k) (hjk:j<k):∀ w,St w0 w L→(VI g1 t1 c1 g2 t2 c2).all (λx=>x.1 != g)=true:=λw hw=>by
 have hpair:=List.pairwise_iff_getElem.1 hw.apart
 have far:∀ (r gr:Nat),(L.map (·.1))[r]? = some gr→r<k→gr≠g:=λr gr hr hrk e=>by
  have:=hpair r k (List.getElem?_eq_some_iff.1 hr).1 (List.getElem?_eq_some_iff.1 h3).1 hrk
  rw [(List.getElem?_eq_some_iff.1 hr).2,(List.getElem?_eq_some_iff.1 h3).2] at this
  exact this e
 simp only [List.all_cons,List.all_nil,Bool.and_true,Bool.and_eq_true,bne_iff_ne]
 exact ⟨far i g1 h1 hik,far j g2 h2 hjk⟩
end
end Sy
end
section
namespace Sc
open Go.RowKit Go.Lib
theorem step_ex (v m x y:Nat) (hv:v<18446744073709551616) (hm:m<18446744073709551616) (hx:x<18446744073709551616) (hy:y<18446744073709551616):∃ lo hi:Nat,lo<18446744073709551616∧hi<18446744073709551616∧lo+18446744073709551616*hi=v*m+x+y:=by
 have h:v*m≤18446744073709551615*18446744073709551615:=Nat.mul_le_mul om om
 exact ⟨(v*m+x+y)%18446744073709551616,(v*m+x+y) / 18446744073709551616,by omega,by omega,by omega⟩
theorem VS (w:World) (v m x y lo hi:Nat) (hv:v<18446744073709551616) (hm:m<18446744073709551616) (hx:x<18446744073709551616) (hy:y<18446744073709551616) (hlo:lo<18446744073709551616) (he:lo+18446744073709551616*hi=v*m+x+y) :
  Calls Tryz.prog 242 #[.int .u64 (v:Int),.int .u64 (m:Int),.int .u64 (x:Int),.int .u64 (y:Int)] w λe w'=>e=.returned (.tuple #[.int .u64 (lo:Int),.int .u64 (hi:Int)])∧w'=w:=by
 have h:v*m≤18446744073709551615*18446744073709551615:=Nat.mul_le_mul om om
 obtain ⟨p,q,bq,bp,hpq⟩:=J0 v m hv hm
 obtain ⟨s,k,bs,bk,hsk,ra⟩:=DN q x bq hx
 obtain ⟨t,l,bt,bl,htl,rb⟩:=DN s y bs hy
 have hsum:p+k+l<18446744073709551616:=om
 have hsum1:p+k<18446744073709551616:=om
 obtain rfl:t=lo:=om
 have HI:Hid (hi=p+k+l):=Lib.hid om
 have cm:=λw=>D_ w v m p q hv hm bq hpq
 clear h hpq hsk htl he hlo bs bq bp
 go_enter Tryz.func242,Tryz.ntmps242
 go_wp2_with fail
 refine (cm _).mono ?_
 rintro e w1 ⟨rfl,rfl⟩
 go_wp2
 go_ret2
 exact ⟨by rw [HI.out]; rfl,rfl⟩
theorem step_c (w:World) (v m x y lo hi:Nat) (hv:v<18446744073709551616) (hm:m<18446744073709551616) (hx:x<18446744073709551616) (hy:y<18446744073709551616) (hlo:lo<18446744073709551616) (he:lo+18446744073709551616*hi=v*m+x+y) :
  Calls Tryz.prog 242 #[.int .u64 ((v:Nat):Int),.int .u64 ((m:Nat):Int),.int .u64 ((x:Nat):Int),.int .u64 ((y:Nat):Int)] w (Sy.Gets w (.tuple #[.int .u64 ((lo:Nat):Int),.int .u64 ((hi:Nat):Int)])) :=
 (VS w v m x y lo hi hv hm hx hy hlo he).mono λe w' ⟨h1,h2⟩=>⟨h1,by rw [h2]; exact Below.refl _ _⟩
end Sc
namespace Fz
open Go.RowKit Go.Lib Sy
theorem Jq {x y lo hi:Nat} {R:Nat→Nat} (hx:x<(2^256)) (hy:y<(2^256)) (he:lo+(2^256)*hi=x*y) (h:vR R 8=vR (wd x) 4*vR (wd y) 4):vR R 4+vR (λt=>R (4+t)) 4*(2^256)=lo+(2^256)*hi:=by
 rw [wd4 hx,wd4 hy,show (8:Nat)=4+4 from rfl,Ff] at h
 rw [he, ← h]
theorem Ov {x y lo hi:Nat} {R:Nat→Nat} (hx:x<(2^256)) (hy:y<(2^256)) (hlo:lo<(2^256)) (he:lo+(2^256)*hi=x*y) (h:vR R 8=vR (wd x) 4*vR (wd y) 4) (hR:vR R 4<18446744073709551616 ^ 4):lo=vR R 4:=by
 have q:=Jq hx hy he h
 have hR':vR R 4<(2^256):=hR
 omega
theorem RW {x y lo hi:Nat} {R:Nat→Nat} (hx:x<(2^256)) (hy:y<(2^256)) (hlo:lo<(2^256)) (he:lo+(2^256)*hi=x*y) (h:vR R 8=vR (wd x) 4*vR (wd y) 4) (hR:vR R 4<18446744073709551616 ^ 4):hi=vR (λt=>R (4+t)) 4:=by
 have q:=Jq hx hy he h
 have hR':vR R 4<(2^256):=hR
 omega
theorem productZ (w:World) (x y lo hi:Nat) (hx:x<(2^256)) (hy:y<(2^256)) (hlo:Hid (lo<(2^256))) (he:Hid (lo+(2^256)*hi=x*y)):AY 230 #[fv x,fv y] w (Gets w (.tuple #[fv lo,fv hi])):=by
 refine Sy.enter (args:=[fv x,fv y]) Tryz.func230 U kL<|sC<|sM 26 (fcs x) (λg0=>?_)
 refine sM 26 (fcs y) (λg1=>?_)
 refine sM 26 (fcs 0) (λg2=>?_)
 refine sM 26 (fcs 0) (λg3=>?_)
 refine sA<|Sy.make kR 212 (rw8 (λ_=>0)) ptr kF (λg4=>?_)
 refine sG<|Sy.seq<|sC<|sS (fv x) (qk 0 0 4 U U Au)<|sp U<|sG<|Sy.block<|Sy.loopX (T:=Nat→Nat) 4 (λk1 y1=>[(2,pT g0 0),(3,pT g1 0),(4,pT g2 0),(5,pT g3 0),(6,pT g4 0),(12,fv x),(13,iZ k1)]) (λk1 y1=>[(g0,26,(fcs x)),(g1,26,(fcs y)),(g2,26,(fcs 0)),(g3,26,(fcs 0)),(g4,212,(rw8 y1))]) (λk1 y1=>(∀ t,y1 t<18446744073709551616)∧vR y1 8=vR (wd x) k1*vR (wd y) 4∧∀ t,k1+4≤t→y1 t=0) (λ_=>0) [true,true,true,true,true] (⟨λ_=>by show (0:Nat)<18446744073709551616; decide,by rw [Ir]; exact (Nat.zero_mul _).symm,λ_ _=>rfl⟩) ac7 kR (λk1 y1 hk1 hh1=>?_)
 refine sC ?_
 obtain ⟨b1,hb1⟩:=xE (decide (k1<4))
 refine sS (.bool b1) (qls U U U hb1)<|sG<|Sy.seq ?_
 cases b1
 ·have lb1:=dN hb1
  refine sU<|Sy.exit<|Sy.then_exit<|Sy.then_exit ?_
  obtain rfl:k1=4:=om
  refine Sy.in_exit<|Sy.then_<|Sy.seq<|Sy.regionV (VI g2 26 (fcs (vR y1 4)) g3 26 (fcs (vR (λt=>y1 (4+t)) 4)))<|Sy.takeV 0 U (pT g4 0)<|Sy.loadV 1 U 4 g4 0 212 24 (rw8 y1) _ (uZ ((y1 0:Nat):Int)) _ U B2 (F3 (i:=2) (j:=3) (k:=4) (hik:=by decide) (hjk:=by decide))<|Sy.takeV 2 U (pT g4 1)<|Sy.loadV 3 U 4 g4 1 212 24 (rw8 y1) _ (uZ ((y1 1:Nat):Int)) _ U B2 (F3 (i:=2) (j:=3) (k:=4) (hik:=by decide) (hjk:=by decide))<|Sy.takeV 4 U (pT g4 2)<|Sy.loadV 5 U 4 g4 2 212 24 (rw8 y1) _ (uZ ((y1 2:Nat):Int)) _ U B2 (F3 (i:=2) (j:=3) (k:=4) (hik:=by decide) (hjk:=by decide))<|Sy.takeV 6 U (pT g4 3)<|Sy.loadV 7 U 4 g4 3 212 24 (rw8 y1) _ (uZ ((y1 3:Nat):Int)) _ U B2 (F3 (i:=2) (j:=3) (k:=4) (hik:=by decide) (hjk:=by decide))<|Sy.takeV 8 U (fv (vR y1 4)) ?_ (hq:=λw=>by rw [← Oi hh1.1]; kernel_rfl)
  refine Sy.takeV 9 U (pT g4 4)<|Sy.loadV 10 U 4 g4 4 212 24 (rw8 y1) _ (uZ ((y1 4:Nat):Int)) _ U B2 (F3 (i:=2) (j:=3) (k:=4) (hik:=by decide) (hjk:=by decide))<|Sy.takeV 11 U (pT g4 5)<|Sy.loadV 12 U 4 g4 5 212 24 (rw8 y1) _ (uZ ((y1 5:Nat):Int)) _ U B2 (F3 (i:=2) (j:=3) (k:=4) (hik:=by decide) (hjk:=by decide))<|Sy.takeV 13 U (pT g4 6)<|Sy.loadV 14 U 4 g4 6 212 24 (rw8 y1) _ (uZ ((y1 6:Nat):Int)) _ U B2 (F3 (i:=2) (j:=3) (k:=4) (hik:=by decide) (hjk:=by decide))<|Sy.takeV 15 U (pT g4 7)<|Sy.loadV 16 U 4 g4 7 212 24 (rw8 y1) _ (uZ ((y1 7:Nat):Int)) _ U B2 (F3 (i:=2) (j:=3) (k:=4) (hik:=by decide) (hjk:=by decide))<|Sy.takeV 17 U (fv (vR (λt=>y1 (4+t)) 4)) ?_ (hq:=λw=>by rw [← Oi (R:=λt=>y1 (4+t)) (λt=>hh1.1 _)]; kernel_rfl)
  refine Sy.storesV 18 19 U U 2 3 g2 g3 26 26 (fcs 0) (fcs 0) (fcs (vR y1 4)) (fcs (vR (λt=>y1 (4+t)) 4)) 26 26 _ _ _ _ U U dZ ?_ (n1:=4) (n2:=4)
  refine Sy.then_<|Sy.ret ?_
  rw [show (.tuple #[fv lo,fv hi]:Value)=.tuple #[fv (vR y1 4),fv (vR (λt=>y1 (4+t)) 4)] from by rw [Ov hx hy hlo.out he.out hh1.2.1 (JI hh1.1 4),RW hx hy hlo.out he.out hh1.2.1 (JI hh1.1 4)]]
  exact Sy.ret2 (v:=fv (vR y1 4)) (u:=fv (vR (λt=>y1 (4+t)) 4)) U (.inl (Res.cell (ty':=26) g2 2 (fcs (vR y1 4)) _ kR kR Au U kR kR)) (.inl (Res.cell (ty':=26) g3 3 (fcs (vR (λt=>y1 (4+t)) 4)) _ kR kR Au U kR kR))
 ·have lb1:=dY hb1
  refine sT<|Sy.skip<|Sy.then_<|Sy.seq<|Sy.block<|sC<|sp U<|sS (uZ ((wd x k1:Nat):Int)) (Quiet.pure (KC _ _ _ _ _ 4 k1 .i64 _ _ U U U Au B2 U kF om (KB x om U)))<|sp U<|sp U<|sA<|sp U<|sG<|Sy.seq<|sC<|sS (fv y) (qk 1 0 4 U U Au)<|sp U<|sG<|Sy.block<|Sy.loopX (T:=(Nat→Nat)×Nat) 4 (λk2 y2=>[(2,pT g0 0),(3,pT g1 0),(4,pT g2 0),(5,pT g3 0),(6,pT g4 0),(7,iZ k1),(8,uZ ((wd x k1:Nat):Int)),(9,uZ ((y2.2:Nat):Int)),(12,fv x),(13,iZ k1),(17,fv y),(18,iZ k2)]) (λk2 y2=>[(g0,26,(fcs x)),(g1,26,(fcs y)),(g2,26,(fcs 0)),(g3,26,(fcs 0)),(g4,212,(rw8 y2.1))]) (λk2 y2=>(∀ t,y2.1 t<18446744073709551616)∧y2.2<18446744073709551616∧vR y2.1 8+y2.2*18446744073709551616 ^ (k1+k2)=vR y1 8+wd x k1*vR (wd y) k2*18446744073709551616 ^ k1∧∀ t,k1+4≤t→y2.1 t=0) (y1,0) [true,true,true,true,true] (⟨hh1.1,by show (0:Nat)<18446744073709551616; decide,by show vR y1 8+0*_=_+_*0*_; omega,hh1.2.2⟩) ZJ kR (λk2 y2 hk2 hh2=>?_)
  refine sC ?_
  obtain ⟨b2,hb2⟩:=xE (decide (k2<4))
  refine sS (.bool b2) (qls U U U hb2)<|sG<|Sy.seq ?_
  cases b2
  ·have lb2:=dN hb2
   refine sU<|Sy.exit<|Sy.then_exit<|Sy.then_exit ?_
   obtain rfl:k2=4:=om
   refine Sy.in_exit<|Sy.then_<|Sy.region<|sp U<|sS (iZ (k1+4)) (qad U U U)<|sp U<|sS (.pointer (some ⟨g4,0+(k1+4)*1,none⟩)) (Quiet.pure (A_ 212 _ _ _ g4 0 _ (k1+4) 1 .i64 U U U Dl kF om))<|Sy.write kR 4 g4 212 (rw8 y2.1) (rw8 (upd y2.1 (k1+4) y2.2)) kR (Writes.one (0+(k1+4)*1) 24 (uZ ((y2.2:Nat):Int)) _ _ U kR kR kR U U (E3 _ (k:=k1+4) om om) (E2 _ _ om om))<|Sy.nil<|Sy.in_<|Sy.then_<|Sy.region<|sS (iZ (k1+1)) (qad U U U)<|sp U<|Sy.nil ?_
   have hq:=Ta hh1.2.1 hh2.2.2.1 (hh2.2.2.2 _ (Nat.le_refl _)) om
   exact Sy.againX (upd y2.1 (k1+4) y2.2) [true,true,true,true,true] om (⟨H2 hh2.1 hh2.2.1,hq,λt ht=>(Lg om).trans (hh2.2.2.2 t om)⟩) ac7 kR
  ·have lb2:=dY hb2
   refine sT<|Sy.skip<|Sy.then_<|Sy.seq<|Sy.block<|sC<|sp U<|sS (uZ ((wd y k2:Nat):Int)) (Quiet.pure (KC _ _ _ _ _ 4 k2 .i64 _ _ U U U Au B2 U kF om (KB y om U)))<|sp U<|sp U<|sG<|Sy.region<|sp U<|sp U<|sS (iZ (k1+k2)) (qad U U U)<|sp U<|sp U<|sp U<|sp U<|sS (iZ (k1+k2)) (qad U U U)<|sS (.pointer (some ⟨g4,0+(k1+k2)*1,none⟩)) (Quiet.pure (A_ 212 _ _ _ g4 0 _ (k1+k2) 1 .i64 U U U Dl kF om))<|sS (uZ ((y2.1 (k1+k2):Nat):Int)) (qy 4 (0+(k1+k2)*1) rfl U B2 (H7 y2.1 (k:=k1+k2) om om))<|sp U ?_
   obtain ⟨lo,hi,llo,lhi,elo⟩:=Sc.step_ex (wd x k1) (wd y k2) (y2.1 (k1+k2)) y2.2 (by first | assumption | exact As _ _ | exact hh1.1 _ | exact hh2.1 _ | exact hh2.2.1 | decide) (by first | assumption | exact As _ _ | exact hh1.1 _ | exact hh2.1 _ | exact hh2.2.1 | decide) (by first | assumption | exact As _ _ | exact hh1.1 _ | exact hh2.1 _ | exact hh2.2.1 | decide) (by first | assumption | exact As _ _ | exact hh1.1 _ | exact hh2.1 _ | exact hh2.2.1 | decide)
   refine sS (.tuple #[uZ ((lo:Nat):Int),uZ ((hi:Nat):Int)]) (qf (λw=>Sc.step_c w (wd x k1) (wd y k2) (y2.1 (k1+k2)) y2.2 lo hi (by first | assumption | exact As _ _ | exact hh1.1 _ | exact hh2.1 _ | exact hh2.2.1 | decide) (by first | assumption | exact As _ _ | exact hh1.1 _ | exact hh2.1 _ | exact hh2.2.1 | decide) (by first | assumption | exact As _ _ | exact hh1.1 _ | exact hh2.1 _ | exact hh2.2.1 | decide) (by first | assumption | exact As _ _ | exact hh1.1 _ | exact hh2.1 _ | exact hh2.2.1 | decide) llo elo))<|sp U<|sp U<|sp U<|sS (.pointer (some ⟨g4,0+(k1+k2)*1,none⟩)) (Quiet.pure (A_ 212 _ _ _ g4 0 _ (k1+k2) 1 .i64 U U U Dl kF om))<|Sy.write kR 4 g4 212 (rw8 y2.1) (rw8 (upd y2.1 (k1+k2) lo)) kR (Writes.one (0+(k1+k2)*1) 24 (uZ ((lo:Nat):Int)) _ _ U kR kR kR U U (E3 _ (k:=k1+k2) om om) (E2 _ _ om om))<|sp U<|Sy.nil<|Sy.in_<|Sy.then_<|Sy.region<|sS (iZ (k2+1)) (qad U U U)<|sp U<|Sy.nil ?_
   have hin:=PM (Hz y2.1 (k1+k2) lo 8 om) hh2.2.2.1 elo (P0:=18446744073709551616 ^ k2) (by rw [Nat.add_comm,Nat.pow_add])
   exact Sy.againX ((upd y2.1 (k1+k2) lo,hi)) [true,true,true,true,true] om (⟨H2 hh2.1 llo,lhi,by rw [← Nat.add_assoc,Nat.pow_succ]; exact hin,λt ht=>(Lg om).trans (hh2.2.2.2 t ht)⟩) ZJ kR
end Fz
namespace Sc
open Go.RowKit Go.Lib
theorem EU (w:World) (x y lo hi:Nat) (hx:x<(2^256)) (hy:y<(2^256)) (hlo:lo<(2^256)) (_:hi<(2^256)) (he:lo+(2^256)*hi=x*y):Calls Tryz.prog 230 #[fv x,fv y] w λe w'=>e=.returned (.tuple #[fv lo,fv hi])∧Below w.heap.size w w' :=
 Fz.productZ w x y lo hi hx hy (hid hlo) (hid he)
end Sc
end
section
namespace Sc
open Go.RowKit Go.Lib
theorem Jz (s h l h' s':Nat) (hl:l+(2^256)*h'=h*432420386565659656852420866394968145599) (hs:s'=addP s l):(s'+(2^256)*h')%pM=(s+(2^256)*h)%pM:=by
 rw [hs,addP,Nat.mod_add_mod]
 refine EW (k:=h) ?_
 omega
theorem MJ (h:Nat) (_:h<(2^256)):∃ l h':Nat,l<(2^256)∧l+(2^256)*h'=h*432420386565659656852420866394968145599:=⟨h*432420386565659656852420866394968145599%(2^256),h*432420386565659656852420866394968145599 / (2^256),by omega,by omega⟩
theorem Yq (w:World) (g:Nat) (hg:g=432420386565659656852420866394968145599):Calls Tryz.prog 231 #[] w λe w'=>e=.returned (fv g)∧Below w.heap.size w w':=by
 subst hg; exact Wf w
theorem mulF_any (w:World) (x y:Nat) (hx:x<(2^256)) (hy:y<(2^256)):Calls Tryz.prog 190 #[fv x,fv y] w λe w'=>e=.returned (fv (mulP x y))∧Below w.heap.size w w':=by
 have hxy:x*y≤115792089237316195423570985008687907853269984665640564039457584007913129639935*115792089237316195423570985008687907853269984665640564039457584007913129639935:=Nat.mul_le_mul om om
 obtain ⟨s0,h0,ls0,lh0,e0⟩:∃ lo hi:Nat,lo<(2^256)∧hi<(2^256)∧lo+(2^256)*hi=x*y:=⟨x*y%(2^256),x*y / (2^256),by omega,by omega,by omega⟩
 obtain ⟨l1,h1,ll1,e1⟩:=MJ h0 lh0
 have lh1:h1≤432420386565659656852420866394968145599:=om
 obtain ⟨l2,h2,ll2,e2⟩:=MJ h1 om
 have lh2:h2≤2:=om
 obtain ⟨l3,h3,ll3,e3⟩:=MJ h2 om
 have lh3:h3=0:=om
 obtain ⟨s1,hs1⟩:=xE (addP s0 l1)
 obtain ⟨s2,hs2⟩:=xE (addP s1 l2)
 obtain ⟨s3,hs3⟩:=xE (addP s2 l3)
 have ls1:s1<(2^256):=by rw [hs1]; exact Q1 _ _
 have ls2:s2<(2^256):=by rw [hs2]; exact Q1 _ _
 have hfin:mulP x y=s3:=by
  have q1:=Jz s0 h0 l1 h1 s1 e1 hs1
  have q2:=Jz s1 h1 l2 h2 s2 e2 hs2
  have q3:=Jz s2 h2 l3 h3 s3 e3 hs3
  rw [q2,q1,e0,lh3,Nat.mul_zero,Nat.add_zero] at q3
  have:s3%pM=s3:=by rw [hs3,addP,Nat.mod_mod]
  rw [mulP, ← q3,this]
 obtain ⟨g,hg⟩:∃ g,g=432420386565659656852420866394968145599:=⟨_,rfl⟩
 have cg:=λw=>Yq w g hg
 have cp:=λw=>EU w x y s0 h0 hx hy ls0 lh0 e0
 have p1:=λw=>EU w h0 g l1 h1 lh0 om ll1 om (by rw [hg]; exact e1)
 have p2:=λw=>EU w h1 g l2 h2 om om ll2 om (by rw [hg]; exact e2)
 have p3:=λw=>EU w h2 g l3 h3 om om ll3 om (by rw [hg]; exact e3)
 have c1:∀ w,Calls Tryz.prog 100 #[fv s0,fv l1] w λe w'=>e=.returned (fv s1)∧Below w.heap.size w w':=by
  intro w; rw [hs1]; exact E0 w s0 l1 ls0 ll1
 have c2:∀ w,Calls Tryz.prog 100 #[fv s1,fv l2] w λe w'=>e=.returned (fv s2)∧Below w.heap.size w w':=by
  intro w; rw [hs2]; exact E0 w s1 l2 ls1 ll2
 have c3:∀ w,Calls Tryz.prog 100 #[fv s2,fv l3] w λe w'=>e=.returned (fv s3)∧Below w.heap.size w w':=by
  intro w; rw [hs3]; exact E0 w s2 l3 ls2 ll3
 rw [hfin]
 obtain ⟨x0,x1,x2,x3,fx⟩:=Ae x hx
 obtain ⟨y0,y1,y2,y3,fy⟩:=Ae y hy
 have FX:=Lib.hid fx
 have FY:=Lib.hid fy
 rw [fx,fy]
 clear fx fy hx hy hxy ls0 lh0 e0 ll1 e1 lh1 ll2 e2 lh2 ll3 e3 lh3 hs1 hs2 hs3 ls1 ls2 hfin hg
 go_enter Tryz.func190,Tryz.ntmps190
 go_wp2_with (first | ((with_reducible refine AD (d:=some 9) ?_); refine AB U _ _ U w.heap.size rfl x _ _ _ (((Blk.new w _ _).alloc _).alloc _) FX.out Au U kZ ?_) | ((with_reducible refine AD (d:=some 10) ?_); refine AB U _ _ U (w.heap.size+1) rfl y _ _ _ ((AZ w _ _ _).alloc _) FY.out Au U kZ ?_))
 refine (cp _).mono ?_
 rintro e w1 ⟨rfl,k1⟩
 have BR:Blk w1 (w.heap.size+2) 26 _:=Gr.blk k1 (Ax w _ _ _ _)
 have hB:=Below.gr (Ac w _ _ _) k1
 have sz:w.heap.size+2<w1.heap.size:=BR.lt
 clear k1 cp
 go_wp2_with (first | ((with_reducible refine AE ?_); refine AA U _ _ _ U w1.heap.size (fcs s0) U U _ _ ((Blk.new w1 _ _).alloc _) kZ (by rfl) (AG _) ?_; intro w2 hL2 hB2' hK2; have CR2:=hK2 _ om _ _ ((BR.alloc _).alloc _); have CH2:=hK2 _ om _ _ (AZ w1 _ _ _); have hB2:=((hB.alloc om _).alloc (by simp <;> omega) _).trans (hB2' _ om)) | ((with_reducible refine AE ?_); refine AA U _ _ _ U (w1.heap.size+1) (fcs h0) U U _ _ CH2 kZ (by rfl) (AG _) ?_; intro w3 hL3 hB3' hK3; have CR3:=hK3 _ om _ _ CR2; have CS3:=hK3 _ om _ _ hL2; have hB3:=hB2.trans (hB3' _ om)))
 go_loopw [14] (λi wr=>Below w.heap.size w wr∧Blk wr (w.heap.size+2) 26 #[.int .u64 0,.int .u64 0,.int .u64 0,.int .u64 0]∧Hid ((i=.int .i64 0∧Blk wr w1.heap.size 26 (fcs s0)∧Blk wr (w1.heap.size+1) 26 (fcs h0))∨(i=.int .i64 1∧Blk wr w1.heap.size 26 (fcs s1)∧Blk wr (w1.heap.size+1) 26 (fcs h1))∨(i=.int .i64 2∧Blk wr w1.heap.size 26 (fcs s2)∧Blk wr (w1.heap.size+1) 26 (fcs h2))∨(i=.int .i64 3∧Blk wr w1.heap.size 26 (fcs s3)∧Blk wr (w1.heap.size+1) 26 (fcs h3)))) (λi _=>3 - (intOf i).toNat)
 case atStart=>exact ⟨hB3,CR3,Lib.hid (.inl ⟨rfl,CS3,hL3⟩)⟩
 case round =>
  obtain ⟨hb,CR,HI⟩:=hrel
  rcases HI.out with ⟨rfl,BS,BH⟩ | ⟨rfl,BS,BH⟩ | ⟨rfl,BS,BH⟩ | ⟨rfl,BS,BH⟩
  ·clear HI
   have szr:w1.heap.size+1<wr.heap.size:=BH.lt
   go_wp2
   refine AJ (λj=>j == 6 || j == 7) kZ ?_
   try simp only [Act.put]
   refine tkw 0 U (YieldsG.loadF (by rfl) _ _ U (w1.heap.size+1) rfl h0 _ _ (BH.alloc _) (AU _) Au U kZ) ?_
   try simp only [aPS]
   refine tkw 1 U (YieldsG.call (v:=fv g) (by rfl) 231 _ (λw9=>by go_simp; try rfl) (λw9 h9=>cg w9)) ?_
   try simp only [aPS]
   refine tkw 2 U (YieldsG.call (v:=.tuple #[fv l1,fv h1]) (by rfl) 230 _ (λw9=>by go_simp; try rfl) (λw9 h9=>p1 w9)) ?_
   try simp only [aPS]
   refine tk 3 U ?_
   refine tk 4 U ?_
   try simp only [aPS]
   refine Aa 5 U kZ (λ_ _ _ h=>h) (λ_=>YieldsG.pure (by rfl) (λw9 _=>by go_simp; try with_reducible rfl)) ?_
   try simp only [aPS]
   refine Ba 6 U kZ (by rfl) _ _ _ U wr.heap.size (fcs l1) rfl U _ _ (Blk.new wr _ _) kZ (by rfl) (AG _) rfl (λu1 g1 v1 hB1 hK1 hL1=>?_)
   try simp only [Act.put]
   have BH1:=hK1 _ om _ _ (Gr.blk g1 (BH.alloc _))
   have BS1:=hK1 _ om _ _ (Gr.blk g1 (BS.alloc _))
   have CR1:=hK1 _ om _ _ (Gr.blk g1 (CR.alloc _))
   have hb1:=(Below.gr (hb.alloc om _) g1).trans (hB1 _ om)
   refine Ba 7 U kZ (by rfl) _ _ _ U (w1.heap.size+1) (fcs h1) rfl U _ _ BH1 kZ (by rfl) (AG _) rfl (λu2 g2 v2 hB2 hK2 hL2=>?_)
   try simp only [Act.put]
   have BL2:=hK2 _ om _ _ (Gr.blk g2 hL1)
   have BS2:=hK2 _ om _ _ (Gr.blk g2 BS1)
   have CR2:=hK2 _ om _ _ (Gr.blk g2 CR1)
   have hb2:=(Below.gr hb1 g2).trans (hB2 _ om)
   refine AH kZ (λv hv=>?_)
   have DH:=Gr.blk hv hL2
   have DL:=Gr.blk hv BL2
   have DS:=Gr.blk hv BS2
   have DR:=Gr.blk hv CR2
   have hbv:=Below.gr hb2 hv
   clear hv g1 g2 BH1 BS1 CR1 hb1 BL2 BS2 CR2 hb2 hL1 hL2 hB1 hB2 hK1 hK2
   go_wp2_with (first | ((with_reducible refine AD (d:=some 22) ?_); refine AB U _ _ U w1.heap.size rfl s0 _ _ _ DS (AU _) Au U kZ ?_) | ((with_reducible refine AD (d:=some 23) ?_); refine AB U _ _ U wr.heap.size rfl l1 _ _ _ DL (AU _) Au U kZ ?_))
   refine (c1 _).mono ?_
   rintro e y1 ⟨rfl,k1⟩
   have EH:=Gr.blk k1 DH
   have ES:=Gr.blk k1 DS
   have ER:=Gr.blk k1 DR
   have hby:=Below.gr hbv k1
   clear k1
   go_wp2_with ((with_reducible refine AE ?_); refine AA U _ _ _ U w1.heap.size (fcs s1) U U _ _ ES kZ (by rfl) (AG _) ?_; intro y2 hLy hBy hKy)
   exact ⟨⟨hby.trans (hBy _ om),hKy _ om _ _ ER,Lib.hid (.inr (.inl (⟨rfl,hLy,hKy _ om _ _ EH⟩)))⟩,by decide⟩
  ·clear HI
   have szr:w1.heap.size+1<wr.heap.size:=BH.lt
   go_wp2
   refine AJ (λj=>j == 6 || j == 7) kZ ?_
   try simp only [Act.put]
   refine tkw 0 U (YieldsG.loadF (by rfl) _ _ U (w1.heap.size+1) rfl h1 _ _ (BH.alloc _) (AU _) Au U kZ) ?_
   try simp only [aPS]
   refine tkw 1 U (YieldsG.call (v:=fv g) (by rfl) 231 _ (λw9=>by go_simp; try rfl) (λw9 h9=>cg w9)) ?_
   try simp only [aPS]
   refine tkw 2 U (YieldsG.call (v:=.tuple #[fv l2,fv h2]) (by rfl) 230 _ (λw9=>by go_simp; try rfl) (λw9 h9=>p2 w9)) ?_
   try simp only [aPS]
   refine tk 3 U ?_
   refine tk 4 U ?_
   try simp only [aPS]
   refine Aa 5 U kZ (λ_ _ _ h=>h) (λ_=>YieldsG.pure (by rfl) (λw9 _=>by go_simp; try with_reducible rfl)) ?_
   try simp only [aPS]
   refine Ba 6 U kZ (by rfl) _ _ _ U wr.heap.size (fcs l2) rfl U _ _ (Blk.new wr _ _) kZ (by rfl) (AG _) rfl (λu1 g1 v1 hB1 hK1 hL1=>?_)
   try simp only [Act.put]
   have BH1:=hK1 _ om _ _ (Gr.blk g1 (BH.alloc _))
   have BS1:=hK1 _ om _ _ (Gr.blk g1 (BS.alloc _))
   have CR1:=hK1 _ om _ _ (Gr.blk g1 (CR.alloc _))
   have hb1:=(Below.gr (hb.alloc om _) g1).trans (hB1 _ om)
   refine Ba 7 U kZ (by rfl) _ _ _ U (w1.heap.size+1) (fcs h2) rfl U _ _ BH1 kZ (by rfl) (AG _) rfl (λu2 g2 v2 hB2 hK2 hL2=>?_)
   try simp only [Act.put]
   have BL2:=hK2 _ om _ _ (Gr.blk g2 hL1)
   have BS2:=hK2 _ om _ _ (Gr.blk g2 BS1)
   have CR2:=hK2 _ om _ _ (Gr.blk g2 CR1)
   have hb2:=(Below.gr hb1 g2).trans (hB2 _ om)
   refine AH kZ (λv hv=>?_)
   have DH:=Gr.blk hv hL2
   have DL:=Gr.blk hv BL2
   have DS:=Gr.blk hv BS2
   have DR:=Gr.blk hv CR2
   have hbv:=Below.gr hb2 hv
   clear hv g1 g2 BH1 BS1 CR1 hb1 BL2 BS2 CR2 hb2 hL1 hL2 hB1 hB2 hK1 hK2
   go_wp2_with (first | ((with_reducible refine AD (d:=some 22) ?_); refine AB U _ _ U w1.heap.size rfl s1 _ _ _ DS (AU _) Au U kZ ?_) | ((with_reducible refine AD (d:=some 23) ?_); refine AB U _ _ U wr.heap.size rfl l2 _ _ _ DL (AU _) Au U kZ ?_))
   refine (c2 _).mono ?_
   rintro e y1 ⟨rfl,k1⟩
   have EH:=Gr.blk k1 DH
   have ES:=Gr.blk k1 DS
   have ER:=Gr.blk k1 DR
   have hby:=Below.gr hbv k1
   clear k1
   go_wp2_with ((with_reducible refine AE ?_); refine AA U _ _ _ U w1.heap.size (fcs s2) U U _ _ ES kZ (by rfl) (AG _) ?_; intro y2 hLy hBy hKy)
   exact ⟨⟨hby.trans (hBy _ om),hKy _ om _ _ ER,Lib.hid (.inr (.inr (.inl (⟨rfl,hLy,hKy _ om _ _ EH⟩))))⟩,by decide⟩
  ·clear HI
   have szr:w1.heap.size+1<wr.heap.size:=BH.lt
   go_wp2
   refine AJ (λj=>j == 6 || j == 7) kZ ?_
   try simp only [Act.put]
   refine tkw 0 U (YieldsG.loadF (by rfl) _ _ U (w1.heap.size+1) rfl h2 _ _ (BH.alloc _) (AU _) Au U kZ) ?_
   try simp only [aPS]
   refine tkw 1 U (YieldsG.call (v:=fv g) (by rfl) 231 _ (λw9=>by go_simp; try rfl) (λw9 h9=>cg w9)) ?_
   try simp only [aPS]
   refine tkw 2 U (YieldsG.call (v:=.tuple #[fv l3,fv h3]) (by rfl) 230 _ (λw9=>by go_simp; try rfl) (λw9 h9=>p3 w9)) ?_
   try simp only [aPS]
   refine tk 3 U ?_
   refine tk 4 U ?_
   try simp only [aPS]
   refine Aa 5 U kZ (λ_ _ _ h=>h) (λ_=>YieldsG.pure (by rfl) (λw9 _=>by go_simp; try with_reducible rfl)) ?_
   try simp only [aPS]
   refine Ba 6 U kZ (by rfl) _ _ _ U wr.heap.size (fcs l3) rfl U _ _ (Blk.new wr _ _) kZ (by rfl) (AG _) rfl (λu1 g1 v1 hB1 hK1 hL1=>?_)
   try simp only [Act.put]
   have BH1:=hK1 _ om _ _ (Gr.blk g1 (BH.alloc _))
   have BS1:=hK1 _ om _ _ (Gr.blk g1 (BS.alloc _))
   have CR1:=hK1 _ om _ _ (Gr.blk g1 (CR.alloc _))
   have hb1:=(Below.gr (hb.alloc om _) g1).trans (hB1 _ om)
   refine Ba 7 U kZ (by rfl) _ _ _ U (w1.heap.size+1) (fcs h3) rfl U _ _ BH1 kZ (by rfl) (AG _) rfl (λu2 g2 v2 hB2 hK2 hL2=>?_)
   try simp only [Act.put]
   have BL2:=hK2 _ om _ _ (Gr.blk g2 hL1)
   have BS2:=hK2 _ om _ _ (Gr.blk g2 BS1)
   have CR2:=hK2 _ om _ _ (Gr.blk g2 CR1)
   have hb2:=(Below.gr hb1 g2).trans (hB2 _ om)
   refine AH kZ (λv hv=>?_)
   have DH:=Gr.blk hv hL2
   have DL:=Gr.blk hv BL2
   have DS:=Gr.blk hv BS2
   have DR:=Gr.blk hv CR2
   have hbv:=Below.gr hb2 hv
   clear hv g1 g2 BH1 BS1 CR1 hb1 BL2 BS2 CR2 hb2 hL1 hL2 hB1 hB2 hK1 hK2
   go_wp2_with (first | ((with_reducible refine AD (d:=some 22) ?_); refine AB U _ _ U w1.heap.size rfl s2 _ _ _ DS (AU _) Au U kZ ?_) | ((with_reducible refine AD (d:=some 23) ?_); refine AB U _ _ U wr.heap.size rfl l3 _ _ _ DL (AU _) Au U kZ ?_))
   refine (c3 _).mono ?_
   rintro e y1 ⟨rfl,k1⟩
   have EH:=Gr.blk k1 DH
   have ES:=Gr.blk k1 DS
   have ER:=Gr.blk k1 DR
   have hby:=Below.gr hbv k1
   clear k1
   go_wp2_with ((with_reducible refine AE ?_); refine AA U _ _ _ U w1.heap.size (fcs s3) U U _ _ ES kZ (by rfl) (AG _) ?_; intro y2 hLy hBy hKy)
   exact ⟨⟨hby.trans (hBy _ om),hKy _ om _ _ ER,Lib.hid (.inr (.inr (.inr (⟨rfl,hLy,hKy _ om _ _ EH⟩))))⟩,by decide⟩
  ·clear HI
   go_wp2_with (first | ((with_reducible refine AD (d:=some 26) ?_); refine AB U _ _ U w1.heap.size rfl s3 _ _ _ BS (AU _) Au U kZ ?_) | ((with_reducible refine AE ?_); refine AA U _ _ _ U (w.heap.size+2) (fcs s3) U U _ _ CR kZ (by rfl) (AG _) ?_; intro w9 hL9 hB9 hK9))
   exact bodyPost_ret (results_cell_row U _ _ (w.heap.size+2) _ _ (0,0) _ U hL9 Au U kZ) rfl ⟨rfl,hb.trans (hB9 _ om)⟩
end Sc
end
section
namespace Sh
open Go.RowKit Sp
theorem UB (w : World) (n : Nat) (h0 : 0 < n) (hn : n ≤ 1000000) :
    Calls Tryz.prog 161 #[.slice none 0 0,.int .i64 n] w λe w'=>∃ v,e=.returned v∧OwnB w' w.heap.size v []∧Below w.heap.size w w':=by
  obtain ⟨i,hi,hz0,hz1,hz2⟩:=info_parts Nj
  have q0:(0:Int)<(n:Int):=om
  have q1:(n:Int)≤1000000:=om
  have hrun:∀ ty,(Builtin.append_ #[29,3] ty #[.slice none 0 0,.int .i64 n]).run Tryz.prog w=_:=λty =>
    Lib.run_append_nil_zeros w 29 3 ty 5 i (.int .u8 0) .i64 .i64 EM uy3 hi hz0 n h0 om om (by rw [hz2]; omega)
  have HI:=Lib.hid hrun
  clear hrun hi hz0 hz1 hz2
  have hcap:=grownCap_ge w n 0 5
  have hcap2:grownCap w n 0 5≤9223372036854775807:=by have:=grownCap_le_maxLen w n 0 5 (by simp [maxLen]; omega); simpa [maxLen] using this
  obtain ⟨c,hc⟩:=xE (grownCap w n 0 5)
  rw [← hc] at hcap hcap2
  have HCc:=Lib.hid hc
  clear hc
  go_enter Tryz.func161,Tryz.ntmps161
  go_wp2_with (at_builtin; refine Lib.wpList_append_run _ U _ _ _ _ U _ _ U U _ _ (HI.out _) ?_)
  rw [← HCc.out]
  go_wp2
  go_ret
  refine ⟨_,rfl,?_,?_⟩
  · have h:=World.ownsRow_made (base:=w.heap.size) (e:=5) (size:=1) w.drew (Builtin.zeroCells (Value.int .u8 0).cells n++Builtin.zeroCells (Value.int .u8 0).cells (c - n)) c (by simp) (by simpa [maxLen] using hcap2) (by simp [size_zeroCells,Value.cells]; omega)
    exact h
  · exact ((Below.refl _ _).drew).alloc (Nat.le_refl _) _
theorem concat_any (w : World) (T : Option Addr) (ts : List Tx) (ct : Nat) (hT : Texts w T ts) (h0 : 0 < (cat ts).length) (hm : (cat ts).length ≤ 1000000) (hn : ts.length ≤ 1000000) :
    Calls Tryz.prog 99 #[.slice T ts.length ct] w λe w'=>∃ v,e=.returned v∧OwnB w' w.heap.size v (cat ts)∧Below w.heap.size w w':=by
  have HT:=Lib.hid hT
  clear hT
  obtain ⟨M,hM⟩:=xE ((cat ts).length)
  rw [← hM] at h0 hm
  have HM:=Lib.hid hM
  clear hM
  have q0:(0:Int)<(M:Int):=om
  have q1:(M:Int)≤1000000:=om
  go_enter Tryz.func99,Tryz.ntmps99
  go_wp2
  go_loopw [3,11] (λs i wr=>∃ k z:Nat,k≤ts.length∧i=.int .i64 k∧s=.int .i64 z∧z=(cat (ts.take k)).length∧wr=w)
    (λ_ i _=>ts.length - (intOf i).toNat)
  case atStart=>exact ⟨0,0,Nat.zero_le _,rfl,rfl,rfl,rfl⟩
  case round =>
    obtain ⟨k,z,hk,rfl,rfl,hz,hw⟩:=hrel
    have hw':=hw.symm
    clear hw
    subst hw'
    have hzM:z≤M:=by rw [hz,HM.out]; exact Ul ts k
    have HZ:=Lib.hid hz
    clear hz
    by_cases hlt:k<ts.length
    · obtain ⟨x,hx⟩:∃ x,ts[k]? = some x:=⟨ts[k],List.getElem?_eq_getElem hlt⟩
      obtain ⟨b,o,rfl,hbl,htx⟩:=HT.out (λe=>by rw [e] at hlt; exact absurd hlt (Nat.not_lt_zero _))
      have hc:w.cell? ⟨b,o+k,none⟩=some (.slice x.A x.l.length x.c):=(htx k x hx).1
      obtain ⟨L,hL⟩:=xE x.l.length
      rw [← hL] at hc
      have hlx:z+L≤M:=by rw [HZ.out,HM.out,hL]; exact Hp ts k x hx
      have q2:(0:Int)≤(z:Int):=om
      have q3:(0:Int)≤(L:Int):=om
      have q4:(z:Int)+(L:Int)≤1000000:=om
      have HX:=Lib.hid (And.intro hx hL)
      clear hx htx hL
      go_wp2
      go_roundw
      case rel=>exact ⟨k+1,z+L,by omega,by go_num,by go_num,by rw [F7 ts k x HX.out.1,List.length_append, ← HZ.out, ← HX.out.2],by first | trivial | rfl⟩
      case measure=>simp [intOf]; omega
    · obtain rfl : k = ts.length := by omega
      obtain rfl:z=M:=by rw [HZ.out,HM.out,List.take_length]
      clear hlt
      go_wp2_with fail
      refine (UB w z om hm).mono ?_
      rintro e w1 ⟨v,rfl,hown,hb⟩
      go_wp2
      go_loopw [6,27] (λv i wq=>∃ (k:Nat) (v0:Value),k≤ts.length∧v0=v∧i=.int .i64 k∧OwnB wq w.heap.size v0 (cat (ts.take k))∧Below w.heap.size w wq)
        (λ_ i _=>ts.length - (intOf i).toNat)
      case atStart=>exact ⟨0,_,Nat.zero_le _,rfl,rfl,hown,hb⟩
      case round =>
        clear hown hb
        obtain ⟨k,v0,hk,rfl,rfl,hown,hb⟩:=hrel
        by_cases hlt:k<ts.length
        · obtain ⟨x, hx⟩ : ∃ x, ts[k]? = some x := ⟨ts[k], List.getElem?_eq_getElem hlt⟩
          obtain ⟨b,o,rfl,hbl,htx⟩:=HT.out (λe=>by rw [e] at hlt; exact absurd hlt (Nat.not_lt_zero _))
          have hc:wr.cell? ⟨b,o+k,none⟩=some (.slice x.A x.l.length x.c):=(hb.cell (p:=⟨b,o+k,none⟩) hbl).trans (htx k x hx).1
          have hok:=(htx k x hx).2.below hb
          have hlx:=Hp ts k x hx
          have HX:=Lib.hid (And.intro hx (And.intro hok hlx))
          clear hx htx hok hlx
          go_wp2_with (at_builtin
                       refine A5 U (.tmp 31) (.tmp 32) rfl w.heap.size v0 (cat (ts.take k)) U hown x.A x.l x.c U HX.out.2.1.1 (by have:=HX.out.2.2; have:=HM.out; omega) hb.size ?_
                       intro v7 w7 hv7 hg7
                       have hb7:=Ct hb hown hg7 (Nat.le_refl _) hb.size)
          go_roundw
          case rel=>exact ⟨k+1,v7,by omega,rfl,by go_num,by rw [F7 ts k x HX.out.1]; exact hv7,hb7⟩
          case measure=>simp [intOf]; omega
        · obtain rfl:k=ts.length:=om
          rw [List.take_length] at hown
          go_wp2
          go_ret
          exact ⟨_,rfl,hown,hb⟩
end Sh
end
section
namespace Cu
open Go.RowKit Sy
section
variable {P:Program} {w0:Base} {n:Nat} {F:AO} {L:AC}
theorem RR {w1:World} {fn:Func} {r:ResultVar} {v:Value} {R:Value→AC→Prop} (i:Nat) (b:Nat×TypeId×Array Value) (hr:fn.results=#[r]) (h:Has P F L r v) (hb:L[i]? = some b) (hR:R v [b]):X (Base.of w1) n (bodyPost P fn (GetsN w1 R)) F L .ret:=λa w ha hw=>by
 refine bodyPost_ret (v:=v) ?_ ha.1 ⟨v,[b],rfl,hR,hw.below,λg t cs hm=>?_,by simp⟩
 ·rcases Res.run h ha hw with ⟨t,rfl,e1⟩ | ⟨t,ty,ad,rfl,e1,e2⟩ <;> simp [results,Result.andThen, *]
 ·obtain rfl:=List.mem_singleton.1 hm
  exact hw.blk _ _ _ (List.mem_of_getElem? hb)
end
end Cu
end
section
section
open Go.RowKit Go.Lib
theorem NX (w:World) (g cap:Nat) (l:AF) (hl:l.length=32) (hg:g<w.heap.size) (hcell:∀ j u,l[j]? = some u→w.cell? ⟨g,j,none⟩=some (bv u)) (_:32≤cap) (_:cap≤9223372036854775807):Calls Tryz.prog 65 #[.slice (pA g) 32 cap] w λe w'=>e=.returned (fv (A2 l))∧Below w.heap.size w w':=by
 have HL:=Lib.hid hl
 have HG:=Lib.hid hcell
 clear hl hcell
 go_enter Tryz.func65,Tryz.ntmps65
 go_wp2_with fail
 go_loopw [4] (λi wr=>∃ k y0 y1 y2 y3:Nat,k≤32∧i=.int .i64 (k:Int)∧Hid (y0=wdB l k 0∧y1=wdB l k 1∧y2=wdB l k 2∧y3=wdB l k 3)∧Below w.heap.size w wr∧Blk wr (w.heap.size+1) 87 #[.int .u64 (y3:Int),.int .u64 (y2:Int),.int .u64 (y1:Int),.int .u64 (y0:Int)]∧Blk wr w.heap.size 87 #[.int .u64 0,.int .u64 0,.int .u64 0,.int .u64 0]) (λi _=>32 - (intOf i).toNat)
 case atStart=>exact ⟨0,0,0,0,0,by omega,rfl,Lib.hid ⟨(CS l 0).symm,(CS l 1).symm,(CS l 2).symm,(CS l 3).symm⟩,Ad w _ _,AZ w _ _ _,(Blk.new w _ _).alloc _⟩
 case round =>
  obtain ⟨k,y0,y1,y2,y3,hk,rfl,HY,hb,hP,hR⟩:=hrel
  have q3:wr.cell? ⟨w.heap.size+1,0,none⟩=some (.int .u64 (y3:Int)):=hP.cell 0
  have q2:wr.cell? ⟨w.heap.size+1,1,none⟩=some (.int .u64 (y2:Int)):=hP.cell 1
  have q1:wr.cell? ⟨w.heap.size+1,2,none⟩=some (.int .u64 (y1:Int)):=hP.cell 2
  have q0:wr.cell? ⟨w.heap.size+1,3,none⟩=some (.int .u64 (y0:Int)):=hP.cell 3
  have ff:∀ j,wr.frozen? ⟨w.heap.size+1,j,none⟩=false:=λj=>hP.frozen j
  by_cases hlt:k<32
  ·obtain ⟨c,hc⟩:∃ c,l[k]? = some c:=⟨l[k]'(by rw [HL.out]; exact hlt),List.getElem?_eq_getElem _⟩
   have HC:=Lib.hid hc
   obtain ⟨m,hm⟩:=xE c.toNat
   have hm8:m<256:=by rw [hm]; exact c.toNat_lt
   have hI:wr.cell? ⟨g,k,none⟩=some (.int .u8 (m:Int)):=by
    rw [hm]
    exact (hb.cell (p:=⟨g,k,none⟩) hg).trans (HG.out k c hc)
   have HM:=Lib.hid hm
   have HR:=Lib.hid (And.intro hb (And.intro hP hR))
   clear hb hP hR hc hk hm
   rcases (EG k) with rfl|rfl|rfl|rfl|rfl|rfl|rfl|rfl|rfl|rfl|rfl|rfl|rfl|rfl|rfl|rfl|rfl|rfl|rfl|rfl|rfl|rfl|rfl|rfl|rfl|rfl|rfl|rfl|rfl|rfl|rfl|rfl
   all_goals
    first
    | ((have hy:y0<72057594037927936:=by rw [HY.out.1]; exact Dj l _ 0 dZ); go_wp2; go_region; all_goals go_wp2; all_goals (refine ⟨⟨_,y0*256+m,y1,y2,y3,by decide,rfl,Lib.hid ⟨by rw [HY.out.1,HM.out]; exact (CT l _ 0 c HC.out dZ).symm,by rw [HY.out.2.1]; exact (Aj l _ 1 dZ).symm,by rw [HY.out.2.2.1]; exact (Aj l _ 2 dZ).symm,by rw [HY.out.2.2.2]; exact (Aj l _ 3 dZ).symm⟩,(HR.out.1.setCell (by show w.heap.size≤w.heap.size+1; omega) _).drew,Blk.drew (Blk.eq_ (HR.out.2.1.set_ 3 _) (by rw [show ((y0*256+m:Nat):Int)=(y0:Int)*256+(m:Int) by omega]; rfl)),Blk.drew (HR.out.2.2.far (by show w.heap.size≠w.heap.size+1; omega) _)⟩,by simp [intOf]⟩))
    | ((have hy:y1<72057594037927936:=by rw [HY.out.2.1]; exact Dj l _ 1 dZ); go_wp2; go_region; all_goals go_wp2; all_goals (refine ⟨⟨_,y0,y1*256+m,y2,y3,by decide,rfl,Lib.hid ⟨by rw [HY.out.1]; exact (Aj l _ 0 dZ).symm,by rw [HY.out.2.1,HM.out]; exact (CT l _ 1 c HC.out dZ).symm,by rw [HY.out.2.2.1]; exact (Aj l _ 2 dZ).symm,by rw [HY.out.2.2.2]; exact (Aj l _ 3 dZ).symm⟩,(HR.out.1.setCell (by show w.heap.size≤w.heap.size+1; omega) _).drew,Blk.drew (Blk.eq_ (HR.out.2.1.set_ 2 _) (by rw [show ((y1*256+m:Nat):Int)=(y1:Int)*256+(m:Int) by omega]; rfl)),Blk.drew (HR.out.2.2.far (by show w.heap.size≠w.heap.size+1; omega) _)⟩,by simp [intOf]⟩))
    | ((have hy:y2<72057594037927936:=by rw [HY.out.2.2.1]; exact Dj l _ 2 dZ); go_wp2; go_region; all_goals go_wp2; all_goals (refine ⟨⟨_,y0,y1,y2*256+m,y3,by decide,rfl,Lib.hid ⟨by rw [HY.out.1]; exact (Aj l _ 0 dZ).symm,by rw [HY.out.2.1]; exact (Aj l _ 1 dZ).symm,by rw [HY.out.2.2.1,HM.out]; exact (CT l _ 2 c HC.out dZ).symm,by rw [HY.out.2.2.2]; exact (Aj l _ 3 dZ).symm⟩,(HR.out.1.setCell (by show w.heap.size≤w.heap.size+1; omega) _).drew,Blk.drew (Blk.eq_ (HR.out.2.1.set_ 1 _) (by rw [show ((y2*256+m:Nat):Int)=(y2:Int)*256+(m:Int) by omega]; rfl)),Blk.drew (HR.out.2.2.far (by show w.heap.size≠w.heap.size+1; omega) _)⟩,by simp [intOf]⟩))
    | ((have hy:y3<72057594037927936:=by rw [HY.out.2.2.2]; exact Dj l _ 3 dZ); go_wp2; go_region; all_goals go_wp2; all_goals (refine ⟨⟨_,y0,y1,y2,y3*256+m,by decide,rfl,Lib.hid ⟨by rw [HY.out.1]; exact (Aj l _ 0 dZ).symm,by rw [HY.out.2.1]; exact (Aj l _ 1 dZ).symm,by rw [HY.out.2.2.1]; exact (Aj l _ 2 dZ).symm,by rw [HY.out.2.2.2,HM.out]; exact (CT l _ 3 c HC.out dZ).symm⟩,(HR.out.1.setCell (by show w.heap.size≤w.heap.size+1; omega) _).drew,Blk.drew (Blk.eq_ (HR.out.2.1.set_ 0 _) (by rw [show ((y3*256+m:Nat):Int)=(y3:Int)*256+(m:Int) by omega]; rfl)),Blk.drew (HR.out.2.2.far (by show w.heap.size≠w.heap.size+1; omega) _)⟩,by simp [intOf]⟩))
  ·have p1:¬ (k:Int)<32:=om
   obtain rfl:k=32:=om
   have b0:y0<18446744073709551616:=by rw [HY.out.1]; exact C1 l _ _
   have b1:y1<18446744073709551616:=by rw [HY.out.2.1]; exact C1 l _ _
   have b2:y2<18446744073709551616:=by rw [HY.out.2.2.1]; exact C1 l _ _
   have b3:y3<18446744073709551616:=by rw [HY.out.2.2.2]; exact C1 l _ _
   obtain ⟨z,hz⟩:=xE (y3+18446744073709551616*y2+340282366920938463463374607431768211456*y1+6277101735386680763835789423207666416102355444464034512896*y0)
   have fz:=DM y3 y2 y1 y0 b3 b2 b1 b0
   rw [← hz] at fz
   have hzv:A2 l=z:=by rw [Lc l HL.out,hz,HY.out.1,HY.out.2.1,HY.out.2.2.1,HY.out.2.2.2]
   have HZ:=Lib.hid hzv
   have FZ:=Lib.hid fz.symm
   have HP:=Lib.hid hP
   have HR:=Lib.hid hR
   clear HY b0 b1 b2 b3 hz fz hzv q0 q1 q2 q3 ff hP hR
   go_wp2_with (first | ((with_reducible refine AD (d:=some 31) ?_); refine AB U _ _ U (w.heap.size+1) rfl z _ _ _ HP.out FZ.out AM U kZ ?_) | ((with_reducible refine AE ?_); refine AA U _ _ _ U w.heap.size (fcs z) U U _ _ HR.out kZ (by rfl) (AG _) ?_; intro vz hLz hqz hKz))
   exact bodyPost_ret (results_cell_row U _ _ w.heap.size _ _ (0,0) _ U hLz AM U kZ) rfl ⟨by rw [HZ.out]; rfl,hb.trans (hqz _ om)⟩
end
end
section
namespace Cu
open Go.RowKit Sy
theorem Rf {w:World} {g:Nat} {t:TypeId} {m:AF} {sp:List Value} (hb:Blk w g t (m.map bv++sp).toArray) (j:Nat) (u:UInt8) (hj:m[j]? = some u):w.cell? ⟨g,j,none⟩=some (bv u):=by
 refine (hb.cell j).trans ?_
 have hl:=(List.getElem?_eq_some_iff.1 hj).1
 rw [List.getElem?_toArray,List.getElem?_append_left (by rw [List.length_map]; exact hl),List.getElem?_map,hj]
 rfl
theorem Rt (w:World) (l:AF) (hl:l.length=32):AY 107 #[.agg (l.map bv).toArray] w (Gets w (.tuple #[ptv (Ah l),.bool (A7 l)])):=by
 have hv:=Hy l hl
 refine Sy.enter (args:=[.agg (l.map bv).toArray]) Tryz.func107 U kL<|sC<|sM 146 (l.map bv).toArray (λg0=>?_)
 refine sM 37 (pcs 0 0 false) (λg1=>?_)
 refine sp U<|sA<|sp U<|sG<|Sy.seq<|sC<|sp U<|sG<|Sy.block<|Sy.loopN (31+1+1)<|Sy.round<|Sy.seq<|sC<|sp U<|sP (.bool true)<|sG<|sT<|Sy.skip<|Sy.then_<|Sy.seq<|Sy.block<|Sy.region<|sp U<|sp U<|sP (pT g0 0)<|sS (bv (l.getD 0 0)) (qy 0 0 U U uy5 (T4 l hl 0 dZ)) ?_
 refine Sy.make kR 5 #[bv (l.getD 0 0)] (λg=>.slice (pA g) 1 1) kF (λg2=>?_)
 refine Sy.appendNil kR 29 5 _ _ EM Qc U U U U _ _ U kR 2 g2 0 1 1 5 #[bv (l.getD 0 0)] [bv (l.getD 0 0)] kR kR kR U dZ (by intro u hu; simp only [List.mem_cons,List.not_mem_nil,or_false] at hu; subst hu; rfl) dZ (λq1 c1 s1 e1 m1=>?_)
 refine sp U<|Sy.nil<|Sy.in_<|Sy.then_<|Sy.region<|sp U<|sP (.int .i64 1)<|sp U<|Sy.nil<|Sy.again<|Sy.loopXR (T:=Nat×Nat×List Value) 31 (λk1 y1=>[(1,pT g0 0),(2,pT g1 0),(4,.slice (some ⟨y1.1,0,none⟩) (k1+1) y1.2.1),(5,iZ (k1+1))]) (λk1 y1=>[(g0,146,(l.map bv).toArray),(g1,37,(pcs 0 0 false)),(y1.1,5,((l.take k1).map bv++([bv (l.getD k1 0)]++y1.2.2)).toArray)]) (λk1 y1=>y1.2.2.length+(k1+1)=y1.2.1∧y1.2.1≤maxLen) (q1,c1,s1) [true,true,false,true] ⟨e1,m1⟩ ac4 kR (λk1 y1 hk1 hh1=>?_)
 refine Sy.seq<|sC<|sp U ?_
 obtain ⟨b1,hb1⟩:=xE (decide (k1+1<32))
 refine sS (.bool b1) (qls U U U hb1)<|sG ?_
 cases b1
 ·have lb1:=dN hb1
  refine sU<|Sy.exit<|Sy.then_exit<|Sy.then_exit ?_
  obtain rfl:k1=31:=om
  have hcp:32≤y1.2.1∧y1.2.1≤9223372036854775807:=by
   have q:=hh1
   simp only [maxLen] at q
   exact ⟨by omega,by omega⟩
  refine Sy.in_exit<|Sy.then_<|Sy.tidyC (G:=[(1,pT g0 0),(2,pT g1 0),(4,.slice (some ⟨y1.1,0,none⟩) 32 y1.2.1)]) (N:=[(g0,146,(l.map bv).toArray),(g1,37,(pcs 0 0 false)),(y1.1,5,(l.map bv++y1.2.2).toArray)]) [true,true,true] rfl (AW U (AW U (AW (beq (congrArg List.toArray (U2 l 31 hl))) U))) ac3<|sC<|sp U<|sS (fv (A2 l)) (qg (λw hw=>NX w y1.1 y1.2.1 l hl (hw.get (i:=2) rfl).lt (Rf (hw.get (i:=2) rfl)) hcp.1 hcp.2))<|sM 87 (fcs 0) (λg3=>?_)
  refine sw 3 U (fcs (A2 l)) (wA U)<|sA<|sS (fv (A2 l)) (qk 3 0 4 U U AM) ?_
  obtain ⟨z1,hz1⟩:∃ z:Nat,z=Ee (A2 l):=⟨_,rfl⟩
  have lz1:z1<K4:=by rw [hz1]; exact Ud _
  refine sS (fv z1) (qf (λw=>by rw [hz1]; exact Wt w (A2 l) lK)) ?_
  obtain ⟨r1,hr1⟩:∃ z:Nat,z=(B3 z1).1:=⟨_,rfl⟩
  obtain ⟨k1,hk1⟩:=xE ((B3 z1).2)
  have lr1:r1<K4:=by rw [hr1]; exact Ll _
  refine sS (.tuple #[fv r1,.bool k1]) (qf (λw=>by rw [hr1,hk1, ← VZ]; exact RF w z1 lK))<|sp U<|sp U<|sp U<|sM 87 (fcs 0) (λg4=>?_)
  refine sw 4 U (fcs r1) (wA U)<|sp U<|sH (λj=>false) ?_
  refine sD 0 U (.agg De) (qf Cl)<|sD 1 U (fv (A2 l)) (qk 3 0 4 U U AM) ?_
  obtain ⟨b2,hb2⟩:=xE (decide ((A2 l)<pM))
  refine sD 2 U (.bool b2) (qf (λw=>by rw [hb2]; exact Gf w (A2 l) lK))<|sz 3 U U<|sI<|Sy.seq<|sC<|sp U ?_
  cases k1
  ·refine sP (.bool true)<|sp U ?_
   refine sN<|sN<|sP (.bool true)<|sG<|sT<|sC<|sS (pv 0 0 true) (qf GB)<|sw 1 U (pcs 0 0 true) (wA U)<|sp U<|sG<|Sy.ret<|Sy.then_ret ?_
   rw [show (.tuple #[ptv (Ah l),.bool (A7 l)]:Value)=.tuple #[pv 0 0 true,.bool false] from by
    have hb:A7 l=false:=by unfold A7; rw [← hz1, ← hk1]; simp
    rw [hb,GM hb]; rfl]
   exact Sy.ret2 (v:=pv 0 0 true) (u:=.bool false) rfl (.inl (Res.cell (ty':=37) g1 1 (pcs 0 0 true) _ kR kR AX U kR kR)) (.inl (show _=_ by kernel_rfl))
  ·refine sP (.bool false)<|sp U<|sp U ?_
   cases b2
   ·refine sP (.bool true)<|sP (.bool true) ?_
    refine sG<|sT<|sC<|sS (pv 0 0 true) (qf GB)<|sw 1 U (pcs 0 0 true) (wA U)<|sp U<|sG<|Sy.ret<|Sy.then_ret ?_
    rw [show (.tuple #[ptv (Ah l),.bool (A7 l)]:Value)=.tuple #[pv 0 0 true,.bool false] from by
     have hb:A7 l=false:=by unfold A7; rw [← hb2]; simp
     rw [hb,GM hb]; rfl]
    exact Sy.ret2 (v:=pv 0 0 true) (u:=.bool false) rfl (.inl (Res.cell (ty':=37) g1 1 (pcs 0 0 true) _ kR kR AX U kR kR)) (.inl (show _=_ by kernel_rfl))
   ·refine sP (.bool false)<|sP (.bool false) ?_
    refine sG<|sU<|Sy.skip<|sB<|sS (fv (A2 l)) (qk 3 0 4 U U AM)<|sS (fv r1) (qk 4 0 4 U U AM)<|sS (pv (A2 l) r1 false) (qf (λw=>G8 w (A2 l) r1 lK lK))<|sw 1 U (pcs (A2 l) r1 false) (wA U)<|sp U<|sG<|Sy.ret ?_
    rw [show (.tuple #[ptv (Ah l),.bool (A7 l)]:Value)=.tuple #[pv (A2 l) r1 false,.bool true] from by
     have hb:A7 l=true:=by unfold A7; rw [← hz1, ← hk1, ← hb2]; rfl
     obtain ⟨u2,y2,e1,e2,e3,_,_⟩:=Fx hb
     rw [hb,e3]
     unfold ptv
     simp only
     rw [e1,e2, ← hz1, ← hr1]]
    exact Sy.ret2 (v:=pv (A2 l) r1 false) (u:=.bool true) rfl (.inl (Res.cell (ty':=37) g1 1 (pcs (A2 l) r1 false) _ kR kR AX U kR kR)) (.inl (show _=_ by kernel_rfl))
 ·have lb1:=dY hb1
  refine sT<|Sy.skip<|Sy.then_<|Sy.seq<|Sy.block<|Sy.region<|sp U<|sp U<|sS (.pointer (some ⟨g0,0+(k1+1)*1,none⟩)) (Quiet.pure (A_ 146 _ _ _ g0 0 _ (k1+1) 1 .i64 U U U Kj kF om))<|sS (bv (l.getD (k1+1) 0)) (qy 0 (0+(k1+1)*1) rfl U uy5 (WT hl (k:=k1+1) om om))<|Sy.make kR 5 #[bv (l.getD (k1+1) 0)] (λg=>.slice (pA g) 1 1) kF (λg5=>?_)
  refine Sy.append kR 29 5 _ _ EM Qc U U U U _ _ U 2 y1.1 (k1+1) y1.2.1 ((l.take k1).map bv++([bv (l.getD k1 0)]++y1.2.2)).toArray ((l.take (k1+1)).map bv) kR kR (U0 l k1 hl y1.2.2 om) (XC l k1 hl om) (U1 l k1 hl y1.2.2 hh1.1 om) hh1.2 3 g5 0 1 1 5 #[bv (l.getD (k1+1) 0)] [bv (l.getD (k1+1) 0)] kR kR kR U (by intro u hu; simp only [List.mem_cons,List.not_mem_nil,or_false] at hu; subst hu; rfl) om (λq2 c2 s2 e2 m2=>?_)
  refine sp U<|Sy.nil<|Sy.in_<|Sy.then_<|Sy.region<|sp U<|sS (iZ ((k1+1)+1)) (qad U U U)<|sp U<|Sy.nil ?_
  exact Sy.againX ((q2,c2,s2)) [true,true,true,false] om (⟨e2,m2⟩) ac4 kR
section
variable {P:Program} {w0:Base} {F:AO} {L:AC} {o:Oper}
end
def trl (k x y:Nat) (i:Bool):List Value:=fws k++(fws x++(fws y++[Value.bool i]))
def two (z e px py:Nat) (pi:Bool) (j:Nat):Trm:=if j=0 then ⟨z,gx.val,gy.val,false⟩ else ⟨e,px,py,pi⟩
def rPt (z e px py:Nat) (pi:Bool):Pt:=Ec.add AR (Ec.nm AR (z%Sc.pM) bP) (Ec.nm AR (e%Sc.pM) (dec px py pi))
theorem YI (z e px py:Nat) (pi:Bool):Ec.On (rPt z e px py pi):=Ec.On.add fld (bP_on.nm fld _) ((C8 _ _ _).nm fld _)
theorem ZT (w:World) (g:Nat) (t:TypeId) (z e px py:Nat) (pi:Bool) (hz:z<K4) (he:e<K4) (hx:px<K4) (hy:py<K4) (hb:Blk w g t (trl z gx.val gy.val false++trl e px py pi).toArray):Calls Tryz.prog 53 #[.slice (pA g) 2 2] w (Gets w (ptv (rPt z e px py pi))):=by
 have hr:w.rangeAt g 0 (trl z gx.val gy.val false++trl e px py pi):=CJ hb (by rw [List.drop_zero]; exact List.take_of_length_le (Nat.le_refl _))
 have h:=ID w (pA g) g 0 2 2 (two z e px py pi) (Nat.le_refl _) dZ (λj=>by
  unfold two
  split
  ·exact ⟨hz,lt4 _,lt4 _⟩
  ·exact ⟨he,hx,hy⟩) (λ_=>⟨rfl,hb.lt,λj hj=>by
  rcases j with _ | _ | j
  ·exact Gi hr
  ·exact Fo hr U
  ·omega⟩)
 have e0:Ec.sumL AR (λt=>Ec.nm AR (two z e px py pi t).kn (two z e px py pi t).pt) (List.range 2)=rPt z e px py pi:=by
  have d0:dec gx.val gy.val false=bP:=GQ gx gy bP_on
  unfold rPt
  rw [← d0]
  show Ec.add AR (Ec.add AR none (Ec.nm AR (z%Sc.pM) (dec gx.val gy.val false))) (Ec.nm AR (e%Sc.pM) (dec px py pi))=_
  rw [Ec.zero_add]
 rw [e0] at h
 exact h
end Cu
end
section
namespace Nt
theorem NH:Pr 44706919:=CN (b:=6687) dZ dZ (by decide +kernel)
theorem RZ:Pr 120233:=CN (b:=347) dZ dZ (by decide +kernel)
theorem L3:Pr 545358713:=CN (b:=23354) dZ dZ (by decide +kernel)
theorem RY:Pr 305873:=CN (b:=554) dZ dZ (by decide +kernel)
theorem YP:Pr 293:=CN (b:=18) dZ dZ (by decide +kernel)
theorem Zq:Pr 174723607534414371449:=by
 refine Oy (F:=44706919*120233) dZ (λr hr hrN=>?_) dZ
 have h0:=Cr 68 2 dZ NH dZ (by decide +kernel) (by decide +kernel) dZ r hr hrN
 have h1:=Cr 68 2 dZ RZ dZ (by decide +kernel) (by decide +kernel) dZ r hr hrN
 exact Nat.Coprime.mul_dvd_of_dvd_of_dvd dZ h0 h1
theorem Zo:Pr 29047611873442575647497758179:=by
 refine Oy (F:=545358713*(305873*293)) dZ (λr hr hrN=>?_) dZ
 have h0:=Cr 95 2 dZ L3 dZ (by decide +kernel) (by decide +kernel) dZ r hr hrN
 have h1:=Cr 95 2 dZ RY dZ (by decide +kernel) (by decide +kernel) dZ r hr hrN
 have h2:=Cr 95 2 dZ YP dZ (by decide +kernel) (by decide +kernel) dZ r hr hrN
 exact Nat.Coprime.mul_dvd_of_dvd_of_dvd dZ h0 (Nat.Coprime.mul_dvd_of_dvd_of_dvd dZ h1 h2)
theorem Zp:Pr 341948486974166000522343609283189 :=
 Oy (F:=29047611873442575647497758179) dZ (λr hr hrN=>Cr 109 2 dZ Zo dZ (by decide +kernel) (by decide +kernel) dZ r hr hrN) dZ
theorem pr_n:Pr 115792089237316195423570985008687907852837564279074904382605163141518161494337:=by
 refine Oy (F:=174723607534414371449*341948486974166000522343609283189) dZ (λr hr hrN=>?_) dZ
 have h0:=Cr 256 2 dZ Zq dZ (by decide +kernel) (by decide +kernel) dZ r hr hrN
 have h1:=Cr 256 2 dZ Zp dZ (by decide +kernel) (by decide +kernel) dZ r hr hrN
 exact Nat.Coprime.mul_dvd_of_dvd_of_dvd dZ h0 h1
end Nt
end
section
namespace Cu
open Go.RowKit
def fc {α:Type} (x:Nat) (f:Nat→α):α:=match x with
 | 0=>f 0
 | n+1=>f (n+1)
theorem Xd {α:Type} (x:Nat) (f:Nat→α):fc x f=f x:=by cases x <;> rfl
def ml (a b:Nat):Nat:=a*b%pM
def sb (a b:Nat):Nat:=(pM - b+a)%pM
def ad (a b:Nat):Nat:=(a+b)%pM
def dbK {α:Type} (x y z:Nat) (k:Nat→Nat→Nat→α):α :=
 fc (ml (ml x x) 3) λu=>fc (ml (ml x (ml y y)) 4) λq=>fc (sb (ml u u) (ad q q)) λX=>fc (sb (ml u (sb q X)) (ml (ml (ml y y) (ml y y)) 8)) λY=>fc (ml (ml y z) 2) λZ=>k X Y Z
theorem Ub {α:Type} (a:J) (k:Nat→Nat→Nat→α):dbK a.x.val a.y.val a.z.val k=k (B0 a).x.val (B0 a).y.val (B0 a).z.val:=by
 unfold dbK
 simp only [Xd]
 rfl
def bJ:J:=⟨gx,gy,1⟩
def adK {α:Type} (x y z:Nat) (k:Nat→Nat→Nat→α):α :=
 cond (Nat.beq z 0) (k gx.val gy.val 1)<|fc (sb (ml gx.val (ml z z)) x) λc=>fc (sb (ml gy.val (ml (ml z z) z)) y) λr =>
 cond (Nat.beq c 0 && Nat.beq r 0) (dbK x y z k)<|fc (ml (ml c c) c) λd=>fc (ml x (ml c c)) λe =>
 fc (sb (sb (ml r r) d) (ad e e)) λX=>fc (sb (ml r (sb e X)) (ml y d)) λY=>fc (ml z c) λZ=>k X Y Z
theorem O_:(1:Fp)≠0:=by decide +kernel
theorem ZS (a:J):uJ a bJ=a.x:=by
 show a.x*(1*1)=a.x
 grobner
theorem ZO (a:J):vJ a bJ=a.y:=by
 show a.y*(1*1*1)=a.y
 grobner
theorem Ek (a:Fp):Nat.beq a.val 0=true↔a=0:=by
 rw [Nat.beq_eq]
 exact ⟨λh=>Fin.ext h,λh=>by rw [h]; rfl⟩
theorem ZI {α:Type} (a:J) (k:Nat→Nat→Nat→α):adK a.x.val a.y.val a.z.val k=k (Cf a bJ).x.val (Cf a bJ).y.val (Cf a bJ).z.val:=by
 unfold adK
 by_cases h:a.z=0
 ·rw [(Ek _).2 h,Ps h]
  rfl
 ·rw [show Nat.beq a.z.val 0=false from by cases e:Nat.beq a.z.val 0 with | false=>rfl | true=>exact absurd ((Ek _).1 e) h]
  simp only [cond_false,Xd]
  have hc:cJ a bJ=gx*(a.z*a.z) - a.x:=by unfold cJ; rw [ZS]; rfl
  have hr:rJ a bJ=gy*(a.z*a.z*a.z) - a.y:=by unfold rJ; rw [ZO]; rfl
  have ec:sb (ml gx.val (ml a.z.val a.z.val)) a.x.val=(cJ a bJ).val:=by rw [hc]; rfl
  have er:sb (ml gy.val (ml (ml a.z.val a.z.val) a.z.val)) a.y.val=(rJ a bJ).val:=by rw [hr]; rfl
  rw [ec,er]
  by_cases hz:cJ a bJ=0∧rJ a bJ=0
  ·rw [(Ek _).2 hz.1,(Ek _).2 hz.2,Pq h O_ hz.1 hz.2]
   exact Ub a k
  ·have e:(Nat.beq (cJ a bJ).val 0 && Nat.beq (rJ a bJ).val 0)=false:=by
    cases q:(Nat.beq (cJ a bJ).val 0 && Nat.beq (rJ a bJ).val 0) with
    | false=>rfl
    | true =>
     rw [Bool.and_eq_true] at q
     exact absurd ⟨(Ek _).1 q.1,(Ek _).1 q.2⟩ hz
   rw [e,Me h O_ hz]
   simp only [cond_false]
   have s1:szJ a bJ=a.z*cJ a bJ:=by
    show a.z*1*cJ a bJ=_
    grobner
   unfold sxJ syJ sxJ
   rw [s1,ZS,ZO]
   rfl
def gK {α:Type} (m:Nat):Nat→Nat→Nat→Nat→(Nat→Nat→Nat→α)→α
 | 0,x,y,z,k=>k x y z
 | i+1,x,y,z,k=>dbK x y z λx y z=>cond (Nat.beq (m / 2 ^ i%2) 1) (adK x y z λx y z=>gK m i x y z k) (gK m i x y z k)
theorem Y8:Ec.Rep bJ bP:=by
 show (1:Fp)≠0∧gx=gx*(1*1)∧gy=gy*(1*1*1)
 exact ⟨O_,by grobner,by grobner⟩
theorem PP {α:Type} (m:Nat) (k:Nat→Nat→Nat→α):∀ (i:Nat) (a:J) (t:Nat),Ec.Rep a (Ec.nm AR t bP)→∃ a':J,gK m i a.x.val a.y.val a.z.val k=k a'.x.val a'.y.val a'.z.val∧Ec.Rep a' (Ec.nm AR (t*2 ^ i+m%2 ^ i) bP)
 | 0,a,t,h=>⟨a,rfl,by rw [Nat.pow_zero,Nat.mul_one,Nat.mod_one,Nat.add_zero]; exact h⟩
 | i+1,a,t,h=>by
  have o:=bP_on.nm fld t
  have h2:Ec.Rep (B0 a) (Ec.nm AR (t+t) bP):=by
   rw [Ec.nm_add fld bP_on]
   exact Ho o h
  show ∃ a',dbK _ _ _ _=_∧_
  rw [Ub,Nat.mod_pow_succ,Nat.pow_succ]
  by_cases hb:m / 2 ^ i%2=1
  ·rw [show Nat.beq (m / 2 ^ i%2) 1=true from by rw [hb]; rfl,cond_true,ZI]
   have h3:Ec.Rep (Cf (B0 a) bJ) (Ec.nm AR (t+t+1) bP):=by
    rw [Ec.nm_add fld bP_on,Ec.nm_one]
    exact Hw (bP_on.nm fld _) bP_on h2 Y8
   obtain ⟨a',e,r⟩:=PP m k i _ _ h3
   refine ⟨a',e,?_⟩
   rw [show (t+t+1)*2 ^ i+m%2 ^ i=t*(2 ^ i*2)+(m%2 ^ i+2 ^ i*(m / 2 ^ i%2)) from by rw [hb,Nat.mul_one,Nat.add_mul,Nat.one_mul,Nat.add_mul, ← Nat.mul_assoc,Nat.mul_two]; omega] at r
   exact r
  ·have h0:m / 2 ^ i%2=0:=om
   rw [h0]
   show ∃ a',gK m i _ _ _ k=_∧_
   obtain ⟨a',e,r⟩:=PP m k i _ _ h2
   refine ⟨a',e,?_⟩
   rw [show (t+t)*2 ^ i+m%2 ^ i=t*(2 ^ i*2)+(m%2 ^ i+2 ^ i*0) from by rw [Nat.mul_zero,Nat.add_mul, ← Nat.mul_assoc,Nat.mul_two]; omega] at r
   exact r
def oJ:J:=⟨0,0,0⟩
theorem YV:Ec.Rep oJ (Ec.nm AR 0 bP):=rfl
def nN:Nat:=115792089237316195423570985008687907852837564279074904382605163141518161494337
theorem Yc:nN%2 ^ 256=nN:=by decide +kernel
theorem aJ:gK nN 256 0 0 0 (λ_ _ z=>z)=0:=by decide +kernel
theorem Wg {m:Nat} (hm:m%2 ^ 256=m) (h:gK m 256 0 0 0 (λ_ _ z=>z)=0):Ec.nm AR m bP=none:=by
 obtain ⟨a,e,r⟩:=PP m (λ_ _ z=>z) 256 oJ 0 YV
 rw [Nat.zero_mul,Nat.zero_add,hm] at r
 have e':gK m 256 0 0 0 (λ_ _ z=>z)=a.z.val:=e
 rw [h] at e'
 have hz:a.z=0:=Fin.ext e'.symm
 revert r
 cases Ec.nm AR m bP with
 | none=>exact λ_=>rfl
 | some P =>
  obtain ⟨X,Y⟩:=P
  exact λr=>absurd hz r.1
theorem Yb:Ec.nm AR nN bP=none:=Wg Yc aJ
theorem RX (q:Nat) (hp:Nt.Pr q) (h1:¬ q=0) (d:Nat) (h:d ∣ q):d=1∨d=q:=by
 rcases Nat.lt_or_ge d q with hlt | hge
 ·left
  have h0:0<d:=by
   rcases Nat.eq_zero_or_pos d with rfl | h0
   ·exact absurd (Nat.eq_zero_of_zero_dvd h) h1
   ·exact h0
  have:=hp.2 d h0 hlt
  rwa [Nat.gcd_eq_left h] at this
 ·right
  exact Nat.le_antisymm (Nat.le_of_dvd om h) hge
theorem TV:Nt.Pr nN:=Nt.pr_n
theorem WF:∀ d,d ∣ nN→d=1∨d=nN:=RX nN TV (by decide +kernel)
theorem Zv {P:Pt} (hP:Ec.On P):Ec.nm AR nN P=none :=
 Ec.all_order fld (by decide +kernel) bP_on (by unfold bP; exact λh=>by cases h) Yb WF (by decide +kernel) hP
theorem QT {P:Pt} (hP:Ec.On P) (k:Nat):Ec.nm AR (k%nN) P=Ec.nm AR k P:=Ec.nm_mod fld hP (Zv hP) k
end Cu
end
section
namespace Cu
open Go.RowKit Sy
theorem Zw:nN=Sc.pM:=by decide +kernel
theorem FW {P:Pt} (hP:Ec.On P) (k:Nat):Ec.nm AR (k%Sc.pM) P=Ec.nm AR k P:=by
 have h:=QT hP k
 rwa [Zw] at h
theorem V' {P:Pt} (hP:Ec.On P) (k:Nat):Ec.nm AR (Sc.negP k%Sc.pM) P=Ec.neg (Ec.nm AR (k%Sc.pM) P):=by
 have hlt:k%Sc.pM<Sc.pM:=Sc.mod_lt_p k
 have e1:Ec.nm AR (Sc.negP k%Sc.pM) P=Ec.nm AR (Sc.pM - k%Sc.pM) P:=by
  unfold Sc.negP
  rw [FW hP,FW hP]
 have e2:Ec.add AR (Ec.nm AR (k%Sc.pM) P) (Ec.nm AR (Sc.pM - k%Sc.pM) P)=none:=by
  rw [← Ec.nm_add fld hP,show k%Sc.pM+(Sc.pM - k%Sc.pM)=Sc.pM by omega, ← FW hP,Nat.mod_self]
  rfl
 have o1:=hP.nm fld (k%Sc.pM)
 have o2:=hP.nm fld (Sc.pM - k%Sc.pM)
 rw [e1]
 have e3:=congrArg (Ec.add AR (Ec.neg (Ec.nm AR (k%Sc.pM) P))) e2
 rw [← Ec.assoc fld o1.neg o1 o2,Ec.neg_add,Ec.zero_add,Ec.add_zero] at e3
 exact e3
end Cu
end
section
namespace Sc
open Go.RowKit Go.Lib
section
variable {P:Program} {ops:Array Oper}
end
end Sc
end
section
namespace Cu
open Go.RowKit Sy
def genNm:ByteArray:=⟨#[116,111,108,108,104,111,117,115,101,47,103,101,110,101,114,97,116,111,114]⟩
def Av (nm:AF) (k:Nat):List UInt8:=Sh.taggedS genNm.data.toList (nm++[UInt8.ofNat k])
theorem A8 (nm:AF) (k:Nat):(Av nm k).length=32:=Sh.sum_length _
def G9 (f:Nat→Bool) (g:Nat→Pt) (d:Pt) (n:Nat):Pt:=((List.range n).find? f).elim d g
theorem O0 {f:Nat→Bool} {g:Nat→Pt} {d:Pt} {n k:Nat} (hk:k<n) (h:∀ j,j<k→f j=false) (hb:f k=true):G9 f g d n=g k:=by
 have e:(List.range n).find? f=some k:=by
  rw [List.find?_range_eq_some]
  exact ⟨hb,List.mem_range.2 hk,λj hj=>by rw [h j hj]; rfl⟩
 unfold G9
 rw [e]
 rfl
theorem Rc {f:Nat→Bool} {g:Nat→Pt} {d:Pt} {n:Nat} (h:∀ j,j<n→f j=false):G9 f g d n=d:=by
 have e:(List.range n).find? f=none:=by
  rw [List.find?_eq_none]
  intro j hj
  rw [h j (List.mem_range.1 hj)]
  exact λh=>by cases h
 unfold G9
 rw [e]
 rfl
theorem O2 (f:Nat→Bool) (g:Nat→Pt) (d:Pt) (n:Nat):G9 f g d n=d∨∃ k,f k=true∧G9 f g d n=g k:=by
 unfold G9
 cases e:(List.range n).find? f with
 | none=>exact .inl U
 | some k=>exact .inr ⟨k,List.find?_some e,rfl⟩
def Cd (nm:AF):Pt:=G9 (λi=>A7 (Av nm i)) (λi=>Ah (Av nm i)) bP 256
theorem LG {nm:AF} {k:Nat} (hk:k<256) (h:∀ j,j<k→A7 (Av nm j)=false) (hb:A7 (Av nm k)=true):Cd nm=Ah (Av nm k):=O0 (f:=λi=>A7 (Av nm i)) (g:=λi=>Ah (Av nm i)) hk h hb
theorem Nl {nm:AF} (h:∀ j,j<256→A7 (Av nm j)=false):Cd nm=bP:=Rc (f:=λi=>A7 (Av nm i)) (g:=λi=>Ah (Av nm i)) h
theorem Ry (nm:AF):Cd nm=bP∨∃ k,A7 (Av nm k)=true∧Cd nm=Ah (Av nm k):=O2 (λi=>A7 (Av nm i)) (λi=>Ah (Av nm i)) bP 256
theorem I4 (nm:AF):Ec.On (Cd nm):=by
 rcases Ry nm with h | ⟨k,_,h⟩
 ·rw [h]; exact bP_on
 ·rw [h]; exact Fy _
def qX:Pt→Nat
 | none=>0
 | some (x,_)=>x.val
def qY:Pt→Nat
 | none=>0
 | some (_,y)=>y.val
def qI:Pt→Bool
 | none=>true
 | some _=>false
theorem GW:∀ P:Pt,ptv P=pv (qX P) (qY P) (qI P)
 | none=>rfl
 | some (_,_)=>rfl
theorem DZ (w:World) (F:AO) (o:Oper) (x:Operand) (k:Nat) (hk:k<256) (ho:o.op=.convert 3 5 x) (hx:evF F x=.int .i64 (k:Int)):(execOp (evF F) o).run Tryz.prog w=.ok (.value (bv (UInt8.ofNat k))) w:=by
 have h:(convert 3 5 (.int .i64 (k:Int))).run Tryz.prog w=.ok (bv (UInt8.ofNat k)) w:=by
  have e:(UInt8.ofNat k).toNat=k:=by rw [UInt8.toNat_ofNat']; omega
  unfold bv
  rw [e]
  go_simp
  exact VA om om
 unfold execOp
 simp only [ho,hx,Sem.run_bind,h,Result.andThen_ok,Sem.run_pure]
theorem Q8 {w:World} (nm:AF) (hn:nm.length=32) (k c g0 g1:Nat) (t0 t1:TypeId) (A:Option Addr) (hA:Sh.Src w A nm) (hc:32≤c) (hc2:c≤9223372036854775807) (h0:Blk w g0 t0 #[bv (UInt8.ofNat k)]) (h1:Blk w g1 t1 #[.slice A 32 c,.slice (pA g0) 1 1]) :
  Sh.Texts w (pA g1) [⟨A,nm,c⟩,⟨some ⟨g0,0,none⟩,[UInt8.ofNat k],1⟩]:=λ_=>by
 refine ⟨g1,0,rfl,h1.lt,λj y hy=>?_⟩
 rw [Nat.zero_add]
 rcases j with _ | _ | j
 ·cases hy
  refine ⟨(h1.cell 0).trans ?_,hA,by show nm.length≤c; omega,hc2⟩
  show some (Value.slice A 32 c)=some (Value.slice A nm.length c)
  rw [hn]
 ·cases hy
  exact ⟨h1.cell 1,Sh.Src.of_blk h0,by show 1≤1; omega,by show 1≤9223372036854775807; omega⟩
 ·cases hy
theorem P4 {f:FuncId} {tb:Nat} (nm:AF) (hn:nm.length=32) (k c g0 g1:Nat) (t0 t1:TypeId) (A:Option Addr)
  (hf:∀ (w:World) (s:ByteArray) (T:Option Addr) (ts:List Sh.Tx) (ct:Nat),Sh.Texts w T ts→Sh.TabAt w tb→s.size≤1000000000→(Sh.cat ts).length≤1000000000→ts.length≤1000000000→Calls Tryz.prog f #[.string s,.slice T ts.length ct] w λe w'=>e=.returned (Sh.dv (Sh.taggedS s.data.toList (Sh.cat ts)))∧Below w.heap.size w w')
  (w:World) (hA:Sh.Src w A nm) (hc:32≤c) (hc2:c≤9223372036854775807) (h0:Blk w g0 t0 #[bv (UInt8.ofNat k)]) (h1:Blk w g1 t1 #[.slice A 32 c,.slice (pA g0) 1 1]) (ht:Sh.TabAt w tb) :
  Calls Tryz.prog f #[.string genNm,.slice (pA g1) 2 2] w (Gets w (.agg ((Av nm k).map bv).toArray)):=by
 have e:Sh.cat [⟨A,nm,c⟩,⟨some ⟨g0,0,none⟩,[UInt8.ofNat k],1⟩]=nm++[UInt8.ofNat k]:=by simp [Sh.cat]
 have h:=hf w genNm _ _ 2 (Q8 nm hn k c g0 g1 t0 t1 A hA hc hc2 h0 h1) ht dZ (by rw [e,List.length_append,hn]; show 32+1≤1000000000; decide) (by show 2≤1000000000; decide)
 rw [e] at h
 exact h
theorem U3 {nm:AF} {pre:List (Fin 256)} {x:Fin 256} (h:∀ y∈pre,A7 (Av nm y.val)=false) (hx:false=A7 (Av nm x.val)):∀ y∈pre++[x],A7 (Av nm y.val)=false:=λy hy=>by
 rcases List.mem_append.1 hy with hy | hy
 ·exact h y hy
 ·rw [List.mem_singleton.1 hy]; exact hx.symm
theorem ZB {nm:AF} {k:Nat} (h:∀ j,j<k→A7 (Av nm j)=false) (hx:false=A7 (Av nm k)):∀ j,j<k+1→A7 (Av nm j)=false:=λj hj=>by
 rcases Nat.lt_or_ge j k with hlt | hge
 ·exact h j hlt
 ·rw [show j=k by omega]; exact hx.symm
def EA (nm:AF) (pre:List (Fin 256)):Pt:=match pre.getLast? with
 | some x=>Ah (Av nm x.val)
 | none=>none
theorem J3 (nm:AF) (pre:List (Fin 256)) (x:Fin 256):EA nm (pre++[x])=Ah (Av nm x.val):=by
 unfold EA
 rw [List.getLast?_append]
 rfl
def GHx (nm:AF) (pre:List (Fin 256)):Prop:=∃ init x,pre=init++[x]∧(∀ y∈init,A7 (Av nm y.val)=false)∧A7 (Av nm x.val)=true
theorem OJ {nm:AF} {pre:List (Fin 256)} {k:Nat} (hp:pre.map (·.1)=List.range k) (h:∀ y∈pre,A7 (Av nm y.val)=false):∀ j,j<k→A7 (Av nm j)=false:=λj hj=>by
 have:j∈pre.map (·.1):=by rw [hp]; exact List.mem_range.2 hj
 obtain ⟨y,hy,rfl⟩:=List.mem_map.1 this
 exact h y hy
theorem UC {nm:AF} {pre:List (Fin 256)} (hs:∃ k,k≤256∧pre.map (·.1)=List.range k) (hx:GHx nm pre):EA nm pre=Cd nm:=by
 obtain ⟨k,hk,hp⟩:=hs
 obtain ⟨init,x,rfl,hi,hb⟩:=hx
 have hl:init.length+1=k:=by
  have:=congrArg List.length hp
  simpa using this
 subst hl
 rw [List.range_succ,List.map_append] at hp
 obtain ⟨h1,h2⟩:=List.append_inj hp (by simp)
 have hv:x.val=init.length:=by simpa using h2
 rw [J3,LG x.isLt (λj hj=>OJ h1 hi j om) hb]
def caE (nm:AF) (x:Fin 256):Array Value:=#[.agg ((Av nm x.val).map bv).toArray]
theorem W8 (n l Bs n₀:Nat) (nm:AF) (hnm:nm.length=32) (hb:Bs<n₀) (htb:1<n₀) (J Jx:List (Fin 256)→World→Prop) (W:World) (hnW:n₀≤W.heap.size) (hJ:AbidesFrom W.heap.size J) (hJx:AbidesFrom W.heap.size Jx)
  (hY:∀ pre x W1,J pre W1→pre.length<256→YieldAt Fence.wide (n - 1) Tryz.prog l (caE nm x) W1 λe W'=>(e=.returned (.bool true)∧J (pre++[x]) W'∧KpL n₀ [] W1 W')∨(e=.returned (.bool false)∧Jx (pre++[x]) W'))
  (hS:Blk W Bs 23 (nm.map bv).toArray) (ht:Sh.TabAt W 1) (h0:J [] W) :
  CallsIn Fence.wide n Tryz.prog 172 #[.func (.yield l) #[] #[],pT Bs 0] W λe W'=>(∃ v,e=.returned v)∧((∃ ys:List (Fin 256),ys.map (·.1)=List.range 256∧J ys W')∨(∃ pre:List (Fin 256),(∃ k,k≤256∧pre.map (·.1)=List.range k)∧Jx pre W')):=by
 refine Sy.enterP (args:=[.func (.yield l) #[] #[],pT Bs 0]) Tryz.func172 U kL<|sC<|sp U<|sG<|Sy.block<|Sy.loopP 256 (λk1=>[(0,.func (.yield l) #[] #[]),(1,pT Bs 0),(5,iZ k1)]) (λk1 w=>∃ pre:List (Fin 256),pre.map (·.1)=List.range k1∧J pre w∧Below n₀ W w) ac3 (λw hg=>⟨[],rfl,Ab hJ h0 hg,Below.mono hg hnW⟩) (λk1 wr hk1 hz=>?_)
 obtain ⟨pre,hpre,hj,hbw⟩:=hz
 have hlen:pre.length=k1:=by have:=congrArg List.length hpre; rwa [List.length_map,List.length_range] at this
 have hSr:=hS.below hbw hb
 have htr:=ht.below hbw htb
 refine sC ?_
 obtain ⟨b1,hb1⟩:=xE (decide (k1<256))
 refine sS (.bool b1) (qls U U U hb1)<|sG<|Sy.seq ?_
 cases b1
 ·have lb1:=dN hb1
  refine sU<|Sy.exit<|Sy.then_exit<|Sy.then_exit ?_
  obtain rfl:k1=256:=om
  refine Sy.in_exit ?_
  exact Sy.retP U (λv w3 hg=>⟨⟨_,rfl⟩,.inl ⟨pre,hpre,Ab hJ hj hg⟩⟩) (.inr U)
 ·have lb1:=dY hb1
  refine sT<|Sy.skip<|Sy.then_<|Sy.seq ?_
  have hx:k1<256:=om
  refine Sy.block<|sC<|sp U<|sp U<|sA<|sP (.slice (pA Bs) 32 32)<|sp U<|sS (bv (UInt8.ofNat k1)) (Quiet.pure (λw=>DZ w _ _ _ k1 om U U))<|Sy.make kR 5 #[bv (UInt8.ofNat k1)] (λg=>.slice (pA g) 1 1) kF (λg0=>?_)
  refine Sy.make kR 29 #[.slice (pA Bs) 32 32,.slice (pA g0) 1 1] (λg=>.slice (pA g) 2 2) kF (λg1=>?_)
  refine sS (.agg ((Av nm k1).map bv).toArray) (qg (λw hw=>P4 nm hnm k1 32 g0 g1 _ _ _ Sh.tagged_any w (Sh.Src.of_blk (hSr.below hw.below hSr.lt)) dZ dZ (hw.get (i:=0) rfl) (hw.get (i:=1) rfl) (htr.below hw.below htr.lt)))<|sM 23 (Zl 32).toArray (λg2=>?_)
  refine sw 2 rfl ((Av nm k1).map bv).toArray (Writes.store 0 23 ((Av nm k1).map bv).toArray _ _ rfl kR kR (by rw [Cm (Av nm k1) (A8 nm k1)]; kernel_rfl) (by rw [Cm (Av nm k1) (A8 nm k1)]; exact Nat.le_of_ble_eq_true kR) (EZ _) (FB _ _ (by rw [(A8 nm k1)]; kernel_rfl)))<|sG<|Sy.seq<|Sy.regionY 2 (by rintro ⟨_,_,⟨_,hv⟩,_⟩; cases hv) kR<|sp rfl<|sS (.agg ((Av nm k1).map bv).toArray) (qx 2 0 32 rfl rfl Dc (BO (Av nm k1) (A8 nm k1)) (Bf (Av nm k1) (A8 nm k1)))<|Sy.nil<|Sy.yieldX (ro:=none) rfl (by rintro ⟨_,_,⟨_,hv⟩,_⟩; cases hv) kR kR l #[.agg ((Av nm k1).map bv).toArray] kF (λe W'=>(e=.returned (.bool true)∧J (pre++[⟨k1,hx⟩]) W'∧Below n₀ W W')∨(e=.returned (.bool false)∧Jx (pre++[⟨k1,hx⟩]) W')) (λw hg=>C4 (hY pre ⟨k1,hx⟩ w (Ab hJ hj hg) om) (λe w' q=>q.imp (λq=>⟨q.1,q.2.1,(hbw.trans (Below.mono hg (Nat.le_trans hnW hbw.size))).trans q.2.2.1⟩) id)) (λe w' q=>q.elim (λq=>⟨_,q.1⟩) (λq=>⟨_,q.1⟩)) rfl (λw2 b hr=>?_)
  cases b
  ·have hx2:=hr.elim (λq=>by cases q.1) (λq=>q.2)
   refine sP (.bool true)<|sG<|sT<|Sy.ret<|Sy.in_ret<|Sy.then_ret<|Sy.then_ret<|Sy.in_ret ?_
   exact Sy.retP U (λv w3 hg=>⟨⟨_,rfl⟩,.inr ⟨pre++[⟨k1,hx⟩],⟨k1+1,by omega,by rw [List.map_append,hpre,List.range_succ]; rfl⟩,Ab hJx hx2 hg⟩⟩) (.inl U)
  ·clear hbw hj
   obtain ⟨hj,hbw⟩:=hr.elim (λq=>q.2) (λq=>by cases q.1)
   refine sP (.bool false)<|sG<|sU<|Sy.skip<|Sy.in_<|Sy.then_<|Sy.region<|sS (iZ (k1+1)) (qad U U U)<|sp U<|Sy.nil ?_
   exact Sy.againP om ac3 (λw3 hg=>⟨pre++[⟨k1,hx⟩],by rw [List.map_append,hpre,List.range_succ]; rfl,Ab hJ hj hg,hbw.trans (Below.mono hg (Nat.le_trans hnW hbw.size))⟩)
theorem Pl (n Bs:Nat) (nm:AF) (hnm:nm.length=32) (w0 w:World) (hb:Below w0.heap.size w0 w) (hS:Blk w0 Bs 23 (nm.map bv).toArray) (ht:Sh.TabAt w0 1) :
  SeqStopsK Fence.wide n Tryz.prog 172 #[pT Bs 0] (caE nm) (KpL w0.heap.size []) (λys=>ys.map (·.1)=List.range 256) (λpre=>∃ k,k≤256∧pre.map (·.1)=List.range k) 256 w:=λl J Jx W hW hJ hJx hY h0=>by
 have hS1:=hS.below hb hS.lt
 have ht1:=ht.below hb ht.lt
 exact W8 n l Bs w0.heap.size nm hnm hS.lt ht.lt J Jx W (Nat.le_trans hb.size hW.size) hJ hJx hY (hS1.below hW hS1.lt) (ht1.below hW ht1.lt) h0
theorem SP (w:World) (nm:AF) :
  Calls Tryz.prog 111 #[.agg (nm.map bv).toArray] w (GetsN w λv M=>∃ g1,v=.func (.func 172) #[] #[pT g1 0]∧M=[(g1,23,(nm.map bv).toArray)]):=by
 go_enter Tryz.func111,Tryz.ntmps111
 go_wp2
 go_ret
 refine ⟨_,_,rfl,⟨_,rfl,rfl⟩,(Below.refl _ _).alloc (Nat.le_refl _) _,λg t cs hm=>?_,by simp⟩
 simp only [List.mem_singleton,Prod.mk.injEq] at hm
 obtain ⟨rfl,rfl,rfl⟩:=hm
 exact ⟨Nat.le_refl _,Blk.new w _ _⟩
theorem Q9 (w:World) (nm:AF) (hnm:nm.length=32):Calls Tryz.prog 26 #[.agg (nm.map bv).toArray] w (GetsN w (λvq Mq=>∃ (g:Nat) (sp:List Value) (cap:Nat),vq=.slice (pA g) 32 cap∧(32≤cap∧cap≤9223372036854775807)∧Mq=[(g,5,(nm.map bv++sp).toArray)])):=by
 refine (Sh.textR_any w nm hnm).mono ?_
 rintro e w' ⟨g,cap,rfl,ho,hl,hb⟩
 unfold Sh.OwnB at ho
 rw [hnm] at ho
 rcases ho.2 with ⟨h0,_⟩ | ⟨g',cap',cur,hv,hg,hk,q3,q4,q5,q6⟩
 ·cases h0
 ·cases hv
  have hc:cur=(nm.map bv++cur.toList.drop 32).toArray:=by
   rw [Nat.mul_one] at q6
   rw [← q6,List.take_append_drop]
  refine ⟨_,[(g,5,cur)],rfl,⟨g,cur.toList.drop 32,cap,rfl,⟨by omega,by simp only [maxLen] at q4; omega⟩,by rw [← hc]⟩,hb,λg1 t1 cs1 hm=>?_,by simp⟩
  simp only [List.mem_singleton,Prod.mk.injEq] at hm
  obtain ⟨rfl,rfl,rfl⟩:=hm
  exact ⟨hg,hk⟩
theorem VU {w:World} {g:Nat} {t:TypeId} {m:AF} {sp:List Value} (hb:Blk w g t (m.map bv++sp).toArray):Sh.Src w (pA g) m:=λ_=>⟨g,0,rfl,hb.lt,λj u hj=>by
 rw [Nat.zero_add]
 refine (hb.cell j).trans ?_
 have hl:=(List.getElem?_eq_some_iff.1 hj).1
 rw [List.getElem?_toArray,List.getElem?_append_left (by rw [List.length_map]; exact hl),List.getElem?_map,hj]
 rfl⟩
theorem UD (w:World) (nm:AF) (hnm:nm.length=32) (ht:Sh.TabAt w 0):AY 47 #[.agg (nm.map bv).toArray] w (Gets w (ptv (Cd nm))):=by
 refine Sy.enter (args:=[.agg (nm.map bv).toArray]) Tryz.func47 U kL<|sC<|sM 23 (nm.map bv).toArray (λg0=>?_)
 refine sM 37 (pcs 0 0 false) (λg1=>?_)
 refine sG<|Sy.seq<|sC<|sp U<|sG<|Sy.block<|Sy.loopH 256 (λk1=>∀ j,j<k1→A7 (Av nm j)=false) (λk1=>[(1,pT g0 0),(2,pT g1 0),(3,iZ k1)]) (λk1=>[(g0,23,(nm.map bv).toArray),(g1,37,(pcs 0 0 false))]) [true,true] (M:=[(g0,23,(nm.map bv).toArray),(g1,37,(pcs 0 0 false))]) ((λj hj=>absurd hj (Nat.not_lt_zero j))) ac3 kR (AW U (AW U U)) (λk1 hk1 hh=>?_)
 refine Sy.seq<|sC<|sp U ?_
 obtain ⟨b1,hb1⟩:=xE (decide (k1<256))
 refine sS (.bool b1) (qls U U U hb1)<|sG ?_
 cases b1
 ·have lb1:=dN hb1
  refine sU<|Sy.exit<|Sy.then_exit<|Sy.then_exit ?_
  obtain rfl:k1=256:=om
  refine Sy.in_exit<|sB<|sS (pv (qX bP) (qY bP) (qI bP)) (qf (λw=>by rw [← GW]; exact MZ w))<|sw 1 U (pcs (qX bP) (qY bP) (qI bP)) (wA U)<|sG<|Sy.ret ?_
  rw [show (ptv (Cd nm):Value)=pv (qX bP) (qY bP) (qI bP) from by rw [← GW,Nl hh]]
  exact rc (v:=pv (qX bP) (qY bP) (qI bP)) 1 U U AX
 ·have lb1:=dY hb1
  refine sT<|Sy.skip<|Sy.then_<|Sy.seq<|Sy.block<|sC<|sS (.agg (nm.map bv).toArray) (qx 0 0 32 U U Dc (BO nm hnm) (Bf nm hnm))<|Sy.callN kR 26 #[.agg (nm.map bv).toArray] kF (λvq Mq=>∃ (g:Nat) (sp:List Value) (cap:Nat),vq=.slice (pA g) 32 cap∧(32≤cap∧cap≤9223372036854775807)∧Mq=[(g,5,(nm.map bv++sp).toArray)]) (λw _=>Q9 w nm hnm) (λvq Mq hR0=>?_)
  obtain ⟨g9,sp9,cp9,rfl,hcp,rfl⟩:=hR0
  refine sp U<|sS (bv (UInt8.ofNat k1)) (Quiet.pure (λw=>DZ w _ _ _ k1 om U U))<|Sy.make kR 5 #[bv (UInt8.ofNat k1)] (λg=>.slice (pA g) 1 1) kF (λg2=>?_)
  refine Sy.make kR 29 #[.slice (pA g9) 32 cp9,.slice (pA g2) 1 1] (λg=>.slice (pA g) 2 2) kF (λg3=>?_)
  refine sS (.agg ((Av nm k1).map bv).toArray) (qg (λw hw=>P4 nm hnm k1 cp9 g2 g3 _ _ _ Sh.taggedR_any w (VU (hw.get (i:=2) rfl)) hcp.1 hcp.2 (hw.get (i:=3) rfl) (hw.get (i:=4) rfl) (ht.below hw.below ht.lt)))<|sM 23 (Zl 32).toArray (λg4=>?_)
  refine sw 5 U ((Av nm k1).map bv).toArray (Writes.store 0 23 ((Av nm k1).map bv).toArray _ _ U kR kR (by rw [Cm (Av nm k1) (A8 nm k1)]; kernel_rfl) (by rw [Cm (Av nm k1) (A8 nm k1)]; exact Nat.le_of_ble_eq_true kR) (EZ _) (FB _ _ (by rw [(A8 nm k1)]; kernel_rfl)))<|sA<|sS (.agg ((Av nm k1).map bv).toArray) (qx 5 0 32 U U Dc (BO (Av nm k1) (A8 nm k1)) (Bf (Av nm k1) (A8 nm k1))) ?_
  obtain ⟨b2,hb2⟩:=xE (A7 (Av nm k1))
  refine sS (.tuple #[pv (qX (Ah (Av nm k1))) (qY (Ah (Av nm k1))) (qI (Ah (Av nm k1))),.bool b2]) (qf (λw=>by rw [← GW,hb2]; exact Rt w (Av nm k1) (A8 _ _)))<|sp U<|sp U<|sp U<|sM 37 (pcs 0 0 false) (λg5=>?_)
  refine sw 6 U (pcs (qX (Ah (Av nm k1))) (qY (Ah (Av nm k1))) (qI (Ah (Av nm k1)))) (wA U)<|sp U<|sA<|sp U<|sG ?_
  cases b2
  ·refine sU<|Sy.skip<|Sy.in_<|Sy.then_<|Sy.region ?_
   refine sp U<|sS (iZ (k1+1)) (qad U U U)<|sp U<|Sy.nil ?_
   exact Sy.againH [true,true,false,false,false,false,false] (M:=[(g0,23,(nm.map bv).toArray),(g1,37,(pcs 0 0 false))]) om ((ZB hh hb2)) ac3 kR (AW U (AW U U))
  ·refine sT<|sC ?_
   refine sS (pv (qX (Ah (Av nm k1))) (qY (Ah (Av nm k1))) (qI (Ah (Av nm k1)))) (qk 6 0 9 U U AX)<|sw 1 U (pcs (qX (Ah (Av nm k1))) (qY (Ah (Av nm k1))) (qI (Ah (Av nm k1)))) (wA U)<|sG<|Sy.ret<|Sy.in_ret<|Sy.then_ret<|Sy.then_ret<|Sy.in_ret<|Sy.then_ret ?_
   rw [show (ptv (Cd nm):Value)=pv (qX (Ah (Av nm k1))) (qY (Ah (Av nm k1))) (qI (Ah (Av nm k1))) from by rw [← GW,LG om hh hb2.symm]]
   exact rc (v:=pv (qX (Ah (Av nm k1))) (qY (Ah (Av nm k1))) (qI (Ah (Av nm k1)))) 1 U U AX
theorem KD (w:World) (F:AO) (o:Oper) (x y:Operand) (a b:AF) (ha:a.length=32) (hb:b.length=32) {yt:TypeId} (ho:o.op=.binOp .eql 23 x y yt) (hx:evF F x=.agg (a.map bv).toArray) (hy:evF F y=.agg (b.map bv).toArray):(execOp (evF F) o).run Tryz.prog w=.ok (.value (.bool (decide (a=b)))) w:=by
 have h1:(eqGuard .eql 23 x y (.agg (a.map bv).toArray) (.agg (b.map bv).toArray)).run Tryz.prog w=.ok () w:=by go_simp
 have h2:(binOp .eql 23 (.agg (a.map bv).toArray) (.agg (b.map bv).toArray)).run Tryz.prog w=.ok (.bool (decide (a=b))) w:=by
  have h:=run_equalIn_bytes (P:=Tryz.prog) w 9998 23 5 32 Dc uy5 (λW=>kZ) a b ha hb
  rw [run_eql_struct,show (10000:Nat)=9998+2 from rfl,show (Op.equalIn (9998+2) 23 (.agg (a.map bv).toArray) (.agg (b.map bv).toArray)).run Tryz.prog w=_ from h]
  by_cases e:a=b <;> simp [e]
 unfold execOp
 simp only [ho,hx,hy,Sem.run_bind,h1,h2,Result.andThen_ok,Sem.run_pure]
theorem PC (w:World) (F:AO) (o:Oper) (x y:Operand) (a b:AF) (ha:a.length=32) (hb:b.length=32) {yt:TypeId} (ho:o.op=.binOp .neq 23 x y yt) (hx:evF F x=.agg (a.map bv).toArray) (hy:evF F y=.agg (b.map bv).toArray):(execOp (evF F) o).run Tryz.prog w=.ok (.value (.bool (decide (a≠b)))) w:=by
 have h1:(eqGuard .neq 23 x y (.agg (a.map bv).toArray) (.agg (b.map bv).toArray)).run Tryz.prog w=.ok () w:=by go_simp
 have h2:(binOp .neq 23 (.agg (a.map bv).toArray) (.agg (b.map bv).toArray)).run Tryz.prog w=.ok (.bool (decide (a≠b))) w:=by
  have h:=run_equalIn_bytes (P:=Tryz.prog) w 9998 23 5 32 Dc uy5 (λW=>kZ) a b ha hb
  rw [run_neq_struct,show (10000:Nat)=9998+2 from rfl,show (Op.equalIn (9998+2) 23 (.agg (a.map bv).toArray) (.agg (b.map bv).toArray)).run Tryz.prog w=_ from h]
  by_cases e:a=b <;> simp [e]
 unfold execOp
 simp only [ho,hx,hy,Sem.run_bind,h1,h2,Result.andThen_ok,Sem.run_pure]
def Co (v:Nat) (P:Pt) (b:Nat):Pt:=Ec.add AR (Ec.nm AR (v%Sc.pM) P) (Ec.nm AR (b%Sc.pM) bP)
theorem Gx {P:Pt} (h:Ec.On P) (v b:Nat):Ec.On (Co v P b):=Ec.On.add fld (h.nm fld _) (bP_on.nm fld _)
theorem Jw (k:Nat) {P:Pt} (hP:Ec.On P):Ec.nm AR (k%Sc.pM) P=Ec.nm AR k P:=QT hP k
theorem YS:18446744073709551616<Sc.pM:=dZ
theorem YU:1%Sc.pM=1:=Nat.mod_eq_of_lt (Nat.lt_trans dZ YS)
theorem JH (P:Pt) (b:Nat):Co 1 P b=Ec.add AR P (Ec.nm AR (b%Sc.pM) bP):=by
 unfold Co
 rw [YU,Ec.nm_one]
theorem Sa {P:Pt} (hP:Ec.On P) (v u b c:Nat):Ec.add AR (Co v P b) (Co u P c)=Co (v+u) P ((b+c)%Sc.pM):=by
 have o1:=hP.nm fld v
 have o2:=hP.nm fld u
 have o3:=bP_on.nm fld b
 have o4:=bP_on.nm fld c
 unfold Co
 rw [Jw ((b+c)%Sc.pM) bP_on,Jw (b+c) bP_on,Jw (v+u) hP,Jw v hP,Jw u hP,Jw b bP_on,Jw c bP_on,Ec.nm_add fld hP,Ec.nm_add fld bP_on]
 rw [Ec.assoc fld o1 o3 (Ec.On.add fld o2 o4), ← Ec.assoc fld o3 o2 o4,Ec.comm fld o3 o2,Ec.assoc fld o2 o3 o4, ← Ec.assoc fld o1 o2 (Ec.On.add fld o3 o4)]
theorem M6 {v:Nat} (h:v<18446744073709551616):v<K4:=Nat.lt_trans h dZ
def l32 (f:Nat→UInt8):List UInt8:=[f 0,f 1,f 2,f 3,f 4,f 5,f 6,f 7,f 8,f 9,f 10,f 11,f 12,f 13,f 14,f 15,f 16,f 17,f 18,f 19,f 20,f 21,f 22,f 23,f 24,f 25,f 26,f 27,f 28,f 29,f 30,f 31]
theorem lP {n:Nat} (h:n<K4:=by first | assumption | exact M6 (by assumption) | exact B_ _ | exact B9 _ | exact lt4 _ | exact Sc.mod_lt _ | decide +kernel):n<K4:=h
theorem EY (f:Nat→UInt8):(l32 f).length=32:=rfl
theorem l32_of (l:AF) (h:l.length=32):∃ f,l=l32 f:=by
 obtain ⟨a0,a1,a2,a3,a4,a5,a6,a7,a8,a9,a10,a11,a12,a13,a14,a15,a16,a17,a18,a19,a20,a21,a22,a23,a24,a25,a26,a27,a28,a29,a30,a31,rfl⟩:=PH l h
 exact ⟨λj=>([a0,a1,a2,a3,a4,a5,a6,a7,a8,a9,a10,a11,a12,a13,a14,a15,a16,a17,a18,a19,a20,a21,a22,a23,a24,a25,a26,a27,a28,a29,a30,a31]).getD j 0,rfl⟩
def tml (k x y:Nat) (i:Bool):List Value:=fws k++(fws x++(fws y++[Value.bool i]))
def pml (x y:Nat) (i:Bool):List Value:=fws x++(fws y++[Value.bool i])
theorem Tl (w:World) (F:AO) (o:Oper) (x y:Operand) (a b:Nat) (i:Bool) (c d:Nat) (j:Bool) {yt:TypeId} (ho:o.op=.binOp .neq 37 x y yt) (hx:evF F x=pv a b i) (hy:evF F y=pv c d j) (ha:a<K4) (hb:b<K4) (hc:c<K4) (hd:d<K4):(execOp (evF F) o).run Tryz.prog w=.ok (.value (.bool (!CH a b i c d j))) w:=by
 have h1:=Fk .neq x y a b i c d j w
 have h2:=JY w a b i c d j ha hb hc hd
 have h3:(binOp .neq 37 (pv a b i) (pv c d j)).run Tryz.prog w=.ok (.bool (!CH a b i c d j)) w:=by
  unfold pv at h2 ⊢
  rw [run_eql_struct] at h2
  rw [run_neq_struct]
  generalize (Op.equalIn 10000 37 (Value.agg (pcs a b i)) (Value.agg (pcs c d j))).run Tryz.prog w=r at h2 ⊢
  revert h2
  cases r <;> simp <;> intros <;> simp_all
 unfold execOp
 simp only [ho,hx,hy,Sem.run_bind,h1,h3,Result.andThen_ok,Sem.run_pure]
theorem Oe (a b:Nat) (i:Bool):CH a b i a b i=true:=by
 unfold CH
 simp
theorem YY (w:World) (F:AO) (o:Oper) (x y:Operand) (n m:Nat) {yt:TypeId} (ho:o.op=.binOp .neq 26 x y yt) (hx:evF F x=fv n) (hy:evF F y=fv m) (hn:n<K4) (hm:m<K4):(execOp (evF F) o).run Tryz.prog w=.ok (.value (.bool (!decide (n=m)))) w:=by
 have h1:=Sc.run_eqGuard_fv .neq x y n m w
 have h2:=Sc.run_neq_fv w n m hn hm
 rw [decide_not] at h2
 unfold execOp
 simp only [ho,hx,hy,Sem.run_bind,h1,h2,Result.andThen_ok,Sem.run_pure]
theorem Yf {w:World} {g k x y l u v:Nat} {i j:Bool} {t:TypeId} {P Q R:Pt} (hk:k<K4) (hx:x<K4) (hy:y<K4) (hl:l<K4) (hu:u<K4) (hv:v<K4) (h1:dec x y i=P) (h2:dec u v j=Q) (hb:Blk w g t (tml k x y i++(tml l u v j)).toArray) (hR:Ec.add AR (Ec.nm AR (k%Sc.pM) P) (Ec.nm AR (l%Sc.pM) Q)=R) :
  Calls Tryz.prog 53 #[.slice (pA g) 2 2] w (Gets w (pv (pX R) (pY R) (pI R))):=by
 have hr:w.rangeAt g 0 (tml k x y i++tml l u v j):=CJ hb (by rw [List.drop_zero]; exact List.take_of_length_le (Nat.le_refl _))
 have h:=ID w (pA g) g 0 2 2 (λj'=>if j'=0 then ⟨k,x,y,i⟩ else ⟨l,u,v,j⟩) (Nat.le_refl _) dZ (λj'=>by
  show Trm.ok (if j'=0 then _ else _)
  split
  ·exact ⟨hk,hx,hy⟩
  ·exact ⟨hl,hu,hv⟩) (λ_=>⟨rfl,hb.lt,λj' hj=>by
  rcases j' with _ | _ | j'
  ·exact Gi hr
  ·exact Fo hr U
  ·omega⟩)
 have e0:Ec.sumL AR (λt=>Ec.nm AR ((λj'=>if j'=0 then (⟨k,x,y,i⟩:Trm) else ⟨l,u,v,j⟩) t).kn ((λj'=>if j'=0 then (⟨k,x,y,i⟩:Trm) else ⟨l,u,v,j⟩) t).pt) (List.range 2)=R:=by
  show Ec.add AR (Ec.add AR none (Ec.nm AR (k%Sc.pM) (dec x y i))) (Ec.nm AR (l%Sc.pM) (dec u v j))=_
  rw [Ec.zero_add,h1,h2,hR]
 rw [e0,Ak] at h
 exact h
theorem MB {P R:Pt} {k a b:Nat} {i:Bool} (hk:k<K4) (ha:a<K4) (hb:b<K4) (h1:dec a b i=P) (he:Ec.nm AR (k%Sc.pM) P=R) (w:World):Calls Tryz.prog 29 #[fv k,pv a b i] w (Gets w (pv (pX R) (pY R) (pI R))):=by
 have h:=Rp w k a b i hk ha hb
 rw [h1,he,Ak] at h
 exact h
theorem MA {P R:Pt} {k a b:Nat} {i:Bool} (hk:k<K4) (ha:a<K4) (hb:b<K4) (h1:dec a b i=P) (he:Ec.nm AR (k%Sc.pM) P=R) (w:World):Calls Tryz.prog 187 #[fv k,pv a b i] w (Gets w (pv (pX R) (pY R) (pI R))):=by
 have h:=WH w k a b i hk ha hb
 rw [h1,he,Ak] at h
 exact h
theorem Q0 {P Q R:Pt} {a b c d:Nat} {i j:Bool} (ha:a<K4) (hb:b<K4) (hc:c<K4) (hd:d<K4) (h1:dec a b i=P) (h2:dec c d j=Q) (he:Ec.add AR P Q=R) (w:World):Calls Tryz.prog 28 #[pv a b i,pv c d j] w (Gets w (pv (pX R) (pY R) (pI R))):=by
 have h:=SQ w a b i c d j ha hb hc hd
 rw [h1,h2,he,Ak] at h
 exact h
theorem VE (w:World) (v:Nat) (hv:v<18446744073709551616) (x y:Nat) (i:Bool) (hx:x<K4) (hy:y<K4) (k:Nat) (hk:k<K4):AY 20 #[uZ ((v:Nat):Int),pv x y i,fv k] w (Gets w (ptv (Co v (dec x y i) k))):=by
 refine Sy.enter (args:=[uZ ((v:Nat):Int),pv x y i,fv k]) Tryz.func20 U kL<|sC<|sM 37 (pcs x y i) (λg0=>?_)
 refine sM 26 (fcs k) (λg1=>?_)
 refine sM 37 (pcs 0 0 false) (λg2=>?_)
 refine sH (λj=>j == 9) ?_
 refine sz 0 U U<|sD 1 U (fv v) (qf (λw=>Sc.of_any w v hv))<|sD 2 U (pv x y i) (qk 0 0 9 U U AX)<|sZ 3 U (trv v x y i)<|sD 4 U (fv k) (qk 1 0 4 U U Au)<|sD 5 U (pv (pX bP) (pY bP) (pI bP)) (qf (λw=>by rw [← Ak]; exact KK w))<|sZ 6 U (trv k (pX bP) (pY bP) (pI bP))<|Sy.makeD 7 U kR kR 97 (tml v x y i++(tml k (pX bP) (pY bP) (pI bP))).toArray (λg=>.slice (pA g) 2 2) kF (λg3=>?_)
 obtain ⟨R1,hR1⟩:∃ P:Pt,P=Ec.add AR (Ec.nm AR (v%Sc.pM) (dec x y i)) (Ec.nm AR (k%Sc.pM) bP):=⟨_,rfl⟩
 have oR1:Ec.On R1:=by rw [hR1]; exact Ec.On.add fld ((C8 _ _ _).nm fld _) (bP_on.nm fld _)
 refine sD 8 U (pv (pX R1) (pY R1) (pI R1)) (qg (λw hw=>Yf lP lP lP lP lP lP U (Ap bP_on)  (hw.get (i:=3) rfl) hR1.symm))<|sx 9 U 2 U (pcs (pX R1) (pY R1) (pI R1)) (wA U)<|sI<|Sy.ret ?_
 rw [show (ptv (Co v (dec x y i) k):Value)=pv (pX R1) (pY R1) (pI R1) from by rw [← Ak,hR1]; rfl]
 exact rc (v:=pv (pX R1) (pY R1) (pI R1)) 2 U U AX
theorem SZ (w:World) (v:Nat) (hv:v<18446744073709551616) (x y:Nat) (i:Bool) (hx:x<K4) (hy:y<K4) (k:Nat) (hk:k<K4):AY 17 #[uZ ((v:Nat):Int),pv x y i,fv k] w (Gets w (ptv (Co v (dec x y i) k))):=by
 refine Sy.enter (args:=[uZ ((v:Nat):Int),pv x y i,fv k]) Tryz.func17 U kL<|sC<|sM 37 (pcs x y i) (λg0=>?_)
 refine sM 26 (fcs k) (λg1=>?_)
 refine sM 37 (pcs 0 0 false) (λg2=>?_)
 refine sH (λj=>j == 8) ?_
 refine sz 0 U U<|sD 1 U (fv v) (Quiet.pure (λw=>by rw [F2 v hv]; kernel_rfl))<|sD 2 U (pv x y i) (qk 0 0 9 U U AX) ?_
 obtain ⟨R1,hR1⟩:∃ P:Pt,P=Ec.nm AR (v%Sc.pM) (dec x y i):=⟨_,rfl⟩
 have oR1:Ec.On R1:=by rw [hR1]; exact (C8 _ _ _).nm fld _
 refine sD 3 U (pv (pX R1) (pY R1) (pI R1)) (qf (MB lP lP lP U hR1.symm))<|sD 4 U (fv k) (qk 1 0 4 U U Au)<|sD 5 U (pv (pX bP) (pY bP) (pI bP)) (qf (λw=>by rw [← Ak]; exact MZ w)) ?_
 obtain ⟨R2,hR2⟩:∃ P:Pt,P=Ec.nm AR (k%Sc.pM) bP:=⟨_,rfl⟩
 have oR2:Ec.On R2:=by rw [hR2]; exact bP_on.nm fld _
 refine sD 6 U (pv (pX R2) (pY R2) (pI R2)) (qf (MB lP lP lP (Ap bP_on) hR2.symm)) ?_
 obtain ⟨R3,hR3⟩:∃ P:Pt,P=Ec.add AR R1 R2:=⟨_,rfl⟩
 have oR3:Ec.On R3:=by rw [hR3]; exact Ec.On.add fld oR1 oR2
 refine sD 7 U (pv (pX R3) (pY R3) (pI R3)) (qf (Q0 lP lP lP lP (Ap oR1) (Ap oR2)  hR3.symm))<|sx 8 U 2 U (pcs (pX R3) (pY R3) (pI R3)) (wA U)<|sI<|Sy.ret ?_
 rw [show (ptv (Co v (dec x y i) k):Value)=pv (pX R3) (pY R3) (pI R3) from by rw [← Ak,hR3,hR2,hR1]; rfl]
 exact rc (v:=pv (pX R3) (pY R3) (pI R3)) 2 U U AX
theorem Oa {P R:Pt} {v x y k:Nat} {i:Bool} (hv:v<18446744073709551616) (hx:x<K4) (hy:y<K4) (hk:k<K4) (h1:dec x y i=P) (hR:Co v P k=R) (w:World):Calls Tryz.prog 20 #[.int .u64 ((v:Nat):Int),pv x y i,fv k] w (Gets w (pv (pX R) (pY R) (pI R))):=by
 have h:=VE w v hv x y i hx hy k hk
 rw [h1,hR,Ak] at h
 exact h
theorem P2 {P R:Pt} {v x y k:Nat} {i:Bool} (hv:v<18446744073709551616) (hx:x<K4) (hy:y<K4) (hk:k<K4) (h1:dec x y i=P) (hR:Co v P k=R) (w:World):Calls Tryz.prog 17 #[.int .u64 ((v:Nat):Int),pv x y i,fv k] w (Gets w (pv (pX R) (pY R) (pI R))):=by
 have h:=SZ w v hv x y i hx hy k hk
 rw [h1,hR,Ak] at h
 exact h
def Dk (P:Pt) (v:Value) (M:AC):Prop:=∃ g,v=.slice (pA g) 33 33∧M=[(g,166,((Ay P).map bv).toArray)]
def D7 (x px py:Nat) (pi:Bool):Bool:=CH (pX (evP x)) (pY (evP x)) (pI (evP x)) px py pi
theorem KF (w:World) (px py:Nat) (pi:Bool) (hpx:px<K4) (hpy:py<K4):AY 156 #[pv px py pi] w (GetsN w (Dk (dec px py pi))):=by
 refine Sy.enter (args:=[pv px py pi]) Tryz.func156 U kL<|sC<|sM 37 (pcs px py pi) (λg0=>?_)
 refine sp U<|sA<|sS (pv px py pi) (qk 0 0 9 U U AX)<|sS (.agg ((Ay (dec px py pi)).map bv).toArray) (qf (λw=>I5 w px py pi hpx hpy))<|Sy.make kR 166 (Zl 33).toArray ptr kF (λg1=>?_)
 refine Sy.write kR 1 g1 166 (Zl 33).toArray ((Ay (dec px py pi)).map bv).toArray kR (Writes.store 0 166 ((Ay (dec px py pi)).map bv).toArray _ _ U kR kR (by rw [Cm (Ay (dec px py pi)) (Ai _)]; kernel_rfl) (by rw [Cm (Ay (dec px py pi)) (Ai _)]; exact Nat.le_of_ble_eq_true kR) (EZ _) (FB _ _ (by rw [(Ai _)]; kernel_rfl)))<|sA<|sP (.slice (pA g1) 33 33)<|sp U<|sG<|Sy.ret ?_
 exact RR 1 (g1,166,((Ay (dec px py pi)).map bv).toArray) rfl (v:=.slice (pA g1) 33 33) (.inl (show _=_ by kernel_rfl)) kR ⟨_,rfl,rfl⟩
theorem Ri (w:World) (x px py:Nat) (pi:Bool) (hx:x<K4) (hpx:px<K4) (hpy:py<K4):AY 185 #[fv x,pv px py pi] w (Gets w (.bool (D7 x px py pi))):=by
 have hPX:=B_ (evP x)
 have hPY:=B9 (evP x)
 refine Sy.enter (args:=[fv x,pv px py pi]) Tryz.func185 U kL<|sC<|sM 26 (fcs x) (λg0=>?_)
 refine sM 37 (pcs px py pi) (λg1=>?_)
 refine sp U<|sH (λj=>false) ?_
 refine sD 0 U (fv x) (qk 0 0 4 U U Au)<|sD 1 U (pv gx.val gy.val false) (qf KK)<|sD 2 U (pv (pX (evP x)) (pY (evP x)) (pI (evP x))) (qf (λw=>MA hx (lt4 _) (lt4 _) (show dec gx.val gy.val false=bP from GQ gx gy bP_on) rfl w))<|sD 3 U (pv px py pi) (qk 1 0 9 U U AX) ?_
 obtain ⟨b1,hb1⟩:=xE (CH (pX (evP x)) (pY (evP x)) (pI (evP x)) px py pi)
 refine sD 4 U (.bool b1) (Quiet.pure (λw=>by rw [hb1]; exact C7 w _ _ _ _ _ _ _ _ _ _ U U U lK lK lK lK))<|sz 5 U U<|sI<|Sy.ret ?_
 rw [show (.bool (D7 x px py pi):Value)=.bool b1 from by unfold D7; rw [hb1]]
 exact rV (.bool b1) rfl
theorem Gt (w:World) (s e px py:Nat) (pi:Bool) (hs:s<K4) (he:e<K4) (hpx:px<K4) (hpy:py<K4):AY 158 #[fv s,fv e,pv px py pi] w (GetsN w (Dk (rPt s e px py pi))):=by
 refine Sy.enter (args:=[fv s,fv e,pv px py pi]) Tryz.func158 U kL<|sC<|sM 26 (fcs s) (λg0=>?_)
 refine sM 26 (fcs e) (λg1=>?_)
 refine sM 37 (pcs px py pi) (λg2=>?_)
 refine sp U<|sH (λj=>false) ?_
 refine sD 0 U (fv s) (qk 0 0 4 U U Au)<|sD 1 U (pv gx.val gy.val false) (qf KK)<|sZ 2 U (trv s gx.val gy.val false)<|sD 3 U (fv e) (qk 1 0 4 U U Au)<|sD 4 U (pv px py pi) (qk 2 0 9 U U AX)<|sZ 5 U (trv e px py pi)<|Sy.makeD 6 U kR kR 97 (trl s gx.val gy.val false++(trl e px py pi)).toArray (λg=>.slice (pA g) 2 2) kF (λg3=>?_)
 refine sD 7 U (pv (pX (rPt s e px py pi)) (pY (rPt s e px py pi)) (pI (rPt s e px py pi))) (qg (λw hw=>by rw [← Ak]; exact ZT w g3 _ _ _ px py pi hs he hpx hpy (hw.get (i:=3) rfl)))<|Sy.callND 8 U kR kR 156 #[pv (pX (rPt s e px py pi)) (pY (rPt s e px py pi)) (pI (rPt s e px py pi))] kF ((Dk (rPt s e px py pi))) (λw hw=>by have q:=KF w (pX (rPt s e px py pi)) (pY (rPt s e px py pi)) (pI (rPt s e px py pi)) (B_ _) (B9 _); rwa [Ap (YI _ _ _ _ _)] at q) (λvq Mq hR0=>?_)
 obtain ⟨q7,rfl,rfl⟩:=hR0
 refine sz 9 U U<|sI<|Sy.ret ?_
 exact RR 4 (q7,166,((Ay (rPt s e px py pi)).map bv).toArray) rfl (v:=.slice (pA q7) 33 33) (.inl (show _=_ by kernel_rfl)) kR ⟨_,rfl,rfl⟩
def rgNonce:ByteArray:=⟨#[116,111,108,108,104,111,117,115,101,47,110,111,110,99,101]⟩
def rgFake:ByteArray:=⟨#[116,111,108,108,104,111,117,115,101,47,102,97,107,101]⟩
def rgStep:ByteArray:=⟨#[116,111,108,108,104,111,117,115,101,47,115,116,101,112]⟩
def rgFirst:ByteArray:=⟨#[116,111,108,108,104,111,117,115,101,47,102,105,114,115,116]⟩
def rgRing:ByteArray:=⟨#[116,111,108,108,104,111,117,115,101,47,114,105,110,103]⟩
def Bj (RA:Option Addr) (RN RC:Nat) (bm:AF):List Value:=.slice RA RN RC::bm.map bv
def CK (RA:Option Addr) (RN RC:Nat) (bm:AF):Value:=.agg (Bj RA RN RC bm).toArray
theorem JP {w:World} {g:Nat} {t:TypeId} {v:Value} {l:AF} (hb:Blk w g t (v::l.map bv).toArray):Sh.Src w (some ⟨g,1,none⟩) l:=λ_=>⟨g,1,rfl,hb.lt,λj u hj=>by
 refine (hb.cell (1+j)).trans ?_
 rw [Nat.add_comm,List.getElem?_toArray,List.getElem?_cons_succ,List.getElem?_map,hj]
 rfl⟩
theorem Sn (w:World) (nm:ByteArray) (hnm:nm.size≤1000000000) (g g1 g2 g3:Nat) (t t1 t2 t3:TypeId) (x y:AF) (hx:x.length=32) (hy:y.length=32) (RA:Option Addr) (RN RC:Nat) (l:AF) (k:Nat) (hk:l.length=k) (hk2:k≤100)
  (h1:Blk w g1 t1 (x.map bv).toArray) (h2:Blk w g2 t2 (Bj RA RN RC y).toArray) (h3:Blk w g3 t3 (l.map bv).toArray) (hb:Blk w g t #[.slice (pA g1) 32 32,.slice (some ⟨g2,1,none⟩) 32 32,.slice (pA g3) k k]) (ht:Sh.TabAt w 1) :
  Calls Tryz.prog 63 #[.string nm,.slice (pA g) 3 3] w (Gets w (.agg ((Sh.taggedS nm.data.toList (x++y++l)).map bv).toArray)):=by
 refine Sm w nm hnm g t [⟨some ⟨g1,0,none⟩,x,32⟩,⟨some ⟨g2,1,none⟩,y,32⟩,⟨some ⟨g3,0,none⟩,l,k⟩] 3 3 (x++y++l) (by simp [Sh.cat]) U ?_ (ok3 (Tg h1 hx) ⟨JP (v:=.slice RA RN RC) h2,by show y.length≤32; omega,by show 32≤9223372036854775807; omega⟩ ⟨Sh.Src.of_blk h3,by show l.length≤k; omega,by show k≤9223372036854775807; omega⟩) (by rw [List.length_append,List.length_append,hx,hy]; omega) dZ ht
 rw [List.map_cons,List.map_cons,List.map_cons,List.map_nil]
 unfold Sh.Tx.val
 rw [hx,hy,hk]
 exact hb
theorem Xt (w:World) (nm:ByteArray) (hnm:nm.size≤1000000000) (g g1 g3:Nat) (t t1 t3:TypeId) (y m:AF) (hy:y.length=32) (A:Option Addr) (n c:Nat) (hn:m.length=n) (hm:n≤999999900) (hc:n≤c) (hc2:c≤9223372036854775807) (RA:Option Addr) (RN RC:Nat) (l:AF) (k:Nat) (hk:l.length=k) (hk2:k≤60)
  (h1:Blk w g1 t1 (Bj RA RN RC y).toArray) (hs:Sh.Src w A m) (h3:Blk w g3 t3 (l.map bv).toArray) (hb:Blk w g t #[.slice (some ⟨g1,1,none⟩) 32 32,.slice A n c,.slice (pA g3) k k]) (ht:Sh.TabAt w 1) :
  Calls Tryz.prog 63 #[.string nm,.slice (pA g) 3 3] w (Gets w (.agg ((Sh.taggedS nm.data.toList (y++m++l)).map bv).toArray)):=by
 subst hn
 refine Sm w nm hnm g t [⟨some ⟨g1,1,none⟩,y,32⟩,⟨A,m,c⟩,⟨some ⟨g3,0,none⟩,l,k⟩] 3 3 (y++m++l) (by simp [Sh.cat]) U ?_ (ok3 ⟨JP (v:=.slice RA RN RC) h1,by show y.length≤32; omega,by show 32≤9223372036854775807; omega⟩ ⟨hs,hc,hc2⟩ ⟨Sh.Src.of_blk h3,by show l.length≤k; omega,by show k≤9223372036854775807; omega⟩) (by rw [List.length_append,List.length_append,hy]; omega) dZ ht
 rw [List.map_cons,List.map_cons,List.map_cons,List.map_nil]
 unfold Sh.Tx.val
 rw [hy,hk]
 exact hb
def rgN (bm sd:AF) (i:Nat):Nat:=A2 (Sh.taggedS rgNonce.data.toList (sd++bm++[UInt8.ofNat i]))%Sc.pM
def rgF (bm sd:AF) (i j:Nat):Nat:=A2 (Sh.taggedS rgFake.data.toList (sd++bm++[UInt8.ofNat i,UInt8.ofNat j]))%Sc.pM
def rgC (bm x:AF) (i j:Nat):Nat:=A2 (Sh.taggedS rgStep.data.toList (bm++x++[UInt8.ofNat i,UInt8.ofNat j]))%Sc.pM
theorem TI (bm sd:AF) (i:Nat):rgN bm sd i<K4:=Sc.mod_lt _
theorem Jh (bm sd:AF) (i j:Nat):rgF bm sd i j<K4:=Sc.mod_lt _
theorem IA (bm x:AF) (i j:Nat):rgC bm x i j<K4:=Sc.mod_lt _
theorem Jv (w:World) (RA:Option Addr) (RN RC:Nat) (bm:AF) (hbm:bm.length=32) (sd:AF) (hsd:sd.length=32) (i:Nat) (hi:i<256) (ht:Sh.TabAt w 1):AY 188 #[CK RA RN RC bm,.agg (sd.map bv).toArray,iZ i] w (Gets w (fv (rgN bm sd i))):=by
 refine Sy.enter (args:=[CK RA RN RC bm,.agg (sd.map bv).toArray,iZ i]) Tryz.func188 U kL<|sC<|sM 132 (Bj RA RN RC bm).toArray (λg0=>?_)
 refine sM 23 (sd.map bv).toArray (λg1=>?_)
 refine sM 26 (fcs 0) (λg2=>?_)
 refine sH (λj=>j == 9) ?_
 refine sZ 0 U (.slice (pA g1) 32 32)<|sZ 1 U (pT g0 1)<|sZ 2 U (.slice (some ⟨g0,1,none⟩) 32 32)<|sz 3 U U<|sD 4 U (bv (UInt8.ofNat i)) (Quiet.pure (λw=>DZ w _ _ _ i om U U))<|Sy.makeD 5 U kR kR 5 #[bv (UInt8.ofNat i)] (λg=>.slice (pA g) 1 1) kF (λg3=>?_)
 refine Sy.makeD 6 U kR kR 29 #[.slice (pA g1) 32 32,.slice (some ⟨g0,1,none⟩) 32 32,.slice (pA g3) 1 1] (λg=>.slice (pA g) 3 3) kF (λg4=>?_)
 refine sD 7 U (.agg ((Sh.taggedS rgNonce.data.toList (sd++bm++[(UInt8.ofNat i)])).map bv).toArray) (qg (λw hw=>Sn w rgNonce dZ g4 g1 g0 g3 _ _ _ _ sd bm hsd hbm RA RN RC [(UInt8.ofNat i)] 1 U dZ (hw.get (i:=1) rfl) (hw.get (i:=0) rfl) (hw.get (i:=3) rfl) (hw.get (i:=4) rfl) (ht.below hw.below ht.lt)))<|sD 8 U (fv (A2 (Sh.taggedS rgNonce.data.toList (sd++bm++[(UInt8.ofNat i)]))%Sc.pM)) (qf (λw=>Sc.reduceB_any w (Sh.taggedS rgNonce.data.toList (sd++bm++[(UInt8.ofNat i)])) (Dd _ _)))<|sx 9 U 2 U (fcs (A2 (Sh.taggedS rgNonce.data.toList (sd++bm++[(UInt8.ofNat i)]))%Sc.pM)) (wA U)<|sI<|Sy.ret ?_
 rw [show (fv (rgN bm sd i):Value)=fv (A2 (Sh.taggedS rgNonce.data.toList (sd++bm++[(UInt8.ofNat i)]))%Sc.pM) from rfl]
 exact rc (v:=fv (A2 (Sh.taggedS rgNonce.data.toList (sd++bm++[(UInt8.ofNat i)]))%Sc.pM)) 2 U U Au
theorem R_ (w:World) (RA:Option Addr) (RN RC:Nat) (bm:AF) (hbm:bm.length=32) (sd:AF) (hsd:sd.length=32) (i j:Nat) (hi:i<256) (hj:j<256) (ht:Sh.TabAt w 1):AY 219 #[CK RA RN RC bm,.agg (sd.map bv).toArray,iZ i,iZ j] w (Gets w (fv (rgF bm sd i j))):=by
 refine Sy.enter (args:=[CK RA RN RC bm,.agg (sd.map bv).toArray,iZ i,iZ j]) Tryz.func219 U kL<|sC<|sM 132 (Bj RA RN RC bm).toArray (λg0=>?_)
 refine sM 23 (sd.map bv).toArray (λg1=>?_)
 refine sM 26 (fcs 0) (λg2=>?_)
 refine sH (λj=>j == 11) ?_
 refine sZ 0 U (.slice (pA g1) 32 32)<|sZ 1 U (pT g0 1)<|sZ 2 U (.slice (some ⟨g0,1,none⟩) 32 32)<|sz 3 U U<|sD 4 U (bv (UInt8.ofNat i)) (Quiet.pure (λw=>DZ w _ _ _ i om U U))<|sz 5 U U<|sD 6 U (bv (UInt8.ofNat j)) (Quiet.pure (λw=>DZ w _ _ _ j om U U))<|Sy.makeD 7 U kR kR 5 #[bv (UInt8.ofNat i),bv (UInt8.ofNat j)] (λg=>.slice (pA g) 2 2) kF (λg3=>?_)
 refine Sy.makeD 8 U kR kR 29 #[.slice (pA g1) 32 32,.slice (some ⟨g0,1,none⟩) 32 32,.slice (pA g3) 2 2] (λg=>.slice (pA g) 3 3) kF (λg4=>?_)
 refine sD 9 U (.agg ((Sh.taggedS rgFake.data.toList (sd++bm++[(UInt8.ofNat i),(UInt8.ofNat j)])).map bv).toArray) (qg (λw hw=>Sn w rgFake dZ g4 g1 g0 g3 _ _ _ _ sd bm hsd hbm RA RN RC [(UInt8.ofNat i),(UInt8.ofNat j)] 2 U dZ (hw.get (i:=1) rfl) (hw.get (i:=0) rfl) (hw.get (i:=3) rfl) (hw.get (i:=4) rfl) (ht.below hw.below ht.lt)))<|sD 10 U (fv (A2 (Sh.taggedS rgFake.data.toList (sd++bm++[(UInt8.ofNat i),(UInt8.ofNat j)]))%Sc.pM)) (qf (λw=>Sc.reduceB_any w (Sh.taggedS rgFake.data.toList (sd++bm++[(UInt8.ofNat i),(UInt8.ofNat j)])) (Dd _ _)))<|sx 11 U 2 U (fcs (A2 (Sh.taggedS rgFake.data.toList (sd++bm++[(UInt8.ofNat i),(UInt8.ofNat j)]))%Sc.pM)) (wA U)<|sI<|Sy.ret ?_
 rw [show (fv (rgF bm sd i j):Value)=fv (A2 (Sh.taggedS rgFake.data.toList (sd++bm++[(UInt8.ofNat i),(UInt8.ofNat j)]))%Sc.pM) from rfl]
 exact rc (v:=fv (A2 (Sh.taggedS rgFake.data.toList (sd++bm++[(UInt8.ofNat i),(UInt8.ofNat j)]))%Sc.pM)) 2 U U Au
theorem GR (w:World) (RA:Option Addr) (RN RC:Nat) (bm:AF) (hbm:bm.length=32) (A:Option Addr) (x:AF) (n c:Nat) (hn:x.length=n) (hm:n≤999999900) (hc:n≤c) (hc2:c≤9223372036854775807) (hs:Sh.Src w A x) (i j:Nat) (hi:i<256) (hj:j<256) (ht:Sh.TabAt w 1):AY 157 #[CK RA RN RC bm,.slice A n c,iZ i,iZ j] w (Gets w (fv (rgC bm x i j))):=by
 refine Sy.enter (args:=[CK RA RN RC bm,.slice A n c,iZ i,iZ j]) Tryz.func157 U kL<|sC<|sM 132 (Bj RA RN RC bm).toArray (λg0=>?_)
 refine sM 26 (fcs 0) (λg1=>?_)
 refine sA<|sP (pT g0 1)<|sP (.slice (some ⟨g0,1,none⟩) 32 32)<|sp U<|sp U<|sS (bv (UInt8.ofNat i)) (Quiet.pure (λw=>DZ w _ _ _ i om U U))<|sp U<|sS (bv (UInt8.ofNat j)) (Quiet.pure (λw=>DZ w _ _ _ j om U U))<|Sy.make kR 5 #[bv (UInt8.ofNat i),bv (UInt8.ofNat j)] (λg=>.slice (pA g) 2 2) kF (λg2=>?_)
 refine Sy.make kR 29 #[.slice (some ⟨g0,1,none⟩) 32 32,.slice A n c,.slice (pA g2) 2 2] (λg=>.slice (pA g) 3 3) kF (λg3=>?_)
 refine sS (.agg ((Sh.taggedS rgStep.data.toList (bm++x++[(UInt8.ofNat i),(UInt8.ofNat j)])).map bv).toArray) (qg (λw hw=>Xt w rgStep dZ g3 g0 g2 _ _ _ bm x hbm A n c hn hm hc hc2 RA RN RC [(UInt8.ofNat i),(UInt8.ofNat j)] 2 U dZ (hw.get (i:=0) rfl) (hs.below hw.below) (hw.get (i:=2) rfl) (hw.get (i:=3) rfl) (ht.below hw.below ht.lt)))<|sS (fv (A2 (Sh.taggedS rgStep.data.toList (bm++x++[(UInt8.ofNat i),(UInt8.ofNat j)]))%Sc.pM)) (qf (λw=>Sc.reduceB_any w (Sh.taggedS rgStep.data.toList (bm++x++[(UInt8.ofNat i),(UInt8.ofNat j)])) (Dd _ _)))<|sw 1 U (fcs (A2 (Sh.taggedS rgStep.data.toList (bm++x++[(UInt8.ofNat i),(UInt8.ofNat j)]))%Sc.pM)) (wA U)<|sG<|Sy.ret ?_
 rw [show (fv (rgC bm x i j):Value)=fv (A2 (Sh.taggedS rgStep.data.toList (bm++x++[(UInt8.ofNat i),(UInt8.ofNat j)]))%Sc.pM) from rfl]
 exact rc (v:=fv (A2 (Sh.taggedS rgStep.data.toList (bm++x++[(UInt8.ofNat i),(UInt8.ofNat j)]))%Sc.pM)) 1 U U Au
end Cu
end
section
namespace Sy
open Go.RowKit
def Lst (w:World) (s:Nat) (A:Option Addr) (n:Nat) (el:Nat→List Value):Prop:=∃ g o,0<n→A=some ⟨g,o,none⟩∧g<w.heap.size∧∀ j,j<n→w.rangeAt g (o+j*s) (el j)
theorem Lst.below {w w':World} {s n:Nat} {A:Option Addr} {el:Nat→List Value} (h:Lst w s A n el) (hb:Below w.heap.size w w'):Lst w' s A n el:=by
 obtain ⟨g,o,h⟩:=h
 refine ⟨g,o,λhn=>?_⟩
 obtain ⟨h1,h2,h3⟩:=h hn
 exact ⟨h1,Nat.lt_of_lt_of_le h2 hb.size,λj hj i v hi=>(Below.cell (p:=⟨g,o+j*s+i,none⟩) hb h2).trans (h3 j hj i v hi)⟩
theorem RT {w:World} {g f:Nat} {cs:List Value} (h:w.rangeAt g f cs) (k:Nat) {m:List Value} (e:(cs.drop k).take m.length=m):w.rangeAt g (f+k) m:=λj v hj=>by
 have hlt:j<m.length:=(List.getElem?_eq_some_iff.1 hj).1
 have h2:=h (k+j) v (by rw [← e,List.getElem?_take_of_lt hlt,List.getElem?_drop] at hj; exact hj)
 rwa [← Nat.add_assoc] at h2
theorem Ar {w:World} {g f:Nat} {cs:List Value} (h:w.rangeAt g f cs) (k:Nat) {v:Value} (e:cs[k]? = some v):w.cell? ⟨g,f+k,none⟩=some v:=h k v e
section
variable {P:Program} {w0:Base} {n:Nat} {F:AO} {L:AC} {o:Oper}
theorem Af (t e:TypeId) (x kx:Operand) (A:Option Addr) (g f len cap k s:Nat) (ki:IntKind) (hA:A=some ⟨g,f,none⟩) (ho:o.op=.indexAddr t x kx) (hx:evF F x=.slice A len cap) (hkx:evF F kx=.int ki (k:Int)) (ht:P.underlying t=some (.slice e)) (hsz:∀ w,(sizeOf e).run P w=.ok s w) (hk:k<len) (w:World) :
  (execOp (evF F) o).run P w=.ok (.value (.pointer (some ⟨g,f+k*s,none⟩))) w:=by
 subst hA
 exact CQ t e x kx g f len cap k s ki ho hx hkx ht hsz hk w
theorem Writes.row {g:Nat} {t:TypeId} {cs:Array Value} (ty:TypeId) (c:List Value) (m:Nat) (x y:Operand) (ho:o.op=.store ty x y) (hx:evF F x=pT g 0) (hy:evF F y=.agg c.toArray) (hi:(P.info? ty).map (·.size)=some m) (hc:c.length=m) (hs:cs.size=m) (h1:∀ u∈c,u.oneCell'=true):Writes P F o g t cs c.toArray :=
 Writes.store 0 ty c.toArray x y ho hx hy (by rw [hi,List.size_toArray,hc]) (by rw [List.size_toArray,hc,hs,Nat.zero_add]; exact Nat.le_refl _) (by rw [List.all_toArray,List.all_eq_true]; exact h1) (by
  have:=Cu.setAll_all c 0 cs om
  simpa using this)
end
end Sy
end
section
namespace Cu
open Go.RowKit Sy
def ixB (N:Nat) (p:Nat→Bool):Int:=match (List.range N).find? p with
 | some k=>(k:Int)
 | none => -1
theorem T8 {N k:Nat} {p:Nat→Bool} (hk:k<N) (h:∀ a,a<k→p a=false) (hp:p k=true):ixB N p=(k:Int):=by
 unfold ixB
 rw [List.find?_range_eq_some.2 ⟨hp,List.mem_range.2 hk,λj hj=>by rw [h j hj]; rfl⟩]
theorem T7 {N:Nat} {p:Nat→Bool} (h:∀ a,a<N→p a=false):ixB N p = -1:=by
 unfold ixB
 rw [List.find?_range_eq_none.2 λj hj=>by rw [h j hj]; rfl]
theorem QY (N:Nat) (p:Nat→Bool):decide (ixB N p ≥ 0)=(List.range N).any p:=by
 unfold ixB
 cases h:(List.range N).find? p with
 | none =>
  have q:(List.range N).any p=false:=by
   rw [List.any_eq_false]
   intro x hx e
   rw [List.find?_eq_none] at h
   exact h x hx e
  rw [q]; rfl
 | some k =>
  have q:(List.range N).any p=true:=List.any_eq_true.2 ⟨k,List.mem_of_find?_eq_some h,List.find?_some h⟩
  rw [q]; exact decide_eq_true (Int.natCast_nonneg k)
def Hv (X Y:Nat→Nat) (I:Nat→Bool) (k:Nat):Bool:=!A6 (X k) (Y k) (I k)
theorem Uw (w:World) (x y:Nat) (i:Bool) (hx:x<K4) (hy:y<K4):AY 217 #[pv x y i] w (Gets w (.bool (!A6 x y i))):=by
 refine Sy.enter (args:=[pv x y i]) Tryz.func217 U kL<|sC<|sM 37 (pcs x y i) (λg0=>?_)
 refine sp U<|sA<|sS (pv x y i) (qk 0 0 9 U U AX) ?_
 obtain ⟨b1,hb1⟩:=xE (A6 x y i)
 refine sS (.bool b1) (qf (λw=>by rw [hb1]; exact Lu w x y i hx hy)) ?_
 cases b1
 ·refine sP (.bool true)<|sp U ?_
  refine sG<|Sy.ret ?_
  rw [show (.bool (!A6 x y i):Value)=.bool true from by rw [← hb1]; rfl]
  exact rV (.bool true) rfl
 ·refine sP (.bool false)<|sp U ?_
  refine sG<|Sy.ret ?_
  rw [show (.bool (!A6 x y i):Value)=.bool false from by rw [← hb1]; rfl]
  exact rV (.bool false) rfl
theorem WX (w:World) (A:Option Addr) (N c:Nat) (X Y:Nat→Nat) (I:Nat→Bool) (hX:∀ k,X k<K4) (hY:∀ k,Y k<K4) (hN:N≤4611686018427387904) (hlk:Lst w 9 A N (λk=>pml (X k) (Y k) (I k))):AY 239 #[.slice A N c,.func (.func 217) #[] #[]] w (Gets w (.int .i64 (ixB N (Hv X Y I)))):=by
 obtain ⟨gK,oK,hT⟩:=hlk
 refine Sy.enter (args:=[.slice A N c,.func (.func 217) #[] #[]]) Tryz.func239 U kL<|sC<|sp U<|sG<|Sy.seq<|sC<|sp U<|sP (iZ N)<|sp U<|sG<|Sy.block<|Sy.loopH N (λk1=>∀ a,a<k1→Hv X Y I a=false) (λk1=>[(0,.slice A N c),(1,.func (.func 217) #[] #[]),(7,iZ N),(8,iZ k1)]) (λk1=>[]) [] (M:=[]) (λa ha=>absurd ha (Nat.not_lt_zero _)) ac4 kR U (λk1 hk1 hh=>?_)
 have hh1:=hh
 refine sC ?_
 obtain ⟨b1,hb1⟩:=xE (decide (k1<N))
 refine sS (.bool b1) (qls U U U hb1)<|sG<|Sy.seq ?_
 cases b1
 ·have lb1:=dN hb1
  refine sU<|Sy.exit<|Sy.then_exit<|Sy.then_exit ?_
  obtain rfl:N=k1:=om
  refine Sy.in_exit<|sB<|sp U<|sG<|Sy.ret ?_
  rw [show (.int .i64 (ixB N (Hv X Y I)):Value)=.int .i64 (-1) from by rw [T7 (λa ha=>hh1 a om)]]
  exact rV (.int .i64 (-1)) U
 ·have lb1:=dY hb1
  refine sT<|Sy.skip<|Sy.then_<|Sy.seq<|Sy.block<|sC<|sp U<|sp U<|sA<|sp U<|sp U<|sp U<|sS (.pointer (some ⟨gK,oK+k1*9,none⟩)) (Quiet.pure (Af 54 _ _ _ A gK oK N c k1 9 .i64 (hT om).1 U U U CE kF om))<|sS (pv (X k1) (Y k1) (I k1)) (Quiet.there gK (oK+k1*9) 9 37 (pml (X k1) (Y k1) (I k1)) _ _ U kR (hT om).2.1 ((hT om).2.2 k1 om) AX U kR U _ U) ?_
  obtain ⟨b2,hb2⟩:=xE (Hv X Y I k1)
  refine sS (.bool b2) (qg (λw hw=>by rw [hb2]; exact Uw w _ _ _ (hX _) (hY _)))<|sG ?_
  cases b2
  ·refine sU<|Sy.skip<|Sy.in_<|Sy.then_<|Sy.region ?_
   refine sS (iZ (k1+1)) (qad U U U)<|sp U<|Sy.nil ?_
   exact Sy.againH [] (M:=[]) om (λa ha=>(Nat.lt_succ_iff_lt_or_eq.1 ha).elim (hh1 a) (λh=>by rw [h]; exact hb2.symm)) ac4 kR U
  ·refine sT<|sC ?_
   refine sp U<|sp U<|sG<|Sy.ret<|Sy.in_ret<|Sy.then_ret<|Sy.then_ret<|Sy.in_ret<|Sy.then_ret ?_
   rw [show (.int .i64 (ixB N (Hv X Y I)):Value)=iZ k1 from by rw [T8 om hh1 hb2.symm]]
   exact rV (iZ k1) rfl
theorem W2 (w:World) (A:Option Addr) (N c:Nat) (X Y:Nat→Nat) (I:Nat→Bool) (hX:∀ k,X k<K4) (hY:∀ k,Y k<K4) (hN:N≤4611686018427387904) (hlk:Lst w 9 A N (λk=>pml (X k) (Y k) (I k))):AY 216 #[.slice A N c,.func (.func 217) #[] #[]] w (Gets w (.bool ((List.range N).any (Hv X Y I)))):=by
 have hlk0:=hlk
 obtain ⟨gK,oK,hT⟩:=hlk
 refine Sy.enter (args:=[.slice A N c,.func (.func 217) #[] #[]]) Tryz.func216 U kL<|sC<|sp U<|sA<|sp U<|sp U<|sS (.int .i64 (ixB N (Hv X Y I))) (qg (λw hw=>WX w A N c X Y I hX hY hN (hlk0.below hw.below))) ?_
 obtain ⟨b1,hb1⟩:=xE (decide ((ixB N (Hv X Y I)) ≥ 0))
 refine sS (.bool b1) (Quiet.pure (AK .geq _ _ _ .i64 _ _ _ U U U (GN _ _ _ _ _ hb1.symm)))<|sp U<|sG<|Sy.ret ?_
 rw [show (.bool ((List.range N).any (Hv X Y I)):Value)=.bool b1 from by rw [← QY,hb1]]
 exact rV (.bool b1) rfl
theorem XA (w:World) (A:Option Addr) (N c:Nat) (X Y:Nat→Nat) (I:Nat→Bool) (hX:∀ k,X k<K4) (hY:∀ k,Y k<K4) (hN:N≤4611686018427387904) (hlk:Lst w 9 A N (λk=>pml (X k) (Y k) (I k))):AY 155 #[.slice A N c] w (Gets w (.bool ((List.range N).any (Hv X Y I)))):=by
 have hlk0:=hlk
 obtain ⟨gK,oK,hT⟩:=hlk
 refine Sy.enter (args:=[.slice A N c]) Tryz.func155 U kL<|sC<|sp U<|sA<|sp U ?_
 obtain ⟨b1,hb1⟩:=xE ((List.range N).any (Hv X Y I))
 refine sS (.bool b1) (qg (λw hw=>by rw [hb1]; exact W2 w A N c X Y I hX hY hN (hlk0.below hw.below)))<|sp U<|sG<|Sy.ret ?_
 rw [show (.bool ((List.range N).any (Hv X Y I)):Value)=.bool b1 from by rw [hb1]]
 exact rV (.bool b1) rfl
def mnF (D:Nat→Nat):Nat→Nat
 | 0=>D 0
 | k+1=>min (mnF D k) (D (k+1))
def mxF (D:Nat→Nat):Nat→Nat
 | 0=>D 0
 | k+1=>max (mxF D k) (D (k+1))
theorem Yh (D:Nat→Nat) (a k:Nat):a≤mnF D k↔∀ j,j≤k→a≤D j:=by
 induction k with
 | zero=>exact ⟨λh j hj=>by rw [Nat.le_zero.1 hj]; exact h,λh=>h 0 (Nat.le_refl _)⟩
 | succ k ih =>
  show a≤min (mnF D k) (D (k+1))↔_
  rw [Nat.le_min,ih]
  exact ⟨λh j hj=>(Nat.lt_or_eq_of_le hj).elim (λq=>h.1 j om) (λq=>by rw [q]; exact h.2),λh=>⟨λj hj=>h j om,h _ (Nat.le_refl _)⟩⟩
theorem Ye (D:Nat→Nat) (a k:Nat):mxF D k≤a↔∀ j,j≤k→D j≤a:=by
 induction k with
 | zero=>exact ⟨λh j hj=>by rw [Nat.le_zero.1 hj]; exact h,λh=>h 0 (Nat.le_refl _)⟩
 | succ k ih =>
  show max (mxF D k) (D (k+1))≤a↔_
  rw [Nat.max_le,ih]
  exact ⟨λh j hj=>(Nat.lt_or_eq_of_le hj).elim (λq=>h.1 j om) (λq=>by rw [q]; exact h.2),λh=>⟨λj hj=>h j om,h _ (Nat.le_refl _)⟩⟩
theorem UM {F:AO} {o:Oper} (x y:Operand) {ts:Array TypeId} (k:IntKind) (a b c:Nat) (ho:o.op=.call { callee:=.builtin .max,args:=#[x,y],argTypes:=ts }) (hx:evF F x=.int k (a:Int)) (hy:evF F y=.int k (b:Int)) (h:max a b=c) (w:World):(execOp (evF F) o).run Tryz.prog w=.ok (.value (.int k (c:Int))) w:=by
 have e:(if (a:Int)<(b:Int) then (b:Int) else (a:Int))=(c:Int):=by split <;> omega
 unfold execOp
 simp [ho,hx,hy,resolve,invoke,builtin,Builtin.max_,Builtin.max2]
 omega
theorem WM (w:World) (A:Option Addr) (M c:Nat) (D:Nat→Nat) (hN:M+1≤4611686018427387904) (hlk:Lst w 1 A (M+1) (λk=>[iZ (D k)])):AY 213 #[.slice A (M+1) c] w (Gets w (iZ (mnF D M))):=by
 obtain ⟨gK,oK,hT⟩:=hlk
 refine Sy.enter (args:=[.slice A (M+1) c]) Tryz.func213 U kL<|sC<|sp U<|sG<|Sy.seq<|sC<|sp U<|sP (iZ ((M+1))) ?_
 obtain ⟨b1,hb1⟩:=xE (decide ((M+1)<1))
 refine sS (.bool b1) (qls U U U hb1)<|sG ?_
 cases b1
 ·have lb1:=dN hb1
  refine sU<|Sy.skip<|sB<|sp U<|sS (.pointer (some ⟨gK,oK+0*1,none⟩)) (Quiet.pure (Af 139 _ _ _ A gK oK (M+1) c 0 1 .i64 (hT om).1 U U U D1 kF om))<|sS (iZ ((D 0))) (Quiet.thereOne gK (oK+0*1) 3 _ _ U kR (hT om).2.1 _ (Ar ((hT om).2.2 0 om) 0 U) uy3 U)<|sp U<|sG<|Sy.seq<|sC<|sp U<|sG<|Sy.block<|Sy.loopK M (λk1=>[(0,.slice A (M+1) c),(3,iZ ((mnF D k1))),(4,iZ (k1+1))]) (λk1=>[]) [] (M:=[]) ac3 kR U (λk1 hk1=>?_)
  refine Sy.seq<|sC<|sp U<|sp U<|sP (iZ ((M+1))) ?_
  obtain ⟨b2,hb2⟩:=xE (decide (k1+1<(M+1)))
  refine sS (.bool b2) (qls U U U hb2)<|sG ?_
  cases b2
  ·have lb2:=dN hb2
   refine sU<|Sy.exit<|Sy.then_exit<|Sy.then_exit ?_
   obtain rfl:M=k1:=om
   refine Sy.in_exit<|sB<|sp U<|sp U<|sG<|Sy.ret ?_
   rw [show (iZ (mnF D M):Value)=iZ ((mnF D M)) from rfl]
   exact rV (iZ ((mnF D M))) U
  ·have lb2:=dY hb2
   refine sT<|Sy.skip<|Sy.then_<|Sy.seq<|Sy.block<|Sy.region<|sp U<|sp U<|sp U<|sS (.pointer (some ⟨gK,oK+(k1+1)*1,none⟩)) (Quiet.pure (Af 139 _ _ _ A gK oK (M+1) c (k1+1) 1 .i64 (hT om).1 U U U D1 kF om))<|sS (.int .i64 (((D (k1+1)):Nat):Int)) (Quiet.thereOne gK (oK+(k1+1)*1) 3 _ _ U kR (hT om).2.1 _ (Ar ((hT om).2.2 (k1+1) om) 0 U) uy3 U)<|sS (.int .i64 (((mnF D (k1+1)):Nat):Int)) (Quiet.pure (F4 _ _ .i64 (mnF D k1) (D (k1+1)) (mnF D (k1+1)) U U U U))<|sp U<|Sy.nil<|Sy.in_<|Sy.then_<|Sy.region<|sp U<|sS (iZ ((k1+1)+1)) (qad U U U)<|sp U<|Sy.nil ?_
   exact Sy.againK [] (M:=[]) om ac3 kR U
 ·have lb1:=dY hb1
  exact absurd lb1 om
theorem WN (w:World) (A:Option Addr) (M c:Nat) (D:Nat→Nat) (hN:M+1≤4611686018427387904) (hlk:Lst w 1 A (M+1) (λk=>[iZ (D k)])):AY 214 #[.slice A (M+1) c] w (Gets w (iZ (mxF D M))):=by
 obtain ⟨gK,oK,hT⟩:=hlk
 refine Sy.enter (args:=[.slice A (M+1) c]) Tryz.func214 U kL<|sC<|sp U<|sG<|Sy.seq<|sC<|sp U<|sP (iZ ((M+1))) ?_
 obtain ⟨b1,hb1⟩:=xE (decide ((M+1)<1))
 refine sS (.bool b1) (qls U U U hb1)<|sG ?_
 cases b1
 ·have lb1:=dN hb1
  refine sU<|Sy.skip<|sB<|sp U<|sS (.pointer (some ⟨gK,oK+0*1,none⟩)) (Quiet.pure (Af 139 _ _ _ A gK oK (M+1) c 0 1 .i64 (hT om).1 U U U D1 kF om))<|sS (iZ ((D 0))) (Quiet.thereOne gK (oK+0*1) 3 _ _ U kR (hT om).2.1 _ (Ar ((hT om).2.2 0 om) 0 U) uy3 U)<|sp U<|sG<|Sy.seq<|sC<|sp U<|sG<|Sy.block<|Sy.loopK M (λk1=>[(0,.slice A (M+1) c),(3,iZ ((mxF D k1))),(4,iZ (k1+1))]) (λk1=>[]) [] (M:=[]) ac3 kR U (λk1 hk1=>?_)
  refine Sy.seq<|sC<|sp U<|sp U<|sP (iZ ((M+1))) ?_
  obtain ⟨b2,hb2⟩:=xE (decide (k1+1<(M+1)))
  refine sS (.bool b2) (qls U U U hb2)<|sG ?_
  cases b2
  ·have lb2:=dN hb2
   refine sU<|Sy.exit<|Sy.then_exit<|Sy.then_exit ?_
   obtain rfl:M=k1:=om
   refine Sy.in_exit<|sB<|sp U<|sp U<|sG<|Sy.ret ?_
   rw [show (iZ (mxF D M):Value)=iZ ((mxF D M)) from rfl]
   exact rV (iZ ((mxF D M))) U
  ·have lb2:=dY hb2
   refine sT<|Sy.skip<|Sy.then_<|Sy.seq<|Sy.block<|Sy.region<|sp U<|sp U<|sp U<|sS (.pointer (some ⟨gK,oK+(k1+1)*1,none⟩)) (Quiet.pure (Af 139 _ _ _ A gK oK (M+1) c (k1+1) 1 .i64 (hT om).1 U U U D1 kF om))<|sS (.int .i64 (((D (k1+1)):Nat):Int)) (Quiet.thereOne gK (oK+(k1+1)*1) 3 _ _ U kR (hT om).2.1 _ (Ar ((hT om).2.2 (k1+1) om) 0 U) uy3 U)<|sS (.int .i64 (((mxF D (k1+1)):Nat):Int)) (Quiet.pure (UM _ _ .i64 (mxF D k1) (D (k1+1)) (mxF D (k1+1)) U U U U))<|sp U<|Sy.nil<|Sy.in_<|Sy.then_<|Sy.region<|sp U<|sS (iZ ((k1+1)+1)) (qad U U U)<|sp U<|Sy.nil ?_
   exact Sy.againK [] (M:=[]) om ac3 kR U
 ·have lb1:=dY hb1
  exact absurd lb1 om
def szB (N:Nat) (D:Nat→Nat):Bool:=decide (1≤N) && (decide (N≤32) && (decide (1≤mnF D (N - 1)) && decide (mxF D (N - 1)≤64)))
theorem P7 (N:Nat) (D:Nat→Nat):szB N D=true↔1≤N∧N≤32∧∀ j,j<N→1≤D j∧D j≤64:=by
 unfold szB
 simp only [Bool.and_eq_true,decide_eq_true_eq,Yh,Ye]
 exact ⟨λ⟨a,b,c,d⟩=>⟨a,b,λj hj=>⟨c j om,d j om⟩⟩,λ⟨a,b,c⟩=>⟨a,b,λj hj=>(c j om).1,λj hj=>(c j om).2⟩⟩
theorem Zd {N:Nat} {D:Nat→Nat} (h:N<1):szB N D=false:=by unfold szB; rw [decide_eq_false (by omega:¬ 1≤N)]; rfl
theorem Zc {N:Nat} {D:Nat→Nat} (h:N>32):szB N D=false:=by unfold szB; rw [decide_eq_false (by omega:¬ N≤32),Bool.false_and,Bool.and_false]
theorem Zb {N:Nat} {D:Nat→Nat} (h:¬ (mnF D (N - 1) ≥ 1)):szB N D=false:=by unfold szB; rw [show decide (1≤mnF D (N - 1))=false from decide_eq_false h,Bool.false_and,Bool.and_false,Bool.and_false]
theorem Za {N:Nat} {D:Nat→Nat} (h1:¬ N<1) (h2:¬ N>32) (h3:mnF D (N - 1) ≥ 1):szB N D=decide (mxF D (N - 1)≤64):=by
 unfold szB
 rw [decide_eq_true (by omega:1≤N),decide_eq_true (by omega:N≤32),show decide (1≤mnF D (N - 1))=true from decide_eq_true h3,Bool.true_and,Bool.true_and,Bool.true_and]
theorem Ts (w:World) (A:Option Addr) (N c:Nat) (D:Nat→Nat) (h1:1≤N) (hN:N≤4611686018427387904) (hlk:Lst w 1 A N (λk=>[iZ (D k)])):Calls Tryz.prog 213 #[.slice A N c] w (Gets w (iZ (mnF D (N - 1)))):=by
 have e:N - 1+1=N:=om
 have q:=WM w A (N - 1) c D om (by rw [e]; exact hlk)
 rwa [e] at q
theorem Tu (w:World) (A:Option Addr) (N c:Nat) (D:Nat→Nat) (h1:1≤N) (hN:N≤4611686018427387904) (hlk:Lst w 1 A N (λk=>[iZ (D k)])):Calls Tryz.prog 214 #[.slice A N c] w (Gets w (iZ (mxF D (N - 1)))):=by
 have e:N - 1+1=N:=om
 have q:=WN w A (N - 1) c D om (by rw [e]; exact hlk)
 rwa [e] at q
theorem OM (w:World) (A:Option Addr) (N c:Nat) (D:Nat→Nat) (hN:N≤4611686018427387904) (hlk:Lst w 1 A N (λk=>[iZ (D k)])):AY 153 #[.slice A N c] w (Gets w (.bool (szB N D))):=by
 have hlk0:=hlk
 obtain ⟨gK,oK,hT⟩:=hlk
 refine Sy.enter (args:=[.slice A N c]) Tryz.func153 U kL<|sC<|sp U<|sG<|Sy.seq<|sC<|sp U<|sP (iZ N) ?_
 obtain ⟨b1,hb1⟩:=xE (decide (N<1))
 refine sS (.bool b1) (qls U U U hb1)<|sp U ?_
 cases b1
 ·have lb1:=dN hb1
  refine sp U<|sP (iZ N) ?_
  obtain ⟨b2,hb2⟩:=xE (decide (N>32))
  refine sS (.bool b2) (qgt U U U hb2)<|sP (.bool b2)<|sG ?_
  cases b2
  ·have lb2:=dN hb2
   refine sU<|Sy.skip<|sB<|sp U<|sS (.int .i64 (((mnF D (N - 1)):Nat):Int)) (qg (λw hw=>Ts w A N c D om hN (hlk0.below hw.below))) ?_
   obtain ⟨b3,hb3⟩:=xE (decide ((mnF D (N - 1)) ≥ 1))
   refine sS (.bool b3) (qge U U U hb3)<|sp U ?_
   cases b3
   ·have lb3:=dN hb3
    refine sN<|sN<|sN<|sP (.bool false)<|sp U<|sG<|Sy.ret ?_
    rw [show (.bool (szB N D):Value)=.bool false from by rw [Zb lb3]]
    exact rV (.bool false) rfl
   ·have lb3:=dY hb3
    refine sp U<|sS (.int .i64 (((mxF D (N - 1)):Nat):Int)) (qg (λw hw=>Tu w A N c D om hN (hlk0.below hw.below))) ?_
    obtain ⟨b4,hb4⟩:=xE (decide ((mxF D (N - 1))≤64))
    refine sS (.bool b4) (qle U U U hb4)<|sP (.bool b4)<|sp U<|sG<|Sy.ret ?_
    rw [show (.bool (szB N D):Value)=.bool b4 from by rw [Za lb1 lb2 lb3, ← hb4]]
    exact rV (.bool b4) rfl
  ·have lb2:=dY hb2
   refine sT<|sC<|sp U<|sG<|Sy.ret<|Sy.then_ret ?_
   rw [show (.bool (szB N D):Value)=.bool false from by rw [Zc lb2]]
   exact rV (.bool false) rfl
 ·have lb1:=dY hb1
  refine sN<|sN<|sN<|sP (.bool true)<|sG<|sT<|sC<|sp U<|sG<|Sy.ret<|Sy.then_ret ?_
  rw [show (.bool (szB N D):Value)=.bool false from by rw [Zd lb1]]
  exact rV (.bool false) rfl
def IR (n:Nat→Nat) (X Y:Nat→Nat→Nat) (I:Nat→Nat→Bool) (i:Nat):Bool:=(List.range (n i)).any (Hv (X i) (Y i) (I i))
theorem WW (w:World) (R:Option Addr) (NR cR:Nat) (a:Nat→Option Addr) (n c:Nat→Nat) (X Y:Nat→Nat→Nat) (I:Nat→Nat→Bool) (hX:∀ i k,X i k<K4) (hY:∀ i k,Y i k<K4) (hNR:NR≤4611686018427387904) (hn:∀ i,n i≤4611686018427387904) (hlr:Lst w 1 R NR (λi=>[.slice (a i) (n i) (c i)])) (hlk:∀ i,i<NR→Lst w 9 (a i) (n i) (λk=>pml (X i k) (Y i k) (I i k))):AY 215 #[.slice R NR cR,.func (.func 155) #[] #[]] w (Gets w (.int .i64 (ixB NR (IR n X Y I)))):=by
 have hlr0:=hlr
 obtain ⟨gR,oR,hR⟩:=hlr
 refine Sy.enter (args:=[.slice R NR cR,.func (.func 155) #[] #[]]) Tryz.func215 U kL<|sC<|sp U<|sG<|Sy.seq<|sC<|sp U<|sP (iZ NR)<|sp U<|sG<|Sy.block<|Sy.loopH NR (λk1=>∀ a,a<k1→IR n X Y I a=false) (λk1=>[(0,.slice R NR cR),(1,.func (.func 155) #[] #[]),(7,iZ NR),(8,iZ k1)]) (λk1=>[]) [] (M:=[]) (λa ha=>absurd ha (Nat.not_lt_zero _)) ac4 kR U (λk1 hk1 hh=>?_)
 have hh1:=hh
 refine sC ?_
 obtain ⟨b1,hb1⟩:=xE (decide (k1<NR))
 refine sS (.bool b1) (qls U U U hb1)<|sG<|Sy.seq ?_
 cases b1
 ·have lb1:=dN hb1
  refine sU<|Sy.exit<|Sy.then_exit<|Sy.then_exit ?_
  obtain rfl:NR=k1:=om
  refine Sy.in_exit<|sB<|sp U<|sG<|Sy.ret ?_
  rw [show (.int .i64 (ixB NR (IR n X Y I)):Value)=.int .i64 (-1) from by rw [T7 (λa ha=>hh1 a om)]]
  exact rV (.int .i64 (-1)) U
 ·have lb1:=dY hb1
  refine sT<|Sy.skip<|Sy.then_<|Sy.seq<|Sy.block<|sC<|sp U<|sp U<|sA<|sp U<|sp U<|sp U<|sS (.pointer (some ⟨gR,oR+k1*1,none⟩)) (Quiet.pure (Af 73 _ _ _ R gR oR NR cR k1 1 .i64 (hR om).1 U U U D0 kF om))<|sS (.slice (a k1) (n k1) (c k1)) (Quiet.thereOne gR (oR+k1*1) 54 _ _ U kR (hR om).2.1 _ (Ar ((hR om).2.2 k1 om) 0 U) CE U) ?_
  obtain ⟨b2,hb2⟩:=xE (IR n X Y I k1)
  refine sS (.bool b2) (qg (λw hw=>by rw [hb2]; exact XA w _ _ (c k1) _ _ _ (hX k1) (hY k1) (hn k1) ((hlk k1 om).below hw.below)))<|sG ?_
  cases b2
  ·refine sU<|Sy.skip<|Sy.in_<|Sy.then_<|Sy.region ?_
   refine sS (iZ (k1+1)) (qad U U U)<|sp U<|Sy.nil ?_
   exact Sy.againH [] (M:=[]) om (λa ha=>(Nat.lt_succ_iff_lt_or_eq.1 ha).elim (hh1 a) (λh=>by rw [h]; exact hb2.symm)) ac4 kR U
  ·refine sT<|sC ?_
   refine sp U<|sp U<|sG<|Sy.ret<|Sy.in_ret<|Sy.then_ret<|Sy.then_ret<|Sy.in_ret<|Sy.then_ret ?_
   rw [show (.int .i64 (ixB NR (IR n X Y I)):Value)=iZ k1 from by rw [T8 om hh1 hb2.symm]]
   exact rV (iZ k1) rfl
theorem W0 (w:World) (R:Option Addr) (NR cR:Nat) (a:Nat→Option Addr) (n c:Nat→Nat) (X Y:Nat→Nat→Nat) (I:Nat→Nat→Bool) (hX:∀ i k,X i k<K4) (hY:∀ i k,Y i k<K4) (hNR:NR≤4611686018427387904) (hn:∀ i,n i≤4611686018427387904) (hlr:Lst w 1 R NR (λi=>[.slice (a i) (n i) (c i)])) (hlk:∀ i,i<NR→Lst w 9 (a i) (n i) (λk=>pml (X i k) (Y i k) (I i k))):AY 154 #[.slice R NR cR,.func (.func 155) #[] #[]] w (Gets w (.bool ((List.range NR).any (IR n X Y I)))):=by
 have hlr0:=hlr
 obtain ⟨gR,oR,hR⟩:=hlr
 refine Sy.enter (args:=[.slice R NR cR,.func (.func 155) #[] #[]]) Tryz.func154 U kL<|sC<|sp U<|sA<|sp U<|sp U<|sS (.int .i64 (ixB NR (IR n X Y I))) (qg (λw hw=>WW w R NR cR a n c X Y I hX hY hNR hn (hlr0.below hw.below) (λi hi=>(hlk i hi).below hw.below))) ?_
 obtain ⟨b1,hb1⟩:=xE (decide ((ixB NR (IR n X Y I)) ≥ 0))
 refine sS (.bool b1) (Quiet.pure (AK .geq _ _ _ .i64 _ _ _ U U U (GN _ _ _ _ _ hb1.symm)))<|sp U<|sG<|Sy.ret ?_
 rw [show (.bool ((List.range NR).any (IR n X Y I)):Value)=.bool b1 from by rw [← QY,hb1]]
 exact rV (.bool b1) rfl
end Cu
end
section
namespace Sy
open Go.RowKit
theorem St.perm {w0:Base} {w:World} {L M:AC} (h:St w0 w L) (p:L.Perm M):St w0 w M :=
 ⟨h.below,λg t cs hm=>h.blk g t cs (p.mem_iff.2 hm),(p.map _).nodup_iff.1 h.apart,h.size,h.non⟩
theorem QP {α:Type _} {l m:List α} (is:List Nat) (hi:is.isPerm (List.range l.length)=true) (hm:is.map (λi=>l[i]?)=m.map some):l.Perm m:=by
 have h1:(is.map (λi=>l[i]?)).Perm ((List.range l.length).map (λi=>l[i]?)):=(List.isPerm_iff.1 hi).map _
 have h2:(List.range l.length).map (λi=>l[i]?)=l.map some:=by
  refine List.ext_getElem (by simp) λi h _=>?_
  simp only [List.getElem_map,List.getElem_range]
  exact List.getElem?_eq_getElem (by simpa using h)
 rw [hm,h2] at h1
 have h3:=h1.filterMap id
 simpa [List.filterMap_map] using h3.symm
section
variable {P:Program} {w0:Base} {n:Nat} {Q:Exit→Act→World→Prop} {F:AO} {L:AC} {ops:Array Oper} {ex:Nat→Bool} {fuel:Nat} {listed:Array Bool}
theorem oneCallN {i:Nat} {oi:Oper} (hi0:ops.toList[i]? = some oi) (hg:Bv ops n F oi=true) (f:FuncId) (args:Array Value) (he:∀ w,(execOp (evF F) oi).run P w=.ok (.enter f args) w) (R:Value→AC→Prop)
  (hc:∀ w,St w0 w L→Calls P f args w (GetsN w R)) (h:∀ v M,R v M→wpD P w0 n ops Q ex (Bo F oi.dst v) (L++M) fuel (listed.setIfInBounds i true)):wpO P w0 n ops Q ex F L fuel listed i :=
 ⟨oi,by simpa using hi0,(AQ hg).1,λa w ha hw w1 h1 K hK=>by
  unfold Oper.wp
  rw [Ao hg ha,he w1]
  refine Calls.mono (hc w1 (hw.gr h1)) λe w' he'=>?_
  obtain ⟨v,M,rfl,hR,hb,hM,hn⟩:=he'
  exact hK _ _ (λ_=>hb) (h v M hR _ _ (ha.put (AQ hg).2.2.1 v) ((hw.gr h1).addN hb hM hn))⟩
theorem joinG {T:Type} (FF:T→AO) (LL:T→AC) (H:T→Prop) (fu:Nat) (li:Array Bool) {fuel':Nat} (h:∀ x,H x→wpD P w0 n ops Q ex (FF x) (LL x) fu li) (k:(∀ x,H x→wpD P w0 n ops Q ex (FF x) (LL x) fu li)→wpD P w0 n ops Q ex F L fuel' listed):wpD P w0 n ops Q ex F L fuel' listed:=k h
end
end Sy
end
end Go.Proofs.YtgemfpnlnipfnabGreatDoor
