import Derived.Test.YtgggdbjakcpanaaGreatDoorQCShaMac
import Derived.Test.YtgggdbjakcpanaaGreatDoorQCOrd
import Derived.Laws.IdiomStrings
set_option linter.unusedVariables false
set_option linter.unusedSimpArgs false
namespace Go.Proofs.YtgggdbjakcpanaaGreatDoor
namespace Sh
open Go.RowKit Sp
structure Tx where
  A:Option Addr
  l:List UInt8
  c:Nat
def Tx.val (x:Tx):Value:=.slice x.A x.l.length x.c
def Tx.ok (w:World) (x:Tx):Prop:=Src w x.A x.l∧x.l.length≤x.c∧x.c≤9223372036854775807
def TextsAt (w:World) (b o:Nat) (ts:List Tx):Prop:=∀ j x,ts[j]? = some x→w.cell? ⟨b,o+j,none⟩=some x.val∧x.ok w
def Texts (w:World) (T:Option Addr) (ts:List Tx):Prop:=ts≠[]→∃ b o,T=some ⟨b,o,none⟩∧b<w.heap.size∧TextsAt w b o ts
def cat (ts:List Tx):List UInt8:=ts.flatMap (·.l)
theorem Tx.ok.below {w w':World} {x:Tx} (h:x.ok w) (hb:Below w.heap.size w w'):x.ok w':=⟨h.1.below hb,h.2⟩
theorem Texts.below {w w':World} {T:Option Addr} {ts:List Tx} (h:Texts w T ts) (hb:Below w.heap.size w w'):Texts w' T ts:=fun hne=>by
  obtain ⟨b,o,e,hlt,hc⟩:=h hne
  refine ⟨b,o,e,Nat.lt_of_lt_of_le hlt hb.size,fun j x hx=>⟨(hb.cell (p:=⟨b,o+j,none⟩) hlt).trans (hc j x hx).1,(hc j x hx).2.below hb⟩⟩
theorem cat_step (ts:List Tx) (k:Nat) (x:Tx) (h:ts[k]? = some x):cat (ts.take (k+1))=cat (ts.take k)++x.l:=by
  have hk:k<ts.length:=(List.getElem?_eq_some_iff.1 h).1
  have he:ts[k]=x:=(List.getElem?_eq_some_iff.1 h).2
  rw [List.take_succ_eq_append_getElem hk,he]
  simp [cat]
theorem cat_le (ts:List Tx) (k:Nat):(cat (ts.take k)).length≤(cat ts).length:=by
  conv=>rhs; rw [← List.take_append_drop k ts]
  simp only [cat,List.flatMap_append,List.length_append]
  omega
theorem cat_next (ts:List Tx) (k:Nat) (x:Tx) (h:ts[k]? = some x):(cat (ts.take k)).length+x.l.length≤(cat ts).length:=by
  have:=cat_le ts (k+1)
  rw [cat_step ts k x h,List.length_append] at this
  exact this
theorem wpList_bytes_of_string {P : Program} {w : World} {ops : Array Oper} {rest : List Oper} {o : Oper} {a : Act} {Q : Exit → Act → World → Prop} (hgd : o.guard = none) (x : Operand) (src dst e : TypeId)
    (ho:o.op=.convert src dst x) (s:ByteArray) (hx:a.eval x=.string s) (hs:P.underlying src=some .string) (hd:P.underlying dst=some (.slice e)) (he:P.underlying e=some (.int .u8))
    (N:Nat) (hN:w.heap.size=N) (m:List UInt8) (hm:m=s.data.toList) (hsz:m.length≤9223372036854775807)
    (h:∀ w' c,Src w' (some ⟨N,0,none⟩) m→Below N w w'→N<w'.heap.size→m.length≤c→c≤9223372036854775807→wpList P ops Q rest (a.put o.dst (.slice (some ⟨N,0,none⟩) m.length c)) w') :
    wpList P ops Q (o::rest) a w:=by
  subst hN
  refine wpList_plain hgd fun _ hK=>?_
  have hrun:=run_bytes_of_string (P:=P) w src dst e s hs hd he
  have hl:m.length=s.size:=by rw [hm]; simp
  rw [← hl] at hrun
  unfold Oper.wp
  simp only [execOp,ho,hx,Sem.run_bind,hrun,Result.andThen_ok,Sem.run_pure]
  refine hK _ _ (h _ _ (fun _=>⟨w.heap.size,0,rfl,by simp,fun j u hu=>?_⟩) ((((Below.refl _ _).drew).alloc (Nat.le_refl _) _)) (by simp) (grownCap_ge _ _ _ _) (by have:=grownCap_le_maxLen w m.length 0 e (by simpa [maxLen] using hsz); simpa [maxLen] using this))
  rw [Nat.zero_add]
  refine (cell_of_row _ _ j _ e _ (heap_alloc_new w.drew _)).trans ?_
  rw [hm] at hu
  have hu':s.data[j]? = some u:=by simpa using hu
  have hj2:j<s.size:=(Array.getElem?_eq_some_iff.1 hu').1
  simp [bytesRow,Array.getElem?_append,hj2,bv]
  rw [(Array.getElem?_eq_some_iff.1 hu').2]
theorem rangeAt_blk {w:World} {g:Nat} {t:TypeId} {cs:List Value} (h:Blk w g t cs.toArray):w.rangeAt g 0 cs:=fun j v hj=>by rw [Nat.zero_add]; exact (h.cell j).trans (by simpa using hj)
theorem calls_dv {P:Program} {f:FuncId} {args:Array Value} {w:World} {Y X:List UInt8} (h:Calls P f args w fun e w'=>e=.returned (dv Y)∧Below w.heap.size w w') (hX:X=Y):Calls P f args w fun e w'=>e=.returned (.agg (X.map bv).toArray)∧Gr w w':=by
  subst hX; exact h
def taggedS (name m:List UInt8):List UInt8:=sum (sum name++sum name++m)
set_option maxHeartbeats 2000000 in
set_option maxRecDepth 100000 in
theorem tagged_any (w : World) (s : ByteArray) (T : Option Addr) (ts : List Tx) (ct : Nat) (hT : Texts w T ts) (ht : TabAt w 1) (hs : s.size ≤ 1000000000) (hm : (cat ts).length ≤ 1000000000) (hn : ts.length ≤ 1000000000) :
    Calls Tryz.prog 33 #[.string s,.slice T ts.length ct] w fun e w'=>e=.returned (dv (taggedS s.data.toList (cat ts)))∧Below w.heap.size w w':=by
  have HT:=Lib.hid hT
  have HC:=Lib.hid ht
  have htl:=ht.lt
  clear hT ht
  have hsl:=slice_all
  obtain ⟨nm,hnm⟩:∃ nm,nm=s.data.toList:=⟨_,rfl⟩
  have hnl:nm.length=s.size:=by rw [hnm]; simp
  have hnl2:nm.length≤1000000000:=by rw [hnl]; exact hs
  have HN:=Lib.hid hnm
  have hsz:nm.length≤9223372036854775807:=by omega
  clear hnl hnm
  go_enter Tryz.func33,Tryz.ntmps33
  go_wp2_with (refine wpList_bytes_of_string rfl (.tmp 9) 9 29 5 rfl s rfl Tryz.underlying9 Tryz.underlying29 Tryz.underlying5 (w.heap.size + 1) (by simp) nm HN.out hsz ?_
               intro w1 c1 hs1 hb1 hl1 hc1 hc2
               have hr:=(Blk.new w 28 _).below hb1 (Nat.lt_succ_self _)
               have hb:=(((Below.refl w.heap.size w).alloc (Nat.le_refl _) _).trans (hb1.mono (Nat.le_succ _)))
               clear hb1)
  refine (of_any w1 _ nm c1 hs1 (HC.out.below hb htl) hc1 hc2 (by omega)).mono ?_
  rintro e w2 ⟨rfl,hb2⟩
  have hr:=hr.below hb2 hr.lt
  have hb:=hb.trans (hb2.mono hb.size)
  clear hb2 hs1 hl1
  obtain ⟨d,hd⟩:∃ d,d=sum nm:=⟨_,rfl⟩
  have hdl:d.length=32:=by rw [hd,sum_length]
  have hd1:(d.map bv).toArray.all (·.oneCell')=true:=by rw [hd]; exact sum_one nm
  have hdi:(Tryz.prog.info? 28).map (·.size)=some (d.map bv).toArray.size:=by rw [hd]; exact sum_info nm
  have hds:(d.map bv).toArray.size=32:=by rw [List.size_toArray,List.length_map,hdl]
  rw [← hd]
  have HD:=Lib.hid (And.intro hd (And.intro hdl (And.intro hd1 (And.intro hdi hds))))
  clear hd hdl hd1 hdi hds
  unfold dv
  go_wp2_with (refine wpList_store_new rfl 28 (.tmp 5) (.tmp 11) rfl _ _ _ rfl rfl HD.out.2.2.2.1 (by rw [HD.out.2.2.2.2]; rfl) HD.out.2.2.1 ?_
               intro w3 hd3 hb3 hz3
               have hN2:w.heap.size<w2.heap.size:=hr.lt
               have hr:=hr.below hb3 hN2
               have hb:=hb.trans (hb3.mono hb.size)
               clear hb3 hz3)
  have hN3:w2.heap.size<w3.heap.size:=hd3.lt
  refine (new_at _ w3.heap.size rfl).mono ?_
  rintro e w4 ⟨rfl,hb4,hh,hl4⟩
  have hd4:=hd3.below hb4 hN3
  have hr:=hr.below hb4 hr.lt
  have hb:=hb.trans (hb4.mono hb.size)
  clear hb4 hd3
  go_wp2_with fail
  have hw:=write_any w4 w3.heap.size [] d (some ⟨w2.heap.size,0,none⟩) 32 hh (Src.of_blk hd4) (fun _ x hx=>by injection hx with hx; subst hx; show w2.heap.size≠_; omega) (HC.out.below hb htl) (by omega) (by rw [HD.out.2.1]; exact Nat.le_refl _) (by omega) (by rw [HD.out.2.1]; simp)
  rw [HD.out.2.1] at hw
  refine hw.mono ?_
  clear hw
  rintro e w5 ⟨rfl,ho5,hh⟩
  have hd5:=hd4.grown ho5 (fun e=>by injection e; omega)
  have hr:=hr.grown ho5 (fun e=>by injection e; omega)
  have hb:=hb.trans (below_of_only ho5 hb.size (by omega))
  clear ho5 hd4
  go_wp2_with fail
  have hw:=write_any w5 w3.heap.size d d (some ⟨w2.heap.size,0,none⟩) 32 (by simpa using hh) (Src.of_blk hd5) (fun _ x hx=>by injection hx with hx; subst hx; show w2.heap.size≠_; omega) (HC.out.below hb htl) (by omega) (by rw [HD.out.2.1]; exact Nat.le_refl _) (by omega) (by rw [HD.out.2.1]; simp)
  rw [HD.out.2.1] at hw
  refine hw.mono ?_
  clear hw hh
  rintro e w6 ⟨rfl,ho6,hh⟩
  have hr:=hr.grown ho6 (fun e=>by injection e; omega)
  have hb:=hb.trans (below_of_only ho6 hb.size (by omega))
  clear ho6 hd5
  go_wp2
  go_loopw [21] (fun i wr=>∃ k:Nat,k≤ts.length∧i=.int .i64 k∧HashIs wr w3.heap.size (d++d++cat (ts.take k))∧Below w.heap.size w wr∧Blk wr w.heap.size 28 _)
    (fun i _=>ts.length - (intOf i).toNat)
  case atStart=>exact ⟨0,Nat.zero_le _,rfl,by simpa [cat] using hh,hb,hr⟩
  case round =>
    clear hr hb hh
    obtain ⟨k,hk,rfl,hh,hb,hr⟩:=hrel
    by_cases hlt:k<ts.length
    · obtain ⟨x,hx⟩:∃ x,ts[k]? = some x:=⟨ts[k],List.getElem?_eq_getElem hlt⟩
      obtain ⟨b,o,rfl,hbl,htx⟩:=HT.out (fun e=>by rw [e] at hlt; exact absurd hlt (Nat.not_lt_zero _))
      have hc:wr.cell? ⟨b,o+k,none⟩=some (.slice x.A x.l.length x.c):=(hb.cell (p:=⟨b,o+k,none⟩) hbl).trans (htx k x hx).1
      have hoff:=(htx k x hx).2.1.off (N:=w3.heap.size) (by omega)
      have hok:=(htx k x hx).2.below hb
      have hlx:=cat_next ts k x hx
      have hlc:=hok.2.1
      have hcm:=hok.2.2
      have HX:=Lib.hid (And.intro hx (And.intro hoff (And.intro hok hlx)))
      clear hx htx hok hlx hoff
      go_wp2_with fail
      refine (write_any wr w3.heap.size _ x.l x.A x.c hh HX.out.2.2.1.1 HX.out.2.1 (HC.out.below hb htl) (by omega) hlc hcm (by have:=HX.out.2.2.2; simp only [List.length_append,HD.out.2.1]; omega)).mono ?_
      rintro e w7 ⟨rfl,ho7,hh7⟩
      have hr7:=hr.grown ho7 (fun e=>by injection e; omega)
      have hb7:=hb.trans (below_of_only ho7 hb.size (by omega))
      clear ho7
      go_wp2
      go_roundw
      case rel=>exact ⟨k+1,by omega,by go_num,by rw [cat_step ts k x HX.out.1, ← List.append_assoc]; exact hh7,hb7,hr7⟩
      case measure=>simp [intOf]; omega
    · obtain rfl:k=ts.length:=by omega
      rw [List.take_length] at hh
      obtain ⟨m,hme⟩:∃ m,m=d++d++cat ts:=⟨_,rfl⟩
      have hml:m.length≤1000000064:=by rw [hme,List.length_append,List.length_append,HD.out.2.1]; omega
      rw [← hme] at hh
      have HE:=Lib.hid hme
      clear hme hlt
      go_wp2_with fail
      refine (sum_any wr w3.heap.size m hh (HC.out.below hb htl) (by omega)).mono ?_
      rintro e w7 ⟨rfl,hb7⟩
      have hr:=hr.below hb7 hr.lt
      have hb:=hb.trans (hb7.mono hb.size)
      clear hb7 hh
      unfold dv
      go_wp2_with (refine wpList_store_row rfl 28 (.tmp 4) (.tmp 30) rfl w.heap.size _ rfl rfl 28 _ hr (sum_info m) (by rw [sum_size]; rfl) (sum_one m) ?_)
      have hfin:sum m=taggedS s.data.toList (cat ts):=by rw [HE.out,HD.out.1,HN.out]; rfl
      exact bodyPost_ret (results_cell_row rfl _ _ w.heap.size 28 _ (0,0) _ rfl (hr.setRow _) Tryz.underlying28 rfl (sum_info m)) rfl ⟨by rw [hfin]; rfl,below_setRow hb (Nat.le_refl _) _⟩
end Sh
end Go.Proofs.YtgggdbjakcpanaaGreatDoor
