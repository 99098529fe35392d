import Derived.Test.YtgggdbjakcpanaaGreatDoorQCRefMac
import Derived.Test.YtgggdbjakcpanaaGreatDoorQCTag
set_option linter.unusedVariables false
set_option linter.unusedSimpArgs false
namespace Go.Proofs.YtgggdbjakcpanaaGreatDoor
namespace Sh
open Go.RowKit Sp
set_option maxHeartbeats 4000000 in
set_option maxRecDepth 100000 in
theorem taggedR_any (w : World) (s : ByteArray) (T : Option Addr) (ts : List Tx) (ct : Nat) (hT : Texts w T ts) (ht : TabAt w 0) (hs : s.size ≤ 1000000000) (hm : (cat ts).length ≤ 1000000000) (hn : ts.length ≤ 1000000000) :
    Calls Tryz.prog 44 #[.string s,.slice T ts.length ct] w fun e w'=>e=.returned (dv (taggedS s.data.toList (cat ts)))∧Below w.heap.size w w':=by
  have HT:=Lib.hid hT
  have HC:=Lib.hid ht
  have htl:=ht.lt
  clear hT ht
  obtain ⟨nm,hnm⟩:∃ nm,nm=s.data.toList:=⟨_,rfl⟩
  have hnl:nm.length=s.size:=by rw [hnm]; simp
  have hnl2:nm.length≤1000000000:=by rw [hnl]; exact hs
  have HN:=Lib.hid hnm
  have HM:=Lib.hid hm
  have hsz:nm.length≤9223372036854775807:=by omega
  clear hnl hm hnm
  go_enter Tryz.func44,Tryz.ntmps44
  go_wp2_with (first
    | (refine wpList_bytes_of_string rfl (.tmp 8) 9 29 5 rfl s rfl Tryz.underlying9 Tryz.underlying29 Tryz.underlying5 (w.heap.size + 1) (by simp) nm HN.out hsz ?_
       intro w1 c1 hs1 hb1 hl1 hc1 hc2
       have hr:=(Blk.new w 28 _).below hb1 (Nat.lt_succ_self _)
       have hb:=(((Below.refl w.heap.size w).alloc (Nat.le_refl _) _).trans (hb1.mono (Nat.le_succ _)))
       clear hb1))
  refine (ofR_any w1 _ nm c1 hs1 (by omega) (HC.out.below hb htl)).mono ?_
  rintro e w2 ⟨rfl,hb2⟩
  have hr:=hr.below hb2 hr.lt
  have hb:=hb.trans (hb2.mono hb.size)
  clear hb2 hs1 hl1
  obtain ⟨d,hd⟩:∃ d,d=sum nm:=⟨_,rfl⟩
  have hdl:d.length=32:=by rw [hd,sum_length]
  rw [← hd]
  have HD:=Lib.hid (And.intro hd hdl)
  clear hd
  unfold dv
  go_wp2_with fail
  refine (textR_any w2 d hdl).mono ?_
  rintro e w3 ⟨g3,cap3,rfl,hown3,hgl3,hb3⟩
  have hr:=hr.below hb3 hr.lt
  have hb:=hb.trans (hb3.mono hb.size)
  have hs3:=Lib.hid (hown3.src hgl3)
  have hcap:=hown3.cap
  rw [HD.out.2] at hcap
  have hrl:=hr.lt
  clear hb3 hown3 hdl
  go_wp2_with (first
    | (at_builtin
       refine wpList_append_bytes rfl (.tmp 12) (.tmp 13) rfl w3.heap.size _ [] rfl (OwnB.lit w3 _ (Nat.le_refl _)) (some ⟨g3,0,none⟩) d cap3 (by rw [HD.out.2]; rfl) (hs3.out.below ((Below.refl _ _).alloc (Nat.le_refl _) _)) (by rw [HD.out.2]; simp) (by simp) ?_
       intro v4 w4 hv4 hg4
       have b4:=below_own ((Below.refl w3.heap.size w3).alloc (Nat.le_refl _) (.cells #[] 5)) (OwnB.lit w3 _ (Nat.le_refl _)) hg4 (Nat.le_refl _) (by simp)
       clear hg4)
    | (at_builtin
       refine wpList_append_bytes rfl (.tmp 15) (.tmp 16) rfl w3.heap.size v4 d rfl (OwnB.mk (l:=d) (by simpa using hv4)) (some ⟨g3,0,none⟩) d cap3 (by rw [HD.out.2]; rfl) (hs3.out.below b4) (by rw [HD.out.2]; omega) b4.size ?_
       intro v5 w5 hv5 hg5
       have b5:=below_own b4 (OwnB.mk (l:=d) (by simpa using hv4)) hg5 (Nat.le_refl _) b4.size
       clear hg5 hv4
       have hr5:=hr.below b5 hrl
       have hb5:=hb.trans (b5.mono hb.size)
       have hz5:=b5.size
       clear b4 b5))
  go_loopw [6,7] (fun v i wr=>∃ (k:Nat) (v0:Value),k≤ts.length∧v0=v∧i=.int .i64 k∧OwnB wr w3.heap.size v0 (d++d++cat (ts.take k))∧Below w.heap.size w wr∧Blk wr w.heap.size 28 _∧w3.heap.size≤wr.heap.size)
    (fun _ i _=>ts.length - (intOf i).toNat)
  case atStart=>exact ⟨0,_,Nat.zero_le _,rfl,rfl,by simpa [cat] using hv5,hb5,hr5,hz5⟩
  case round =>
    clear hr5 hb5 hz5 hv5 hr hb
    obtain ⟨k,v0,hk,rfl,rfl,hown,hb,hr,hz⟩:=hrel
    by_cases hlt:k<ts.length
    · obtain ⟨x, hx⟩ : ∃ x, ts[k]? = some x := ⟨ts[k], List.getElem?_eq_getElem hlt⟩
      obtain ⟨b,o,rfl,hbl,htx⟩:=HT.out (fun e=>by rw [e] at hlt; exact absurd hlt (Nat.not_lt_zero _))
      have hc:wr.cell? ⟨b,o+k,none⟩=some (.slice x.A x.l.length x.c):=(hb.cell (p:=⟨b,o+k,none⟩) hbl).trans (htx k x hx).1
      have hok:=(htx k x hx).2.below hb
      have hlx:=cat_next ts k x hx
      have hown1:=hown
      have HX:=Lib.hid (And.intro hx (And.intro htx (And.intro hok hlx)))
      clear hx htx hok hlx
      go_wp2_with (at_builtin
                   refine wpList_append_bytes rfl (.tmp 24) (.tmp 28) rfl w3.heap.size v0 _ rfl hown x.A x.l x.c rfl HX.out.2.2.1.1 (by have:=HX.out.2.2.2; have:=HM.out; simp only [List.length_append,HD.out.2]; omega) hz ?_
                   intro v6 w6 hv6 hg6
                   have b6:=below_own (Below.refl w3.heap.size wr) hown hg6 (Nat.le_refl _) hz
                   have hr6:=hr.below b6 hrl
                   have hb6:=hb.trans (b6.mono (Nat.le_of_lt hrl))
                   have hz6:=Nat.le_trans hz b6.size
                   clear hg6 b6)
      go_roundw
      case rel=>exact ⟨k+1,v6,by omega,rfl,by go_num,by rw [cat_step ts k x HX.out.1, ← List.append_assoc]; exact hv6,hb6,hr6,hz6⟩
      case measure=>simp [intOf]; omega
    · obtain rfl:k=ts.length:=by omega
      rw [List.take_length] at hown
      obtain ⟨m,hme⟩:∃ m,m=d++d++cat ts:=⟨_,rfl⟩
      have hml:m.length≤1000000064:=by have:=HM.out; rw [hme,List.length_append,List.length_append,HD.out.2]; omega
      rw [← hme] at hown
      obtain ⟨A,cap,rfl,hsA,hcA,hmA⟩:=hown.any
      have HE:=Lib.hid hme
      have HS:=Lib.hid hsA
      clear hme hsA hown hlt
      go_wp2_with fail
      refine (ofR_any wr A m cap HS.out (by omega) (HC.out.below hb htl)).mono ?_
      rintro e w7 ⟨rfl,hb7⟩
      have hr:=hr.below hb7 hr.lt
      have hb:=hb.trans (hb7.mono hb.size)
      clear hb7
      unfold dv
      go_wp2_with (refine wpList_store_row rfl 28 (.tmp 4) (.tmp 31) rfl w.heap.size _ rfl rfl 28 _ hr (sum_info m) (by rw [sum_size]; rfl) (sum_one m) ?_)
      have hfin:sum m=taggedS s.data.toList (cat ts):=by rw [HE.out,HD.out.1,HN.out]; rfl
      exact bodyPost_ret (results_cell_row rfl _ _ w.heap.size 28 _ (0,0) _ rfl (hr.setRow _) Tryz.underlying28 rfl (sum_info m)) rfl ⟨by rw [hfin]; rfl,below_setRow hb (Nat.le_refl _) _⟩
end Sh
end Go.Proofs.YtgggdbjakcpanaaGreatDoor
