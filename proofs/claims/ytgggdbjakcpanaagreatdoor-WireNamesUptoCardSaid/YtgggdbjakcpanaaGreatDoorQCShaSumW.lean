import Derived.Test.YtgggdbjakcpanaaGreatDoorQCShaSum
set_option linter.unusedVariables false
set_option linter.unusedSimpArgs false
namespace Go.Proofs.YtgggdbjakcpanaaGreatDoor
namespace Sh
open Go.RowKit Sp
theorem pad_small (n:Nat):(pad n).length≤9223372036854775807:=by
  rw [pad_length]
  have:zeros n<64:=Nat.mod_lt _ (by omega)
  omega
set_option maxHeartbeats 400000 in
set_option maxRecDepth 100000 in
theorem sum_any (w:World) (g:Nat) (l:List UInt8) (h:HashIs w g l) (ht:TabAt w 1) (hlen:l.length≤1000000000000000000) :
    Calls Tryz.prog 71 #[.pointer (some ⟨g,0,none⟩)] w fun e w'=>e=.returned (dv (sum l))∧Below w.heap.size w w':=by
  have hg:=h.lt
  have htl:=ht.lt
  have HT:=Lib.hid ht
  have HH:=Lib.hid h
  clear ht h
  have hc72:∃ blk,Waits l blk∧Blk w g 234 (hcells (run l (l.length / 64)) blk l.length).toArray:=HH.out
  obtain ⟨blk,hw,hb⟩:=hc72
  have hc72:w.cell? ⟨g,72,none⟩=some (.int .i64 (l.length:Int)):=(hb.cell 72).trans (hcells_72 _ _ _ hw.1)
  clear hb hw
  go_enter Tryz.func71,Tryz.ntmps71
  go_wp2_with (first
    | (go_at_call 128
       refine (clone_at _ g l (w.heap.size+1) (by simp) (HH.out.below ((Below.refl _ _).alloc (Nat.le_refl _) _) hg)).mono ?_
       rintro e w1 ⟨rfl,hb1,hh1,hl1⟩
       have hr1:=(Blk.new w 28 _).below hb1 (by omega)
       have hbb1:=(((Below.refl w.heap.size w).alloc (Nat.le_refl _) _).trans (hb1.mono (Nat.le_succ _)))
       have hc1:=(hbb1.cell (p:=⟨g,72,none⟩) hg).trans hc72)
    | (go_at_call 129
       refine (padding_any _ l.length hlen).mono ?_
       rintro e w2 ⟨rfl,hb2,hk2⟩
       clear hc1)
    | (go_at_call 70
       refine (write_any _ (w.heap.size+1) l (pad l.length) (some ⟨w1.heap.size,0,none⟩) _ (hh1.below hb2 hl1) (Src.of_blk hk2) (fun _ a ha=>by injection ha with ha; subst ha; show w1.heap.size≠_; omega)
         (HT.out.below (hbb1.trans (hb2.mono hbb1.size)) htl) (by omega) (Nat.le_refl _) (pad_small _) (by have:=pad_small l.length; have:=pad_length l.length; have:zeros l.length<64:=Nat.mod_lt _ (by omega); omega)).mono ?_
       rintro e w3 ⟨rfl,ho3,hh3⟩
       have hbb2:=hbb1.trans (hb2.mono hbb1.size)
       have hbb3:=hbb2.trans (below_of_only ho3 hbb2.size (Nat.le_succ _))
       have hr3:=(hr1.below hb2 (by omega)).grown ho3 (fun e=>by injection e; omega)
       obtain ⟨blk3,hw3,hk3⟩:=hh3
       obtain ⟨S,hS⟩:∃ S,S=run (l++pad l.length) ((l++pad l.length).length / 64):=⟨_,rfl⟩
       rw [← hS] at hk3
       have HS:=Lib.hid hS
       clear hS hw3 hr1 hk2 hh1)
    | (refine wpList_load_mid rfl 232 (.tmp 18) rfl (w.heap.size+1) 0 rfl (S8.list S) _ (state_range (hk3.alloc _)) Tryz.underlying232 rfl (by kernel_rfl) ?_))
  have hz3:w.heap.size<w3.heap.size:=hr3.lt
  have hz0:(outTo S 0).map bv=List.replicate 32 (.int .u8 0):=by simp [outTo,bv]
  go_loopw [20] (fun i wr=>∃ k:Nat,k≤8∧i=.int .i64 k∧Below w.heap.size w wr∧Blk wr w.heap.size 28 (List.replicate 32 (.int .u8 0)).toArray∧Blk wr w3.heap.size 28 ((outTo S k).map bv).toArray)
    (fun i _=>8 - (intOf i).toNat)
  case atStart =>
    exact ⟨0,by omega,rfl,hbb3.alloc (Nat.le_of_lt hz3) _,Blk.eq_ (hr3.alloc _) (by kernel_rfl),Blk.eq_ (Blk.new w3 _ _) (by rw [hz0]; kernel_rfl)⟩
  case round =>
    obtain ⟨k,hk,rfl,hb,hr,hd⟩:=hrel
    clear hr3 hk3 hz0 hbb1 hbb2 hbb3 hb1 hb2 ho3
    by_cases hlt:k<8
    · have hix:=index_word S k hlt
      obtain ⟨x,hx⟩:∃ x,x=S.word k:=⟨_,rfl⟩
      rw [← hx] at hix
      have lx:=wd_lt x
      have hdl:((outTo S k).map bv).length=32:=by rw [List.length_map,outTo_length _ _ hk]
      have hcell:∀ j,j<32→∃ v,wr.cell? ⟨w3.heap.size,j,none⟩=some v:=fun j hj =>
        ⟨((outTo S k).map bv)[j],(hd.cell j).trans (by rw [List.getElem?_toArray]; exact List.getElem?_eq_getElem (by omega))⟩
      obtain ⟨v0,h0⟩:=hcell (4*k) (by omega)
      obtain ⟨v1,h1⟩:=hcell (4*k+1) (by omega)
      obtain ⟨v2,h2⟩:=hcell (4*k+2) (by omega)
      obtain ⟨v3,h3⟩:=hcell (4*k+3) (by omega)
      have f0:=hd.frozen (4*k)
      have f1:=hd.frozen (4*k+1)
      have f2:=hd.frozen (4*k+2)
      have f3:=hd.frozen (4*k+3)
      have HX:=Lib.hid hx
      clear hcell hdl hx
      go_wp2
      go_roundw
      case rel =>
        refine ⟨k+1,by omega,by go_num,?_,?_,?_⟩
        · exact (((hb.setCell (Nat.le_of_lt hz3) _).setCell (Nat.le_of_lt hz3) _).setCell (Nat.le_of_lt hz3) _).setCell (Nat.le_of_lt hz3) _
        · exact (((hr.far (by show w.heap.size≠w3.heap.size; omega) _).far (by show w.heap.size≠w3.heap.size; omega) _).far (by show w.heap.size≠w3.heap.size; omega) _).far (by show w.heap.size≠w3.heap.size; omega) _
        · refine ((((hd.set_ _ _).set_ _ _).set_ _ _).set_ _ _).eq_ ?_
          have hx:=HX.out
          subst hx
          exact out_step S k hlt
      case measure=>simp [intOf]; omega
    · obtain rfl:k=8:=by omega
      have hd':=hd.eq_ (by rw [outTo_8]:_=(S.out.map bv).toArray)
      have hsz:(S.out.map bv).toArray.size=32:=by rw [List.size_toArray,List.length_map,out_length]
      have hi:(Tryz.prog.info? 28).map (·.size)=some (S.out.map bv).toArray.size:=by rw [hsz]; kernel_rfl
      have hz:(List.replicate 32 (Value.int .u8 0)).toArray.size=(S.out.map bv).toArray.size:=by rw [hsz]; simp
      have HI:=Lib.hid (And.intro hi hz)
      clear hi hz hsz hd
      go_wp2_with (first
        | (refine wpList_load_row rfl 28 (.tmp 4) rfl w3.heap.size rfl 28 _ (0,0) _ hd' Tryz.underlying28 rfl HI.out.1 ?_)
        | (refine wpList_store_row rfl 28 (.tmp 2) (.tmp 51) rfl w.heap.size _ rfl rfl 28 _ hr HI.out.1 HI.out.2 (by simp [bv,Value.oneCell']) ?_))
      have hres:=hr.setRow (S.out.map bv).toArray
      have hsum:S.out=sum l:=by rw [HS.out]; rfl
      exact bodyPost_ret (results_cell_row rfl _ _ w.heap.size 28 _ (0,0) _ rfl hres Tryz.underlying28 rfl HI.out.1) rfl ⟨by rw [hsum]; rfl,below_setRow hb (Nat.le_refl _) _⟩
end Sh
end Go.Proofs.YtgggdbjakcpanaaGreatDoor
