import Derived.Test.YtgggdbjakcpanaaGreatDoorQCShaRot
import Derived.Test.YtgggdbjakcpanaaGreatDoorQCMem
import Derived.StillTailTactics
import Derived.BigRegion
import Derived.Deep.DeepCutAuto
set_option linter.unusedVariables false
set_option linter.unusedSimpArgs false
namespace Go.Proofs.YtgggdbjakcpanaaGreatDoor
namespace Sh
open Go.RowKit Sp
def hcells (s:S8) (l:List UInt8) (n:Nat):List Value :=
 [wv s.a,wv s.b,wv s.c,wv s.d,wv s.e,wv s.f,wv s.g,wv s.h]++(l.map bv++[.int .i64 (n:Int)])
theorem hcells_length (s:S8) (l:List UInt8) (n:Nat) (hl:l.length=64):(hcells s l n).length=73:=by simp [hcells,hl]
theorem hcells_byte (s:S8) (l:List UInt8) (n:Nat) (hl:l.length=64) (i:Nat) (hi:i<64):(hcells s l n).toArray[8+i]? = some (.int .u8 (bt l i:Int)):=by
 have h:i<l.length:=by omega
 simp [hcells,Nat.add_comm 8 i,List.getElem?_append,h,bv,bt]
theorem bt_lt (l:List UInt8) (i:Nat):bt l i≤255:=by unfold bt; have:=(l.getD i 0).toNat_lt; omega
theorem words_len (l:List UInt8) (k:Nat):(wordsTo l k).length=k:=by simp [wordsTo]
theorem words_step (l:List UInt8) (k:Nat) (_h:k<16):wordsTo l (k+1)=wordsTo l k++[word l k]:=by simp [wordsTo,List.range_succ]
theorem or4 (a b c d:Nat) (ha:a≤255) (hb:b≤255) (hc:c≤255) (hd:d≤255) :
  bits .or .u32 (bits .or .u32 (bits .or .u32 ((a:Int)*16777216) ((b:Int)*65536)) ((c:Int)*256)) (d:Int)=((BitVec.ofNat 32 (a*16777216+b*65536+c*256+d)).toNat:Int):=by
 have e1:(a:Int)*16777216=((a*16777216:Nat):Int):=by omega
 have e2:(b:Int)*65536=((b*65536:Nat):Int):=by omega
 have e3:(c:Int)*256=((c*256:Nat):Int):=by omega
 have o1:a*16777216 ||| b*65536=a*16777216+b*65536:=by
  have:=Nat.two_pow_add_eq_or_of_lt (i:=24) (b:=b*65536) (by omega) a
  rw [show a*16777216=2 ^ 24*a from by omega]; exact this.symm
 have o2:(a*16777216+b*65536) ||| c*256=a*16777216+b*65536+c*256:=by
  have:=Nat.two_pow_add_eq_or_of_lt (i:=16) (b:=c*256) (by omega) (a*256+b)
  rw [show a*16777216+b*65536=2 ^ 16*(a*256+b) from by omega]; exact this.symm
 have o3:(a*16777216+b*65536+c*256) ||| d=a*16777216+b*65536+c*256+d:=by
  have:=Nat.two_pow_add_eq_or_of_lt (i:=8) (b:=d) (by omega) (a*65536+b*256+c)
  rw [show a*16777216+b*65536+c*256=2 ^ 8*(a*65536+b*256+c) from by omega]; exact this.symm
 rw [e1,e2,e3,u32_or_nat _ _ (by omega) (by omega),o1,u32_or_nat _ _ (by omega) (by omega),o2,u32_or_nat _ _ (by omega) (by omega),o3,BitVec.toNat_ofNat]
 omega
theorem sched_len (l:List UInt8) (k:Nat):(sched l k).length=16+k:=by
 induction k with
 | zero=>simp [sched,wordsTo]
 | succ k ih=>simp [sched,ih]; omega
theorem sched_step (l:List UInt8) (k:Nat):sched l (k+1)=sched l k++[nxt (sched l k)]:=rfl
theorem sig0_eq (x:Wd):bits .xor .u32 (bits .xor .u32 ((rotr x 7).toNat:Int) ((rotr x 18).toNat:Int)) ((x.toNat:Int) / 8)=((sig0 x).toNat:Int):=by
 have h:(x.toNat:Int) / (8:Int)=((x >>> 3).toNat:Int):=by rw [← wd_shr x 3]; rfl
 rw [h,wd_xor,wd_xor]; rfl
theorem sig1_eq (x:Wd):bits .xor .u32 (bits .xor .u32 ((rotr x 17).toNat:Int) ((rotr x 19).toNat:Int)) ((x.toNat:Int) / 1024)=((sig1 x).toNat:Int):=by
 have h:(x.toNat:Int) / (1024:Int)=((x >>> 10).toNat:Int):=by rw [← wd_shr x 10]; rfl
 rw [h,wd_xor,wd_xor]; rfl
theorem addr_add (g o n:Nat):(⟨g,o,none⟩:Addr).add n=⟨g,o+n,none⟩:=by
 unfold Addr.add; split <;> simp_all
theorem slice_blk (g k:Nat) (W:World) (hk:k<16) :
  (Instr.sliceAt 149 (.pointer (some ⟨g,8,none⟩)) (some (.int .i64 (4*(k:Int)))) (some (.int .i64 (4*(k:Int)+4))) none).run Tryz.prog W=.ok (.slice (some ⟨g,8+4*k,none⟩) 4 (64 - 4*k)) W:=by
 have hal:Tryz.prog.arrayLen 149=64:=by kernel_rfl
 have hu:Tryz.prog.underlying 149=some (.array (Tryz.prog.arrayLen 149) (Tryz.prog.elem 149)):=by kernel_rfl
 have hs:∀ W,(sizeOf (Tryz.prog.elem 149)).run Tryz.prog W=.ok 1 W:=fun W=>by kernel_rfl
 rw [run_sliceAt_array_lh W 149 ⟨g,8,none⟩ hu .i64 .i64 (4*(k:Int)) (4*(k:Int)+4) (by omega) (by omega) (by rw [hal]; omega),hs,hal]
 have e1:(4*(k:Int)).toNat=4*k:=by omega
 have e2:(4*(k:Int)+4).toNat=4*k+4:=by omega
 have e3:¬ 64=4*k:=by omega
 have e4:4*k+4 - 4*k=4:=by omega
 simp only [slicedAt,e1,e2,e3,e4,if_false,Nat.mul_one,addr_add,Result.andThen_ok]
set_option maxHeartbeats 400000 in
set_option maxRecDepth 100000 in
theorem sched_any (g:Nat) (w:World) (s:S8) (l:List UInt8) (n:Nat) (hl:l.length=64) (hb:Blk w g 234 (hcells s l n).toArray) :
  Calls Tryz.prog 189 #[.pointer (some ⟨g,0,none⟩)] w fun e w'=>e=.returned (.agg ((sched l 48).map wv).toArray)∧Below w.heap.size w w':=by
 have hg:=hb.lt
 have Hl:=Lib.hid hl
 clear hl
 go_enter Tryz.func189,Tryz.ntmps189
 go_wp2
 go_loopw [9] (fun i wr=>∃ k:Nat,k≤16∧i=.int .i64 k∧Below w.heap.size w wr∧Hid (wr.heap.size=w.heap.size+2)∧Blk wr w.heap.size 256 (wrow []).toArray∧Blk wr (w.heap.size+1) 256 (wrow (wordsTo l k)).toArray)
  (fun i _=>16 - (intOf i).toNat)
 case atStart =>
  exact ⟨0,by omega,rfl,((Below.refl _ _).alloc (Nat.le_refl _) _).alloc (by simp) _,Lib.hid (by simp),Blk.eq_ ((Blk.new _ _ _).alloc _) (by kernel_rfl),Blk.eq_ (heap_alloc2_new w _ _) (by kernel_rfl)⟩
 case round =>
  obtain ⟨k,hk,rfl,hbe,hsz,hb0,hb1⟩:=hrel
  by_cases hlt:k<16
  ·have hsl:=fun W=>slice_blk g k W hlt
   have hB:=hb.below hbe hg
   have hc0:wr.cell? ⟨g,8+4*k,none⟩=some (.int .u8 (bt l (4*k):Int)):=(hB.cell _).trans (hcells_byte s l n Hl.out (4*k) (by omega))
   have hc1:wr.cell? ⟨g,8+4*k+1,none⟩=some (.int .u8 (bt l (4*k+1):Int)):=(hB.cell _).trans (hcells_byte s l n Hl.out (4*k+1) (by omega))
   have hc2:wr.cell? ⟨g,8+4*k+2,none⟩=some (.int .u8 (bt l (4*k+2):Int)):=(hB.cell _).trans (hcells_byte s l n Hl.out (4*k+2) (by omega))
   have hc3:wr.cell? ⟨g,8+4*k+3,none⟩=some (.int .u8 (bt l (4*k+3):Int)):=(hB.cell _).trans (hcells_byte s l n Hl.out (4*k+3) (by omega))
   obtain ⟨v0,hv0⟩:=wrow_some (wordsTo l k) k (by omega)
   have hcs:wr.cell? ⟨w.heap.size+1,k,none⟩=some v0:=(hb1.cell _).trans hv0
   have hfs:wr.frozen? ⟨w.heap.size+1,k,none⟩=false:=hb1.frozen _
   clear hv0
   have b0:=bt_lt l (4*k)
   have b1:=bt_lt l (4*k+1)
   have b2:=bt_lt l (4*k+2)
   have b3:=bt_lt l (4*k+3)
   go_wp2
   go_region
   go_wp2
   go_roundw
   case rel =>
    refine ⟨k+1,by omega,by go_num,?_,?_,?_,?_⟩
    ·exact (hbe.drew.setCell (by simp) _)
    ·exact Lib.hid (by simpa using hsz.out)
    ·exact hb0.drew.far (by simp) _
    ·refine (hb1.drew.set_ k _).eq_ ?_
     rw [words_step l k hlt, ← wrow_set _ _ (by simp [wordsTo]; omega)]
     rw [words_len]
     exact congrArg (fun z=>(wrow (wordsTo l k)).toArray.setIfInBounds k (.int .u32 z)) (or4 _ _ _ _ b0 b1 b2 b3)
   case measure=>simp [intOf]; omega
  ·obtain rfl:k=16:=by omega
   go_wp2
   go_loopw [6] (fun i wr=>∃ k:Nat,16≤k∧k≤64∧i=.int .i64 k∧Below w.heap.size w wr∧Hid (wr.heap.size=w.heap.size+2)∧Blk wr w.heap.size 256 (wrow []).toArray∧Blk wr (w.heap.size+1) 256 (wrow (sched l (k - 16))).toArray)
    (fun i _=>64 - (intOf i).toNat)
   case atStart =>
    exact ⟨16,by omega,by omega,rfl,hbe,hsz,hb0,hb1⟩
   case round =>
    clear hbe hsz hb0 hb1
    obtain ⟨k,hk0,hk,rfl,hbe,hsz,hb0,hb1⟩:=hrel
    by_cases hlt:k<64
    ·have hln:=sched_len l (k - 16)
     have hstep:=sched_step l (k - 16)
     obtain ⟨ws,hws⟩:∃ ws,ws=sched l (k - 16):=⟨_,rfl⟩
     rw [← hws] at hln hstep hb1
     have hlk:ws.length=k:=by omega
     obtain ⟨x16,h16⟩:∃ x,x=ws.getD (k - 16) 0:=⟨_,rfl⟩
     obtain ⟨x15,h15⟩:∃ x,x=ws.getD (k - 15) 0:=⟨_,rfl⟩
     obtain ⟨x7,h7⟩:∃ x,x=ws.getD (k - 7) 0:=⟨_,rfl⟩
     obtain ⟨x2,h2⟩:∃ x,x=ws.getD (k - 2) 0:=⟨_,rfl⟩
     have hc16:wr.cell? ⟨w.heap.size+1,k - 16,none⟩=some (.int .u32 (x16.toNat:Int)):=by rw [h16]; exact (hb1.cell _).trans (wrow_get ws _ (by omega))
     have hc15:wr.cell? ⟨w.heap.size+1,k - 15,none⟩=some (.int .u32 (x15.toNat:Int)):=by rw [h15]; exact (hb1.cell _).trans (wrow_get ws _ (by omega))
     have hc7:wr.cell? ⟨w.heap.size+1,k - 7,none⟩=some (.int .u32 (x7.toNat:Int)):=by rw [h7]; exact (hb1.cell _).trans (wrow_get ws _ (by omega))
     have hc2:wr.cell? ⟨w.heap.size+1,k - 2,none⟩=some (.int .u32 (x2.toNat:Int)):=by rw [h2]; exact (hb1.cell _).trans (wrow_get ws _ (by omega))
     obtain ⟨v0,hv0⟩:=wrow_some ws k (by omega)
     have hcs:wr.cell? ⟨w.heap.size+1,k,none⟩=some v0:=(hb1.cell _).trans hv0
     have hfs:wr.frozen? ⟨w.heap.size+1,k,none⟩=false:=hb1.frozen _
     have H:=Lib.hid (And.intro hlk (And.intro hstep (And.intro h16 (And.intro h15 (And.intro h7 (And.intro h2 hws))))))
     have lt16:=wd_lt x16
     have lt15:=wd_lt x15
     have lt7:=wd_lt x7
     have lt2:=wd_lt x2
     clear hv0 hws hlk hstep h16 h15 h7 h2 hln
     go_wp2
     go_quiet ((go_at_call 190; exact quiet_left (rot_any _ _ _ (by omega) (by omega))))
     go_wp2
     go_quiet ((go_at_call 190; exact quiet_add_left (rot_any _ _ _ (by omega) (by omega))))
     go_wp2
     go_region
     go_wp2
     go_roundw
     case rel =>
      refine ⟨k+1,by omega,by omega,by go_num,?_,?_,?_,?_⟩
      ·exact ((below_drewN hbe _).drew.setCell (by simp) _)
      ·exact Lib.hid (by simpa using hsz.out)
      ·exact (hb0.drewN _).drew.far (by simp) _
      ·obtain ⟨hlk,hstep,h16,h15,h7,h2,hws⟩:=H.out
       refine ((hb1.drewN _).drew.set_ k _).eq_ ?_
       rw [show k+1 - 16=k - 16+1 from by omega,hstep]
       rw [sig0_eq,sig1_eq,wd_sum4, ← wrow_set ws _ (by omega),hlk]
       unfold nxt
       rw [hlk, ← h16, ← h15, ← h7, ← h2]
       rfl
     case measure=>simp [intOf]; omega
    ·obtain rfl:k=64:=by omega
     have hfull:(wrow (sched l (64 - 16))).toArray=((sched l 48).map wv).toArray:=by rw [wrow_full _ (by rw [sched_len])]
     have hb1':=hb1.eq_ hfull
     have hsz0:(wrow []).toArray.size=64:=by rw [List.size_toArray,wrow_length _ (by simp)]
     have hsz1:((sched l 48).map wv).toArray.size=64:=by simp [sched_len]
     have hi:(Tryz.prog.info? 256).map (·.size)=some ((sched l 48).map wv).toArray.size:=by rw [hsz1]; kernel_rfl
     have hz:((sched l 48).map wv).toArray.size=(wrow []).toArray.size:=by rw [hsz0,hsz1]
     have HI:=Lib.hid (And.intro hi hz)
     clear hi hz hsz1 hsz0 hfull hb1
     go_wp2_with (first | (refine wpList_load_row rfl _ _ rfl (w.heap.size+1) rfl 256 _ (0,0) _ hb1' Tryz.underlying256 rfl HI.out.1 ?_) | (refine wpList_store_row rfl _ _ _ rfl w.heap.size _ rfl rfl 256 _ hb0 HI.out.1 HI.out.2.symm (oneCell_wv _) ?_))
     have hr:=hb0.setRow ((sched l 48).map wv).toArray
     exact bodyPost_ret (results_cell_row rfl _ _ w.heap.size 256 _ (0,0) _ rfl hr Tryz.underlying256 rfl HI.out.1) rfl ⟨rfl,below_setRow hbe (Nat.le_refl _) _⟩
end Sh
end Go.Proofs.YtgggdbjakcpanaaGreatDoor
