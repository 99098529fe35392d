import Derived.Test.YtgggdbjakcpanaaGreatDoorQCShaWriteW
import Derived.Test.YtgggdbjakcpanaaGreatDoorQCMem2
set_option linter.unusedVariables false
set_option linter.unusedSimpArgs false
namespace Go.Proofs.YtgggdbjakcpanaaGreatDoor
namespace Sh
open Go.RowKit Sp
def padTo (n k:Nat):List UInt8:=128::(List.replicate (zeros n) 0++(List.replicate (8 - k) 0++((List.range 8).map (lenByte n)).drop (8 - k)))
theorem padTo_length (n k:Nat) (hk:k≤8):(padTo n k).length=zeros n+9:=by
 simp only [padTo,List.length_cons,List.length_append,List.length_replicate,List.length_drop,List.length_map,List.length_range]; omega
theorem padTo_8 (n:Nat):padTo n 8=pad n:=by simp [padTo,pad]
theorem padTo_set (n k:Nat) (hk:k<8):(padTo n k).set (zeros n+8 - k) (lenByte n (7 - k))=padTo n (k+1):=by
 have h1:8 - k=(7 - k)+1:=by omega
 have h2:8 - (k+1)=7 - k:=by omega
 have h3:zeros n+8 - k=(zeros n+(7 - k))+1:=by omega
 have h5:7 - k<((List.range 8).map (lenByte n)).length:=by simp; omega
 unfold padTo
 rw [h2,h3,List.set_cons_succ,List.set_append_right _ _ (by simp),h1,List.length_replicate,Nat.add_sub_cancel_left,List.replicate_succ',List.append_assoc,List.set_append_right _ _ (by simp),List.length_replicate,Nat.sub_self,
  List.singleton_append,List.set_cons_zero,List.drop_eq_getElem_cons h5]
 simp
theorem pad_start (n:Nat):(List.replicate (zeros n+9) (Value.int .u8 0)).toArray.setIfInBounds 0 (.int .u8 128)=((padTo n 0).map bv).toArray:=by
 rw [List.setIfInBounds_toArray,show zeros n+9=(zeros n+8)+1 from rfl,List.replicate_succ,List.set_cons_zero]
 unfold padTo
 rw [List.drop_of_length_le (by simp),List.append_nil,List.replicate_append_replicate,List.map_cons,List.map_replicate]
 rfl
theorem lenByte_eq (n k:Nat) (hk:k<8):(n:Int)*8 / 2 ^ (8*k)%256=((lenByte n (7 - k)).toNat:Int):=by
 unfold lenByte
 rw [show 56 - 8*(7 - k)=8*k from by omega,Int.mul_comm]
 simp
set_option maxHeartbeats 400000 in
set_option maxRecDepth 100000 in
theorem padding_any (w:World) (n:Nat) (hn:n≤1000000000000000000) :
  Calls Tryz.prog 129 #[.int .i64 (n:Int)] w fun e w'=>e=.returned (.slice (some ⟨w.heap.size,0,none⟩) (pad n).length (pad n).length)∧Below w.heap.size w w'∧Blk w' w.heap.size 5 ((pad n).map bv).toArray:=by
 obtain ⟨r,hr⟩:∃ r,r=n%64:=⟨_,rfl⟩
 obtain ⟨z,hz⟩:∃ z,z=zeros n:=⟨_,rfl⟩
 have hr1:(n:Int)%64=(r:Int):=by omega
 have hz1:(119 - (r:Int))%64=(z:Int):=by rw [hz,hr]; unfold zeros; omega
 have hz2:z<64:=by rw [hz]; unfold zeros; omega
 have hr2:r<64:=by omega
 have HZ:=Lib.hid (And.intro hr hz)
 clear hr hz
 go_enter Tryz.func129,Tryz.ntmps129
 go_wp2_with (refine wpList_make_blk _ rfl (.tmp 13) (.tmp 13) 29 rfl 5 (.int .u8 0) 1 Tryz.underlying29 (by kernel_rfl) rfl .i64 .i64 (z+9) _ _ rfl rfl (by omega) (by omega) (by omega) (by omega) ?_; intro w1 hk1 hb1 hz1'; have hc0:=(hk1.cell 0).trans (show _=some (.int .u8 0) by simp); have hf0:=hk1.frozen 0)
 have hcs:(List.replicate (z+9) (Value.int .u8 0)).toArray.setIfInBounds 0 (.int .u8 128)=((padTo n 0).map bv).toArray:=by
  rw [HZ.out.2]; exact pad_start n
 have hk1':=(hk1.set_ 0 (.int .u8 128)).eq_ hcs
 have hb1':Below w.heap.size w (w1.setCell ⟨w.heap.size,0,none⟩ (.int .u8 128)):=hb1.setCell (Nat.le_refl _) _
 clear hc0 hf0 hcs hk1 hb1
 go_loopw [20] (fun i wr=>∃ k:Nat,k≤8∧i=.int .i64 k∧Below w.heap.size w wr∧Blk wr w.heap.size 5 ((padTo n k).map bv).toArray)
  (fun i _=>8 - (intOf i).toNat)
 case atStart=>exact ⟨0,by omega,rfl,hb1',hk1'⟩
 case round =>
  clear hb1' hk1'
  obtain ⟨k,hk,rfl,hb,hB⟩:=hrel
  by_cases hlt:k<8
  ·have hln:((padTo n k).map bv).length=z+9:=by rw [List.length_map,padTo_length _ _ hk,HZ.out.2]
   obtain ⟨v0,hv0⟩:∃ v0,wr.cell? ⟨w.heap.size,z+8 - k,none⟩=some v0:=by
    have hlt':z+8 - k<((padTo n k).map bv).length:=by omega
    exact ⟨((padTo n k).map bv)[z+8 - k],(hB.cell _).trans (by rw [List.getElem?_toArray]; exact List.getElem?_eq_getElem hlt')⟩
   have hf0:=hB.frozen (z+8 - k)
   clear hln
   go_wp2
   go_roundw
   case rel =>
    refine ⟨k+1,by omega,by go_num,hb.setCell (Nat.le_refl _) _,(hB.set_ _ _).eq_ ?_⟩
    rw [lenByte_eq n k hlt,List.setIfInBounds_toArray]
    have he:=congrArg (List.map bv) (padTo_set n k hlt)
    rw [List.map_set, ← HZ.out.2] at he
    exact congrArg List.toArray he
   case measure=>simp [intOf]; omega
  ·obtain rfl:k=8:=by omega
   go_wp2
   go_ret
   have hpl:(pad n).length=z+9:=by rw [← padTo_8,padTo_length _ _ (by omega),HZ.out.2]
   rw [hpl]
   exact ⟨rfl,hb,hB.eq_ (by rw [padTo_8])⟩
end Sh
end Go.Proofs.YtgggdbjakcpanaaGreatDoor
