import Derived.Test.YtgggdbjakcpanaaGreatDoorQCMem3
set_option linter.unusedVariables false
set_option linter.unusedSimpArgs false
namespace Go.Proofs.YtgggdbjakcpanaaGreatDoor
namespace Sh
open Go.RowKit Sp
theorem zeros_more (n k:Nat) (hk:k≤zeros n):((n+1+k)%64=56)↔k=zeros n:=by unfold zeros at *; omega
def zTo (m:List UInt8) (k:Nat):List UInt8:=m++[128]++List.replicate k 0
theorem zTo_length (m:List UInt8) (k:Nat):(zTo m k).length=m.length+1+k:=by simp [zTo]; omega
theorem zTo_step (m:List UInt8) (k:Nat):zTo m k++[0]=zTo m (k+1):=by simp [zTo,List.replicate_succ']
def lTo (m:List UInt8) (k:Nat):List UInt8:=zTo m (zeros m.length)++(List.range k).map (lenByte m.length)
theorem lTo_length (m:List UInt8) (k:Nat):(lTo m k).length=m.length+1+zeros m.length+k:=by simp only [lTo,List.length_append,zTo_length,List.length_map,List.length_range]
theorem lTo_step (m:List UInt8) (k:Nat):lTo m k++[lenByte m.length k]=lTo m (k+1):=by simp [lTo,List.range_succ]
theorem lTo_8 (m:List UInt8):lTo m 8=padded m:=by simp [lTo,zTo,padded,pad]
theorem lenByte_r (n k:Nat) (_hk:k<8):(8*(n:Int)) / 2 ^ (56 - 8*k)%256=((lenByte n k).toNat:Int):=by
  unfold lenByte
  simp
theorem byteOf (x:UInt8) (z:Int) (h:z=(x.toNat:Int)):(Value.int .u8 z)=bv x:=by rw [h]; rfl
set_option maxHeartbeats 400000 in
set_option maxRecDepth 100000 in
theorem padded_any (w : World) (A : Option Addr) (m : List UInt8) (c : Nat) (hs : Src w A m) (hm : m.length ≤ 140737488351232) :
    Calls Tryz.prog 145 #[.slice A m.length c] w fun e w'=>∃ g cap,e=.returned (.slice (some ⟨g,0,none⟩) (padded m).length cap)∧OwnB w' w.heap.size (.slice (some ⟨g,0,none⟩) (padded m).length cap) (padded m)∧g<w'.heap.size∧Below w.heap.size w w':=by
  have HS:=Lib.hid hs
  clear hs
  have hz64:zeros m.length<64:=Nat.mod_lt _ (by omega)
  go_enter Tryz.func145,Tryz.ntmps145
  go_wp2_with (first
    | (at_builtin
       refine wpList_append_bytes rfl (.tmp 6) (.tmp 7) rfl w.heap.size _ [] rfl (OwnB.lit w _ (Nat.le_refl _)) A m c rfl (HS.out.below ((Below.refl _ _).alloc (Nat.le_refl _) _)) (by simp; omega) (by simp) ?_
       intro v1 w1 hv1 hg1
       have hb1:=below_own ((Below.refl w.heap.size w).alloc (Nat.le_refl _) (.cells #[] 5)) (OwnB.lit w _ (Nat.le_refl _)) hg1 (Nat.le_refl _) (by simp))
    | (at_builtin
       refine wpList_append_bytes rfl (.tmp 9) (.tmp 10) rfl w.heap.size v1 m rfl (by simpa using hv1.alloc _) (some ⟨w1.heap.size,0,none⟩) [128] 1 rfl (Src.of_blk (Blk.eq_ (Blk.new w1 5 _) (by kernel_rfl))) (by simp; omega) (by have:=hb1.size; simp; omega) ?_
       intro v2 w2 hv2 hg2
       have hb2:=below_own (hb1.alloc hb1.size _) (OwnB.alloc (l:=m) (by simpa using hv1) _) hg2 (Nat.le_refl _) (by have:=hb1.size; simp; omega)))
  clear hg1 hg2
  obtain ⟨g2,n2,cap2,rfl,hn2,_,hl2⟩:=hv2.form' (by simp)
  go_loopw [3] (fun v wr=>∃ k q g cap:Nat,k≤zeros m.length∧Hid (q=m.length+1+k)∧v=.slice (some ⟨g,0,none⟩) q cap∧g<wr.heap.size∧OwnB wr w.heap.size (.slice (some ⟨g,0,none⟩) q cap) (zTo m k)∧Below w.heap.size w wr)
    (fun v _=>m.length+1+zeros m.length - lenOf' v)
  case atStart =>
    exact ⟨0,n2,g2,cap2,Nat.zero_le _,Lib.hid (by rw [hn2.out]; simp),rfl,hl2,by simpa [zTo] using hv2,hb2⟩
  case round =>
    clear hv1 hb1 hv2 hb2 hl2
    obtain ⟨k,q,g,cap,hk,hq,rfl,hgl,hown,hbe⟩:=hrel
    have hqm:q=m.length+1+k:=hq.out
    obtain ⟨r,hr⟩:∃ r,r=q%64:=⟨_,rfl⟩
    have hr1:(q:Int)%64=(r:Int):=by omega
    have hq2:q≤140737488351400:=by omega
    have hr2:(r=56)↔k=zeros m.length:=by rw [hr,hqm]; exact zeros_more _ _ hk
    by_cases hlt:k<zeros m.length
    · have hne : ((r : Int) != 56) = true := by rw [bne_iff_ne]; omega
      clear hqm hr hr2
      go_wp2_with (at_builtin
                   refine wpList_append_bytes rfl (.tmp 16) (.tmp 17) rfl w.heap.size _ (zTo m k) rfl (hown.alloc _) (some ⟨wr.heap.size,0,none⟩) [0] 1 rfl (Src.of_blk (Blk.eq_ (Blk.new wr 5 _) (by kernel_rfl))) (by rw [zTo_length]; simp; omega) (by have:=hbe.size; simp; omega) ?_
                   intro v3 w3 hv3 hg3
                   have hb3:=below_own (hbe.alloc hbe.size _) (hown.alloc _) hg3 (Nat.le_refl _) (by have:=hbe.size; simp; omega)
                   rw [zTo_step] at hv3
                   obtain ⟨g3,n3,cap3,rfl,hn3,_,hl3⟩:=hv3.form' (by rw [zTo_length]; omega))
      go_roundw
      case rel=>exact ⟨k+1,n3,g3,cap3,by omega,Lib.hid (by rw [hn3.out,zTo_length]),rfl,hl3,hv3,hb3⟩
      case measure =>
        have h1:=hq.out
        have h2:=hn3.out
        rw [zTo_length] at h2
        simp [lenOf']; omega
    · obtain rfl : k = zeros m.length := by omega
      have hne:((r:Int) != 56)=false:=by simp; omega
      clear hqm hr hr2 hlt
      go_wp2
      go_loopw [3,5] (fun v i wr=>∃ k q g cap:Nat,k≤8∧i=.int .i64 k∧Hid (q=m.length+1+zeros m.length+k)∧v=.slice (some ⟨g,0,none⟩) q cap∧g<wr.heap.size∧OwnB wr w.heap.size (.slice (some ⟨g,0,none⟩) q cap) (lTo m k)∧Below w.heap.size w wr)
        (fun _ i _=>8 - (intOf i).toNat)
      case atStart =>
        exact ⟨0,q,g,cap,by omega,rfl,hq,rfl,hgl,by simpa [lTo] using hown,hbe⟩
      case round =>
        clear hq hgl hown hbe hne hr1 hq2 hk
        obtain ⟨k,q,g,cap,hk,rfl,hq,rfl,hgl,hown,hbe⟩:=hrel
        by_cases hlt:k<8
        · obtain ⟨x, hx⟩ : ∃ x, x = lenByte m.length k := ⟨_, rfl⟩
          have hb8:=lenByte_r m.length k hlt
          rw [← hx] at hb8
          have HX:=Lib.hid (And.intro hx hb8)
          clear hx hb8
          have hq2:=hq.out
          have hlen:(lTo m k).length≤140737488351400:=by rw [lTo_length]; omega
          have HLN:=Lib.hid hlen
          clear hq2 hlen
          go_wp2_with (at_builtin
                       refine wpList_append_bytes rfl (.tmp 27) (.tmp 34) rfl w.heap.size _ (lTo m k) rfl (hown.alloc _) (some ⟨wr.heap.size,0,none⟩) [x] 1 rfl (Src.of_blk (Blk.eq_ (Blk.new wr 5 _) (by rw [HX.out.2]; rfl))) (by have:=HLN.out; simp; omega) (by have:=hbe.size; simp; omega) ?_
                       intro v3 w3 hv3 hg3
                       have hb3:=below_own (hbe.alloc hbe.size _) (hown.alloc _) hg3 (Nat.le_refl _) (by have:=hbe.size; simp; omega)
                       rw [HX.out.1,lTo_step] at hv3
                       obtain ⟨g3,n3,cap3,rfl,hn3,_,hl3⟩:=hv3.form' (by rw [lTo_length]; omega))
          go_roundw
          case rel=>exact ⟨k+1,n3,g3,cap3,by omega,by go_num,Lib.hid (by rw [hn3.out,lTo_length]),rfl,hl3,hv3,hb3⟩
          case measure=>simp [intOf]; omega
        · obtain rfl:k=8:=by omega
          go_wp2
          go_ret
          rw [lTo_8] at hown
          have hpl:q=(padded m).length:=by rw [hq.out, ← lTo_8,lTo_length]
          subst hpl
          exact ⟨g,cap,rfl,hown,hgl,hbe⟩
end Sh
end Go.Proofs.YtgggdbjakcpanaaGreatDoor
