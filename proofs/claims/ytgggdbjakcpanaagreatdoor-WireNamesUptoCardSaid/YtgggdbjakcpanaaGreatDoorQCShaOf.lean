import Derived.Test.YtgggdbjakcpanaaGreatDoorQCShaSumW
set_option linter.unusedVariables false
set_option linter.unusedSimpArgs false
namespace Go.Proofs.YtgggdbjakcpanaaGreatDoor
namespace Sh
open Go.RowKit Sp
theorem sum_length (l:List UInt8):(sum l).length=32:=out_length _
theorem sum_size (l:List UInt8):((sum l).map bv).toArray.size=32:=by rw [List.size_toArray,List.length_map,sum_length]
theorem sum_info (l:List UInt8):(Tryz.prog.info? 28).map (·.size)=some ((sum l).map bv).toArray.size:=by rw [sum_size]; kernel_rfl
theorem sum_one (l:List UInt8):((sum l).map bv).toArray.all (·.oneCell')=true:=by simp [bv,Value.oneCell']
def zeroDigest:Array Value:=(List.replicate 32 (.int .u8 0)).toArray
set_option maxHeartbeats 400000 in
set_option maxRecDepth 100000 in
theorem of_any (w:World) (A:Option Addr) (m:List UInt8) (c:Nat) (hs:Src w A m) (ht:TabAt w 1) (hc:m.length≤c) (hmax:c≤9223372036854775807) (hm:m.length≤1000000000000000000) :
    Calls Tryz.prog 68 #[.slice A m.length c] w fun e w'=>e=.returned (dv (sum m))∧Below w.heap.size w w':=by
  have htl:=ht.lt
  have HT:=Lib.hid ht
  have HS:=Lib.hid hs
  clear ht hs
  go_enter Tryz.func68,Tryz.ntmps68
  go_wp2_with (first
    | (go_at_call 69
       refine (new_at _ (w.heap.size+1) (by simp)).mono ?_
       rintro e w1 ⟨rfl,hb1,hh1,hl1⟩
       have hr1:=(Blk.new w 28 _).below hb1 (by omega)
       have hbb1:=(((Below.refl w.heap.size w).alloc (Nat.le_refl _) _).trans (hb1.mono (Nat.le_succ _))))
    | (go_at_call 70
       refine (write_any _ (w.heap.size+1) [] m A c hh1 (HS.out.below hbb1) (fun hne a ha=>by
           obtain ⟨b,o,hA,hlt,_⟩:=HS.out hne
           rw [hA] at ha
           injection ha with ha
           subst ha
           show b≠_
           omega)
         (HT.out.below hbb1 htl) (by omega) hc hmax (by simp; omega)).mono ?_
       rintro e w2 ⟨rfl,ho2,hh2⟩
       have hbb2:=hbb1.trans (below_of_only ho2 hbb1.size (Nat.le_succ _))
       have hr2:=hr1.grown ho2 (fun e=>by injection e; omega))
    | (go_at_call 71
       refine (sum_any _ (w.heap.size+1) m (by simpa using hh2) (HT.out.below hbb2 htl) hm).mono ?_
       rintro e w3 ⟨rfl,hb3⟩
       have hr3:=hr2.below hb3 hr2.lt
       have hbb3:=hbb2.trans (hb3.mono hbb2.size)
       unfold dv)
    | (refine wpList_store_row rfl 28 (.tmp 2) (.tmp 9) rfl w.heap.size _ rfl rfl 28 _ hr3 (sum_info m) (by rw [sum_size]; rfl) (sum_one m) ?_))
  exact bodyPost_ret (results_cell_row rfl _ _ w.heap.size 28 _ (0,0) _ rfl (hr3.setRow _) Tryz.underlying28 rfl (sum_info m)) rfl ⟨rfl,below_setRow hbb3 (Nat.le_refl _) _⟩
end Sh
end Go.Proofs.YtgggdbjakcpanaaGreatDoor
