import Derived.Test.YtgggdbjakcpanaaGreatDoorQCShaMix
import Derived.Test.YtgggdbjakcpanaaGreatDoorQCShaLaws
set_option linter.unusedVariables false
set_option linter.unusedSimpArgs false
namespace Go.Proofs.YtgggdbjakcpanaaGreatDoor
namespace Sh
open Go.RowKit Sp
def HashIs (w:World) (g:Nat) (l:List UInt8):Prop :=
 ∃ blk:List UInt8,Waits l blk∧Blk w g 234 (hcells (run l (l.length / 64)) blk l.length).toArray
theorem HashIs.lt {w:World} {g:Nat} {l:List UInt8} (h:HashIs w g l):g<w.heap.size:=by
 obtain ⟨_,_,hb⟩:=h; exact hb.lt
theorem HashIs.block {w w':World} {g:Nat} {l:List UInt8} (h:HashIs w g l) (e:w'.heap[g]? = w.heap[g]?):HashIs w' g l:=by
 obtain ⟨b,h1,hb⟩:=h; exact ⟨b,h1,e.trans hb⟩
theorem HashIs.below {w w':World} {g B:Nat} {l:List UInt8} (h:HashIs w g l) (hb:Below B w w') (hB:g<B):HashIs w' g l:=h.block (hb.block _ hB)
theorem zero_hash (w:World):(zeroValue 234).run Tryz.prog w=.ok (.agg #[.int .u32 0,.int .u32 0,.int .u32 0,.int .u32 0,.int .u32 0,.int .u32 0,.int .u32 0,.int .u32 0,.int .u8 0,.int .u8 0,.int .u8 0,.int .u8 0,.int .u8 0,.int .u8 0,.int .u8 0,.int .u8 0,.int .u8 0,.int .u8 0,.int .u8 0,.int .u8 0,.int .u8 0,.int .u8 0,.int .u8 0,.int .u8 0,.int .u8 0,.int .u8 0,.int .u8 0,.int .u8 0,.int .u8 0,.int .u8 0,.int .u8 0,.int .u8 0,.int .u8 0,.int .u8 0,.int .u8 0,.int .u8 0,.int .u8 0,.int .u8 0,.int .u8 0,.int .u8 0,.int .u8 0,.int .u8 0,.int .u8 0,.int .u8 0,.int .u8 0,.int .u8 0,.int .u8 0,.int .u8 0,.int .u8 0,.int .u8 0,.int .u8 0,.int .u8 0,.int .u8 0,.int .u8 0,.int .u8 0,.int .u8 0,.int .u8 0,.int .u8 0,.int .u8 0,.int .u8 0,.int .u8 0,.int .u8 0,.int .u8 0,.int .u8 0,.int .u8 0,.int .u8 0,.int .u8 0,.int .u8 0,.int .u8 0,.int .u8 0,.int .u8 0,.int .u8 0,.int .i64 0]) w:=by kernel_rfl
theorem zero_hash':∃ zs:Array Value,zs.size=73∧∀ w,(zeroValue 234).run Tryz.prog w=.ok (.agg zs) w:=⟨_,by kernel_rfl,zero_hash⟩
set_option maxHeartbeats 400000 in
set_option maxRecDepth 100000 in
theorem new_any (w:World) :
  Calls Tryz.prog 69 #[] w fun e w'=>e=.returned (.pointer (some ⟨w.heap.size,0,none⟩))∧Below w.heap.size w w'∧HashIs w' w.heap.size []∧w.heap.size<w'.heap.size:=by
 have hz:=zero_hash
 go_enter Tryz.func69,Tryz.ntmps69
 go_wp2
 go_ret
 exact ⟨rfl,(Below.refl _ _).alloc (Nat.le_refl _) _,⟨List.replicate 64 0,⟨by simp,rfl⟩,(Blk.new _ _ _).eq_ (by kernel_rfl)⟩,by simp⟩
set_option maxHeartbeats 400000 in
set_option maxRecDepth 100000 in
theorem clone_any (w:World) (g:Nat) (l:List UInt8) (h:HashIs w g l) :
  Calls Tryz.prog 128 #[.pointer (some ⟨g,0,none⟩)] w fun e w'=>e=.returned (.pointer (some ⟨w.heap.size,0,none⟩))∧Below w.heap.size w w'∧HashIs w' w.heap.size l∧w.heap.size<w'.heap.size:=by
 obtain ⟨b,⟨h1,h2⟩,hb⟩:=h
 obtain ⟨cs,hcs⟩:∃ cs,cs=(hcells (run l (l.length / 64)) b l.length).toArray:=⟨_,rfl⟩
 have hsz:cs.size=73:=by rw [hcs,List.size_toArray,hcells_length _ _ _ h1]
 have hi:(Tryz.prog.info? 234).map (·.size)=some cs.size:=by rw [hsz]; kernel_rfl
 have hone:cs.all (·.oneCell')=true:=by rw [hcs]; simp [hcells,wv,bv,Value.oneCell']
 rw [← hcs] at hb
 have H:=Lib.hid (And.intro h1 (And.intro h2 hcs))
 obtain ⟨zs,hzs,hz⟩:=zero_hash'
 have hzc:zs.size=cs.size:=by rw [hzs,hsz]
 have HZ:=Lib.hid hzc
 clear hzs hzc
 have HI:=Lib.hid (And.intro hi (And.intro hsz hone))
 clear h1 h2 hcs hi hsz hone
 go_enter Tryz.func128,Tryz.ntmps128
 go_wp2_with (first
  | (refine wpList_load_row rfl 234 (.tmp 5) rfl g rfl 234 cs (0,0) _ hb Tryz.underlying234 rfl HI.out.1 ?_)
  | (refine wpList_store_new rfl 234 (.tmp 3) (.tmp 6) rfl _ _ _ rfl rfl HI.out.1 HZ.out HI.out.2.2 ?_; intro w2 hk2 hb2 hz2))
 go_ret
 obtain ⟨h1,h2,hcs⟩:=H.out
 exact ⟨rfl,hb2,⟨b,⟨h1,h2⟩,hk2.eq_ hcs⟩,hk2.lt⟩
end Sh
end Go.Proofs.YtgggdbjakcpanaaGreatDoor
