import Derived.Test.YtgggdbjakcpanaaGreatDoorQCShaSpec
set_option linter.unusedVariables false
set_option linter.unusedSimpArgs false
namespace Go.Proofs.YtgggdbjakcpanaaGreatDoor
namespace Sp
theorem run_append (l m:List UInt8) (n:Nat) (h:64*n≤l.length):run (l++m) n=run l n:=by
 induction n with
 | zero=>rfl
 | succ n ih =>
  simp only [run]
  rw [ih (by omega)]
  congr 1
  rw [List.drop_append_of_le_length (by omega),List.take_append_of_le_length (by simp; omega)]
def Waits (l blk:List UInt8):Prop:=blk.length=64∧blk.take (l.length%64)=l.drop (64*(l.length / 64))
def laid (blk:List UInt8) (r:Nat) (m:List UInt8):List UInt8:=blk.take r++(m++blk.drop (r+m.length))
theorem laid_length (blk m:List UInt8) (r:Nat) (h:blk.length=64) (hm:r+m.length≤64):(laid blk r m).length=64:=by simp [laid,h]; omega
theorem waits_more (l blk m:List UInt8) (h:Waits l blk) (hm:l.length%64+m.length<64) :
  Waits (l++m) (laid blk (l.length%64) m)∧run (l++m) ((l++m).length / 64)=run l (l.length / 64):=by
 obtain ⟨h1,h2⟩:=h
 have e1:(l++m).length / 64=l.length / 64:=by rw [List.length_append]; omega
 have e2:(l++m).length%64=l.length%64+m.length:=by rw [List.length_append]; omega
 refine ⟨⟨laid_length _ _ _ h1 (by omega),?_⟩,by rw [e1]; exact run_append l m _ (by omega)⟩
 rw [e1,e2,List.drop_append_of_le_length (by omega), ← h2]
 unfold laid
 have hlen:(blk.take (l.length%64)++m).length=l.length%64+m.length:=by simp; omega
 rw [← List.append_assoc, ← hlen,List.take_left]
theorem waits_full (l blk m:List UInt8) (h:Waits l blk) (hm:l.length%64+m.length=64) :
  Waits (l++m) (laid blk (l.length%64) m)∧run (l++m) ((l++m).length / 64)=mix (run l (l.length / 64)) (laid blk (l.length%64) m):=by
 obtain ⟨h1,h2⟩:=h
 have e1:(l++m).length / 64=l.length / 64+1:=by rw [List.length_append]; omega
 have e2:(l++m).length%64=0:=by rw [List.length_append]; omega
 have hl:laid blk (l.length%64) m=(l++m).drop (64*(l.length / 64)):=by
  rw [List.drop_append_of_le_length (by omega), ← h2]
  unfold laid
  rw [List.drop_of_length_le (by omega),List.append_nil]
 refine ⟨⟨laid_length _ _ _ h1 (by omega),?_⟩,?_⟩
 ·rw [e2,List.take_zero,List.drop_of_length_le (by rw [e1,List.length_append]; omega)]
 ·rw [e1]
  simp only [run]
  rw [run_append l m _ (by omega),hl,List.take_of_length_le (by rw [List.length_drop,List.length_append]; omega)]
end Sp
end Go.Proofs.YtgggdbjakcpanaaGreatDoor
