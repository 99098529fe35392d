import Derived.Test.YtgggdbjakcpanaaGreatDoorQCShaPad
set_option linter.unusedVariables false
set_option linter.unusedSimpArgs false
namespace Go.Proofs.YtgggdbjakcpanaaGreatDoor
namespace Sh
open Go.RowKit Sp
def dv (l:List UInt8):Value:=.agg (l.map bv).toArray
theorem new_at (w:World) (N:Nat) (hN:N=w.heap.size) :
    Calls Tryz.prog 69 #[] w fun e w'=>e=.returned (.pointer (some ⟨N,0,none⟩))∧Below N w w'∧HashIs w' N []∧N<w'.heap.size:=by
  subst hN; exact new_any w
theorem clone_at (w:World) (g:Nat) (l:List UInt8) (N:Nat) (hN:N=w.heap.size) (h:HashIs w g l) :
    Calls Tryz.prog 128 #[.pointer (some ⟨g,0,none⟩)] w fun e w'=>e=.returned (.pointer (some ⟨N,0,none⟩))∧Below N w w'∧HashIs w' N l∧N<w'.heap.size:=by
  subst hN; exact clone_any w g l h
theorem Src.of_blk {w:World} {g:Nat} {t:TypeId} {m:List UInt8} (h:Blk w g t (m.map bv).toArray):Src w (some ⟨g,0,none⟩) m:=fun _ =>
  ⟨g,0,rfl,h.lt,fun j u hu=>by rw [Nat.zero_add]; exact (h.cell j).trans (by simp [hu])⟩
theorem pad_length (n:Nat):(pad n).length=zeros n+9:=by rw [← padTo_8,padTo_length _ _ (by omega)]
theorem padded_mod (l:List UInt8):(padded l).length%64=0:=by
  unfold padded; rw [List.length_append,pad_length]; unfold zeros; omega
def outTo (s:S8) (k:Nat):List UInt8:=s.out.take (4*k)++List.replicate (32 - 4*k) 0
theorem out_length (s:S8):s.out.length=32:=by simp [S8.out]
theorem outTo_length (s:S8) (k:Nat) (hk:k≤8):(outTo s k).length=32:=by simp [outTo,out_length]; omega
theorem outTo_8 (s:S8):outTo s 8=s.out:=by simp [outTo,List.take_of_length_le,out_length]
theorem outTo_get (s:S8) (k i:Nat) (hk:k≤8) (hi:i<32):(outTo s k)[i]? = some (if i<4*k then s.byte i else 0):=by
  have hl:=out_length s
  unfold outTo
  by_cases h:i<4*k
  · rw [if_pos h,List.getElem?_append_left (by rw [List.length_take]; omega),List.getElem?_take,if_pos h]
    simp [S8.out,hi]
  · rw [if_neg h,List.getElem?_append_right (by rw [List.length_take]; omega),List.getElem?_replicate,if_pos (by rw [List.length_take]; omega)]
theorem outTo_set (s:S8) (k:Nat) (hk:k<8) :
    ((((outTo s k).set (4*k) (s.byte (4*k))).set (4*k+1) (s.byte (4*k+1))).set (4*k+2) (s.byte (4*k+2))).set (4*k+3) (s.byte (4*k+3))=outTo s (k+1):=by
  apply List.ext_getElem?
  intro i
  have hl:=outTo_length s k (by omega)
  by_cases hi:i<32
  · rw [outTo_get s (k+1) i (by omega) hi]
    simp only [List.getElem?_set,List.length_set,hl,outTo_get s k i (by omega) hi]
    by_cases h3:4*k+3=i
    · subst h3; simp [hi]; intro h; omega
    by_cases h2:4*k+2=i
    · subst h2; simp [hi]; intro h; omega
    by_cases h1:4*k+1=i
    · subst h1; simp [hi]; intro h; omega
    by_cases h0:4*k=i
    · subst h0; simp [hi]
    rw [if_neg h3,if_neg h2,if_neg h1,if_neg h0]
    by_cases h:i<4*k
    · rw [if_pos h,if_pos (by omega)]
    · rw [if_neg h,if_neg (by omega)]
  · rw [List.getElem?_eq_none (by simp only [List.length_set,hl]; omega),List.getElem?_eq_none (by rw [outTo_length s (k+1) (by omega)]; omega)]
theorem byte_0 (s:S8) (k:Nat):((s.word k).toNat:Int) / 16777216=((s.byte (4*k)).toNat:Int):=by
  have:=(s.word k).isLt
  unfold S8.byte; rw [show 4*k / 4=k from by omega,show 24 - 8*(4*k%4)=24 from by omega]; simp; omega
theorem byte_1 (s:S8) (k:Nat):((s.word k).toNat:Int) / 65536%256=((s.byte (4*k+1)).toNat:Int):=by
  unfold S8.byte; rw [show (4*k+1) / 4=k from by omega,show 24 - 8*((4*k+1)%4)=16 from by omega]; simp
theorem byte_2 (s:S8) (k:Nat):((s.word k).toNat:Int) / 256%256=((s.byte (4*k+2)).toNat:Int):=by
  unfold S8.byte; rw [show (4*k+2) / 4=k from by omega,show 24 - 8*((4*k+2)%4)=8 from by omega]; simp
theorem byte_3 (s:S8) (k:Nat):((s.word k).toNat:Int)%256=((s.byte (4*k+3)).toNat:Int):=by
  unfold S8.byte; rw [show (4*k+3) / 4=k from by omega,show 24 - 8*((4*k+3)%4)=0 from by omega]; simp
theorem out_step (s:S8) (k:Nat) (hk:k<8) :
    ((((((outTo s k).map bv).toArray.setIfInBounds (4*k) (Value.int .u8 (((s.word k).toNat:Int) / 16777216))).setIfInBounds (4*k+1) (Value.int .u8 (((s.word k).toNat:Int) / 65536%256))).setIfInBounds (4*k+2)
      (Value.int .u8 (((s.word k).toNat:Int) / 256%256))).setIfInBounds (4*k+3) (Value.int .u8 (((s.word k).toNat:Int)%256)))=((outTo s (k+1)).map bv).toArray:=by
  rw [byte_0,byte_1,byte_2,byte_3]
  simp only [List.setIfInBounds_toArray]
  have he:=congrArg (List.map bv) (outTo_set s k hk)
  simp only [List.map_set] at he
  exact congrArg List.toArray he
set_option maxRecDepth 100000 in
theorem index_word (s:S8) (k:Nat) (hk:k<8) (W:World):(Instr.index 232 (.agg (S8.list s).toArray) (.int .i64 (k:Int))).run Tryz.prog W=.ok (.int .u32 ((s.word k).toNat:Int)) W:=by
  have h:k=0∨k=1∨k=2∨k=3∨k=4∨k=5∨k=6∨k=7:=by omega
  rcases h with rfl | rfl | rfl | rfl | rfl | rfl | rfl | rfl <;> rfl
end Sh
end Go.Proofs.YtgggdbjakcpanaaGreatDoor
