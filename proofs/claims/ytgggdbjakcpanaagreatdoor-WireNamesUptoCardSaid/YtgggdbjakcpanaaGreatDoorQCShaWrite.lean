import Derived.Test.YtgggdbjakcpanaaGreatDoorQCShaHash
set_option linter.unusedVariables false
set_option linter.unusedSimpArgs false
namespace Go.Proofs.YtgggdbjakcpanaaGreatDoor
namespace Sh
open Go.RowKit Sp
def Src (w:World) (A:Option Addr) (m:List UInt8):Prop :=
 m≠[]→∃ b o,A=some ⟨b,o,none⟩∧b<w.heap.size∧∀ j u,m[j]? = some u→w.cell? ⟨b,o+j,none⟩=some (bv u)
theorem Src.keep {w w':World} {A:Option Addr} {m:List UInt8} (h:Src w A m) (hs:w.heap.size≤w'.heap.size) (hk:m≠[]→∀ a,A=some a→a.block<w.heap.size→w'.heap[a.block]? = w.heap[a.block]?):Src w' A m:=fun hm=>by
 obtain ⟨b,o,rfl,hb,hc⟩:=h hm
 exact ⟨b,o,rfl,by omega,fun j u hu=>(World.cell?_of_block (w:=w) (a:=⟨b,o+j,none⟩) (show w'.heap[b]? = w.heap[b]? from hk hm ⟨b,o,none⟩ rfl hb)).trans (hc j u hu)⟩
theorem Src.only {w w':World} {A:Option Addr} {m:List UInt8} {g:Nat} (h:Src w A m) (ho:w.grownBy w' (some g)) (hg:m≠[]→∀ a,A=some a→a.block≠g):Src w' A m :=
 h.keep ho.size fun hm a ha hl=>ho.block _ hl (fun e=>hg hm a ha (by injection e))
theorem Src.below {w w':World} {A:Option Addr} {m:List UInt8} (h:Src w A m) (hb:Below w.heap.size w w'):Src w' A m :=
 h.keep hb.size fun _ _ _ hl=>hb.block _ hl
theorem hcells_laid (s:S8) (blk m:List UInt8) (r q:Nat) (hb:blk.length=64) (hm:r+m.length≤64) :
  (hcells s blk q).take (8+r)++(m.map bv++(hcells s blk q).drop (8+r+(m.map bv).length))=hcells s (laid blk r m) q:=by
 have e1:(hcells s blk q).take (8+r)=[wv s.a,wv s.b,wv s.c,wv s.d,wv s.e,wv s.f,wv s.g,wv s.h]++(blk.map bv).take r:=by
  simp only [hcells]
  rw [show 8+r=[wv s.a,wv s.b,wv s.c,wv s.d,wv s.e,wv s.f,wv s.g,wv s.h].length+r from rfl,List.take_length_add_append,List.take_append_of_le_length (by simp; omega)]
 have e2:(hcells s blk q).drop (8+r+(m.map bv).length)=(blk.map bv).drop (r+m.length)++[.int .i64 (q:Int)]:=by
  simp only [hcells]
  rw [show 8+r+(m.map bv).length=[wv s.a,wv s.b,wv s.c,wv s.d,wv s.e,wv s.f,wv s.g,wv s.h].length+(r+m.length) from by simp; omega,List.drop_length_add_append,List.drop_append_of_le_length (by simp; omega)]
 rw [e1,e2]
 simp [hcells,laid,List.map_take,List.map_drop]
theorem hcells_many (s:S8) (blk:List UInt8) (q q':Nat) (hb:blk.length=64):(hcells s blk q).toArray.setIfInBounds 72 (.int .i64 (q':Int))=(hcells s blk q').toArray:=by
 rw [List.setIfInBounds_toArray]
 congr 1
 simp only [hcells]
 rw [show 72=[wv s.a,wv s.b,wv s.c,wv s.d,wv s.e,wv s.f,wv s.g,wv s.h].length+((blk.map bv).length+0) from by simp [hb],List.set_append_right _ _ (by simp),List.set_append_right _ _ (by simp [hb])]
 simp [hb]
theorem hcells_72 (s:S8) (blk:List UInt8) (q:Nat) (hb:blk.length=64):(hcells s blk q).toArray[72]? = some (.int .i64 (q:Int)):=by
 simp [hcells,hb]
theorem cut_src {w:World} {A:Option Addr} {m:List UInt8} {c n:Nat} (h:Src w A m) (hn:n≤m.length) (hc:m.length≤c) :
  ∃ A',(∀ W,(Instr.slice 29 (.slice A m.length c) (some (.int .i64 (n:Int))) none none).run Tryz.prog W=.ok (.slice A' (m.length - n) (c - n)) W)∧Src w A' (m.drop n)∧(∀ g,(m≠[]→∀ a,A=some a→a.block≠g)→m.drop n≠[]→∀ a,A'=some a→a.block≠g):=by
 have hu:Tryz.prog.underlying 29=some (.slice (Tryz.prog.elem 29)):=by kernel_rfl
 have hs:∀ W,(sizeOf (Tryz.prog.elem 29)).run Tryz.prog W=.ok 1 W:=fun W=>by kernel_rfl
 refine ⟨if c=n then A else A.map (·.add n),fun W=>?_,?_,?_⟩
 ·rw [run_slice_l W 29 A m.length c hu .i64 (n:Int) (by omega) (by omega),hs]
  simp [sliced]
 ·intro hne
  have hlt:n<m.length:=by
   rcases Nat.lt_or_ge n m.length with h1 | h1
   ·exact h1
   ·exact absurd (List.drop_of_length_le h1) hne
  obtain ⟨b,o,rfl,hb,hcell⟩:=h (by rintro rfl; simp at hlt)
  rw [if_neg (by omega)]
  refine ⟨b,o+n,by simp [addr_add],hb,fun j u hu'=>?_⟩
  rw [Nat.add_assoc]
  exact hcell _ u (by rw [← hu',List.getElem?_drop])
 ·intro g hg hne a ha
  have hg:=hg (by rintro rfl; simp at hne)
  by_cases hcn:c=n
  ·rw [if_pos hcn] at ha; exact hg a ha
  ·rw [if_neg hcn] at ha
   cases A with
   | none=>simp at ha
   | some a0 =>
    simp only [Option.map_some,Option.some.injEq] at ha
    subst ha
    have:=hg a0 rfl
    unfold Addr.add; split <;> simpa using this
theorem slice_from (g r:Nat) (W:World) (hr:r<64) :
  (Instr.sliceAt 149 (.pointer (some ⟨g,8,none⟩)) (some (.int .i64 (r:Int))) none none).run Tryz.prog W=.ok (.slice (some ⟨g,8+r,none⟩) (64 - r) (64 - r)) W:=by
 have hal:Tryz.prog.arrayLen 149=64:=by kernel_rfl
 have hu:Tryz.prog.underlying 149=some (.array (Tryz.prog.arrayLen 149) (Tryz.prog.elem 149)):=by kernel_rfl
 have hs:∀ W,(sizeOf (Tryz.prog.elem 149)).run Tryz.prog W=.ok 1 W:=fun W=>by kernel_rfl
 rw [run_sliceAt_array_l W 149 ⟨g,8,none⟩ hu .i64 (r:Int) (by omega) (by rw [hal]; omega),hs,hal]
 have e3:¬ 64=r:=by omega
 simp only [slicedAt,Int.toNat_natCast,e3,if_false,Nat.mul_one,addr_add,Result.andThen_ok]
theorem laid_eq (s:S8) (blk m':List UInt8) (cs:List Value) (r q n:Nat) (hcs:cs=m'.map bv) (hl:cs.length=n) (hb:blk.length=64) (hn:n≤64 - r) (hr:r<64) :
  ((hcells s blk q).take (8+r)++(cs++(hcells s blk q).drop (8+r+n))).toArray=(hcells s (laid blk r m') q).toArray:=by
 have h:=hcells_laid s blk m' r q hb (by rw [hcs,List.length_map] at hl; omega)
 rw [← h, ← hcs,hl]
theorem tab_set {w:World} {g b:Nat} (h:TabAt w b) (hg:g≠b) {o:Nat} {v:Value}:TabAt (w.setCell ⟨g,o,none⟩ v) b:=h.block (Below.heap_setCell w _ v b (fun e=>hg e.symm))
def lenOf':Value→Nat
 | .slice _ n _=>n
 | _=>0
theorem oneCell_bv (m:List UInt8):∀ v∈m.map bv,v.oneCell'=true:=by simp [bv,Value.oneCell']
end Sh
end Go.Proofs.YtgggdbjakcpanaaGreatDoor
