import Derived.Test.YtgggdbjakcpanaaGreatDoorQCShaSpec
import Derived.WalkKit
import Derived.WalkSpells
import Derived.WalkLawsBesides
set_option linter.unusedVariables false
set_option linter.unusedSimpArgs false
namespace Go.Proofs.YtgggdbjakcpanaaGreatDoor
section
open Go.RowKit Sp
def wv (x:Wd):Value:=.int .u32 (x.toNat:Int)
theorem ofInt_wd (x:Wd):BitVec.ofInt 32 (x.toNat:Int)=x:=by
 rw [BitVec.ofInt_natCast]; simp
theorem wd_bits {op:BinOp} {f:Wd→Wd→Wd} (x y:Wd) (h:bits op .u32 (x.toNat:Int) (y.toNat:Int)=IntKind.u32.wrap ((f (BitVec.ofInt 32 (x.toNat:Int)) (BitVec.ofInt 32 (y.toNat:Int))).toNat:Int)) :
  bits op .u32 (x.toNat:Int) (y.toNat:Int)=((f x y).toNat:Int):=by
 rw [h,ofInt_wd,ofInt_wd,IntKind.wrap_u32]
 have:=(f x y).isLt
 omega
theorem wd_xor (x y:Wd):bits .xor .u32 (x.toNat:Int) (y.toNat:Int)=((x ^^^ y).toNat:Int):=wd_bits (f:=fun a b=>a ^^^ b) x y rfl
theorem wd_and (x y:Wd):bits .and .u32 (x.toNat:Int) (y.toNat:Int)=((x &&& y).toNat:Int):=wd_bits (f:=fun a b=>a &&& b) x y rfl
theorem wd_or (x y:Wd):bits .or .u32 (x.toNat:Int) (y.toNat:Int)=((x ||| y).toNat:Int):=wd_bits (f:=fun a b=>a ||| b) x y rfl
theorem wd_add (x y:Wd):((x.toNat:Int)+(y.toNat:Int))%4294967296=((x+y).toNat:Int):=by
 rw [BitVec.toNat_add]; omega
theorem wd_sum4 (a b c d:Wd):((a.toNat:Int)+(b.toNat:Int)+(c.toNat:Int)+(d.toNat:Int))%4294967296=((a+b+c+d).toNat:Int):=by
 simp only [BitVec.toNat_add]; omega
theorem wd_sum5 (a b c d e:Wd):((a.toNat:Int)+(b.toNat:Int)+(c.toNat:Int)+(d.toNat:Int)+(e.toNat:Int))%4294967296=((a+b+c+d+e).toNat:Int):=by
 simp only [BitVec.toNat_add]; omega
theorem u32_ones:(if IntKind.u32.signed=true then (-1:Int) else IntKind.u32.max)=4294967295:=by decide
theorem wd_shr (x:Wd) (n:Nat):(x.toNat:Int) / 2 ^ n=((x >>> n).toNat:Int):=by
 rw [BitVec.toNat_ushiftRight,Nat.shiftRight_eq_div_pow]; simp
theorem wd_shl (x:Wd) (n:Nat):(x.toNat:Int)*2 ^ n%4294967296=((x <<< n).toNat:Int):=by
 rw [BitVec.toNat_shiftLeft,Nat.shiftLeft_eq]; simp
theorem wd_not (x:Wd):bits .xor .u32 4294967295 (x.toNat:Int)=((~~~x).toNat:Int):=by
 have h:=wd_xor 4294967295#32 x
 rw [show ((4294967295#32:Wd).toNat:Int)=4294967295 from rfl] at h
 rw [h]
 congr 2
theorem wd_not' (x:Wd):bits .xor .u32 (x.toNat:Int) 4294967295=((~~~x).toNat:Int):=by
 have h:=wd_xor x 4294967295#32
 rw [show ((4294967295#32:Wd).toNat:Int)=4294967295 from rfl] at h
 rw [h,BitVec.xor_comm]
 congr 2
theorem wd_lt (x:Wd):(x.toNat:Int)<4294967296∧0≤(x.toNat:Int):=⟨by have:=x.isLt; omega,by omega⟩
theorem wd_rot (x:Wd) (n:Int) (h0:1≤n) (h1:n≤31) :
  bits .or .u32 ((x.toNat:Int) / 2 ^ n.toNat) ((x.toNat:Int)*2 ^ (32 - n).toNat%4294967296)=((rotr x n.toNat).toNat:Int):=by
 rw [wd_shr,wd_shl,wd_or,show (32 - n).toNat=32 - n.toNat from by omega]
 rfl
theorem wd_rot' (x:Wd) (n:Int) (h0:1≤n) (h1:n≤31) :
  bits .or .u32 ((x.toNat:Int)*2 ^ (32 - n).toNat%4294967296) ((x.toNat:Int) / 2 ^ n.toNat)=((rotr x n.toNat).toNat:Int):=by
 rw [wd_shr,wd_shl,wd_or,show (32 - n).toNat=32 - n.toNat from by omega,BitVec.or_comm]
 rfl
theorem neg_and31 (n:Int) (h0:1≤n) (h1:n≤31):bits .and .u64 (IntKind.u64.wrap (-n)) 31=32 - n:=by
 have:n=1∨n=2∨n=3∨n=4∨n=5∨n=6∨n=7∨n=8∨n=9∨n=10∨n=11∨n=12∨n=13∨n=14∨n=15∨n=16∨n=17∨n=18∨n=19∨n=20∨n=21∨n=22∨n=23∨n=24∨n=25∨n=26∨n=27∨n=28∨n=29∨n=30∨n=31:=by omega
 rcases this with h | h | h | h | h | h | h | h | h | h | h | h | h | h | h | h | h | h | h | h | h | h | h | h | h | h | h | h | h | h | h <;> subst h <;> decide +kernel
end
end Go.Proofs.YtgggdbjakcpanaaGreatDoor
