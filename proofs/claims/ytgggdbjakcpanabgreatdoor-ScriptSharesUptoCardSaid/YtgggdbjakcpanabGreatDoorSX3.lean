/-
  Texts of ours, put together: CrvB, RefNum, RefMinus, RowZ, FoldZ, RefFold, RefAdd, MulZ, RefMul, PowZ, RefPow, NumB, FeOwn, RefBytes, CrvC, CurveAlive, FeB32, FeRead, RefSqrt, RootNum, CrvD, CrvF, CrvG, CrvH, CurveBackL, SymT, SymQ, SymW, SymU, WirB, WirC, WirD, WirE, WirF, WirG, WirH, WirI, ScpB, ScpC, SymS, SymP, SymN, ScpD, ScpE, ScpF, ScpG.
-/
import Derived.Test.YtgggdbjakcpanabGreatDoorSX2
set_option linter.unusedVariables false
set_option linter.unusedSimpArgs false
namespace Go.Proofs.YtgggdbjakcpanabGreatDoor
section
namespace Cu
open Go.RowKit Sy
set_option maxRecDepth 100000
set_option maxHeartbeats 4000000
theorem eql_pt_ne (w:World) (F:Slots) (o:Oper) (x y:Operand) (a b:Nat) (i:Bool) (c d:Nat) (j:Bool) {yt:TypeId} (ho:o.op=.binOp .eql 66 x y yt) (hx:evF F x=pv a b i) (hy:evF F y=pv c d j) (ha:a<K4) (hb:b<K4) (hc:c<K4) (hd:d<K4) (hij:i≠j):(execOp (evF F) o).run Tryz.prog w=.ok (.value (.bool false)) w:=by
 have h:=eql_pt w F o x y a b i c d j ho hx hy ha hb hc hd
 have e:sameB a b i c d j=false:=by
  unfold sameB
  simp [hij]
 rwa [e] at h
end Cu
end
section
section
open Go.RowKit Go.Lib
end
end
section
section
open Go.RowKit Go.Lib
end
end
section
namespace Fz
open Go.RowKit Go.Lib Sy
def vR (R:Nat→Nat):Nat→Nat
 | 0=>0
 | n+1=>vR R n+R n*18446744073709551616 ^ n
def upd (R:Nat→Nat) (k y:Nat):Nat→Nat:=λt=>if t=k then y else R t
theorem upd_ne {R:Nat→Nat} {k y t:Nat} (h:t≠k):upd R k y t=R t:=if_neg h
theorem upd_lt {R:Nat→Nat} {k y:Nat} (h:∀ t,R t<18446744073709551616) (hy:y<18446744073709551616) (t:Nat):upd R k y t<18446744073709551616:=by
 unfold upd
 split
 ·exact hy
 ·exact h t
theorem vR_same {R S:Nat→Nat}:∀ n,(∀ t,t<n→R t=S t)→vR R n=vR S n
 | 0,_=>rfl
 | n+1,h=>by
  show vR R n+_=vR S n+_
  rw [vR_same n λt ht=>h t (by omega),h n (by omega)]
theorem vR_upd (R:Nat→Nat) (k y:Nat):∀ n,k<n→vR (upd R k y) n+R k*18446744073709551616 ^ k=vR R n+y*18446744073709551616 ^ k
 | 0,h=>absurd h (Nat.not_lt_zero _)
 | n+1,h=>by
  show vR (upd R k y) n+upd R k y n*_+_=vR R n+R n*_+_
  by_cases e:k=n
  ·subst e
   rw [show upd R k y k=y from if_pos rfl,vR_same (R:=upd R k y) (S:=R) k λt ht=>if_neg (by omega)]
   omega
  ·have h2:=vR_upd R k y n (by omega)
   rw [show upd R k y n=R n from if_neg (by omega)]
   omega
theorem vR_lt {R:Nat→Nat} (h:∀ t,R t<18446744073709551616):∀ n,vR R n<18446744073709551616 ^ n
 | 0=>Nat.one_pos
 | n+1=>by
  have h1:=vR_lt h n
  have h2:=h n
  show vR R n+R n*_<_
  rw [Nat.pow_succ]
  have h3:(R n+1)*18446744073709551616 ^ n≤18446744073709551616*18446744073709551616 ^ n:=Nat.mul_le_mul_right _ h2
  rw [Nat.add_mul,Nat.one_mul] at h3
  rw [Nat.mul_comm (18446744073709551616 ^ n)]
  omega
theorem vR_split (R:Nat→Nat) (a:Nat):∀ n,vR R (a+n)=vR R a+vR (λt=>R (a+t)) n*18446744073709551616 ^ a
 | 0=>by
  show vR R a=vR R a+0*_
  rw [Nat.zero_mul,Nat.add_zero]
 | n+1=>by
  show vR R (a+n)+R (a+n)*18446744073709551616 ^ (a+n)=vR R a+(vR _ n+R (a+n)*_)*_
  rw [vR_split R a n,Nat.add_mul,Nat.mul_assoc, ← Nat.pow_add,Nat.add_comm n a,Nat.add_assoc]
theorem vR_zero:∀ n,vR (λ_=>0) n=0
 | 0=>rfl
 | n+1=>by
  show vR _ n+0*_=0
  rw [vR_zero n,Nat.zero_mul]
def rw8 (R:Nat→Nat):Array Value:=#[.int .u64 ((R 0:Nat):Int),.int .u64 ((R 1:Nat):Int),.int .u64 ((R 2:Nat):Int),.int .u64 ((R 3:Nat):Int),.int .u64 ((R 4:Nat):Int),.int .u64 ((R 5:Nat):Int),.int .u64 ((R 6:Nat):Int),.int .u64 ((R 7:Nat):Int)]
theorem eight {k:Nat} (h:k<8):k=0∨k=1∨k=2∨k=3∨k=4∨k=5∨k=6∨k=7:=by omega
theorem rw8_at (R:Nat→Nat) {k o:Nat} (h:k<8) (ho:o=k):(rw8 R)[o]? = some (.int .u64 ((R k:Nat):Int)):=by
 subst ho
 rcases eight h with rfl | rfl | rfl | rfl | rfl | rfl | rfl | rfl <;> rfl
theorem rw8_set (R:Nat→Nat) (y:Nat) {k o:Nat} (h:k<8) (ho:o=k):(rw8 R).setIfInBounds o (.int .u64 ((y:Nat):Int))=rw8 (upd R k y):=by
 subst ho
 rcases eight h with rfl | rfl | rfl | rfl | rfl | rfl | rfl | rfl <;> rfl
theorem rw8_fit (R:Nat→Nat) {k o:Nat} (h:k<8) (ho:o=k):o<(rw8 R).size:=by
 subst ho
 exact h
def wd (x:Nat) (t:Nat):Nat:=x / 18446744073709551616 ^ t%18446744073709551616
theorem wd_lt (x t:Nat):wd x t<18446744073709551616:=Nat.mod_lt _ (by decide)
theorem wd_all (x:Nat):∀ n,vR (wd x) n=x%18446744073709551616 ^ n
 | 0=>by rw [Nat.pow_zero,Nat.mod_one]; rfl
 | n+1=>by
  show vR (wd x) n+wd x n*_=_
  rw [wd_all x n,Nat.mod_pow_succ,Nat.mul_comm]
  rfl
theorem fcs_at (x:Nat) {k o:Nat} (h:k<4) (ho:o=k):(fcs x)[o]? = some (.int .u64 ((wd x k:Nat):Int)):=by
 subst ho
 have:o=0∨o=1∨o=2∨o=3:=by omega
 have e0:wd x 0=x%18446744073709551616:=by unfold wd; rw [Nat.pow_zero,Nat.div_one]
 have e1:wd x 1=x / 18446744073709551616%18446744073709551616:=by unfold wd; rw [Nat.pow_one]
 rcases this with rfl | rfl | rfl | rfl
 ·rw [e0]; rfl
 ·rw [e1]; rfl
 ·rfl
 ·rfl
theorem row_fv {R:Nat→Nat} (h:∀ t,R t<18446744073709551616):Value.agg #[.int .u64 ((R 0:Nat):Int),.int .u64 ((R 1:Nat):Int),.int .u64 ((R 2:Nat):Int),.int .u64 ((R 3:Nat):Int)]=fv (vR R 4):=by
 rw [fv_mk _ _ _ _ (h 0) (h 1) (h 2) (h 3)]
 congr 1
 show _=0+R 0*1+R 1*18446744073709551616+R 2*340282366920938463463374607431768211456+R 3*6277101735386680763835789423207666416102355444464034512896
 omega
theorem innerZ {v v' r P c c' y e d V LS Bi P0:Nat} (h1:v'+r*P=v+y*P) (h2:v+c*P=V+e*LS*Bi) (h3:y+18446744073709551616*c'=e*d+r+c) (hp:P=P0*Bi):v'+c'*(P*18446744073709551616)=V+e*(LS+d*P0)*Bi:=by
 grind
theorem outerM {x y i c:Nat} {y1 z:Nat→Nat} (h1:vR y1 8=vR (wd x) i*vR (wd y) 4) (h2:vR z 8+c*18446744073709551616 ^ (i+4)=vR y1 8+wd x i*vR (wd y) 4*18446744073709551616 ^ i) (h3:z (i+4)=0) (hi:i<4):vR (upd z (i+4) c) 8=vR (wd x) (i+1)*vR (wd y) 4:=by
 have h4:=vR_upd z (i+4) c 8 (by omega)
 rw [h3,Nat.zero_mul,Nat.add_zero] at h4
 show _=(vR (wd x) i+wd x i*_)*_
 rw [h4,h2,h1]
 grind
theorem wd4 {x:Nat} (hx:x<(2^256)):vR (wd x) 4=x:=by
 rw [wd_all]
 exact Nat.mod_eq_of_lt hx
end Fz
end
section
namespace Fz
open Go.RowKit Go.Lib Sy
end Fz
end
section
section
open Go.RowKit Go.Lib
end
end
section
section
open Go.RowKit Go.Lib
section
variable {P:Program} {ops:Array Oper}
end
end
end
section
namespace Fz
open Go.RowKit Go.Lib Sy
end Fz
end
section
section
open Go.RowKit Go.Lib
end
end
section
namespace Fz
open Go.RowKit Go.Lib Sy
end Fz
end
section
section
open Go.RowKit Go.Lib
end
end
section
section
open Go.RowKit Go.Lib
def byteN (z j:Nat):UInt8:=UInt8.ofNat (z / 2 ^ (8*j)%256)
def lowB (z:Nat):Nat→List UInt8
 | 0=>[]
 | k+1=>byteN z k::lowB z k
theorem lowB_length (z:Nat):∀ k,(lowB z k).length=k
 | 0=>rfl
 | k+1=>by rw [lowB,List.length_cons,lowB_length z k]
def bytesS (z:Nat):List UInt8:=lowB z 32
def partB (z k:Nat):List UInt8:=List.replicate (32 - k) 0++lowB z k
theorem partB_length (z k:Nat) (h:k≤32):(partB z k).length=32:=by simp [partB,lowB_length]; omega
theorem partB_full (z:Nat):partB z 32=bytesS z:=by simp [partB,bytesS]
theorem partB_set (z k:Nat) (h:k<32):((partB z k).map bv).toArray.setIfInBounds (31 - k) (bv (byteN z k))=((partB z (k+1)).map bv).toArray:=by
 rw [List.setIfInBounds_toArray]
 congr 1
 rw [← List.map_set]
 congr 1
 unfold partB
 rw [List.set_append_left _ _ (by simp; omega)]
 obtain ⟨m,hm⟩:∃ m,32 - k=m+1:=⟨31 - k,by omega⟩
 have h2:32 - (k+1)=m:=by omega
 have h3:31 - k=m:=by omega
 rw [hm,h2,h3,List.replicate_succ',List.set_append_right _ _ (by simp)]
 simp [lowB]
theorem bytesS_length (z:Nat):(bytesS z).length=32:=lowB_length z 32
theorem bv_byteN (z j:Nat):bv (byteN z j)=.int .u8 ((z / 2 ^ (8*j)%256:Nat):Int):=by
 unfold bv byteN
 congr 2
 rw [UInt8.toNat_ofNat']
 omega
theorem Blk.val {w:World} {a:Addr} {v v':Value} {g:Nat} {t:TypeId} {cs:Array Value} (h:Blk (w.setCell a v) g t cs) (e:v=v'):Blk (w.setCell a v') g t cs:=e ▸ h
theorem b32_info {l:List UInt8} (h:l.length=32):(Tryz.prog.info? 26).map (·.size)=some (l.map bv).toArray.size:=by
 simp only [List.size_toArray,List.length_map,h]
 kernel_rfl
theorem b32_one (l:List UInt8):(l.map bv).toArray.all (·.oneCell')=true:=by simp [bv,Value.oneCell']
def valB (l:List UInt8):Nat:=l.foldl (λa b=>a*256+b.toNat) 0
theorem valB_snoc (l:List UInt8) (c:UInt8):valB (l++[c])=valB l*256+c.toNat:=by simp [valB,List.foldl_append]
theorem valB_lt:∀ (n:Nat) (l:List UInt8),l.length=n→valB l<256 ^ n
 | 0,l,h=>by
  obtain rfl:l=[]:=List.length_eq_zero_iff.1 h
  simp [valB]
 | n+1,l,h=>by
  have hne:l≠[]:=by intro e; rw [e] at h; cases h
  have e:=List.dropLast_concat_getLast hne
  have ih:=valB_lt n l.dropLast (by rw [List.length_dropLast]; omega)
  rw [← e,valB_snoc,Nat.pow_succ]
  have:=(l.getLast hne).toNat_lt
  omega
theorem valB_append (l:List UInt8):∀ (n:Nat) (m:List UInt8),m.length=n→valB (l++m)=valB l*256 ^ n+valB m
 | 0,m,h=>by
  obtain rfl:m=[]:=List.length_eq_zero_iff.1 h
  simp [valB]
 | n+1,m,h=>by
  have hne:m≠[]:=by intro e; rw [e] at h; cases h
  have e:=List.dropLast_concat_getLast hne
  have ih:=valB_append l n m.dropLast (by rw [List.length_dropLast]; omega)
  rw [← e, ← List.append_assoc,valB_snoc,valB_snoc,ih,Nat.pow_succ,Nat.add_mul,Nat.mul_assoc]
  omega
def wdB (l:List UInt8) (k p:Nat):Nat:=valB ((l.drop (8*p)).take (min 8 (k - 8*p)))
theorem wdB_zero (l:List UInt8) (p:Nat):wdB l 0 p=0:=by simp [wdB,valB]
theorem wdB_step (l:List UInt8) (k p:Nat) (c:UInt8) (h:l[k]? = some c) (hp:k / 8=p):wdB l (k+1) p=wdB l k p*256+c.toNat:=by
 unfold wdB
 rw [show min 8 (k+1 - 8*p)=(k - 8*p)+1 by omega,show min 8 (k - 8*p)=k - 8*p by omega,List.take_add_one,List.getElem?_drop,show 8*p+(k - 8*p)=k by omega,h]
 exact valB_snoc _ _
theorem wdB_same (l:List UInt8) (k p:Nat) (hp:k / 8≠p):wdB l (k+1) p=wdB l k p:=by
 unfold wdB
 rw [show min 8 (k+1 - 8*p)=min 8 (k - 8*p) by omega]
theorem wdB_lt (l:List UInt8) (k p:Nat) (hp:k / 8=p):wdB l k p<72057594037927936:=by
 unfold wdB
 have h:=valB_lt _ ((l.drop (8*p)).take (min 8 (k - 8*p))) rfl
 refine Nat.lt_of_lt_of_le h ?_
 have:((l.drop (8*p)).take (min 8 (k - 8*p))).length≤7:=by rw [List.length_take]; omega
 exact Nat.pow_le_pow_right (by omega) this
theorem wdB_all (l:List UInt8) (h:l.length=32):valB l=wdB l 32 3+18446744073709551616*wdB l 32 2+340282366920938463463374607431768211456*wdB l 32 1+6277101735386680763835789423207666416102355444464034512896*wdB l 32 0:=by
 have e:l=(l.take 8++(l.drop 8).take 8)++((l.drop 16).take 8++(l.drop 24).take 8):=by
  conv=>lhs; rw [← List.take_append_drop 16 l, ← List.take_append_drop 8 (l.take 16), ← List.take_append_drop 8 (l.drop 16)]
  congr 2
  ·rw [List.take_take]; rfl
  ·rw [List.drop_take]
  ·rw [List.drop_drop,List.take_of_length_le (by simp; omega)]
 have w0:wdB l 32 0=valB (l.take 8):=rfl
 have w1:wdB l 32 1=valB ((l.drop 8).take 8):=rfl
 have w2:wdB l 32 2=valB ((l.drop 16).take 8):=rfl
 have w3:wdB l 32 3=valB ((l.drop 24).take 8):=rfl
 conv=>lhs; rw [e]
 rw [valB_append _ 16 _ (by simp; omega),valB_append _ 8 _ (by simp; omega),valB_append _ 8 _ (by simp; omega),w0,w1,w2,w3]
 have p8:(256:Nat) ^ 8=18446744073709551616:=by decide
 have p16:(256:Nat) ^ 16=340282366920938463463374607431768211456:=by decide
 rw [p8,p16,Nat.add_mul,Nat.mul_assoc]
 omega
theorem wdB_lt8 (l:List UInt8) (k p:Nat):wdB l k p<18446744073709551616:=by
 unfold wdB
 have h:=valB_lt _ ((l.drop (8*p)).take (min 8 (k - 8*p))) rfl
 refine Nat.lt_of_lt_of_le h ?_
 have:((l.drop (8*p)).take (min 8 (k - 8*p))).length≤8:=by rw [List.length_take]; omega
 exact Nat.pow_le_pow_right (by omega) this
theorem or_add (w c:Nat) (hw:w<72057594037927936) (hc:c<256):bits .or .u64 ((w:Int)*256) (c:Int)=((w*256+c:Nat):Int):=by
 have e:((w:Int)*256)=((w*256:Nat):Int):=by omega
 rw [e]
 have h:w*256 ||| c=w*256+c:=by
  have:=Nat.two_pow_add_eq_or_of_lt (i:=8) (b:=c) (by omega) w
  rw [Nat.mul_comm w 256]
  exact this.symm
 have hw2:(BitVec.ofInt 64 ((w*256:Nat):Int) ||| BitVec.ofInt 64 (c:Int)).toNat=w*256+c:=by
  rw [BitVec.toNat_or]
  simp only [BitVec.ofInt_natCast,BitVec.toNat_ofNat]
  rw [Nat.mod_eq_of_lt (by omega),Nat.mod_eq_of_lt (by omega),h]
 show IntKind.u64.wrap ((BitVec.ofInt 64 ((w*256:Nat):Int) ||| BitVec.ofInt 64 (c:Int)).toNat:Int)=_
 rw [hw2,IntKind.wrap_u64]
 omega
theorem run_index_b32 (W:World) (l:List UInt8) (k:Nat) (c:UInt8) (h:l[k]? = some c) (hk:k<32) :
  (Instr.index 26 (.agg (l.map bv).toArray) (.int .i64 (k:Int))).run Tryz.prog W=.ok (bv c) W:=by
 unfold Instr.index
 have hs:∀ W,(sizeOf 5).run Tryz.prog W=.ok 1 W:=λW=>by kernel_rfl
 have pc:(part 5 (l.map bv).toArray ((k:Int).toNat*1)).run Tryz.prog W=.ok (bv c) W:=by
  simp [part,isAgg,run_underlying Tryz.underlying5,h]
 simp only [asIntOf,Sem.run_bind,Sem.run_pure,Result.andThen_ok,run_underlying Tryz.underlying26]
 rw [if_pos ⟨by omega,by omega⟩]
 simp only [Sem.run_bind,hs,Result.andThen_ok,pc]
theorem p256 (k:Nat):(2:Nat) ^ (8*k)=256 ^ k:=by rw [Nat.pow_mul]
theorem valB_lowB (z:Nat):∀ k,valB (lowB z k)=z%256 ^ k
 | 0=>by simp [lowB,valB,Nat.mod_one]
 | k+1=>by
  have h:=valB_append [byteN z k] k (lowB z k) (lowB_length z k)
  rw [lowB]
  rw [List.singleton_append] at h
  rw [h,valB_lowB z k,Nat.mod_pow_succ]
  have e:valB [byteN z k]=z / 256 ^ k%256:=by
   have:valB [byteN z k]=(byteN z k).toNat:=by simp [valB]
   rw [this,byteN,UInt8.toNat_ofNat',p256]
   omega
  rw [e,Nat.mul_comm]
  omega
theorem valB_bytesS (z:Nat) (hz:z<(2^256)):valB (bytesS z)=z:=by
 rw [bytesS,valB_lowB]
 have:(256:Nat) ^ 32=(2^256):=by decide
 rw [this,Nat.mod_eq_of_lt hz]
theorem valB_lt32 (l:List UInt8) (h:l.length=32):valB l<(2^256):=by
 have:=valB_lt 32 l h
 have e:(256:Nat) ^ 32=(2^256):=by decide
 omega
end
end
section
section
open Go.RowKit Sp
def Src (w:World) (A:Option Addr) (m:List UInt8):Prop :=
 m≠[]→∃ b o,A=some ⟨b,o,none⟩∧b<w.heap.size∧∀ j u,m[j]? = some u→w.cell? ⟨b,o+j,none⟩=some (bv u)
theorem Src.keep {w w':World} {A:Option Addr} {m:List UInt8} (h:Src w A m) (hs:w.heap.size≤w'.heap.size) (hk:m≠[]→∀ a,A=some a→a.block<w.heap.size→w'.heap[a.block]? = w.heap[a.block]?):Src w' A m:=λhm=>by
 obtain ⟨b,o,rfl,hb,hc⟩:=h hm
 exact ⟨b,o,rfl,by omega,λj u hu=>(World.cell?_of_block (w:=w) (a:=⟨b,o+j,none⟩) (show w'.heap[b]? = w.heap[b]? from hk hm ⟨b,o,none⟩ rfl hb)).trans (hc j u hu)⟩
theorem Src.below {w w':World} {A:Option Addr} {m:List UInt8} (h:Src w A m) (hb:Below w.heap.size w w'):Src w' A m :=
 h.keep hb.size λ_ _ _ hl=>hb.block _ hl
end
end
section
section
open Go.RowKit Go.Lib
end
end
section
namespace Cu
open Go.RowKit Sy
set_option maxRecDepth 100000
set_option maxHeartbeats 4000000
end Cu
end
section
namespace Cu
open Go.RowKit Sy
end Cu
end
section
section
open Go.RowKit Go.Lib
set_option maxHeartbeats 8000000 in
set_option maxRecDepth 100000 in
theorem bytes_any (w:World) (x:Nat) (hx:x<(2^256)):Calls Tryz.prog 51 #[fv x] w λe w'=>e=.returned (.agg ((bytesS (x%pM)).map bv).toArray)∧Below w.heap.size w w':=by
 obtain ⟨z,hz⟩:∃ z,z=x%pM:=⟨_,rfl⟩
 have hzl:z<(2^256):=by rw [hz]; exact mod_lt x
 have cn:∀ w,Calls Tryz.prog 67 #[fv x] w λe w'=>e=.returned (fv z)∧Below w.heap.size w w':=by
  intro w; rw [hz]; exact norm_any w x hx
 rw [← hz]
 obtain ⟨z0,z1,z2,z3,a0,a1,a2,a3,ez,fz⟩:=words_of z hzl
 have HZ:=Lib.hid (And.intro a0 (And.intro a1 (And.intro a2 (And.intro a3 ez))))
 have FZ:=Lib.hid fz
 obtain ⟨x0,x1,x2,x3,fx⟩:=words_fv x hx
 rw [fx] at cn ⊢
 clear fx fz hz hzl a0 a1 a2 a3 ez hx
 have hZB:Hid ((List.replicate 32 (Value.int .u8 0)).toArray=((partB z 0).map bv).toArray):=Lib.hid (by simp [partB,lowB,bv])
 go_enter Tryz.func51,Tryz.ntmps51
 go_wp2_with fail
 refine (cn _).mono ?_
 rintro e w1 ⟨rfl,hb⟩
 have BR:Blk w1 (w.heap.size+1) 26 _:=Gr.blk hb (Blk.alloc (blk_new2 w _ _ _) _)
 have BB:Blk w1 (w.heap.size+2) 26 ((partB z 0).map bv).toArray:=Blk.eq_ (Gr.blk hb (blk_new3 w _ _ _ _)) hZB.out
 have hB:=Below.gr (below_alloc3 w _ _ _) hb
 have sz:=BB.lt
 clear hb cn
 go_wp2_with (first | ((with_reducible refine here_store ?_); refine wpList_store_blk rfl _ _ _ rfl (w1.heap.size) (fcs (z)) rfl rfl _ _ (Blk.new w1 _ _) (by kernel_rfl) (by rfl) (fcs_one _) ?_; intro w2 hL2 hB2 hK2; have CR:=hK2 _ (by omega) _ _ (BR.alloc _); have CB:=hK2 _ (by omega) _ _ (BB.alloc _); have hC:=(hB.alloc (by omega) _).trans (hB2 _ (by omega))))
 go_loopw [8] (λi wr=>∃ k:Nat,k≤32∧i=.int .i64 (k:Int)∧Below w.heap.size w wr∧Blk wr (w.heap.size+2) 26 ((partB z k).map bv).toArray∧Blk wr w1.heap.size 64 #[.int .u64 (z0:Int),.int .u64 (z1:Int),.int .u64 (z2:Int),.int .u64 (z3:Int)]∧Blk wr (w.heap.size+1) 26 (List.replicate 32 (Value.int .u8 0)).toArray) (λi _=>32 - (RowKit.intOf i).toNat)
 case atStart=>exact ⟨0,by omega,rfl,hC,CB,hL2.eq_ (fcs_words FZ.out),CR⟩
 case round =>
  obtain ⟨k,hk,rfl,hb,hP,hN,hR⟩:=hrel
  by_cases hlt:k<32
  ·have ce:∀ j,j<32→∃ v,wr.cell? ⟨w.heap.size+1+1,j,none⟩=some v:=λj hj=>⟨_,(hP.cell j).trans (Array.getElem?_eq_getElem (by simp [partB_length z k hk]; exact hj))⟩
   obtain ⟨v,hv⟩:=ce (31 - k) (by omega)
   have ff:=hP.frozen (31 - k)
   have q0:wr.cell? ⟨w1.heap.size,0,none⟩=some (.int .u64 (z0:Int)):=hN.cell 0
   have q1:wr.cell? ⟨w1.heap.size,1,none⟩=some (.int .u64 (z1:Int)):=hN.cell 1
   have q2:wr.cell? ⟨w1.heap.size,2,none⟩=some (.int .u64 (z2:Int)):=hN.cell 2
   have q3:wr.cell? ⟨w1.heap.size,3,none⟩=some (.int .u64 (z3:Int)):=hN.cell 3
   have hPn:=hP.set_ (31 - k) (bv (byteN z k))
   rw [partB_set z k hlt] at hPn
   have HP:=Lib.hid hPn
   clear hPn ce
   have HR:=Lib.hid (And.intro hb (And.intro hN hR))
   clear hb hP hN hR hk
   have hsz:w.heap.size+2<w1.heap.size:=sz
   rcases (show k=0∨k=1∨k=2∨k=3∨k=4∨k=5∨k=6∨k=7∨k=8∨k=9∨k=10∨k=11∨k=12∨k=13∨k=14∨k=15∨k=16∨k=17∨k=18∨k=19∨k=20∨k=21∨k=22∨k=23∨k=24∨k=25∨k=26∨k=27∨k=28∨k=29∨k=30∨k=31 by omega) with rfl | rfl | rfl | rfl | rfl | rfl | rfl | rfl | rfl | rfl | rfl | rfl | rfl | rfl | rfl | rfl | rfl | rfl | rfl | rfl | rfl | rfl | rfl | rfl | rfl | rfl | rfl | rfl | rfl | rfl | rfl | rfl
   all_goals
    go_wp2
    obtain ⟨a0,a1,a2,a3,ez⟩:=HZ.out
    refine ⟨⟨_,by decide,rfl,HR.out.1.setCell (by show w.heap.size≤w.heap.size+1+1; omega) _,HP.out.val (by rw [bv_byteN]; congr 1; omega),HR.out.2.1.far (by show w1.heap.size≠w.heap.size+1+1; omega) _,HR.out.2.2.far (by show w.heap.size+1≠w.heap.size+1+1; omega) _⟩,by simp [RowKit.intOf]⟩
  ·have p1:¬ (k:Int)<32:=by omega
   obtain rfl:k=32:=by omega
   rw [partB_full] at hP
   have HI:=Lib.hid (bytesS_length z)
   have HL:=Lib.hid hP
   have HR:=Lib.hid hR
   clear hN hP hR
   go_wp2_with (first | ((with_reducible refine here_load (d:=some 24) ?_); refine wpList_load_blk rfl _ _ rfl (w.heap.size+2) rfl _ _ _ HL.out Tryz.underlying26 rfl (b32_info HI.out) ?_) | ((with_reducible refine here_store ?_); refine wpList_store_blk rfl _ _ _ rfl (w.heap.size+1) ((bytesS z).map bv).toArray rfl rfl _ _ HR.out (b32_info HI.out) (by simp [HI.out]) (b32_one _) ?_; intro w9 hL9 hB9 hK9))
   exact bodyPost_ret (results_cell_row rfl _ _ (w.heap.size+1) _ _ (0,0) _ rfl hL9 Tryz.underlying26 rfl (b32_info HI.out)) rfl ⟨rfl,hb.trans (hB9 _ (by omega))⟩
end
end
section
section
open Go.RowKit Go.Lib
def readS (l:List UInt8):Nat×Bool:=if valB l<pM then (valB l,true) else (0,false)
set_option maxHeartbeats 8000000 in
set_option maxRecDepth 100000 in
theorem read_any (w:World) (l:List UInt8) (hl:l.length=32):Calls Tryz.prog 42 #[.agg (l.map bv).toArray] w λe w'=>e=.returned (.tuple #[fv (readS l).1,.bool (readS l).2])∧Below w.heap.size w w':=by
 have HL:=Lib.hid hl
 clear hl
 go_enter Tryz.func42,Tryz.ntmps42
 go_wp2_with (first | ((with_reducible refine here_load (d:=some 7) ?_); refine wpList_load_blk rfl _ _ rfl w.heap.size rfl _ _ _ (((Blk.new w _ _).alloc _).alloc _) Tryz.underlying26 rfl (b32_info HL.out) ?_))
 go_loopw [8] (λi wr=>∃ k y0 y1 y2 y3:Nat,k≤32∧i=.int .i64 (k:Int)∧Hid (y0=wdB l k 0∧y1=wdB l k 1∧y2=wdB l k 2∧y3=wdB l k 3)∧Below w.heap.size w wr∧Blk wr (w.heap.size+2) 64 #[.int .u64 (y3:Int),.int .u64 (y2:Int),.int .u64 (y1:Int),.int .u64 (y0:Int)]∧Blk wr (w.heap.size+1) 64 #[.int .u64 0,.int .u64 0,.int .u64 0,.int .u64 0]) (λi _=>32 - (RowKit.intOf i).toNat)
 case atStart=>exact ⟨0,0,0,0,0,by omega,rfl,Lib.hid ⟨(wdB_zero l 0).symm,(wdB_zero l 1).symm,(wdB_zero l 2).symm,(wdB_zero l 3).symm⟩,below_alloc3 w _ _ _,blk_new3 w _ _ _ _,(blk_new2 w _ _ _).alloc _⟩
 case round =>
  obtain ⟨k,y0,y1,y2,y3,hk,rfl,HY,hb,hP,hR⟩:=hrel
  have q3:wr.cell? ⟨w.heap.size+1+1,0,none⟩=some (.int .u64 (y3:Int)):=hP.cell 0
  have q2:wr.cell? ⟨w.heap.size+1+1,1,none⟩=some (.int .u64 (y2:Int)):=hP.cell 1
  have q1:wr.cell? ⟨w.heap.size+1+1,2,none⟩=some (.int .u64 (y1:Int)):=hP.cell 2
  have q0:wr.cell? ⟨w.heap.size+1+1,3,none⟩=some (.int .u64 (y0:Int)):=hP.cell 3
  have ff:∀ j,wr.frozen? ⟨w.heap.size+1+1,j,none⟩=false:=λj=>hP.frozen j
  by_cases hlt:k<32
  ·obtain ⟨c,hc⟩:∃ c,l[k]? = some c:=⟨l[k]'(by rw [HL.out]; exact hlt),List.getElem?_eq_getElem _⟩
   have HC:=Lib.hid hc
   obtain ⟨m,hm⟩:∃ m,m=c.toNat:=⟨_,rfl⟩
   have hm8:m<256:=by rw [hm]; exact c.toNat_lt
   have hI:∀ W,(Instr.index 26 (.agg (l.map bv).toArray) (.int .i64 (k:Int))).run Tryz.prog W=.ok (.int .u8 (m:Int)) W:=λW=>by
    rw [run_index_b32 W l k c hc hlt,hm]; rfl
   have HM:=Lib.hid hm
   have HR:=Lib.hid (And.intro hb (And.intro hP hR))
   clear hb hP hR hc hk hm
   rcases (show k=0∨k=1∨k=2∨k=3∨k=4∨k=5∨k=6∨k=7∨k=8∨k=9∨k=10∨k=11∨k=12∨k=13∨k=14∨k=15∨k=16∨k=17∨k=18∨k=19∨k=20∨k=21∨k=22∨k=23∨k=24∨k=25∨k=26∨k=27∨k=28∨k=29∨k=30∨k=31 by omega) with rfl | rfl | rfl | rfl | rfl | rfl | rfl | rfl | rfl | rfl | rfl | rfl | rfl | rfl | rfl | rfl | rfl | rfl | rfl | rfl | rfl | rfl | rfl | rfl | rfl | rfl | rfl | rfl | rfl | rfl | rfl | rfl
   all_goals
    simp only [Int.cast_ofNat_Int] at hI
   all_goals
    first
    | ((have hy:y0<72057594037927936:=by rw [HY.out.1]; exact wdB_lt l _ 0 (by decide)); (have ho:=or_add y0 m hy hm8); go_wp2; (refine ⟨⟨_,y0*256+m,y1,y2,y3,by decide,rfl,Lib.hid ⟨by rw [HY.out.1,HM.out]; exact (wdB_step l _ 0 c HC.out (by decide)).symm,by rw [HY.out.2.1]; exact (wdB_same l _ 1 (by decide)).symm,by rw [HY.out.2.2.1]; exact (wdB_same l _ 2 (by decide)).symm,by rw [HY.out.2.2.2]; exact (wdB_same l _ 3 (by decide)).symm⟩,HR.out.1.setCell (by show w.heap.size≤w.heap.size+1+1; omega) _,Blk.eq_ (HR.out.2.1.set_ 3 _) (by rw [show ((y0*256+m:Nat):Int)=(y0:Int)*256+(m:Int) by omega]; rfl),HR.out.2.2.far (by show w.heap.size+1≠w.heap.size+1+1; omega) _⟩,by simp [RowKit.intOf]⟩))
    | ((have hy:y1<72057594037927936:=by rw [HY.out.2.1]; exact wdB_lt l _ 1 (by decide)); (have ho:=or_add y1 m hy hm8); go_wp2; (refine ⟨⟨_,y0,y1*256+m,y2,y3,by decide,rfl,Lib.hid ⟨by rw [HY.out.1]; exact (wdB_same l _ 0 (by decide)).symm,by rw [HY.out.2.1,HM.out]; exact (wdB_step l _ 1 c HC.out (by decide)).symm,by rw [HY.out.2.2.1]; exact (wdB_same l _ 2 (by decide)).symm,by rw [HY.out.2.2.2]; exact (wdB_same l _ 3 (by decide)).symm⟩,HR.out.1.setCell (by show w.heap.size≤w.heap.size+1+1; omega) _,Blk.eq_ (HR.out.2.1.set_ 2 _) (by rw [show ((y1*256+m:Nat):Int)=(y1:Int)*256+(m:Int) by omega]; rfl),HR.out.2.2.far (by show w.heap.size+1≠w.heap.size+1+1; omega) _⟩,by simp [RowKit.intOf]⟩))
    | ((have hy:y2<72057594037927936:=by rw [HY.out.2.2.1]; exact wdB_lt l _ 2 (by decide)); (have ho:=or_add y2 m hy hm8); go_wp2; (refine ⟨⟨_,y0,y1,y2*256+m,y3,by decide,rfl,Lib.hid ⟨by rw [HY.out.1]; exact (wdB_same l _ 0 (by decide)).symm,by rw [HY.out.2.1]; exact (wdB_same l _ 1 (by decide)).symm,by rw [HY.out.2.2.1,HM.out]; exact (wdB_step l _ 2 c HC.out (by decide)).symm,by rw [HY.out.2.2.2]; exact (wdB_same l _ 3 (by decide)).symm⟩,HR.out.1.setCell (by show w.heap.size≤w.heap.size+1+1; omega) _,Blk.eq_ (HR.out.2.1.set_ 1 _) (by rw [show ((y2*256+m:Nat):Int)=(y2:Int)*256+(m:Int) by omega]; rfl),HR.out.2.2.far (by show w.heap.size+1≠w.heap.size+1+1; omega) _⟩,by simp [RowKit.intOf]⟩))
    | ((have hy:y3<72057594037927936:=by rw [HY.out.2.2.2]; exact wdB_lt l _ 3 (by decide)); (have ho:=or_add y3 m hy hm8); go_wp2; (refine ⟨⟨_,y0,y1,y2,y3*256+m,by decide,rfl,Lib.hid ⟨by rw [HY.out.1]; exact (wdB_same l _ 0 (by decide)).symm,by rw [HY.out.2.1]; exact (wdB_same l _ 1 (by decide)).symm,by rw [HY.out.2.2.1]; exact (wdB_same l _ 2 (by decide)).symm,by rw [HY.out.2.2.2,HM.out]; exact (wdB_step l _ 3 c HC.out (by decide)).symm⟩,HR.out.1.setCell (by show w.heap.size≤w.heap.size+1+1; omega) _,Blk.eq_ (HR.out.2.1.set_ 0 _) (by rw [show ((y3*256+m:Nat):Int)=(y3:Int)*256+(m:Int) by omega]; rfl),HR.out.2.2.far (by show w.heap.size+1≠w.heap.size+1+1; omega) _⟩,by simp [RowKit.intOf]⟩))
  ·have p1:¬ (k:Int)<32:=by omega
   obtain rfl:k=32:=by omega
   have b0:y0<18446744073709551616:=by rw [HY.out.1]; exact wdB_lt8 l _ _
   have b1:y1<18446744073709551616:=by rw [HY.out.2.1]; exact wdB_lt8 l _ _
   have b2:y2<18446744073709551616:=by rw [HY.out.2.2.1]; exact wdB_lt8 l _ _
   have b3:y3<18446744073709551616:=by rw [HY.out.2.2.2]; exact wdB_lt8 l _ _
   obtain ⟨z,hz⟩:∃ z,z=y3+18446744073709551616*y2+340282366920938463463374607431768211456*y1+6277101735386680763835789423207666416102355444464034512896*y0:=⟨_,rfl⟩
   have fz:=fv_mk y3 y2 y1 y0 b3 b2 b1 b0
   rw [← hz] at fz
   have hzl:z<(2^256):=by rw [hz]; exact fv_lt y3 y2 y1 y0 b3 b2 b1 b0
   have hzv:z=valB l:=by rw [wdB_all l HL.out,hz,HY.out.1,HY.out.2.1,HY.out.2.2.1,HY.out.2.2.2]
   obtain ⟨n,hn⟩:∃ n,n=z%pM:=⟨_,rfl⟩
   have hnl:n<(2^256):=by rw [hn]; exact mod_lt z
   obtain ⟨b,hbd⟩:∃ b,b=decide (n≠z):=⟨_,rfl⟩
   have eb:∀ W,(binOp .neq 64 (fv n) (fv z)).run Tryz.prog W=.ok (.bool b) W:=λW=>by rw [hbd]; exact run_neq_fv W n z hnl hzl
   have cn:∀ w,Calls Tryz.prog 67 #[fv z] w λe w'=>e=.returned (fv n)∧Below w.heap.size w w':=by
    intro w; rw [hn]; exact norm_any w z hzl
   have hS:readS l=if b=true then (0,false) else (z,true):=by
    unfold readS
    rw [← hzv,hbd,hn]
    by_cases h:z<pM
    ·rw [if_pos h,Nat.mod_eq_of_lt h]; simp
    ·have h2:z%pM≠z:=λe=>h (by rw [← e]; exact mod_lt_p z)
     rw [if_neg h]; simp [h2]
   have HS:=Lib.hid hS
   have FZ:=Lib.hid fz.symm
   have HP:=Lib.hid hP
   clear HY b0 b1 b2 b3 hz fz hzl hzv hn hnl hbd hS q0 q1 q2 q3 ff hP
   go_wp2
   refine wp_region_G (λ_=>false) (by kernel_rfl) ?_
   try simp only [Act.put]
   refine tkw 0 rfl (YieldsG.loadF (by rfl) _ _ rfl (w.heap.size+2) rfl (z) _ _ (HP.out) (FZ.out) Tryz.underlying64 rfl (by kernel_rfl)) ?_
   try simp only [Act.put,aA,aZ,aS]
   refine tkw 1 rfl (YieldsG.call (v:=fv n) (by rfl) 67 _ (λw9=>by go_simp; try (first | with_reducible rfl | rfl)) (λw9 h9=>cn w9)) ?_
   try simp only [Act.put,aA,aZ,aS]
   refine tkw 2 rfl (YieldsG.loadF (by rfl) _ _ rfl (w.heap.size+2) rfl (z) _ _ (HP.out) (FZ.out) Tryz.underlying64 rfl (by kernel_rfl)) ?_
   try simp only [Act.put,aA,aZ,aS]
   refine tkw 3 rfl (YieldsG.pure (v:=.bool b) (by rfl) (λw9 h9=>by go_simp; rw [run_eqGuard_fv]; simp only [Result.andThen_ok,eb])) ?_
   try simp only [Act.put,aA,aZ,aS]
   refine wpAnyG_done (by kernel_rfl) (λu hu=>?_)
   have hbu:=Below.gr hb hu
   have BR:=Gr.blk hu hR
   have BP:=Gr.blk hu HP.out
   clear hu hb hR HP eb cn
   cases b
   ·have HT:Hid (readS l=(z,true)):=Lib.hid (by rw [HS.out]; rfl)
    clear HS
    go_wp2_with (first | ((with_reducible refine here_load (d:=some 31) ?_); refine wpList_load_fv rfl _ _ rfl (w.heap.size+2) rfl (z) _ _ _ (BP) (FZ.out) Tryz.underlying64 rfl (by kernel_rfl) ?_) | ((with_reducible refine here_store ?_); refine wpList_store_blk rfl _ _ _ rfl (w.heap.size+1) (fcs (z)) rfl rfl _ _ (BR) (by kernel_rfl) (by rfl) (fcs_one _) ?_; intro vz hLz hqz hKz))
    exact bodyPost_ret (res_cell_tmp rfl _ _ (w.heap.size+1) _ _ _ _ rfl hLz rfl Tryz.underlying64 rfl (by kernel_rfl)) rfl ⟨by rw [HT.out]; rfl,hbu.trans (hqz _ (by omega))⟩
   ·have HT:Hid (readS l=(0,false)):=Lib.hid (by rw [HS.out]; rfl)
    clear HS
    go_wp2_with (first | ((with_reducible refine here_store ?_); refine wpList_store_blk rfl _ _ _ rfl (w.heap.size+1) _ rfl rfl _ _ (BR) (by kernel_rfl) (by rfl) (by simp [Value.oneCell']) ?_; intro vz hLz hqz hKz))
    exact bodyPost_ret (res_cell_tmp rfl _ _ (w.heap.size+1) _ _ _ _ rfl hLz rfl Tryz.underlying64 rfl (by kernel_rfl)) rfl ⟨by rw [HT.out]; rfl,hbu.trans (hqz _ (by omega))⟩
end
end
section
section
open Go.RowKit Go.Lib
def eQ:Nat:=28948022309329048855892746252171976963317496166410141009864396001977208667916
end
end
section
section
open Go.RowKit Go.Lib
theorem prime_p:Nt.Pr pM:=Nt.pr_p
theorem eRoot_is:eRoot=eQ:=by decide +kernel
theorem four_eQ:2*(eQ+eQ)=pM+1:=by decide +kernel
theorem root_lt_p (x:Nat):rootR x<pM:=by rw [← rootR_red]; exact mod_lt_p _
theorem sq_le {p r a:Nat} (hp:Nt.Pr p) (hle:a≤r) (hr:r<p) (h:r*r%p=a*a%p):r=a∨r+a=p:=by
 have e:(r - a)*(r+a)=r*r - a*a:=by
  obtain ⟨d,rfl⟩:∃ d,r=a+d:=⟨r - a,by omega⟩
  rw [Nat.add_sub_cancel_left]
  have h1:(a+d)*(a+d)=a*a+d*(a+d+a):=by
   simp only [Nat.mul_add,Nat.add_mul]
   have:=Nat.mul_comm a d
   omega
  rw [h1,Nat.add_sub_cancel_left]
 have hd:p ∣ (r - a)*(r+a):=by
  rw [e]
  exact Nat.dvd_of_mod_eq_zero (Nat.sub_mod_eq_zero_of_mod_eq h)
 by_cases hz:(r+a)%p=0
 ·obtain ⟨k,hk⟩:=Nat.dvd_of_mod_eq_zero hz
  rcases k with _ | _ | k
  ·left; omega
  ·right; omega
  ·have hk':r+a=p*(k+2):=hk
   have:p*2≤p*(k+2):=Nat.mul_le_mul (Nat.le_refl _) (by omega)
   omega
 ·left
  have hd2:p ∣ r - a:=(Nt.cop hp (r+a) hz).dvd_of_dvd_mul_right hd
  have:=Nat.eq_zero_of_dvd_of_lt hd2 (by omega)
  omega
theorem sq_roots {p r a:Nat} (hp:Nt.Pr p) (hr:r<p) (ha:a<p) (h:r*r%p=a*a%p):r=a∨r+a=p:=by
 rcases Nat.le_total a r with hl | hl
 ·exact sq_le hp hl hr h
 ·rcases sq_le hp hl ha h.symm with h1 | h1
  ·exact .inl h1.symm
  ·exact .inr (by omega)
theorem pow_gen {p a e:Nat} (hp:Nt.Pr p) (he:2*(e+e)=p+1):((a*a) ^ e%p)*((a*a) ^ e%p)%p=a*a%p:=by
 have h2:=hp.1
 rw [← Nat.mul_mod, ← Nat.pow_add, ← Nat.pow_two, ← Nat.pow_mul,he]
 have e1:a ^ (p+1)=a ^ (p - 1)*a ^ 2:=by rw [← Nat.pow_add]; congr 1; omega
 rw [e1,Nat.mul_mod]
 by_cases hz:a%p=0
 ·have:a ^ 2%p=0:=by rw [Nat.pow_two,Nat.mul_mod,hz]; simp
  rw [this]; simp
 ·rw [Nt.flt hp a hz,Nat.one_mul,Nat.mod_mod]
theorem root_sq (a:Nat):mulP (rootR (mulP a a)) (rootR (mulP a a))=mulP a a:=by
 have h:=rootR_pow (mulP a a)
 rw [rootR_red,eRoot_is] at h
 rw [h]
 unfold mulP
 rw [← Nat.pow_mod]
 exact pow_gen prime_p four_eQ
theorem neg_of (r:Nat) (h:r<pM) (h0:r≠0):negP r=pM - r:=by
 unfold negP
 rw [Nat.mod_eq_of_lt h]
 exact Nat.mod_eq_of_lt (by omega)
theorem neg_sq (r:Nat) (h:r<pM) (h0:r≠0):mulP (negP r) (negP r)=mulP r r:=by
 rw [neg_of r h h0]
 obtain ⟨q,hq⟩:∃ q,pM=q+r:=⟨pM - r,by omega⟩
 rw [show pM - r=q by omega]
 unfold mulP
 have e:q*q+pM*r=r*r+pM*q:=by
  rw [hq,Nat.add_mul,Nat.add_mul,Nat.mul_comm r q]
  omega
 have h1:(q*q+pM*r)%pM=q*q%pM:=Nat.add_mul_mod_self_left _ _ _
 have h2:(r*r+pM*q)%pM=r*r%pM:=Nat.add_mul_mod_self_left _ _ _
 rw [← h1, ← h2,e]
theorem pM_odd:pM%2=1:=by decide +kernel
theorem sqrt_even (x:Nat):(sqrtS x).1%pM%2=0:=by
 unfold sqrtS
 have hr:=root_lt_p x
 by_cases h1:mulP (rootR x) (rootR x)≠x%pM
 ·rw [if_pos h1]; rw [Nat.zero_mod]
 ·rw [if_neg h1]
  by_cases h2:rootR x%pM%2=1
  ·rw [if_pos h2]
   rw [rootR_red] at h2
   have h0:rootR x≠0:=by omega
   have e:=neg_of _ hr h0
   have hp:=pM_odd
   show negP (rootR x)%pM%2=0
   rw [e,Nat.mod_eq_of_lt (show pM - rootR x<pM by omega)]
   omega
  ·rw [if_neg h2]
   show rootR x%pM%2=0
   omega
theorem sqrt_lt (x:Nat):(sqrtS x).1<(2^256):=by
 unfold sqrtS
 by_cases h1:mulP (rootR x) (rootR x)≠x%pM
 ·rw [if_pos h1]; show 0<_; omega
 ·rw [if_neg h1]
  by_cases h2:rootR x%pM%2=1
  ·rw [if_pos h2]; exact negP_lt _
  ·rw [if_neg h2]; exact rootR_lt _
theorem sqrt_mul (x:Nat) (h:(sqrtS x).2=true):mulP (sqrtS x).1 (sqrtS x).1=x%pM:=by
 unfold sqrtS at h ⊢
 by_cases h1:mulP (rootR x) (rootR x)≠x%pM
 ·rw [if_pos h1] at h; cases h
 ·rw [if_neg h1]
  have h1':mulP (rootR x) (rootR x)=x%pM:=Classical.not_not.1 h1
  by_cases h2:rootR x%pM%2=1
  ·rw [if_pos h2]
   rw [rootR_red] at h2
   show mulP (negP (rootR x)) (negP (rootR x))=_
   rw [neg_sq _ (root_lt_p x) (by omega)]
   exact h1'
  ·rw [if_neg h2]; exact h1'
theorem sqrt_sq (a:Nat):∃ s,sqrtS (mulP a a)=(s,true)∧(s=a%pM∨s=negP a):=by
 obtain ⟨r,hr⟩:∃ r,r=rootR (mulP a a):=⟨_,rfl⟩
 have hs:=root_sq a
 rw [← hr] at hs
 have hl:r<pM:=by rw [hr]; exact root_lt_p _
 have hx:mulP a a%pM=mulP a a:=by unfold mulP; rw [Nat.mod_mod]
 obtain ⟨b,hb⟩:∃ b,b=a%pM:=⟨_,rfl⟩
 have hbl:b<pM:=by rw [hb]; exact mod_lt_p a
 have hng:negP a=negP b:=by unfold negP; rw [hb,Nat.mod_mod]
 have hrr:r=b∨r+b=pM:=by
  refine sq_roots prime_p hl hbl ?_
  have:mulP a a=b*b%pM:=by rw [hb, ← Nat.mul_mod]; rfl
  rw [← this]; exact hs
 have p0:0<pM:=by omega
 have hor:(r=b∧negP r=negP b)∨(r=negP b∧negP r=b):=by
  rcases hrr with h | h
  ·left; exact ⟨h,by rw [h]⟩
  ·by_cases h0:b=0
   ·omega
   ·right
    have e1:=neg_of b hbl h0
    have e2:=neg_of r hl (by omega)
    exact ⟨by omega,by omega⟩
 unfold sqrtS
 rw [← hr,hx,if_neg (by rw [hs]; exact λh=>h rfl),hng, ← hb]
 by_cases h2:r%pM%2=1
 ·rw [if_pos h2]
  refine ⟨_,rfl,?_⟩
  rcases hor with h | h
  ·exact .inr h.2
  ·exact .inl h.2
 ·rw [if_neg h2]
  refine ⟨_,rfl,?_⟩
  rcases hor with h | h
  ·exact .inl h.1
  ·exact .inr h.1
end
end
section
namespace Cu
open Go.RowKit Sy
set_option maxRecDepth 100000
set_option maxHeartbeats 4000000
theorem key_whole (l:List UInt8) {n:Nat} (hl:l.length=n):Value.agg (((l.map bv).toArray.toList.drop 0).take n).toArray=.agg (l.map bv).toArray:=by
 rw [List.drop_zero,List.take_of_length_le (by simp; omega)]
theorem key_size (l:List UInt8) {n:Nat} (hl:l.length=n):0+n≤(l.map bv).toArray.size:=by simp; omega
theorem key_at (l:List UInt8) {n:Nat} (hl:l.length=n) (k:Nat) (hk:k<n):(l.map bv).toArray[k]? = some (bv (l.getD k 0)):=by
 have:k<l.length:=by omega
 simp [List.getD,this]
noncomputable def infU8:TypeInfo:=(Tryz.prog.info? 5).getD default
theorem info_u8:Tryz.prog.info? 5=some infU8:=by kernel_rfl
def cubeN (x:Nat):Nat:=addP (mulP x (mulP x x)) 7
theorem cubeN_val (u:Fp):cubeN u.val=(u*u*u+7).val:=by
 have e:u*(u*u)+7=u*u*u+7:=by grobner
 rw [← e]
 rfl
def liftB (l:List UInt8):Bool:=decide (valB l<pM) && (sqrtS (cubeN (valB l))).2
theorem sqrt_fin (x:Nat):(sqrtS x).1<pM:=by
 unfold sqrtS
 split
 ·exact Nat.pos_of_ne_zero (by decide +kernel)
 ·split
  ·exact mod_lt_p _
  ·show rootR x<pM
   rw [← rootR_red]; exact mod_lt_p _
def liftP (l:List UInt8):Pt:=if h:liftB l=true then some (⟨valB l,by unfold liftB at h; simp at h; exact h.1⟩,⟨(sqrtS (cubeN (valB l))).1,sqrt_fin _⟩) else none
theorem lift_no {l:List UInt8} (h:liftB l=false):liftP l=none:=by unfold liftP; rw [dif_neg (by simp [h])]
theorem lift_yes {l:List UInt8} (h:liftB l=true):∃ u y:Fp,u.val=valB l∧y.val=(sqrtS (cubeN (valB l))).1∧liftP l=some (u,y)∧y*y=u*u*u+7∧y.val%2=0:=by
 refine ⟨_,_,rfl,rfl,by unfold liftP; rw [dif_pos h],?_,?_⟩
 ·have h2:(sqrtS (cubeN (valB l))).2=true:=by unfold liftB at h; simp at h; exact h.2
  have hm:=sqrt_mul _ h2
  refine Fin.ext ?_
  have hv:valB l<pM:=by unfold liftB at h; simp at h; exact h.1
  have e:=cubeN_val ⟨valB l,hv⟩
  show mulP (sqrtS (cubeN (valB l))).1 (sqrtS (cubeN (valB l))).1=_
  rw [hm, ← e]
  exact Nat.mod_eq_of_lt (mod_lt_p _)
 ·have:=sqrt_even (cubeN (valB l))
  rw [Nat.mod_eq_of_lt (sqrt_fin _)] at this
  exact this
theorem read_yes {l:List UInt8} {u:Fp} (h:u.val=valB l):readS l=(u.val,true):=by
 unfold readS
 rw [if_pos (by rw [← h]; exact u.isLt),h]
theorem read_no {l:List UInt8} (h:¬ valB l<pM):readS l=(0,false):=by unfold readS; rw [if_neg h]
theorem lift_in (w:World) (l:List UInt8) (hl:l.length=32) (u:Fp) (hu:u.val=valB l):Calls Tryz.prog 22 #[.agg (l.map bv).toArray] w (Gets w (.tuple #[ptv (liftP l),.bool (liftB l)])):=by
 have cR:∀ w,Calls Tryz.prog 42 #[.agg (l.map bv).toArray] w (Gets w (.tuple #[fv u.val,.bool true])):=λw=>by
  have h:=read_any w l hl
  rw [read_yes hu] at h
  exact h
 refine Sy.enter (args:=[.agg (l.map bv).toArray]) Tryz.func22 rfl kL ?_
 refine sC ?_
 refine sM 31 (l.map bv).toArray (λg0=>?_)
 refine sM 66 (pcs 0 0 false) (λg1=>?_)
 refine sP (.bool false) ?_
 refine sA ?_
 refine sS (.agg (l.map bv).toArray) (Quiet.load 0 g0 0 32 31 31 (l.map bv).toArray _ _ rfl kR kR Tryz.underlying31 rfl kR _ (key_whole l hl) (key_size l hl))<|sS (.tuple #[fv u.val,.bool true]) (qF 42 #[.agg (l.map bv).toArray] (cR))<|sP (.tuple #[fv u.val,.bool true])<|sP (fv u.val)<|sP (.bool true) ?_
 refine sM 64 (fcs 0) (λg2=>?_)
 refine sW 2 g2 64 (fcs 0) (fcs u.val) (wS 0 64 (fcs u.val) rfl)<|sP (.bool true) ?_
 refine sA ?_
 refine sS (fv u.val) (qL 2 g2 0 4 64 64 (fcs u.val) rfl Tryz.underlying64) ?_
 obtain ⟨z1,hz1⟩:∃ z:Fp,z=u*u*u+7:=⟨_,rfl⟩
 refine sS (fv z1.val) (qF 44 #[fv u.val] (by rw [hz1]; exact λw=>square_c w u)) ?_
 obtain ⟨r1,hr1⟩:∃ z:Nat,z=(sqrtS z1.val).1:=⟨_,rfl⟩
 obtain ⟨k1,hk1⟩:∃ z:Bool,z=(sqrtS z1.val).2:=⟨_,rfl⟩
 have lr1:r1<K4:=by rw [hr1]; exact sqrt_lt _
 refine sS (.tuple #[fv r1,.bool k1]) (qF 43 #[fv z1.val] (λw=>by rw [hr1,hk1]; exact sqrt_any w z1.val lK))<|sP (.tuple #[fv r1,.bool k1])<|sP (fv r1)<|sP (.bool k1) ?_
 refine sM 64 (fcs 0) (λg3=>?_)
 refine sW 3 g3 64 (fcs 0) (fcs r1) (wS 0 64 (fcs r1) rfl)<|sP (.bool k1) ?_
 refine sG<|Sy.seq<|sC ?_
 refine sP (.bool true)<|sP (.bool false)<|sP (.bool false)<|sP (.bool k1) ?_
 cases k1
 ·refine sP (.bool true)<|sP (.bool true) ?_
  refine sG<|sT<|sC ?_
  refine sS (pv 0 0 true) (qF 45 #[] (zero_c))<|sW 1 g1 66 (pcs 0 0 false) (pcs 0 0 true) (wS 0 66 (pcs 0 0 true) rfl)<|sP (.bool false) ?_
  refine sG<|Sy.ret<|Sy.then_ret ?_
  rw [show (.tuple #[ptv (liftP l),.bool (liftB l)]:Value)=.tuple #[pv 0 0 true,.bool false] from by
   have hb:liftB l=false:=by unfold liftB; rw [← hu,cubeN_val, ← hz1, ← hk1]; simp
   rw [hb,lift_no hb]; rfl]
  exact Sy.ret2 (v:=pv 0 0 true) (u:=.bool false) rfl (.inl (Res.cell (ty':=66) g1 1 (pcs 0 0 true) _ kR kR Tryz.underlying66 rfl kR kR)) (.inl (show _=_ by kernel_rfl))
 ·refine sP (.bool false)<|sP (.bool false) ?_
  refine sG<|sU<|Sy.skip<|sB ?_
  refine sS (fv u.val) (qL 2 g2 0 4 64 64 (fcs u.val) rfl Tryz.underlying64)<|sS (fv r1) (qL 3 g3 0 4 64 64 (fcs r1) rfl Tryz.underlying64)<|sP (pv u.val r1 false)<|sW 1 g1 66 (pcs 0 0 false) (pcs u.val r1 false) (wS 0 66 (pcs u.val r1 false) rfl)<|sP (.bool true) ?_
  refine sG<|Sy.ret ?_
  rw [show (.tuple #[ptv (liftP l),.bool (liftB l)]:Value)=.tuple #[pv u.val r1 false,.bool true] from by
   have hb:liftB l=true:=by unfold liftB; rw [← hu,cubeN_val, ← hz1, ← hk1]; simp [u.isLt]
   obtain ⟨u2,y2,e1,e2,e3,_,_⟩:=lift_yes hb
   rw [hb,e3]
   unfold ptv
   simp only
   rw [e1,e2, ← hu,cubeN_val, ← hz1, ← hr1]]
  exact Sy.ret2 (v:=pv u.val r1 false) (u:=.bool true) rfl (.inl (Res.cell (ty':=66) g1 1 (pcs u.val r1 false) _ kR kR Tryz.underlying66 rfl kR kR)) (.inl (show _=_ by kernel_rfl))
theorem lift_out (w:World) (l:List UInt8) (hl:l.length=32) (hu:¬ valB l<pM):Calls Tryz.prog 22 #[.agg (l.map bv).toArray] w (Gets w (.tuple #[ptv (liftP l),.bool (liftB l)])):=by
 have cR:∀ w,Calls Tryz.prog 42 #[.agg (l.map bv).toArray] w (Gets w (.tuple #[fv (0:Fp).val,.bool false])):=λw=>by
  have h:=read_any w l hl
  rw [read_no hu] at h
  exact h
 refine Sy.enter (args:=[.agg (l.map bv).toArray]) Tryz.func22 rfl kL ?_
 refine sC ?_
 refine sM 31 (l.map bv).toArray (λg0=>?_)
 refine sM 66 (pcs 0 0 false) (λg1=>?_)
 refine sP (.bool false) ?_
 refine sA ?_
 refine sS (.agg (l.map bv).toArray) (Quiet.load 0 g0 0 32 31 31 (l.map bv).toArray _ _ rfl kR kR Tryz.underlying31 rfl kR _ (key_whole l hl) (key_size l hl))<|sS (.tuple #[fv ((0:Fp).val),.bool false]) (qF 42 #[.agg (l.map bv).toArray] (cR))<|sP (.tuple #[fv ((0:Fp).val),.bool false])<|sP (fv ((0:Fp).val))<|sP (.bool false) ?_
 refine sM 64 (fcs 0) (λg2=>?_)
 refine sW 2 g2 64 (fcs 0) (fcs ((0:Fp).val)) (wS 0 64 (fcs ((0:Fp).val)) rfl)<|sP (.bool false) ?_
 refine sA ?_
 refine sS (fv ((0:Fp).val)) (qL 2 g2 0 4 64 64 (fcs ((0:Fp).val)) rfl Tryz.underlying64) ?_
 obtain ⟨z1,hz1⟩:∃ z:Fp,z=(0:Fp)*(0:Fp)*(0:Fp)+7:=⟨_,rfl⟩
 refine sS (fv z1.val) (qF 44 #[fv ((0:Fp).val)] (by rw [hz1]; exact λw=>square_c w (0:Fp))) ?_
 obtain ⟨r1,hr1⟩:∃ z:Nat,z=(sqrtS z1.val).1:=⟨_,rfl⟩
 obtain ⟨k1,hk1⟩:∃ z:Bool,z=(sqrtS z1.val).2:=⟨_,rfl⟩
 have lr1:r1<K4:=by rw [hr1]; exact sqrt_lt _
 refine sS (.tuple #[fv r1,.bool k1]) (qF 43 #[fv z1.val] (λw=>by rw [hr1,hk1]; exact sqrt_any w z1.val lK))<|sP (.tuple #[fv r1,.bool k1])<|sP (fv r1)<|sP (.bool k1) ?_
 refine sM 64 (fcs 0) (λg3=>?_)
 refine sW 3 g3 64 (fcs 0) (fcs r1) (wS 0 64 (fcs r1) rfl)<|sP (.bool k1) ?_
 refine sG<|Sy.seq<|sC ?_
 refine sP (.bool false)<|sP (.bool true)<|sP (.bool true) ?_
 refine sN<|sN ?_
 refine sP (.bool true) ?_
 refine sG<|sT<|sC ?_
 refine sS (pv 0 0 true) (qF 45 #[] (zero_c))<|sW 1 g1 66 (pcs 0 0 false) (pcs 0 0 true) (wS 0 66 (pcs 0 0 true) rfl)<|sP (.bool false) ?_
 refine sG<|Sy.ret<|Sy.then_ret ?_
 rw [show (.tuple #[ptv (liftP l),.bool (liftB l)]:Value)=.tuple #[pv 0 0 true,.bool false] from by
   have hb:liftB l=false:=by unfold liftB; simp [hu]
   rw [hb,lift_no hb]; rfl]
 exact Sy.ret2 (v:=pv 0 0 true) (u:=.bool false) rfl (.inl (Res.cell (ty':=66) g1 1 (pcs 0 0 true) _ kR kR Tryz.underlying66 rfl kR kR)) (.inl (show _=_ by kernel_rfl))
theorem lift_any (w:World) (l:List UInt8) (hl:l.length=32):Calls Tryz.prog 22 #[.agg (l.map bv).toArray] w (Gets w (.tuple #[ptv (liftP l),.bool (liftB l)])):=by
 by_cases h:valB l<pM
 ·exact lift_in w l hl ⟨valB l,h⟩ rfl
 ·exact lift_out w l hl h
end Cu
end
section
namespace Cu
open Go.RowKit Sy
def encS:Pt→List UInt8
 | none=>List.replicate 33 0
 | some (x,y)=>(if y.val%2=1 then 3 else 2)::bytesS x.val
theorem encS_length:∀ P,(encS P).length=33
 | none=>rfl
 | some (x,y)=>by simp [encS,bytesS_length]
theorem val_neg' (y:Fp) (h:y≠0):(-y).val%2≠y.val%2:=by
 have hs:y + -y=0:=by grobner
 have h1:=Ec.val_of_sum hs h
 have h2:pM%2=1:=by decide +kernel
 omega
theorem lift_x (x y:Fp) (h:y*y=x*x*x+7):liftP (bytesS x.val)=if y.val%2=1 then some (x, -y) else some (x,y):=by
 have hv:valB (bytesS x.val)=x.val:=valB_bytesS _ (lt4 x)
 have hc:cubeN x.val=mulP y.val y.val:=by
  rw [cubeN_val, ← h]
  rfl
 obtain ⟨s,hs,hsn⟩:=sqrt_sq y.val
 have hb:liftB (bytesS x.val)=true:=by
  unfold liftB
  rw [hv,hc,hs]
  simp [x.isLt]
 obtain ⟨u,r,e1,e2,e3,e4,e5⟩:=lift_yes hb
 rw [hv] at e1
 have eu:u=x:=Fin.ext e1
 subst eu
 rw [hv,hc,hs] at e2
 have e2:r.val=s:=e2
 rw [e3]
 have hy:=no_two u y h
 rcases hsn with q | q
 ·have er:r=y:=Fin.ext (by rw [e2,q,Nat.mod_eq_of_lt y.isLt])
  subst er
  rw [if_neg (by omega)]
 ·have er:r = -y:=Fin.ext (by rw [e2,q,val_neg])
  subst er
  have:=val_neg' y hy
  rw [if_pos (by omega)]
theorem list32 (m:List UInt8) (h:m.length=32):∃ a0 a1 a2 a3 a4 a5 a6 a7 a8 a9 a10 a11 a12 a13 a14 a15 a16 a17 a18 a19 a20 a21 a22 a23 a24 a25 a26 a27 a28 a29 a30 a31:UInt8,m=[a0,a1,a2,a3,a4,a5,a6,a7,a8,a9,a10,a11,a12,a13,a14,a15,a16,a17,a18,a19,a20,a21,a22,a23,a24,a25,a26,a27,a28,a29,a30,a31]:=by
 match m,h with
 | [a0,a1,a2,a3,a4,a5,a6,a7,a8,a9,a10,a11,a12,a13,a14,a15,a16,a17,a18,a19,a20,a21,a22,a23,a24,a25,a26,a27,a28,a29,a30,a31],_=>exact ⟨a0,a1,a2,a3,a4,a5,a6,a7,a8,a9,a10,a11,a12,a13,a14,a15,a16,a17,a18,a19,a20,a21,a22,a23,a24,a25,a26,a27,a28,a29,a30,a31,  rfl⟩
theorem eql_u8 (w:World) (F:Slots) (o:Oper) (x y:Operand) (a:UInt8) (k:Nat) (hk:k<256) {yt:TypeId} (ho:o.op=.binOp .eql 5 x y yt) (hx:evF F x=bv a) (hy:evF F y=.int .u8 k):(execOp (evF F) o).run Tryz.prog w=.ok (.value (.bool (decide (a=UInt8.ofNat k)))) w:=by
 have h1:=Tryz.underlying5
 have e:((a.toNat:Int) == (k:Int))=decide (a=UInt8.ofNat k):=by
  rw [Bool.eq_iff_iff]
  simp
  constructor
  ·intro h
   have:a.toNat=k:=by omega
   exact UInt8.toNat_inj.1 (by rw [this,UInt8.toNat_ofNat']; omega)
  ·rintro rfl
   rw [UInt8.toNat_ofNat']
   omega
 unfold execOp
 simp only [ho,hx,hy,bv]
 simp [eqGuard,binOp,Op.intCmp,e]
end Cu
end
section
namespace Cu
open Go.RowKit Sy
set_option maxRecDepth 100000
set_option maxHeartbeats 4000000
theorem enc_none (w:World) (x y:Nat) (i:Bool) (hx:x<K4) (hy:y<K4) (h:dec x y i=none):Calls Tryz.prog 25 #[pv x y i] w (Gets w (.agg ((encS none).map bv).toArray)):=by
 refine Sy.enter (args:=[pv x y i]) Tryz.func25 rfl kL ?_
 refine sC ?_
 refine sM 66 (pcs x y i) (λg0=>?_)
 refine Sy.make kR 71 (Zl 33).toArray ptr kF (λg1=>?_)
 refine sA ?_
 refine Sy.make kR 71 (Zl 33).toArray ptr kF (λg2=>?_)
 refine sA ?_
 refine sS (pv x y i) (qL 0 g0 0 9 66 66 (pcs x y i) rfl Tryz.underlying66)<|sS (pv 0 0 true) (qF 49 #[pv x y i] (λw=>by have hrr:=right_c w x y i lK lK; rw [h] at hrr; exact hrr))<|sW 0 g0 66 (pcs x y i) (pcs 0 0 true) (wS 0 66 (pcs 0 0 true) rfl) ?_
 refine sG<|Sy.seq<|Sy.seq ?_
 refine Sy.regionD (λj=>false) kR ?_
 refine sD 0 rfl (pv 0 0 true) (qL 0 g0 0 9 66 66 (pcs 0 0 true) rfl Tryz.underlying66)<|sD 1 rfl (pv 0 0 true) (qF 45 #[] (zero_c))<|sD 2 rfl (.bool true) (Quiet.pure (λw=>eql_pt w _ _ _ _ 0 0 true 0 0 true rfl rfl rfl (by decide) (by decide) (by decide) (by decide))) ?_
 refine sI ?_
 refine sT<|sC ?_
 refine sS (.agg ((Zl 33):List Value).toArray) (Quiet.load 2 g2 0 33 71 71 (Zl 33).toArray _ _ rfl kR kR Tryz.underlying71 rfl kR _ kR kL) ?_
 refine Sy.write kR 1 g1 71 (Zl 33).toArray (Zl 33).toArray kR (Writes.store 0 71 (Zl 33).toArray _ _ rfl kR kR kR kL kR kR) ?_
 refine sG<|Sy.ret<|Sy.then_ret ?_
 rw [show (.agg ((encS none).map bv).toArray:Value)=.agg ((Zl 33):List Value).toArray from by kernel_rfl]
 exact Sy.ret1 (v:=.agg ((Zl 33):List Value).toArray) rfl (.inl (Res.cell (ty':=71) g1 1 (Zl 33).toArray _ kR kR Tryz.underlying71 rfl kR kR))
theorem enc_some (w:World) (x y:Nat) (i:Bool) (hx:x<K4) (hy:y<K4) (u v:Fp) (h:dec x y i=some (u,v)):Calls Tryz.prog 25 #[pv x y i] w (Gets w (.agg ((encS (some (u,v))).map bv).toArray)):=by
 obtain ⟨a0,a1,a2,a3,a4,a5,a6,a7,a8,a9,a10,a11,a12,a13,a14,a15,a16,a17,a18,a19,a20,a21,a22,a23,a24,a25,a26,a27,a28,a29,a30,a31,hm⟩:=list32 (bytesS u.val) (bytesS_length _)
 have cB:∀ w,Calls Tryz.prog 51 #[fv u.val] w (Gets w (.agg ((bv a0::bv a1::[bv a2,bv a3,bv a4,bv a5,bv a6,bv a7,bv a8,bv a9,bv a10,bv a11,bv a12,bv a13,bv a14,bv a15,bv a16,bv a17,bv a18,bv a19,bv a20,bv a21,bv a22,bv a23,bv a24,bv a25,bv a26,bv a27,bv a28,bv a29,bv a30,bv a31]):List Value).toArray)):=λw=>by
  have hh:=bytes_any w u.val (lt4 u)
  rw [Nat.mod_eq_of_lt u.isLt,hm] at hh
  exact hh
 refine Sy.enter (args:=[pv x y i]) Tryz.func25 rfl kL ?_
 refine sC ?_
 refine sM 66 (pcs x y i) (λg0=>?_)
 refine Sy.make kR 71 (Zl 33).toArray ptr kF (λg1=>?_)
 refine sA ?_
 refine Sy.make kR 71 (Zl 33).toArray ptr kF (λg2=>?_)
 refine sA ?_
 refine sS (pv x y i) (qL 0 g0 0 9 66 66 (pcs x y i) rfl Tryz.underlying66)<|sS (pv u.val v.val false) (qF 49 #[pv x y i] (λw=>by have hrr:=right_c w x y i lK lK; rw [h] at hrr; exact hrr))<|sW 0 g0 66 (pcs x y i) (pcs u.val v.val false) (wS 0 66 (pcs u.val v.val false) rfl) ?_
 refine sG<|Sy.seq<|Sy.seq ?_
 refine Sy.regionD (λj=>false) kR ?_
 refine sD 0 rfl (pv u.val v.val false) (qL 0 g0 0 9 66 66 (pcs u.val v.val false) rfl Tryz.underlying66)<|sD 1 rfl (pv 0 0 true) (qF 45 #[] (zero_c))<|sD 2 rfl (.bool false) (Quiet.pure (λw=>eql_pt_ne w _ _ _ _ _ _ _ _ _ _ rfl rfl rfl lK lK lK lK (by decide))) ?_
 refine sI ?_
 refine sU<|Sy.skip<|sB ?_
 refine sP (.pointer (some ⟨g2,0,none⟩)) ?_
 refine Sy.write kR 2 g2 71 (Zl 33).toArray (.int .u8 2::Zl 32).toArray kR (wO 0 5 (.int .u8 2) rfl) ?_
 refine sG<|Sy.seq<|sC ?_
 refine sP (.pointer (some ⟨g0,4,none⟩))<|sS (fv v.val) (qL 0 g0 4 4 66 64 (pcs u.val v.val false) rfl Tryz.underlying64) ?_
 obtain ⟨b1,hb1⟩:∃ z:Bool,z=decide (v.val%pM%2=1):=⟨_,rfl⟩
 refine sS (.bool b1) (qF 50 #[fv v.val] (λw=>by rw [hb1]; exact odd_any w v.val lK)) ?_
 refine sG ?_
 cases b1
 ·refine sU<|Sy.skip<|sB ?_
  refine sP (.pointer (some ⟨g0,0,none⟩))<|sS (fv u.val) (qL 0 g0 0 4 66 64 (pcs u.val v.val false) rfl Tryz.underlying64)<|sS (.agg ((bv a0::bv a1::[bv a2,bv a3,bv a4,bv a5,bv a6,bv a7,bv a8,bv a9,bv a10,bv a11,bv a12,bv a13,bv a14,bv a15,bv a16,bv a17,bv a18,bv a19,bv a20,bv a21,bv a22,bv a23,bv a24,bv a25,bv a26,bv a27,bv a28,bv a29,bv a30,bv a31]):List Value).toArray) (qF 51 #[fv u.val] (cB)) ?_
  refine Sy.make kR 26 (Zl 32).toArray ptr kF (λg3=>?_)
  refine Sy.write kR 3 g3 26 (Zl 32).toArray (bv a0::bv a1::[bv a2,bv a3,bv a4,bv a5,bv a6,bv a7,bv a8,bv a9,bv a10,bv a11,bv a12,bv a13,bv a14,bv a15,bv a16,bv a17,bv a18,bv a19,bv a20,bv a21,bv a22,bv a23,bv a24,bv a25,bv a26,bv a27,bv a28,bv a29,bv a30,bv a31]).toArray kR (Writes.store 0 26 (bv a0::bv a1::[bv a2,bv a3,bv a4,bv a5,bv a6,bv a7,bv a8,bv a9,bv a10,bv a11,bv a12,bv a13,bv a14,bv a15,bv a16,bv a17,bv a18,bv a19,bv a20,bv a21,bv a22,bv a23,bv a24,bv a25,bv a26,bv a27,bv a28,bv a29,bv a30,bv a31]).toArray _ _ rfl kR kR kR kL kR kR) ?_
  refine sH (λj=>j == 2) ?_
  refine sZ 0 rfl (.slice (some ⟨g2,1,none⟩) 32 32)<|sZ 1 rfl (.slice (some ⟨g3,0,none⟩) 32 32) ?_
  refine Sy.writeVD 2 rfl kR (by rfl) kR 2 g2 71 (.int .u8 2::Zl 32).toArray (.int .u8 2::bv a0::bv a1::[bv a2,bv a3,bv a4,bv a5,bv a6,bv a7,bv a8,bv a9,bv a10,bv a11,bv a12,bv a13,bv a14,bv a15,bv a16,bv a17,bv a18,bv a19,bv a20,bv a21,bv a22,bv a23,bv a24,bv a25,bv a26,bv a27,bv a28,bv a29,bv a30,bv a31]).toArray (.int .i64 32) kR (WritesV.copy _ _ 39 39 _ rfl Tryz.underlying39 kR 2 g2 1 32 32 71 (.int .u8 2::Zl 32).toArray (.int .u8 2::bv a0::bv a1::[bv a2,bv a3,bv a4,bv a5,bv a6,bv a7,bv a8,bv a9,bv a10,bv a11,bv a12,bv a13,bv a14,bv a15,bv a16,bv a17,bv a18,bv a19,bv a20,bv a21,bv a22,bv a23,bv a24,bv a25,bv a26,bv a27,bv a28,bv a29,bv a30,bv a31]).toArray kR kR 3 g3 0 32 32 26 (bv a0::bv a1::[bv a2,bv a3,bv a4,bv a5,bv a6,bv a7,bv a8,bv a9,bv a10,bv a11,bv a12,bv a13,bv a14,bv a15,bv a16,bv a17,bv a18,bv a19,bv a20,bv a21,bv a22,bv a23,bv a24,bv a25,bv a26,bv a27,bv a28,bv a29,bv a30,bv a31]).toArray kR kR (bv a0::bv a1::[bv a2,bv a3,bv a4,bv a5,bv a6,bv a7,bv a8,bv a9,bv a10,bv a11,bv a12,bv a13,bv a14,bv a15,bv a16,bv a17,bv a18,bv a19,bv a20,bv a21,bv a22,bv a23,bv a24,bv a25,bv a26,bv a27,bv a28,bv a29,bv a30,bv a31]) kR kR (all_one _ kR) kL kR) ?_
  refine sE ?_
  refine sB ?_
  refine sS (.agg ((.int .u8 2::bv a0::bv a1::[bv a2,bv a3,bv a4,bv a5,bv a6,bv a7,bv a8,bv a9,bv a10,bv a11,bv a12,bv a13,bv a14,bv a15,bv a16,bv a17,bv a18,bv a19,bv a20,bv a21,bv a22,bv a23,bv a24,bv a25,bv a26,bv a27,bv a28,bv a29,bv a30,bv a31]):List Value).toArray) (Quiet.load 2 g2 0 33 71 71 (.int .u8 2::bv a0::bv a1::[bv a2,bv a3,bv a4,bv a5,bv a6,bv a7,bv a8,bv a9,bv a10,bv a11,bv a12,bv a13,bv a14,bv a15,bv a16,bv a17,bv a18,bv a19,bv a20,bv a21,bv a22,bv a23,bv a24,bv a25,bv a26,bv a27,bv a28,bv a29,bv a30,bv a31]).toArray _ _ rfl kR kR Tryz.underlying71 rfl kR _ kR kL) ?_
  refine Sy.write kR 1 g1 71 (Zl 33).toArray (.int .u8 2::bv a0::bv a1::[bv a2,bv a3,bv a4,bv a5,bv a6,bv a7,bv a8,bv a9,bv a10,bv a11,bv a12,bv a13,bv a14,bv a15,bv a16,bv a17,bv a18,bv a19,bv a20,bv a21,bv a22,bv a23,bv a24,bv a25,bv a26,bv a27,bv a28,bv a29,bv a30,bv a31]).toArray kR (Writes.store 0 71 (.int .u8 2::bv a0::bv a1::[bv a2,bv a3,bv a4,bv a5,bv a6,bv a7,bv a8,bv a9,bv a10,bv a11,bv a12,bv a13,bv a14,bv a15,bv a16,bv a17,bv a18,bv a19,bv a20,bv a21,bv a22,bv a23,bv a24,bv a25,bv a26,bv a27,bv a28,bv a29,bv a30,bv a31]).toArray _ _ rfl kR kR kR kL kR kR) ?_
  refine sG<|Sy.ret ?_
  rw [show (.agg ((encS (some (u,v))).map bv).toArray:Value)=.agg ((.int .u8 2::bv a0::bv a1::[bv a2,bv a3,bv a4,bv a5,bv a6,bv a7,bv a8,bv a9,bv a10,bv a11,bv a12,bv a13,bv a14,bv a15,bv a16,bv a17,bv a18,bv a19,bv a20,bv a21,bv a22,bv a23,bv a24,bv a25,bv a26,bv a27,bv a28,bv a29,bv a30,bv a31]):List Value).toArray from by
   have e:encS (some (u,v))=(if v.val%2=1 then 3 else 2)::bytesS u.val:=rfl
   rw [e,hm,if_neg (by have q:=hb1.symm; rw [Nat.mod_eq_of_lt v.isLt] at q; exact of_decide_eq_false q)]
   rfl]
  exact Sy.ret1 (v:=.agg ((.int .u8 2::bv a0::bv a1::[bv a2,bv a3,bv a4,bv a5,bv a6,bv a7,bv a8,bv a9,bv a10,bv a11,bv a12,bv a13,bv a14,bv a15,bv a16,bv a17,bv a18,bv a19,bv a20,bv a21,bv a22,bv a23,bv a24,bv a25,bv a26,bv a27,bv a28,bv a29,bv a30,bv a31]):List Value).toArray) rfl (.inl (Res.cell (ty':=71) g1 1 (.int .u8 2::bv a0::bv a1::[bv a2,bv a3,bv a4,bv a5,bv a6,bv a7,bv a8,bv a9,bv a10,bv a11,bv a12,bv a13,bv a14,bv a15,bv a16,bv a17,bv a18,bv a19,bv a20,bv a21,bv a22,bv a23,bv a24,bv a25,bv a26,bv a27,bv a28,bv a29,bv a30,bv a31]).toArray _ kR kR Tryz.underlying71 rfl kR kR))
 ·refine sT<|Sy.region ?_
  refine sP (.pointer (some ⟨g2,0,none⟩)) ?_
  refine Sy.write kR 2 g2 71 (.int .u8 2::Zl 32).toArray (.int .u8 3::Zl 32).toArray kR (wO 0 5 (.int .u8 3) rfl) ?_
  refine sA ?_
  refine sP (.pointer (some ⟨g0,0,none⟩))<|sS (fv u.val) (qL 0 g0 0 4 66 64 (pcs u.val v.val false) rfl Tryz.underlying64)<|sS (.agg ((bv a0::bv a1::[bv a2,bv a3,bv a4,bv a5,bv a6,bv a7,bv a8,bv a9,bv a10,bv a11,bv a12,bv a13,bv a14,bv a15,bv a16,bv a17,bv a18,bv a19,bv a20,bv a21,bv a22,bv a23,bv a24,bv a25,bv a26,bv a27,bv a28,bv a29,bv a30,bv a31]):List Value).toArray) (qF 51 #[fv u.val] (cB)) ?_
  refine Sy.make kR 26 (Zl 32).toArray ptr kF (λg4=>?_)
  refine Sy.write kR 3 g4 26 (Zl 32).toArray (bv a0::bv a1::[bv a2,bv a3,bv a4,bv a5,bv a6,bv a7,bv a8,bv a9,bv a10,bv a11,bv a12,bv a13,bv a14,bv a15,bv a16,bv a17,bv a18,bv a19,bv a20,bv a21,bv a22,bv a23,bv a24,bv a25,bv a26,bv a27,bv a28,bv a29,bv a30,bv a31]).toArray kR (Writes.store 0 26 (bv a0::bv a1::[bv a2,bv a3,bv a4,bv a5,bv a6,bv a7,bv a8,bv a9,bv a10,bv a11,bv a12,bv a13,bv a14,bv a15,bv a16,bv a17,bv a18,bv a19,bv a20,bv a21,bv a22,bv a23,bv a24,bv a25,bv a26,bv a27,bv a28,bv a29,bv a30,bv a31]).toArray _ _ rfl kR kR kR kL kR kR) ?_
  refine sH (λj=>j == 2) ?_
  refine sZ 0 rfl (.slice (some ⟨g2,1,none⟩) 32 32)<|sZ 1 rfl (.slice (some ⟨g4,0,none⟩) 32 32) ?_
  refine Sy.writeVD 2 rfl kR (by rfl) kR 2 g2 71 (.int .u8 3::Zl 32).toArray (.int .u8 3::bv a0::bv a1::[bv a2,bv a3,bv a4,bv a5,bv a6,bv a7,bv a8,bv a9,bv a10,bv a11,bv a12,bv a13,bv a14,bv a15,bv a16,bv a17,bv a18,bv a19,bv a20,bv a21,bv a22,bv a23,bv a24,bv a25,bv a26,bv a27,bv a28,bv a29,bv a30,bv a31]).toArray (.int .i64 32) kR (WritesV.copy _ _ 39 39 _ rfl Tryz.underlying39 kR 2 g2 1 32 32 71 (.int .u8 3::Zl 32).toArray (.int .u8 3::bv a0::bv a1::[bv a2,bv a3,bv a4,bv a5,bv a6,bv a7,bv a8,bv a9,bv a10,bv a11,bv a12,bv a13,bv a14,bv a15,bv a16,bv a17,bv a18,bv a19,bv a20,bv a21,bv a22,bv a23,bv a24,bv a25,bv a26,bv a27,bv a28,bv a29,bv a30,bv a31]).toArray kR kR 3 g4 0 32 32 26 (bv a0::bv a1::[bv a2,bv a3,bv a4,bv a5,bv a6,bv a7,bv a8,bv a9,bv a10,bv a11,bv a12,bv a13,bv a14,bv a15,bv a16,bv a17,bv a18,bv a19,bv a20,bv a21,bv a22,bv a23,bv a24,bv a25,bv a26,bv a27,bv a28,bv a29,bv a30,bv a31]).toArray kR kR (bv a0::bv a1::[bv a2,bv a3,bv a4,bv a5,bv a6,bv a7,bv a8,bv a9,bv a10,bv a11,bv a12,bv a13,bv a14,bv a15,bv a16,bv a17,bv a18,bv a19,bv a20,bv a21,bv a22,bv a23,bv a24,bv a25,bv a26,bv a27,bv a28,bv a29,bv a30,bv a31]) kR kR (all_one _ kR) kL kR) ?_
  refine sE ?_
  refine sB ?_
  refine sS (.agg ((.int .u8 3::bv a0::bv a1::[bv a2,bv a3,bv a4,bv a5,bv a6,bv a7,bv a8,bv a9,bv a10,bv a11,bv a12,bv a13,bv a14,bv a15,bv a16,bv a17,bv a18,bv a19,bv a20,bv a21,bv a22,bv a23,bv a24,bv a25,bv a26,bv a27,bv a28,bv a29,bv a30,bv a31]):List Value).toArray) (Quiet.load 2 g2 0 33 71 71 (.int .u8 3::bv a0::bv a1::[bv a2,bv a3,bv a4,bv a5,bv a6,bv a7,bv a8,bv a9,bv a10,bv a11,bv a12,bv a13,bv a14,bv a15,bv a16,bv a17,bv a18,bv a19,bv a20,bv a21,bv a22,bv a23,bv a24,bv a25,bv a26,bv a27,bv a28,bv a29,bv a30,bv a31]).toArray _ _ rfl kR kR Tryz.underlying71 rfl kR _ kR kL) ?_
  refine Sy.write kR 1 g1 71 (Zl 33).toArray (.int .u8 3::bv a0::bv a1::[bv a2,bv a3,bv a4,bv a5,bv a6,bv a7,bv a8,bv a9,bv a10,bv a11,bv a12,bv a13,bv a14,bv a15,bv a16,bv a17,bv a18,bv a19,bv a20,bv a21,bv a22,bv a23,bv a24,bv a25,bv a26,bv a27,bv a28,bv a29,bv a30,bv a31]).toArray kR (Writes.store 0 71 (.int .u8 3::bv a0::bv a1::[bv a2,bv a3,bv a4,bv a5,bv a6,bv a7,bv a8,bv a9,bv a10,bv a11,bv a12,bv a13,bv a14,bv a15,bv a16,bv a17,bv a18,bv a19,bv a20,bv a21,bv a22,bv a23,bv a24,bv a25,bv a26,bv a27,bv a28,bv a29,bv a30,bv a31]).toArray _ _ rfl kR kR kR kL kR kR) ?_
  refine sG<|Sy.ret ?_
  rw [show (.agg ((encS (some (u,v))).map bv).toArray:Value)=.agg ((.int .u8 3::bv a0::bv a1::[bv a2,bv a3,bv a4,bv a5,bv a6,bv a7,bv a8,bv a9,bv a10,bv a11,bv a12,bv a13,bv a14,bv a15,bv a16,bv a17,bv a18,bv a19,bv a20,bv a21,bv a22,bv a23,bv a24,bv a25,bv a26,bv a27,bv a28,bv a29,bv a30,bv a31]):List Value).toArray from by
   have e:encS (some (u,v))=(if v.val%2=1 then 3 else 2)::bytesS u.val:=rfl
   rw [e,hm,if_pos (by have q:=hb1.symm; rw [Nat.mod_eq_of_lt v.isLt] at q; exact of_decide_eq_true q)]
   rfl]
  exact Sy.ret1 (v:=.agg ((.int .u8 3::bv a0::bv a1::[bv a2,bv a3,bv a4,bv a5,bv a6,bv a7,bv a8,bv a9,bv a10,bv a11,bv a12,bv a13,bv a14,bv a15,bv a16,bv a17,bv a18,bv a19,bv a20,bv a21,bv a22,bv a23,bv a24,bv a25,bv a26,bv a27,bv a28,bv a29,bv a30,bv a31]):List Value).toArray) rfl (.inl (Res.cell (ty':=71) g1 1 (.int .u8 3::bv a0::bv a1::[bv a2,bv a3,bv a4,bv a5,bv a6,bv a7,bv a8,bv a9,bv a10,bv a11,bv a12,bv a13,bv a14,bv a15,bv a16,bv a17,bv a18,bv a19,bv a20,bv a21,bv a22,bv a23,bv a24,bv a25,bv a26,bv a27,bv a28,bv a29,bv a30,bv a31]).toArray _ kR kR Tryz.underlying71 rfl kR kR))
theorem enc_any (w:World) (x y:Nat) (i:Bool) (hx:x<K4) (hy:y<K4):Calls Tryz.prog 25 #[pv x y i] w (Gets w (.agg ((encS (dec x y i)).map bv).toArray)):=by
 rcases h:dec x y i with _ | ⟨u,v⟩
 ·exact enc_none w x y i hx hy h
 ·exact enc_some w x y i hx hy u v h
end Cu
end
section
namespace Cu
open Go.RowKit Sy
set_option maxRecDepth 100000
set_option maxHeartbeats 4000000
end Cu
end
section
namespace Cu
open Go.RowKit Sy
theorem setAll_all:∀ (vs:List Value) (o:Nat) (cs:Array Value),o+vs.length=cs.size→setAll cs o vs=(cs.toList.take o++vs).toArray
 | [],o,cs,h=>by
  rw [List.append_nil,List.take_of_length_le (by simp at h ⊢; omega)]
  simp [setAll]
 | v::r,o,cs,h=>by
  have hlt:o<cs.size:=by simp at h; omega
  rw [setAll,setAll_all r (o+1) _ (by simp at h ⊢; omega)]
  congr 1
  rw [Array.toList_setIfInBounds,List.take_set,List.take_succ_eq_append_getElem (by simpa using hlt),List.set_append_right _ _ (by rw [List.length_take]; exact Nat.min_le_left _ _)]
  have:(cs.toList.take o).length=o:=by simp; omega
  simp [this]
theorem key_set (cs:Array Value) (l:List UInt8) (h:l.length=cs.size):setAll cs 0 (l.map bv).toArray.toList=(l.map bv).toArray:=by
 have:=setAll_all (l.map bv) 0 cs (by simp; omega)
 simpa using this
theorem key_sz (l:List UInt8) {n:Nat} (h:l.length=n):(l.map bv).toArray.size=n:=by simp; omega
theorem key_one (l:List UInt8):(l.map bv).toArray.all (·.oneCell')=true:=by simp [bv,Value.oneCell']
end Cu
end
section
namespace Sy
open Go.RowKit
def Lst (w:World) (s:Nat) (A:Option Addr) (n:Nat) (el:Nat→List Value):Prop:=∃ g o,0<n→A=some ⟨g,o,none⟩∧g<w.heap.size∧∀ j,j<n→w.rangeAt g (o+j*s) (el j)
section
variable {P:Program} {w0:Base} {n:Nat} {F:Slots} {L:Blocks} {o:Oper}
theorem Writes.row {g:Nat} {t:TypeId} {cs:Array Value} (ty:TypeId) (c:List Value) (m:Nat) (x y:Operand) (ho:o.op=.store ty x y) (hx:evF F x=.pointer (some ⟨g,0,none⟩)) (hy:evF F y=.agg c.toArray) (hi:(P.info? ty).map (·.size)=some m) (hc:c.length=m) (hs:cs.size=m) (h1:∀ u∈c,u.oneCell'=true):Writes P F o g t cs c.toArray :=
 Writes.store 0 ty c.toArray x y ho hx hy (by rw [hi,List.size_toArray,hc]) (by rw [List.size_toArray,hc,hs,Nat.zero_add]; exact Nat.le_refl _) (by rw [List.all_toArray,List.all_eq_true]; exact h1) (by
  have:=Cu.setAll_all c 0 cs (by omega)
  simpa using this)
end
end Sy
end
section
namespace Sy
open Go.RowKit
structure Slc where
 v:Value
 bl:Blocks
structure Slc.Is (r:Slc) (e:TypeId) (sz:Nat) (xs:List (List Value)):Prop where
 len:∀ x∈xs,x.length=sz
 one:∀ x∈xs, ∀ u∈x,u.oneCell'=true
 row:(xs=[]∧r=⟨.slice none 0 0,[]⟩)∨∃ g cap sp,r=⟨.slice (some ⟨g,0,none⟩) xs.length cap,[(g,e,(xs.flatten++sp).toArray)]⟩∧sp.length+xs.length*sz=cap*sz∧xs.length≤cap∧cap≤maxLen
theorem Slc.Is.nil (e:TypeId) (sz:Nat):Slc.Is ⟨.slice none 0 0,[]⟩ e sz []:=⟨λ_ h=>(by cases h),λ_ h=>(by cases h),.inl ⟨rfl,rfl⟩⟩
theorem flat_len' {sz:Nat}:∀ {xs:List (List Value)},(∀ x∈xs,x.length=sz)→xs.flatten.length=xs.length*sz
 | [],_=>by simp
 | x::xs,h=>by
  rw [List.flatten_cons,List.length_append,h x (List.mem_cons_self ..),flat_len' λy hy=>h y (List.mem_cons_of_mem _ hy),List.length_cons,Nat.add_mul,Nat.one_mul,Nat.add_comm]
theorem flat_at' {sz:Nat}:∀ {xs:List (List Value)} (sp:List Value),(∀ x∈xs,x.length=sz)→∀ (j:Nat) (x:List Value),xs[j]? = some x→((xs.flatten++sp).drop (j*sz)).take sz=x
 | [],_,_,_,_,h=>by simp at h
 | y::xs,sp,h,0,x,hx=>by
  have hy:=h y (List.mem_cons_self ..)
  simp only [List.getElem?_cons_zero,Option.some.injEq] at hx
  subst hx
  rw [Nat.zero_mul,List.drop_zero,List.flatten_cons,List.append_assoc,List.take_append_of_le_length (by omega),List.take_of_length_le (by omega)]
 | y::xs,sp,h,j+1,x,hx=>by
  have hy:=h y (List.mem_cons_self ..)
  rw [List.getElem?_cons_succ] at hx
  have ih:=flat_at' sp (λz hz=>h z (List.mem_cons_of_mem _ hz)) j x hx
  rw [List.flatten_cons,List.append_assoc,List.drop_append,hy,List.drop_of_length_le (by rw [hy,Nat.add_mul,Nat.one_mul]; omega),List.nil_append,Nat.add_mul,Nat.one_mul,Nat.add_sub_cancel]
  exact ih
theorem Slc.Is.out {r:Slc} {e:TypeId} {sz:Nat} {xs:List (List Value)} (h:r.Is e sz xs):∃ A c,r.v=.slice A xs.length c∧xs.length≤c∧c≤maxLen∧∀ {w0:Base} {w:World} {L:Blocks},St w0 w L→(∀ b∈r.bl,b∈L)→Lst w sz A xs.length (λi=>xs.getD i []):=by
 rcases h.row with ⟨rfl,rfl⟩ | ⟨g,cap,sp,rfl,h1,h2,h3⟩
 ·exact ⟨none,0,rfl,Nat.le_refl _,Nat.zero_le _,λ_ _=>⟨0,0,λhn=>absurd hn (Nat.lt_irrefl _)⟩⟩
 ·refine ⟨some ⟨g,0,none⟩,cap,rfl,h2,h3,λ{w0 w L} hw hb=>⟨g,0,λhn=>?_⟩⟩
  have hbk:=(hw.blk g e _ (hb _ (List.mem_singleton.2 rfl))).2
  refine ⟨rfl,hbk.lt,λj hj i v hi=>?_⟩
  have hx:xs[j]? = some (xs.getD j []):=by rw [List.getD_eq_getElem?_getD,List.getElem?_eq_getElem hj]; rfl
  have hl:=h.len _ (List.mem_of_getElem? hx)
  have hi':i<sz:=by rw [← hl]; exact (List.getElem?_eq_some_iff.1 hi).1
  refine (hbk.cell _).trans ?_
  have q:=flat_at' sp h.len j _ hx
  have hi:(xs.getD j [])[i]? = some v:=hi
  rw [← q,List.getElem?_take_of_lt hi',List.getElem?_drop] at hi
  rw [Nat.zero_add,List.getElem?_toArray]
  exact hi
section
variable {P:Program} {w0:Base} {n:Nat} {Q:Exit→Act→World→Prop} {F:Slots} {pre T:Blocks} {ops:Array Oper} {o:Oper} {l:List Oper}
theorem Quiet.lenR {L:Blocks} {r:Slc} {e t:TypeId} {sz m:Nat} {xs:List (List Value)} (hr:r.Is e sz xs) (hm:xs.length=m) (x:Operand) {e':TypeId} (ht:P.underlying t=some (.slice e')) (ho:o.op=.call { callee:=.builtin .len,args:=#[x],argTypes:=#[t] }) (hx:evF F x=r.v):Quiet P w0 F L o (.int .i64 (m:Int)):=Quiet.pure λw=>by
 subst hm
 rcases hr.row with ⟨rfl,rfl⟩ | ⟨g,cap,sp,rfl,_⟩ <;>
 ·unfold execOp
  simp only [ho,resolve,invoke,builtin,Sem.run_bind,Sem.run_pure,Result.andThen_ok,List.map_toArray,List.map_cons,List.map_nil,hx]
  simp [Builtin.len_,run_underlying ht,goInt,Result.andThen]
theorem appendR (hg:good ops n F o=true) (ts e:TypeId) (inf:TypeInfo) (z:Value) (sz by_:Nat) (ht:P.underlying ts=some (.slice e)) (hinf:P.info? e=some inf) (hz:inf.zero=some z) (hs1:inf.size=sz) (hb1:inf.bytes=by_) (hzs:z.cells.size=sz) (h0:0<sz)
  (s x:Operand) (ho:o.op=.call { callee:=.builtin .append,args:=#[s,x],argTypes:=#[ts,ts] })
  {r:Slc} {xs:List (List Value)} (hr:r.Is e sz xs) (hs:evF F s=r.v) (y:List Value) (hy:y.length=sz) (hy1:∀ u∈y,u.oneCell'=true)
  (j gx:Nat) (tx:TypeId) (hx:evF F x=.slice (some ⟨gx,0,none⟩) 1 1) (hLx:(pre++(r.bl++T))[j]? = some (gx,tx,y.toArray)) (hsmall:(xs.length+1)*by_≤140737488355328) (h63:xs.length+1≤maxLen)
  (h:∀ r':Slc,r'.Is e sz (xs++[y])→wpS P w0 n ops Q (putF F o.dst r'.v) (pre++(r'.bl++T)) l):wpS P w0 n ops Q F (pre++(r.bl++T)) (o::l):=by
 have hfrom:From w0 (pre++(r.bl++T)) (some ⟨gx,0,none⟩) y:=From.blk hLx (by simp)
 have hlen:∀ u∈xs++[y],u.length=sz:=λu hu=>by
  rcases List.mem_append.1 hu with hu | hu
  ·exact hr.len u hu
  ·rw [List.mem_singleton.1 hu]; exact hy
 have hone:∀ u∈xs++[y], ∀ v∈u,v.oneCell'=true:=λu hu=>by
  rcases List.mem_append.1 hu with hu | hu
  ·exact hr.one u hu
  ·rw [List.mem_singleton.1 hu]; exact hy1
 rcases hr.row with ⟨rfl,rfl⟩ | ⟨g,cap,sp,rfl,q1,q2,q3⟩
 ·refine appendGNil hg ts e inf z sz by_ ht hinf hz hs1 hb1 hzs h0 s x ho hs (some ⟨gx,0,none⟩) 1 1 y hx hfrom (by omega) (by decide) hy1 (by simpa using hsmall) (by simpa using h63) (λg' cap' sp' h1 h2 h3=>?_)
  have hq:=h ⟨.slice (some ⟨g',0,none⟩) 1 cap',[(g',e,(y++sp').toArray)]⟩ ⟨hlen,hone,.inr ⟨g',cap',sp',by simp,by simpa using h1,by simpa using h2,h3⟩⟩
  exact permS (by
   rw [List.nil_append,List.append_assoc]
   exact (List.perm_append_comm (l₁:=T) (l₂:=[(g',e,(y++sp').toArray)])).append_left pre) hq
 ·have hi:(pre++([(g,e,(xs.flatten++sp).toArray)]++T))[pre.length]? = some (g,e,(xs.flatten++sp).toArray):=by
   rw [List.getElem?_append_right (Nat.le_refl _),Nat.sub_self]
   rfl
  refine appendG hg ts e inf z sz by_ ht hinf hz hs1 hb1 hzs h0 s x ho pre.length g xs.length cap xs.flatten sp hs hi (flat_len' hr.len) q1 q3 (some ⟨gx,0,none⟩) 1 1 y hx hfrom (by omega) (Nat.le_refl _) hy1 hsmall h63 (λg' cap' sp' h1 h2 h3=>?_)
  have hq:=h ⟨.slice (some ⟨g',0,none⟩) (xs.length+1) cap',[(g',e,(xs.flatten++y++sp').toArray)]⟩ ⟨hlen,hone,.inr ⟨g',cap',sp',by simp,by simpa using h1,by simpa using h2,h3⟩⟩
  have he:(pre++([(g,e,(xs.flatten++sp).toArray)]++T)).set pre.length (g',e,(xs.flatten++y++sp').toArray)=pre++([(g',e,(xs.flatten++y++sp').toArray)]++T):=by
   rw [List.set_append_right _ _ (Nat.le_refl _),Nat.sub_self]
   rfl
  rw [he]
  exact hq
theorem movT {b:Nat×TypeId×Array Value} (h:wpS P w0 n ops Q F ((pre++[b])++T) l):wpS P w0 n ops Q F ((pre++T)++[b]) l :=
 permS (by
  rw [List.append_assoc,List.append_assoc]
  exact (List.perm_append_comm (l₁:=T) (l₂:=[b])).append_left pre) h
theorem setT {i:Nat} {b:Nat×TypeId×Array Value} (h:wpS P w0 n ops Q F ((pre.set i b)++T) l) (hi:Nat.ble (i+1) pre.length=true:=by kernel_rfl):wpS P w0 n ops Q F ((pre++T).set i b) l:=by
 rw [List.set_append_left _ _ (Nat.le_of_ble_eq_true hi)]
 exact h
theorem loopT {L:Blocks} {Y:Type} {c:Code} (N:Nat) (FF:Nat→Y→Slots) (LL:Nat→Y→Blocks) (H:Nat→Y→Prop) (x0:Y) (h0:H 0 x0) (hF:∀ p∈FF 0 x0,F.lookup p.1=some p.2) (hL:∀ w,St w0 w L→St w0 w (LL 0 x0))
  (hr:∀ k x,k≤N→H k x→wpC P w0 n (Exit.then (NextX w0 n N FF LL H k) Q) (FF k x) (LL k x) c):wpC P w0 n Q F L (.loop c) :=
 loopI N (λk a w=>∃ x,H k x∧Fr w0.ds a n (FF k x)∧St w0 w (LL k x)) (λ_ w ha hw=>⟨x0,h0,ha.all hF,hL w hw⟩)
  λk hk a w ⟨x,hx,ha,hw⟩=>hr k x hk hx a w ha hw
theorem againT {L:Blocks} {Y:Type} {N:Nat} {FF:Nat→Y→Slots} {LL:Nat→Y→Blocks} {H:Nat→Y→Prop} {k:Nat} {R:Exit→Act→World→Prop} (y:Y) (hk:k<N) (hy:H (k+1) y) (hF:∀ p∈FF (k+1) y,F.lookup p.1=some p.2) (hL:∀ w,St w0 w L→St w0 w (LL (k+1) y)) :
  X w0 n (Exit.then (NextX w0 n N FF LL H k) R) F L .normal:=λ_ w ha hw=>⟨hk,y,hy,ha.all hF,hL w hw⟩
theorem Slc.Is.cells {r:Slc} {e:TypeId} {sz:Nat} {xs:List (List Value)} (h:r.Is e sz xs):r.v.cells=#[r.v]∧r.v.oneCell'=true:=by
 rcases h.row with ⟨rfl,rfl⟩ | ⟨g,cap,sp,rfl,_⟩ <;> exact ⟨rfl,rfl⟩
end
theorem fold_all:∀ (c:List Value) (off k:Nat) (cs:Array Value),(c.zipIdx k).foldl (λcs x=>cs.setIfInBounds (off+x.2) x.1) cs=setAll cs (off+k) c
 | [],_,_,_=>rfl
 | v::c,off,k,cs=>by
  rw [List.zipIdx_cons,List.foldl_cons,fold_all c off (k+1)]
  rfl
theorem fill_one {place:Nat→Option (Nat×Nat)} {cs:Array Value} {c:List Value} {n:Nat} (hp:place 0=some (0,n)) (hc:c.length=n) (hs:cs.size=n):Instr.fill place cs [(0,.agg c.toArray)]=some c.toArray:=by
 unfold Instr.fill
 rw [hp]
 simp only [Value.cells,List.size_toArray,hc,hs,Nat.zero_add,ne_eq,not_true_eq_false,decide_false,Bool.false_or]
 rw [if_neg (by simp)]
 unfold Instr.fill
 have h1:c.toArray.zipIdx.foldl (λcs (x:Value×Nat)=>cs.setIfInBounds (0+x.2) x.1) cs=setAll cs (0+0) c:=by
  rw [← fold_all c 0 0 cs, ← Array.foldl_toList,Array.toList_zipIdx]
 have h2:=Cu.setAll_all c 0 cs (by omega)
 simp only [Nat.zero_add] at h1
 rw [h1,h2]
 simp
section
variable {P:Program} {w0:Base} {F:Slots} {L:Blocks} {o:Oper}
theorem Makes.one (t e:TypeId) (ie:TypeInfo) (z:Value) (s:Nat) (x:Operand) (c:List Value) (ho:o.op=.buildSlice t 1 #[(0,x)]) (hx:evF F x=.agg c.toArray) (ht:P.underlying t=some (.slice e)) (hi:P.info? e=some ie) (hz:ie.zero=some z) (hs:ie.size=s) (hc:c.length=s) (h0:0<s) (hb:s≤16777216) :
  Makes P F o e c.toArray (λg=>.slice (some ⟨g,0,none⟩) 1 1):=λw=>by
 subst hs
 have hr:=run_buildSlice (P:=P) w t e 1 #[(0,.agg c.toArray)] c.toArray ie z ht hi hz (by omega) (by omega) (fill_one (by simp) hc (by simp))
 unfold execOp
 simp only [ho,Sem.run_bind,List.map_toArray,List.map_cons,List.map_nil,hx,hr,Result.andThen_ok,Sem.run_pure]
theorem tidyS {n:Nat} {Q:Exit→Act→World→Prop} {ops:Array Oper} {l:List Oper} {G:Slots} {M:Blocks} (hF:∀ p∈G,F.lookup p.1=some p.2) (hL:∀ w,St w0 w L→St w0 w M) (h:wpS P w0 n ops Q G M l):wpS P w0 n ops Q F L l:=λa w ha hw=>h a w (ha.all hF) (hL w hw)
theorem exec_upto (t:TypeId) (x hx':Operand) (g f len cap hi s:Nat) (kh:IntKind) (ho:o.op=.slice t x none (some hx') none) (hx:evF F x=.slice (some ⟨g,f,none⟩) len cap) (hh:evF F hx'=.int kh (hi:Int)) (ht:P.underlying t=some (.slice (P.elem t))) (hsz:∀ w,(sizeOf (P.elem t)).run P w=.ok s w) (h1:hi≤cap) (w:World) :
  (execOp (evF F) o).run P w=.ok (.value (.slice (some ⟨g,f,none⟩) hi cap)) w:=by
 have e:(Instr.sliceAt t (.slice (some ⟨g,f,none⟩) len cap) none (some (.int kh (hi:Int))) none).run P w=.ok (.slice (some ⟨g,f,none⟩) hi cap) w:=by
  rw [run_sliceAt_slice w t _ _ _ _ ht]
  simp [Instr.slice,run_underlying ht,Instr.sliceBounds,Instr.sliceBound,asIntOf,h1,hsz,Result.andThen,Addr.add]
 unfold execOp
 simp only [ho,hx,hh,Option.map_some,Option.map_none,e,Sem.run_bind,Sem.run_pure,Result.andThen_ok]
end
theorem Slc.Is.mk' {g nn cap:Nat} {e:TypeId} {sz:Nat} {xs:List (List Value)} {cs:List Value} (hl:∀ x∈xs,x.length=sz) (h1:∀ x∈xs, ∀ u∈x,u.oneCell'=true) (hn:xs.length=nn) (hc:cs.take (nn*sz)=xs.flatten) (hs:cs.length=cap*sz) (hle:nn≤cap) (hm:cap≤maxLen):Slc.Is ⟨.slice (some ⟨g,0,none⟩) nn cap,[(g,e,cs.toArray)]⟩ e sz xs:=by
 subst hn
 refine ⟨hl,h1,.inr ⟨g,cap,cs.drop (xs.length*sz),?_,?_,hle,hm⟩⟩
 ·rw [← hc,List.take_append_drop]
 ·have:=Nat.mul_le_mul_right sz hle
  rw [List.length_drop]
  omega
end Sy
end
section
namespace Sy
open Go.RowKit
section
variable {P:Program} {w0:Base} {n:Nat} {Q:Exit→Act→World→Prop} {F:Slots} {L M:Blocks} {ops:Array Oper} {ex:Nat→Bool} {fuel:Nat} {listed:Array Bool} {pre T:Blocks}
theorem permD (p:L.Perm M) (h:wpD P w0 n ops Q ex F M fuel listed):wpD P w0 n ops Q ex F L fuel listed:=λa w ha hw=>h a w ha (hw.perm p)
theorem mov_perm {b:Nat×TypeId×Array Value}:((pre++T)++[b]).Perm ((pre++[b])++T):=by
 rw [List.append_assoc,List.append_assoc]
 exact (List.perm_append_comm (l₁:=T) (l₂:=[b])).append_left pre
theorem movTD {b:Nat×TypeId×Array Value} (h:wpD P w0 n ops Q ex F ((pre++[b])++T) fuel listed):wpD P w0 n ops Q ex F ((pre++T)++[b]) fuel listed:=permD mov_perm h
theorem setTD {i:Nat} {b:Nat×TypeId×Array Value} (h:wpD P w0 n ops Q ex F ((pre.set i b)++T) fuel listed) (hi:Nat.ble (i+1) pre.length=true:=by kernel_rfl):wpD P w0 n ops Q ex F ((pre++T).set i b) fuel listed:=by
 rw [List.set_append_left _ _ (Nat.le_of_ble_eq_true hi)]
 exact h
def onlyQ (Q:Exit→Act→World→Prop) (K:Act→World→Prop):Exit→Act→World→Prop
 | .normal=>K
 | .panic c=>Q (.panic c)
 | _=>λ_ _=>False
theorem wp_only {o:Oper} {a:Act} {w:World} {K' K:Act→World→Prop} (h:o.wp P a w K (onlyQ Q K')):o.wp P a w K Q:=by
 unfold Oper.wp at *
 generalize (execOp a.eval o).run P w=r at *
 cases r with
 | ok x w' =>
  cases x <;> simp only [Oper.upon] at h ⊢ <;>
   first
    | exact h
    | exact Calls.mono h (λe w'' he=>by cases e <;> first | exact he | (obtain ⟨_,_,q⟩:=he; exact q.elim))
 | halt x w'=>cases x <;> simp only [Oper.upon] at h ⊢ <;> exact h
theorem soleD (k:Nat) {oi:Oper} (hi0:ops.toList[k]? = some oi) (h:∀ Q',(∀ F' L',wpD P w0 n ops Q ex F' L' fuel (listed.setIfInBounds k true)→wpS P w0 n ops Q' F' L' [])→wpS P w0 n ops Q' F L [oi])
  (hg:wantedF ops F oi=some true:=by kernel_rfl) (hr:Region.ready .any ops listed=[k]:=by kernel_rfl) (hex:ex k=true:=by rfl):wpD P w0 n ops Q ex F L (fuel+1) listed:=λa w ha hw =>
 wpAnyG_sole k hi0 hr (ha.wanted hg) λw1 h1 K hK=>by
  have q:=h (onlyQ Q K) (λF' L' hd a' w' ha' hw'=>wpList_nil (hK _ _ (λe=>by rw [hex] at e; cases e) (hd a' w' ha' hw'))) a w1 ha (hw.gr h1)
  unfold wpList at q
  rw [if_pos (ha.wanted hg)] at q
  rcases q with q | ⟨_,a',w',q⟩
  ·exact wp_only (K':=K) q
  ·exact q.elim
end
def nilS:Slc:=⟨.slice none 0 0,[]⟩
section
variable {r:Nat→Slc} {n i:Nat} {x:Slc}
end
section
variable {w0:Base} {w:World} {pre a T M N:Blocks}
end
section
variable {P:Program} {w0:Base} {F:Slots} {L:Blocks} {o:Oper}
end
end Sy
end
section
namespace Sy
open Go.RowKit
section
variable {P:Program} {w0:Base} {n:Nat} {Q:Exit→Act→World→Prop} {F:Slots} {L pre T:Blocks} {ops:Array Oper} {o:Oper} {l:List Oper}
theorem appendM (hg:good ops n F o=true) (ts e:TypeId) (inf:TypeInfo) (z:Value) (sz by_:Nat) (ht:P.underlying ts=some (.slice e)) (hinf:P.info? e=some inf) (hz:inf.zero=some z) (hs1:inf.size=sz) (hb1:inf.bytes=by_) (hzs:z.cells.size=sz) (h0:0<sz)
  (s x:Operand) (ho:o.op=.call { callee:=.builtin .append,args:=#[s,x],argTypes:=#[ts,ts] })
  {r:Slc} {xs ys:List (List Value)} (hr:r.Is e sz xs) (hs:evF F s=r.v) (hy:∀ y∈ys,y.length=sz) (hy1:∀ y∈ys, ∀ u∈y,u.oneCell'=true)
  (A:Option Addr) (m c:Nat) (hm:ys.length=m) (hmc:m≤c) (hx:evF F x=.slice A m c) (hf:∀ r:Slc,From w0 (pre++(r.bl++T)) A ys.flatten) (hsmall:(xs.length+m)*by_≤140737488355328) (h63:xs.length+m≤maxLen)
  (h:∀ r':Slc,r'.Is e sz (xs++ys)→wpS P w0 n ops Q (putF F o.dst r'.v) (pre++(r'.bl++T)) l):wpS P w0 n ops Q F (pre++(r.bl++T)) (o::l):=by
 have hlen:∀ u∈xs++ys,u.length=sz:=λu hu=>(List.mem_append.1 hu).elim (hr.len u) (hy u)
 have hone:∀ u∈xs++ys, ∀ v∈u,v.oneCell'=true:=λu hu=>(List.mem_append.1 hu).elim (hr.one u) (hy1 u)
 have hyl:ys.flatten.length=m*sz:=by rw [flat_len' hy,hm]
 have hyo:∀ u∈ys.flatten,u.oneCell'=true:=λu hu=>by
  obtain ⟨y,h1,h2⟩:=List.mem_flatten.1 hu
  exact hy1 y h1 u h2
 rcases hr.row with ⟨rfl,rfl⟩ | ⟨g,cap,sp,rfl,q1,q2,q3⟩
 ·rcases Nat.eq_zero_or_pos m with rfl | hm0
  ·obtain rfl:ys=[]:=List.eq_nil_of_length_eq_zero hm
   intro a w ha hw
   obtain ⟨k1,_,k3,_⟩:=good_spec hg
   refine wpList_step λK hK=>?_
   rw [if_pos (ha.wanted k1)]
   have hfc:(Builtin.firstCells inf.size 0 (.slice A 0 c)).run P w=.ok #[] w:=by
    cases A with
    | none=>simp [Builtin.firstCells,Sem.run_pure]
    | some a=>simpa using run_firstCells_some (P:=P) w inf.size 0 a 0 c [] (by simp) (λj u hj=>by cases hj)
   have hrn:(Builtin.append_ #[ts,ts] o.type #[.slice none 0 0,.slice A 0 c]).run P w=.ok (.slice none 0 0) w:=by
    simp [Builtin.append_,run_underlying ht,sizeOf,typeInfo,hinf,Builtin.lenOf,hfc]
   unfold Oper.wp
   rw [good_exec hg ha]
   unfold execOp
   simp only [ho,resolve,invoke,builtin,Sem.run_bind,Sem.run_pure,Result.andThen_ok,List.map_toArray,List.map_cons,List.map_nil,hs,hx,hrn]
   exact hK _ _ (h nilS (Slc.Is.nil e sz) _ _ (ha.put k3 _) hw)
  ·refine appendGNil hg ts e inf z sz by_ ht hinf hz hs1 hb1 hzs h0 s x ho hs A m c ys.flatten hx (hf _) hyl hm0 hyo (by simpa using hsmall) (by simpa using h63) (λg' cap' sp' h1 h2 h3=>?_)
   have hq:=h ⟨.slice (some ⟨g',0,none⟩) m cap',[(g',e,(ys.flatten++sp').toArray)]⟩ ⟨hlen,hone,.inr ⟨g',cap',sp',by simp [hm],by simpa [hm] using h1,by simpa [hm] using h2,h3⟩⟩
   exact permS (by
    rw [List.nil_append,List.append_assoc]
    exact (List.perm_append_comm (l₁:=T) (l₂:=[(g',e,(ys.flatten++sp').toArray)])).append_left pre) hq
 ·have hi:(pre++([(g,e,(xs.flatten++sp).toArray)]++T))[pre.length]? = some (g,e,(xs.flatten++sp).toArray):=by
   rw [List.getElem?_append_right (Nat.le_refl _),Nat.sub_self]
   rfl
  refine appendG hg ts e inf z sz by_ ht hinf hz hs1 hb1 hzs h0 s x ho pre.length g xs.length cap xs.flatten sp hs hi (flat_len' hr.len) q1 q3 A m c ys.flatten hx (hf ⟨.slice none 0 0,[(g,e,(xs.flatten++sp).toArray)]⟩) hyl hmc hyo hsmall h63 (λg' cap' sp' h1 h2 h3=>?_)
  have hq:=h ⟨.slice (some ⟨g',0,none⟩) (xs.length+m) cap',[(g',e,(xs.flatten++ys.flatten++sp').toArray)]⟩ ⟨hlen,hone,.inr ⟨g',cap',sp',by simp [hm],by simpa [hm] using h1,by simpa [hm] using h2,h3⟩⟩
  have he:(pre++([(g,e,(xs.flatten++sp).toArray)]++T)).set pre.length (g',e,(xs.flatten++ys.flatten++sp').toArray)=pre++([(g',e,(xs.flatten++ys.flatten++sp').toArray)]++T):=by
   rw [List.set_append_right _ _ (Nat.le_refl _),Nat.sub_self]
   rfl
  rw [he]
  exact hq
end
theorem retGM {P:Program} {w1:World} {n:Nat} {F:Slots} {L:Blocks} {fn:Func} {r:ResultVar} {v:Value} {R:Value→Blocks→Prop} (M:Blocks) (hr:fn.results=#[r]) (h:Has P F L r v) (hM:∀ w,St (Base.of w1) w L→St (Base.of w1) w M) (hR:R v M):X (Base.of w1) n (bodyPost P fn (GetsN w1 R)) F L .ret:=λa w ha hw=>by
 refine bodyPost_ret (v:=v) ?_ ha.1 ⟨v,M,rfl,hR,hw.below,λg t cs hm=>(hM w hw).blk g t cs hm,(hM w hw).apart⟩
 rcases Res.run h ha hw with ⟨t,rfl,e1⟩ | ⟨t,ty,ad,rfl,e1,e2⟩ <;> simp [results,Result.andThen, *]
end Sy
end
section
namespace Wr
open Go.RowKit Sy
set_option maxRecDepth 100000
set_option maxHeartbeats 4000000
abbrev Rdr:=Nat→Nat→Value→Prop
def Le (C D:Rdr):Prop:=∀ g o v,C g o v→D g o v
def rdW (w:World):Rdr:=λg o v=>g<w.heap.size∧w.cell? ⟨g,o,none⟩=some v
def rdB (M:Blocks):Rdr:=λg o v=>∃ t cs,(g,t,cs)∈M∧cs[o]? = some v
def rdC (w0:Base) (R:Blocks):Rdr:=λg o v=>rdW w0.world g o v∨rdB R g o v
theorem rdB_le {M N:Blocks} (h:∀ b∈M,b∈N):Le (rdB M) (rdB N):=λ_ _ _ ⟨t,cs,hm,hc⟩=>⟨t,cs,h _ hm,hc⟩
theorem rdC_le {w0:Base} {M N:Blocks} (h:∀ b∈M,b∈N):Le (rdC w0 M) (rdC w0 N):=λg o v hv=>hv.imp id (rdB_le h g o v)
theorem rdC_world {w0:Base} {w:World} {L R:Blocks} (hw:St w0 w L) (hR:∀ b∈R,b∈L):Le (rdC w0 R) (rdW w):=by
 rintro g o v (⟨hg,hc⟩ | ⟨t,cs,hm,hc⟩)
 ·exact ⟨Nat.lt_of_lt_of_le hg hw.below.size,(Below.cell (p:=⟨g,o,none⟩) hw.below hg).trans hc⟩
 ·have hb:=(hw.blk g t cs (hR _ hm)).2
  exact ⟨hb.lt,(hb.cell o).trans hc⟩
theorem rdW_base {w:World} {R:Blocks}:Le (rdW w) (rdC (Base.of w) R):=λ_ _ _ h=>.inl h
theorem rdB_base {w0:Base} {R:Blocks}:Le (rdB R) (rdC w0 R):=λ_ _ _ h=>.inr h
def BytR (C:Rdr) (v:Value) (b:Byt):Prop:=∃ A n cp,v=.slice A n cp∧b.length=n∧n≤cp∧cp≤maxLen∧(b≠[]→∃ g o,A=some ⟨g,o,none⟩∧∀ j u,b[j]? = some u→C g (o+j) (bv u))
theorem BytR.le {C D:Rdr} (hl:Le C D) {v:Value} {b:Byt} (h:BytR C v b):BytR D v b:=by
 obtain ⟨A,n,cp,h1,h2,h3,h4,h5⟩:=h
 exact ⟨A,n,cp,h1,h2,h3,h4,λhb=>by obtain ⟨g,o,e,hq⟩:=h5 hb; exact ⟨g,o,e,λj u hu=>hl _ _ _ (hq j u hu)⟩⟩
theorem BytR.nil (C:Rdr):BytR C (.slice none 0 0) []:=⟨none,0,0,rfl,rfl,Nat.le_refl _,Nat.zero_le _,λh=>(h rfl).elim⟩
theorem BytR.cells {C:Rdr} {v:Value} {b:Byt} (h:BytR C v b):v.cells=#[v]∧v.oneCell'=true:=by
 obtain ⟨A,n,cp,rfl,_⟩:=h; exact ⟨rfl,rfl⟩
def byL (b:Byt):List (List Value):=b.map λu=>[bv u]
theorem byL_flat (b:Byt):(byL b).flatten=b.map bv:=by induction b with | nil=>rfl | cons u b ih=>show bv u::(byL b).flatten=bv u::b.map bv; rw [ih]
theorem byL_len (b:Byt):(byL b).length=b.length:=List.length_map _
theorem byL_app (a b:Byt):byL (a++b)=byL a++byL b:=List.map_append
theorem byL_one (b:Byt):∀ y∈byL b,y.length=1:=λy hy=>by obtain ⟨u,_,rfl⟩:=List.mem_map.1 hy; rfl
theorem byL_oneC (b:Byt):∀ y∈byL b, ∀ u∈y,u.oneCell'=true:=λy hy u hu=>by
 obtain ⟨w,_,rfl⟩:=List.mem_map.1 hy
 rw [List.mem_singleton.1 hu]; rfl
theorem BytR.from {w0:Base} {L R:Blocks} {A:Option Addr} {n cp:Nat} {b:Byt} (h:BytR (rdC w0 R) (.slice A n cp) b) (hR:∀ x∈R,x∈L):From w0 L A (byL b).flatten:=λw hw=>by
 obtain ⟨A',n',cp',e,h2,h3,h4,h5⟩:=h
 injection e with e1 e2 e3
 subst e1
 rw [byL_flat]
 cases b with
 | nil=>exact .inl rfl
 | cons u b =>
  obtain ⟨g,o,rfl,hq⟩:=h5 (by simp)
  refine .inr ⟨_,rfl,λj v hj=>?_⟩
  rw [addr_off]
  rw [List.getElem?_map] at hj
  cases hx:(u::b)[j]? with
  | none=>rw [hx] at hj; cases hj
  | some x =>
   rw [hx] at hj
   cases hj
   exact (rdC_world hw hR _ _ _ (hq j x hx)).2
theorem Slc_byt {r:Slc} {e:TypeId} {b:Byt} (h:r.Is e 1 (byL b)):BytR (rdB r.bl) r.v b:=by
 rcases h.row with ⟨e1,rfl⟩ | ⟨g,cap,sp,rfl,h1,h2,h3⟩
 ·have:b=[]:=by cases b with | nil=>rfl | cons=>cases e1
  rw [this]
  exact BytR.nil _
 ·rw [byL_len] at h1 h2
  refine ⟨_,_,_,rfl,(byL_len b).symm,by rw [byL_len]; exact h2,h3,λ_=>⟨g,0,rfl,λj u hu=>⟨e,_,List.mem_singleton.2 rfl,?_⟩⟩⟩
  have hl:=(List.getElem?_eq_some_iff.1 hu).1
  rw [byL_flat,Nat.zero_add,List.getElem?_toArray,List.getElem?_append_left (by simpa using hl),List.getElem?_map,hu]
  rfl
section
variable {P:Program} {w0:Base} {n:Nat} {Q:Exit→Act→World→Prop} {F:Slots} {L:Blocks} {ops:Array Oper} {o:Oper} {ex:Nat→Bool} {fuel:Nat} {listed:Array Bool}
theorem sa (i:Nat) {oi:Oper} (hi0:ops.toList[i]? = some oi) {v:Value} (hl:opV F oi.op=some v) (h:wpD P w0 n ops Q ex (putF F oi.dst v) L fuel (listed.setIfInBounds i true)) (hc:canTakeA .any ops listed i=true:=by kernel_rfl) (hg:good ops n F oi=true:=by kernel_rfl)
  (hQ:∀ c v a w,Q (.panic c) (a.put oi.dst v) w→Q (.panic c) a w:=by exact λ_ _ _ _ h=>h):wpD P w0 n ops Q ex F L (fuel+1) listed:=stepDA i hi0 hc hQ hg v (opV_run hl) h
theorem sb (i:Nat) {oi:Oper} (hi0:ops.toList[i]? = some oi) (v:Value) (h:wpD P w0 n ops Q ex (putF F oi.dst v) L fuel (listed.setIfInBounds i true)) (hp:∀ w,(execOp (evF F) oi).run P w=.ok (.value v) w:=by intro _; kernel_rfl) (hc:canTakeA .any ops listed i=true:=by kernel_rfl) (hg:good ops n F oi=true:=by kernel_rfl)
  (hQ:∀ c v a w,Q (.panic c) (a.put oi.dst v) w→Q (.panic c) a w:=by exact λ_ _ _ _ h=>h):wpD P w0 n ops Q ex F L (fuel+1) listed:=stepDA i hi0 hc hQ hg v hp h
theorem sv (i:Nat) {oi:Oper} (hi0:ops.toList[i]? = some oi) (v:Value) (hp:∀ w,(execOp (evF F) oi).run P w=.ok (.value v) w) (h:wpD P w0 n ops Q ex (putF F oi.dst v) L fuel (listed.setIfInBounds i true)) (hc:canTakeA .any ops listed i=true:=by kernel_rfl) (hg:good ops n F oi=true:=by kernel_rfl)
  (hQ:∀ c v a w,Q (.panic c) (a.put oi.dst v) w→Q (.panic c) a w:=by exact λ_ _ _ _ h=>h):wpD P w0 n ops Q ex F L (fuel+1) listed:=stepDA i hi0 hc hQ hg v hp h
theorem se (i:Nat) (bs:List Nat) {oi:Oper} (hi0:ops.toList[i]? = some oi) (v:Value) (hq:Quiet P w0 F L oi v) (h:wpD P w0 n ops Q ex (putF F oi.dst v) L fuel (listed.setIfInBounds i true)) (hc:canTakeB .any ops listed ex i bs=true:=by kernel_rfl) (hg:good ops n F oi=true:=by kernel_rfl)
  (hQ:∀ c v a w,Q (.panic c) (a.put oi.dst v) w→Q (.panic c) a w:=by exact λ_ _ _ _ h=>h):wpD P w0 n ops Q ex F L (fuel+1) listed:=stepDB i bs hi0 hc hQ hg v hq h
theorem keep1 {a b:Nat×TypeId×Array Value} {A:Blocks} {w:World} (h:St w0 w ([a,b]++A)):St w0 w ([a]++A):=h.less (((List.Sublist.refl A).cons b).cons_cons a)
end
end Wr
end
section
namespace Wr
open Go.RowKit Sy
set_option maxRecDepth 100000
set_option maxHeartbeats 4000000
theorem conv_86 (w:World) (F:Slots) (o:Oper) (x:Operand) (u:UInt8) (ho:o.op=.convert 5 28 x) (hx:evF F x=bv u):(execOp (evF F) o).run Tryz.prog w=.ok (.value (.int .u64 ((u.toNat:Nat):Int))) w:=by
 have hu:=u.toNat_lt
 have e:(convert 5 28 (.int .u8 ((u.toNat:Nat):Int))).run Tryz.prog w=.ok (.int .u64 ((u.toNat:Nat):Int)) w:=by
  go_simp
  exact wrap_u64 (by omega) (by omega)
 unfold execOp
 simp only [ho,hx,bv,e,Sem.run_bind,Sem.run_pure,Result.andThen_ok]
abbrev BS (s:Slc) (b:Byt):Prop:=s.Is 5 1 (byL b)
end Wr
end
section
namespace Wr
open Go.RowKit Sy
set_option maxRecDepth 100000
set_option maxHeartbeats 4000000
end Wr
end
section
namespace Wr
open Go.RowKit Sy
set_option maxRecDepth 100000
set_option maxHeartbeats 4000000
theorem BytR.slice {C:Rdr} {A:Option Addr} {n cp:Nat} {b:Byt} (h:BytR C (.slice A n cp) b) {l m:Nat} (hl:l≤m) (hm:m≤n):BytR C (sliced A l m cp 1) ((b.drop l).take (m - l)):=by
 obtain ⟨A',n',cp',e,h2,h3,h4,h5⟩:=h
 injection e with e1 e2 e3
 subst e1 e2 e3
 refine ⟨_,_,_,rfl,by rw [List.length_take,List.length_drop]; omega,by omega,by omega,λhne=>?_⟩
 have hb:b≠[]:=λe=>hne (by rw [e]; simp)
 have hlt:l<m:=by
  rcases Nat.lt_or_ge l m with h | h
  ·exact h
  ·exact (hne (by rw [show m - l=0 by omega,List.take_zero])).elim
 obtain ⟨g,o,rfl,hq⟩:=h5 hb
 refine ⟨g,o+l,?_,λj u hj=>?_⟩
 ·rw [if_neg (by omega),Option.map_some,addr_off,Nat.mul_one]
 ·have hj':j<m - l:=by
   have:=(List.getElem?_eq_some_iff.1 hj).1
   rw [List.length_take] at this; omega
  rw [List.getElem?_take_of_lt hj',List.getElem?_drop] at hj
  rw [Nat.add_assoc]
  exact hq _ _ hj
theorem BytR.drop {C:Rdr} {A:Option Addr} {n cp:Nat} {b:Byt} (h:BytR C (.slice A n cp) b) {l:Nat} (hl:l≤n):BytR C (sliced A l n cp 1) (b.drop l):=by
 have q:=h.slice hl (Nat.le_refl n)
 obtain ⟨A',n',cp',e,h2,_⟩:=h
 injection e with e1 e2 e3
 subst e1 e2 e3
 rw [List.take_of_length_le (by rw [List.length_drop]; omega)] at q
 exact q
theorem exec_sl {F:Slots} {o:Oper} (x kx:Operand) (A:Option Addr) (n cp k:Nat) (ho:o.op=.slice 39 x (some kx) none none) (hx:evF F x=.slice A n cp) (hk:evF F kx=.int .i64 (k:Int)) (h:k≤n) (w:World):(execOp (evF F) o).run Tryz.prog w=.ok (.value (sliced A k n cp 1)) w:=by
 have ht:Tryz.prog.underlying 39=some (.slice (Tryz.prog.elem 39)):=by kernel_rfl
 have e:(Instr.sliceAt 39 (.slice A n cp) (some (.int .i64 (k:Int))) none none).run Tryz.prog w=.ok (sliced A k n cp 1) w:=by
  rw [run_sliceAt_slice w 39 _ _ _ _ ht,run_slice_l w 39 A n cp ht .i64 k (by omega) (by omega)]
  have hs:(sizeOf (Tryz.prog.elem 39)).run Tryz.prog w=.ok 1 w:=by kernel_rfl
  rw [hs,Result.andThen_ok,Int.toNat_natCast]
 unfold execOp
 simp only [ho,hx,hk,Option.map_some,Option.map_none,e,Sem.run_bind,Sem.run_pure,Result.andThen_ok]
theorem exec_slh {F:Slots} {o:Oper} (x kx hx':Operand) (A:Option Addr) (n cp k m:Nat) (ho:o.op=.slice 39 x (some kx) (some hx') none) (hx:evF F x=.slice A n cp) (hk:evF F kx=.int .i64 (k:Int)) (hm:evF F hx'=.int .i64 (m:Int)) (h:k≤m) (h2:m≤cp) (w:World):(execOp (evF F) o).run Tryz.prog w=.ok (.value (sliced A k m cp 1)) w:=by
 have ht:Tryz.prog.underlying 39=some (.slice (Tryz.prog.elem 39)):=by kernel_rfl
 have e:(Instr.sliceAt 39 (.slice A n cp) (some (.int .i64 (k:Int))) (some (.int .i64 (m:Int))) none).run Tryz.prog w=.ok (sliced A k m cp 1) w:=by
  rw [run_sliceAt_slice w 39 _ _ _ _ ht,run_slice_lh w 39 A n cp ht .i64 .i64 k m (by omega) (by omega) (by omega)]
  have hs:(sizeOf (Tryz.prog.elem 39)).run Tryz.prog w=.ok 1 w:=by kernel_rfl
  rw [hs,Result.andThen_ok,Int.toNat_natCast,Int.toNat_natCast]
 unfold execOp
 simp only [ho,hx,hk,hm,Option.map_some,Option.map_none,e,Sem.run_bind,Sem.run_pure,Result.andThen_ok]
theorem int_or8 (t:TypeId) (a c:Nat) (ha:a<72057594037927936) (hc:c<256) (w:World):(binOp .or t (.int .u64 ((a*256:Nat):Int)) (.int .u64 (c:Int))).run Tryz.prog w=.ok (.int .u64 ((256*a+c:Nat):Int)) w:=by
 have e:((BitVec.ofInt IntKind.u64.bits ((a*256:Nat):Int) ||| BitVec.ofInt IntKind.u64.bits (c:Int)).toNat:Nat)=256*a+c:=by
  show ((BitVec.ofInt 64 ((a*256:Nat):Int) ||| BitVec.ofInt 64 (c:Int)).toNat)=_
  rw [BitVec.toNat_or,BitVec.ofInt_natCast,BitVec.ofInt_natCast,BitVec.toNat_ofNat,BitVec.toNat_ofNat,Nat.mod_eq_of_lt (by omega),Nat.mod_eq_of_lt (by omega),Nat.mul_comm]
  exact (Nat.two_pow_add_eq_or_of_lt (i:=8) hc a).symm
 have h:IntKind.u64.wrap (((BitVec.ofInt IntKind.u64.bits ((a*256:Nat):Int) ||| BitVec.ofInt IntKind.u64.bits (c:Int)).toNat:Nat):Int)=((256*a+c:Nat):Int):=by
  rw [e]; exact wrap_u64 (by omega) (by omega)
 simp only [binOp,ne_eq,not_true_eq_false,if_false,Op.intBits,Sem.run_pure]
 rw [h]
theorem int_shl8 (t:TypeId) (a:Nat) (ha:a<72057594037927936) (w:World):(binOp .shl t (.int .u64 (a:Int)) (.int .u64 8)).run Tryz.prog w=.ok (.int .u64 ((a*256:Nat):Int)) w:=by
 have h:IntKind.u64.wrap ((a:Int)*2 ^ min (8:Int).toNat IntKind.u64.bits)=((a*256:Nat):Int):=by
  rw [show (2:Int) ^ min (8:Int).toNat IntKind.u64.bits=256 from rfl,Int.natCast_mul]
  exact wrap_u64 (by omega) (by omega)
 simp only [binOp,Op.shift,if_neg (show ¬ (8:Int)<0 by omega),Sem.run_pure,h]
theorem said_take (b:Byt) (i:Nat) (u:UInt8) (h:b[i]? = some u):said (b.take (i+1))=256*said (b.take i)+u.toNat:=by
 rw [List.take_add_one,h]
 exact said_snoc _ _
theorem said_lt8 (b:Byt) (i:Nat) (hi:i≤7):said (b.take i)<72057594037927936:=by
 have h:=said_lt (b.take i)
 have h2:256 ^ (b.take i).length≤256 ^ 7:=Nat.pow_le_pow_right (by decide) (by rw [List.length_take]; omega)
 exact Nat.lt_of_lt_of_le h h2
end Wr
end
section
namespace Wr
open Go.RowKit Sy
set_option maxRecDepth 100000
set_option maxHeartbeats 4000000
section
variable {P:Program} {w0:Base} {n:Nat} {Q:Exit→Act→World→Prop} {F:Slots} {L:Blocks}
end
theorem BytR.at {w w':World} {L:Blocks} {v:Value} {b:Byt} (h:BytR (rdW w) v b) (hw:St (Base.of w) w' L):BytR (rdW w') v b:=h.le λg o u hu=>rdC_world (R:=[]) hw (λ_ h=>by cases h) g o u (.inl hu)
end Wr
end
section
namespace Wr
open Go.RowKit Sy
set_option maxRecDepth 100000
set_option maxHeartbeats 4000000
end Wr
end
section
namespace Wr
open Go.RowKit Sy
set_option maxRecDepth 100000
set_option maxHeartbeats 4000000
end Wr
end
section
namespace Wr
open Go.RowKit Sy
set_option maxRecDepth 100000
set_option maxHeartbeats 4000000
def XAt (C:Rdr) (g f:Nat) (cs:List Value):Prop:=∀ i u,cs[i]? = some u→C g (f+i) u
theorem XAt.le {C D:Rdr} (hl:Le C D) {g f:Nat} {cs:List Value} (h:XAt C g f cs):XAt D g f cs:=λi u hu=>hl _ _ _ (h i u hu)
theorem XAt.one {C:Rdr} {g f:Nat} {v:Value} {l:List Value} (h:XAt C g f (v::l)):C g f v:=h 0 v rfl
section
variable {P:Program} {w0:Base} {F:Slots} {L R:Blocks} {o:Oper}
theorem cellC {x:Operand} {d:TypeDesc} {ty:TypeId} {v:Value} {g f:Nat} (hc:rdC w0 R g f v) (hR:∀ b∈R,b∈L) (ho:o.op=.load ty x) (hu:P.underlying ty=some d) (hx:evF F x=.pointer (some ⟨g,f,none⟩):=by kernel_rfl) (hd:d.isRow=false:=by rfl):Quiet P w0 F L o v:=λw hw=>by
 have hc:w.cell? ⟨g,f,none⟩=some v:=(rdC_world hw hR _ _ _ hc).2
 have ha:(isAgg ty).run P w=.ok false w:=by
  cases d <;> first | (cases hd; done) | simp [isAgg,underlying,hu]
 unfold Gives execOp
 simp only [ho,hx,Instr.loadAt,Instr.sureAddr,Sem.run_bind,Sem.run_pure,Result.andThen_ok,loadVar,ha,Bool.false_eq_true,if_false,run_load,hc]
 exact ⟨trivial,Gr.refl _⟩
theorem rowC {x:Operand} {d:TypeDesc} {ty:TypeId} {g f k:Nat} {cs:List Value} (hc:XAt (rdC w0 R) g f cs) (hR:∀ b∈R,b∈L) (hl:cs.length=k) (ho:o.op=.load ty x) (hu:P.underlying ty=some d) (hx:evF F x=.pointer (some ⟨g,f,none⟩):=by kernel_rfl) (hd:d.isRow=true:=by rfl) (hi:(P.info? ty).map (·.size)=some k:=by kernel_rfl):Quiet P w0 F L o (.agg cs.toArray):=λw hw=>by
 have hl:=run_loadVar_mid (P:=P) w g f ty cs d (λj u hj=>(rdC_world hw hR _ _ _ (hc j u hj)).2) hu hd (by rw [hi,hl])
 unfold Gives execOp
 simp only [ho,hx,Instr.loadAt,Instr.sureAddr,Sem.run_bind,Sem.run_pure,Result.andThen_ok,hl]
 exact ⟨trivial,Gr.refl _⟩
end
end Wr
end
section
namespace Pg
open Go.RowKit Sy
set_option maxRecDepth 100000
set_option maxHeartbeats 4000000
open Wr
def LstR {α:Type} (C:Rdr) (k:Nat) (rep:Rdr→List Value→α→Prop) (v:Value) (l:List α):Prop:=∃ A n cp,v=.slice A n cp∧l.length=n∧n≤cp∧cp≤maxLen∧(l≠[]→∃ g o,A=some ⟨g,o,none⟩∧∀ j x,l[j]? = some x→∃ cs:List Value,cs.length=k∧(∀ u∈cs,u.oneCell'=true)∧rep C cs x∧XAt C g (o+j*k) cs)
def Mono {α:Type} (rep:Rdr→List Value→α→Prop):Prop:=∀ {C D:Rdr} {cs:List Value} {x:α},Le C D→rep C cs x→rep D cs x
theorem LstR.le {α:Type} {C D:Rdr} {k:Nat} {rep:Rdr→List Value→α→Prop} (hm:Mono rep) {v:Value} {l:List α} (hl:Le C D) (h:LstR C k rep v l):LstR D k rep v l:=by
 obtain ⟨A,n,cp,h1,h2,h3,h4,h5⟩:=h
 refine ⟨A,n,cp,h1,h2,h3,h4,λhne=>?_⟩
 obtain ⟨g,o,e,hq⟩:=h5 hne
 refine ⟨g,o,e,λj x hx=>?_⟩
 obtain ⟨cs,q1,q2,q3,q4⟩:=hq j x hx
 exact ⟨cs,q1,q2,hm hl q3,q4.le hl⟩
noncomputable def infBo:TypeInfo:=(Tryz.prog.info? 4).getD default
theorem info_bo:Tryz.prog.info? 4=some infBo:=by kernel_rfl
theorem conv_8i (w:World) (F:Slots) (o:Oper) (x:Operand) (u:UInt8) (ho:o.op=.convert 5 3 x) (hx:evF F x=bv u):(execOp (evF F) o).run Tryz.prog w=.ok (.value (.int .i64 ((u.toNat:Nat):Int))) w:=by
 have hu:=u.toNat_lt
 have e:(convert 5 3 (.int .u8 ((u.toNat:Nat):Int))).run Tryz.prog w=.ok (.int .i64 ((u.toNat:Nat):Int)) w:=by
  go_simp
  exact wrap_i64 (by omega) (by omega)
 unfold execOp
 simp only [ho,hx,bv,e,Sem.run_bind,Sem.run_pure,Result.andThen_ok]
abbrev folV (c:UInt8):Value:=.tuple #[.int .i64 (((follow c).getD 0:Nat):Int),.bool (follow c).isSome]
theorem follow_any (w:World) (c:UInt8):Calls Tryz.prog 35 #[bv c] w (Gets w (folV c)):=by
 have hc:=c.toNat_lt
 refine Sy.enter (args:=[bv c]) Tryz.func35 rfl kL ?_
 refine sC ?_
 refine sP (.int .i64 0)<|sP (.bool false) ?_
 refine sG<|Sy.seq<|Sy.block<|sC ?_
 obtain ⟨b1,hb1⟩:∃ z:Bool,z=decide (c.toNat≤64):=⟨_,rfl⟩
 refine sp rfl<|sS (.bool b1) (Quiet.pure (exec_int .leq _ _ _ .u8 _ _ _ rfl rfl rfl (int_leq _ _ _ _ _ (by rw [hb1]; exact decide_eq_decide.2 (by omega)))))<|sp rfl ?_
 refine sG ?_
 cases b1
 case' true =>
  have l1:c.toNat≤64:=of_decide_eq_true hb1.symm
  refine sT<|sC ?_
  refine sp rfl<|sS (.int .i64 ((c.toNat:Nat):Int)) (Quiet.pure (λw=>conv_8i w _ _ _ c rfl rfl))<|sp rfl<|sP (.bool true) ?_
  refine sG<|Sy.ret<|Sy.in_ret<|Sy.then_ret ?_
  have e:folV c=.tuple #[.int .i64 ((c.toNat:Nat):Int),.bool true]:=by unfold folV follow; rw [if_pos l1]; rfl
  rw [e]
  exact Sy.ret2 rfl (.inl (show _=_ by kernel_rfl)) (.inl (show _=_ by kernel_rfl))
 have l1:¬ c.toNat≤64:=of_decide_eq_false hb1.symm
 refine sU<|sC ?_
 obtain ⟨b2,hb2⟩:∃ z:Bool,z=decide (c.toNat=104):=⟨_,rfl⟩
 refine sp rfl<|sS (.bool b2) (Quiet.pure (exec_int .eql _ _ _ .u8 _ _ _ rfl rfl rfl (int_eql _ _ _ _ _ (by rw [hb2]; exact decide_eq_decide.2 (by omega)))))<|sp rfl ?_
 refine sG ?_
 cases b2
 case' true =>
  have l2:c.toNat=104:=of_decide_eq_true hb2.symm
  refine sT<|sC ?_
  refine sP (.int .i64 2)<|sP (.bool true) ?_
  refine sG<|Sy.ret<|Sy.in_ret<|Sy.then_ret ?_
  have e:folV c=.tuple #[.int .i64 2,.bool true]:=by unfold folV follow; rw [if_neg l1,if_pos l2]; rfl
  rw [e]
  exact Sy.ret2 rfl (.inl (show _=_ by kernel_rfl)) (.inl (show _=_ by kernel_rfl))
 have l2:¬ c.toNat=104:=of_decide_eq_false hb2.symm
 refine sU<|Sy.skip<|Sy.in_<|sB ?_
 obtain ⟨b3,hb3⟩:∃ z:Bool,z=decide (96≤c.toNat):=⟨_,rfl⟩
 refine sp rfl<|sS (.bool b3) (Quiet.pure (exec_int .geq _ _ _ .u8 _ _ _ rfl rfl rfl (int_geq _ _ _ _ _ (by rw [hb3]; exact decide_eq_decide.2 (by omega)))))<|sp rfl ?_
 cases b3
 case' false =>
  have l3:¬ 96≤c.toNat:=of_decide_eq_false hb3.symm
  refine sN<|sN<|sP (.bool false)<|sP (.int .i64 0)<|sp rfl ?_
  refine sG<|Sy.ret ?_
  have e:folV c=.tuple #[.int .i64 0,.bool false]:=by unfold folV follow; rw [if_neg l1,if_neg l2,if_neg (λh=>l3 h.1)]; rfl
  rw [e]
  exact Sy.ret2 rfl (.inl (show _=_ by kernel_rfl)) (.inl (show _=_ by kernel_rfl))
 have l3:96≤c.toNat:=of_decide_eq_true hb3.symm
 obtain ⟨b4,hb4⟩:∃ z:Bool,z=decide (c.toNat≤108):=⟨_,rfl⟩
 refine sp rfl<|sS (.bool b4) (Quiet.pure (exec_int .leq _ _ _ .u8 _ _ _ rfl rfl rfl (int_leq _ _ _ _ _ (by rw [hb4]; exact decide_eq_decide.2 (by omega)))))<|sP (.bool b4)<|sP (.int .i64 0)<|sp rfl ?_
 refine sG<|Sy.ret ?_
 have e:folV c=.tuple #[.int .i64 0,.bool b4]:=by
  unfold folV follow
  rw [if_neg l1,if_neg l2]
  cases b4
  ·have l4:¬ c.toNat≤108:=of_decide_eq_false hb4.symm
   rw [if_neg (λh=>l4 h.2)]; rfl
  ·have l4:c.toNat≤108:=of_decide_eq_true hb4.symm
   rw [if_pos ⟨l3,l4⟩]; rfl
 rw [e]
 exact Sy.ret2 rfl (.inl (show _=_ by kernel_rfl)) (.inl (show _=_ by kernel_rfl))
def brL (o:List Bool):List (List Value):=o.map λb=>[.bool b]
theorem brL_len (o:List Bool):(brL o).length=o.length:=List.length_map _
abbrev BrS (y:Slc) (o:List Bool):Prop:=y.Is 4 1 (brL o)
abbrev TKS (g:Nat) (y:Slc) (T:Blocks):Blocks:=[(g,81,#[y.v])]++(y.bl++T)
def TkR (g:Nat) (T:Blocks) (r:Option (List Bool)) (v:Value) (M:Blocks):Prop:=v=.bool r.isSome∧∃ y,M=TKS g y T∧∀ o',r=some o'→BrS y o'
theorem brL_one (o:List Bool):∀ y∈brL o,y.length=1:=λy hy=>by obtain ⟨u,_,rfl⟩:=List.mem_map.1 hy; rfl
theorem brL_oneC (o:List Bool):∀ y∈brL o, ∀ u∈y,u.oneCell'=true:=λy hy u hu=>by
 obtain ⟨w,_,rfl⟩:=List.mem_map.1 hy
 rw [List.mem_singleton.1 hu]; rfl
theorem brL_flat (o:List Bool):(brL o).flatten=o.map .bool:=by induction o with | nil=>rfl | cons u b ih=>show Value.bool u::(brL b).flatten=_; rw [ih]; rfl
theorem BrS.full {y:Slc} {o:List Bool} (h:BrS y o) (ho:o≠[]):∃ g cap sp,y=⟨.slice (some ⟨g,0,none⟩) o.length cap,[(g,4,(o.map Value.bool++sp).toArray)]⟩∧sp.length+o.length=cap∧cap≤maxLen:=by
 rcases h.row with ⟨e,rfl⟩ | ⟨g,cap,sp,rfl,h1,h2,h3⟩
 ·have:=congrArg List.length e
  rw [brL_len] at this
  exact (ho (List.eq_nil_of_length_eq_zero this)).elim
 ·rw [brL_flat,brL_len]
  rw [brL_len] at h1
  exact ⟨g,cap,sp,rfl,by omega,h3⟩
theorem BrS.mk {g n cap:Nat} {o:List Bool} {cs sp:List Value} (hc:cs=o.map Value.bool++sp) (hn:o.length=n) (hs:sp.length+n=cap) (hm:cap≤maxLen):BrS ⟨.slice (some ⟨g,0,none⟩) n cap,[(g,4,cs.toArray)]⟩ o:=by
 subst hn
 subst hc
 refine Slc.Is.mk' (brL_one o) (brL_oneC o) (brL_len o) ?_ ?_ (by omega) hm
 ·rw [brL_flat,Nat.mul_one,List.take_left' (by simp)]
 ·rw [List.length_append,List.length_map]; omega
end Pg
end
section
namespace Pg
open Go.RowKit Sy
set_option maxRecDepth 100000
set_option maxHeartbeats 4000000
open Wr
theorem set_mid (A B:List Value) (x v:Value) (n:Nat) (h:A.length=n):((A++x::B).toArray).setIfInBounds n v=(A++v::B).toArray:=by
 subst h
 simp
theorem get_mid (A B:List Value) (x:Value) (n:Nat) (h:A.length=n):((A++x::B).toArray)[n]? = some x:=by
 subst h
 simp
theorem take_else {o:List Bool} {c:UInt8} (h1:¬ c.toNat=106) (h2:¬ c.toNat=107) (h3:¬ c.toNat=108):take o c=some o:=by unfold take; rw [if_neg h1,if_neg h2,if_neg h3]
theorem take_nil (w0:Base) (g:Nat) (y:Slc) (T:Blocks) (c:UInt8) (hy:BrS y []) (w:World) (hw:St w0 w (TKS g y T)):Calls Tryz.prog 36 #[ptr g,bv c] w (Turns w0 (TkR g T (take [] c))):=by
 have hc:=c.toNat_lt
 refine Sy.enterT (args:=[ptr g,bv c]) hw Tryz.func36 rfl kL ?_
 refine sC ?_
 refine sP (.bool false) ?_
 refine sA ?_
 refine sp rfl<|sp rfl<|sS y.v (qc 0 0 rfl rfl Tryz.underlying81)<|sS (.int .i64 0) (Quiet.lenR hy (show (brL []).length=0 from rfl) _ Tryz.underlying81 rfl rfl)<|sP (.int .i64 (-1))<|sp rfl ?_
 refine sG<|Sy.seq<|sC ?_
 refine sp rfl ?_
 refine sG<|Sy.block<|sC ?_
 obtain ⟨b1,hb1⟩:∃ z:Bool,z=decide (c.toNat=106):=⟨_,rfl⟩
 refine sS (.bool b1) (Quiet.pure (exec_int .eql _ _ _ .u8 _ _ _ rfl rfl rfl (int_eql _ _ _ _ _ (by rw [hb1]; exact decide_eq_decide.2 (by omega)))))<|sp rfl ?_
 refine sG ?_
 cases b1
 case' true =>
  have l1:c.toNat=106:=of_decide_eq_true hb1.symm
  refine sT<|Sy.region ?_
  refine sp rfl<|sp rfl<|sp rfl<|sS y.v (qc 0 0 rfl rfl Tryz.underlying81) ?_
  refine Sy.make kR 4 #[.bool false] (λg=>.slice (some ⟨g,0,none⟩) 1 1) kF (λg1=>?_)
  refine Sy.movT ?_
  refine Sy.appendR kR 81 4 _ _ 1 1 Tryz.underlying81 info_bo rfl rfl rfl rfl (by decide) _ _ rfl hy kR [.bool false] rfl (λu hu=>by rw [List.mem_singleton.1 hu]; rfl) 1 g1 4 kR kR (by rw [brL_len]; simp <;> omega) (by rw [brL_len]; simp [maxLen] <;> omega) (λr hr=>?_)
  refine sp rfl<|sw 0 rfl #[r.v] (Writes.one 0 81 r.v _ _ rfl kR kR kR hr.cells.1 hr.cells.2 Nat.zero_lt_one kR) ?_
  refine Sy.setT ?_
  refine Sy.nil<|Sy.in_<|Sy.then_<|sC ?_
  refine sP (.bool true) ?_
  refine sG<|Sy.ret ?_
  exact Sy.retT1 (TKS g r T) rfl (.inl (show _=some (.bool true) by kernel_rfl)) (λw h=>keep1 h) (by
   have e:take [] c=some ([]++[false]):=by unfold take; rw [if_pos l1]
   rw [e]
   refine ⟨rfl,r,rfl,λo' ho=>?_⟩
   cases ho
   have e3:brL ([]++[false])=brL []++[[.bool false]]:=List.map_append
   show r.Is _ 1 (brL _)
   rw [e3]
   exact hr)
 have l1:¬ c.toNat=106:=of_decide_eq_false hb1.symm
 refine sU<|sC ?_
 obtain ⟨b2,hb2⟩:∃ z:Bool,z=decide (c.toNat=107):=⟨_,rfl⟩
 refine sS (.bool b2) (Quiet.pure (exec_int .eql _ _ _ .u8 _ _ _ rfl rfl rfl (int_eql _ _ _ _ _ (by rw [hb2]; exact decide_eq_decide.2 (by omega)))))<|sp rfl ?_
 refine sG ?_
 cases b2
 case' true =>
  have l2:c.toNat=107:=of_decide_eq_true hb2.symm
  refine sT<|Sy.seq<|sC ?_
  refine sp rfl<|sP (.bool true)<|sp rfl<|sN<|sN<|sN<|sN<|sN<|sN<|sP (.bool true) ?_
  refine sG<|sT<|sC ?_
  refine sP (.bool false) ?_
  refine sG<|Sy.ret<|Sy.then_ret<|Sy.in_ret<|Sy.then_ret ?_
  exact Sy.retT1 (TKS g y T) rfl (.inl (show _=some (.bool false) by kernel_rfl)) (λw h=>h) (by
   have e:take [] c=none:=by unfold take; rw [if_neg l1,if_pos l2,if_pos (.inl rfl)]
   rw [e]
   exact ⟨rfl,y,rfl,λo' ho=>by cases ho⟩)
 have l2:¬ c.toNat=107:=of_decide_eq_false hb2.symm
 refine sU<|sC ?_
 obtain ⟨b3,hb3⟩:∃ z:Bool,z=decide (c.toNat=108):=⟨_,rfl⟩
 refine sS (.bool b3) (Quiet.pure (exec_int .eql _ _ _ .u8 _ _ _ rfl rfl rfl (int_eql _ _ _ _ _ (by rw [hb3]; exact decide_eq_decide.2 (by omega)))))<|sp rfl ?_
 refine sG ?_
 cases b3
 case' true =>
  have l3:c.toNat=108:=of_decide_eq_true hb3.symm
  refine sT<|Sy.seq<|sC ?_
  refine sp rfl<|sP (.bool true) ?_
  refine sG<|sT<|sC ?_
  refine sP (.bool false) ?_
  refine sG<|Sy.ret<|Sy.then_ret<|Sy.in_ret<|Sy.then_ret ?_
  exact Sy.retT1 (TKS g y T) rfl (.inl (show _=some (.bool false) by kernel_rfl)) (λw h=>h) (by
   have e:take [] c=none:=by unfold take; rw [if_neg l1,if_neg l2,if_pos l3,if_pos rfl]
   rw [e]
   exact ⟨rfl,y,rfl,λo' ho=>by cases ho⟩)
 have l3:¬ c.toNat=108:=of_decide_eq_false hb3.symm
 refine sU<|Sy.skip<|Sy.in_<|Sy.then_<|sC ?_
 refine sP (.bool true) ?_
 refine sG<|Sy.ret ?_
 exact Sy.retT1 (TKS g y T) rfl (.inl (show _=some (.bool true) by kernel_rfl)) (λw h=>h) (by
  rw [take_else l1 l2 l3]
  refine ⟨rfl,_,rfl,λo' ho=>?_⟩
  cases ho
  exact hy)
theorem take_snoc (w0:Base) (g:Nat) (y:Slc) (T:Blocks) (c:UInt8) (d:List Bool) (x:Bool) (hy:BrS y (d++[x])) (hl:d.length≤1000) (w:World) (hw:St w0 w (TKS g y T)):Calls Tryz.prog 36 #[ptr g,bv c] w (Turns w0 (TkR g T (take (d++[x]) c))):=by
 obtain ⟨m,hm⟩:∃ m,m=d.length:=⟨_,rfl⟩
 obtain ⟨g2,cap,rr,rfl,h1,h2⟩:=hy.full (by simp)
 have e0:(d++[x]).length=m+1:=by rw [List.length_append, ← hm]; rfl
 have e1:((d++[x]).map Value.bool++rr)=d.map Value.bool++(Value.bool x::rr):=by simp
 have e2:(d.map Value.bool).length=m:=by rw [List.length_map,hm]
 rw [e0,e1] at hw hy
 rw [e0] at h1
 have hmx:m+1≤cap:=by omega
 have hc:=c.toNat_lt
 refine Sy.enterT (args:=[ptr g,bv c]) hw Tryz.func36 rfl kL ?_
 refine sC ?_
 refine sP (.bool false) ?_
 refine sA ?_
 refine sp rfl<|sp rfl<|sS (.slice (some ⟨g2,0,none⟩) (m+1) cap) (qc 0 0 rfl rfl Tryz.underlying81)<|sS (.int .i64 ((m+1:Nat):Int)) (Quiet.lenR hy (by rw [brL_len]; exact e0) _ Tryz.underlying81 rfl rfl)<|sS (.int .i64 ((m:Nat):Int)) (Quiet.pure (exec_int .sub _ _ _ .i64 _ _ _ rfl rfl rfl (int_sub _ _ _ _ _ ((wrap_i64 (by omega) (by omega)).trans (by omega)))))<|sp rfl ?_
 refine sG<|Sy.seq<|sC ?_
 refine sp rfl ?_
 refine sG<|Sy.block<|sC ?_
 obtain ⟨b1,hb1⟩:∃ z:Bool,z=decide (c.toNat=106):=⟨_,rfl⟩
 refine sS (.bool b1) (Quiet.pure (exec_int .eql _ _ _ .u8 _ _ _ rfl rfl rfl (int_eql _ _ _ _ _ (by rw [hb1]; exact decide_eq_decide.2 (by omega)))))<|sp rfl ?_
 refine sG ?_
 cases b1
 case' true =>
  have l1:c.toNat=106:=of_decide_eq_true hb1.symm
  refine sT<|Sy.region ?_
  refine sp rfl<|sp rfl<|sp rfl<|sS (.slice (some ⟨g2,0,none⟩) (m+1) cap) (qc 0 0 rfl rfl Tryz.underlying81) ?_
  refine Sy.make kR 4 #[.bool false] (λg=>.slice (some ⟨g,0,none⟩) 1 1) kF (λg1=>?_)
  refine Sy.movT ?_
  refine Sy.appendR kR 81 4 _ _ 1 1 Tryz.underlying81 info_bo rfl rfl rfl rfl (by decide) _ _ rfl hy kR [.bool false] rfl (λu hu=>by rw [List.mem_singleton.1 hu]; rfl) 1 g1 4 kR kR (by rw [brL_len]; simp <;> omega) (by rw [brL_len]; simp [maxLen] <;> omega) (λr hr=>?_)
  refine sp rfl<|sw 0 rfl #[r.v] (Writes.one 0 81 r.v _ _ rfl kR kR kR hr.cells.1 hr.cells.2 Nat.zero_lt_one kR) ?_
  refine Sy.setT ?_
  refine Sy.nil<|Sy.in_<|Sy.then_<|sC ?_
  refine sP (.bool true) ?_
  refine sG<|Sy.ret ?_
  exact Sy.retT1 (TKS g r T) rfl (.inl (show _=some (.bool true) by kernel_rfl)) (λw h=>keep1 h) (by
   have e:take (d++[x]) c=some ((d++[x])++[false]):=by unfold take; rw [if_pos l1]
   rw [e]
   refine ⟨rfl,r,rfl,λo' ho=>?_⟩
   cases ho
   have e3:brL ((d++[x])++[false])=brL (d++[x])++[[.bool false]]:=List.map_append
   show r.Is _ 1 (brL _)
   rw [e3]
   exact hr)
 have l1:¬ c.toNat=106:=of_decide_eq_false hb1.symm
 refine sU<|sC ?_
 obtain ⟨b2,hb2⟩:∃ z:Bool,z=decide (c.toNat=107):=⟨_,rfl⟩
 refine sS (.bool b2) (Quiet.pure (exec_int .eql _ _ _ .u8 _ _ _ rfl rfl rfl (int_eql _ _ _ _ _ (by rw [hb2]; exact decide_eq_decide.2 (by omega)))))<|sp rfl ?_
 refine sG ?_
 cases b2
 case' true =>
  have l2:c.toNat=107:=of_decide_eq_true hb2.symm
  refine sT<|Sy.seq<|sC ?_
  refine sp rfl<|sS (.bool false) (Quiet.pure (exec_int .lss _ _ _ .i64 _ _ _ rfl rfl rfl (int_lss _ _ _ _ _ (decide_eq_false (by omega)))))<|sp rfl<|sp rfl<|sp rfl<|sS (.slice (some ⟨g2,0,none⟩) (m+1) cap) (qc 0 0 rfl rfl Tryz.underlying81)<|sp rfl<|sS (.pointer (some ⟨g2,0+m*1,none⟩)) (Quiet.pure (exec_at 81 4 _ _ g2 0 (m+1) cap m 1 .i64 rfl rfl rfl Tryz.underlying81 kF (by omega)))<|sS (.bool x) (Quiet.cell 1 g2 (0+m*1) 4 4 _ _ _ rfl rfl rfl Tryz.underlying4 rfl _ (by rw [show 0+m*1=m by omega]; exact get_mid _ _ _ _ e2))<|sP (.bool x) ?_
  refine sG ?_
  cases x
  case' true =>
   refine sT<|sC ?_
   refine sP (.bool false) ?_
   refine sG<|Sy.ret<|Sy.then_ret<|Sy.in_ret<|Sy.then_ret ?_
   exact Sy.retT1 (TKS g ⟨.slice (some ⟨g2,0,none⟩) (m+1) cap,[(g2,4,(d.map Value.bool++(Value.bool true::rr)).toArray)]⟩ T) rfl (.inl (show _=some (.bool false) by kernel_rfl)) (λw h=>h) (by
    have e:take (d++[true]) c=none:=by unfold take; rw [if_neg l1,if_pos l2,if_pos (.inr (by simp))]
    rw [e]
    exact ⟨rfl,_,rfl,λo' ho=>by cases ho⟩)
  refine sU<|Sy.skip<|Sy.then_<|Sy.region ?_
  refine sp rfl<|sp rfl<|sS (.slice (some ⟨g2,0,none⟩) (m+1) cap) (qc 0 0 rfl rfl Tryz.underlying81)<|sp rfl<|sS (.pointer (some ⟨g2,0+m*1,none⟩)) (Quiet.pure (exec_at 81 4 _ _ g2 0 (m+1) cap m 1 .i64 rfl rfl rfl Tryz.underlying81 kF (by omega))) ?_
  refine sw 1 rfl (d.map Value.bool++(Value.bool true::rr)).toArray (Writes.one (0+m*1) 4 (.bool true) _ _ rfl rfl rfl kR rfl rfl (by simp; omega) (by rw [show 0+m*1=m by omega]; exact set_mid _ _ _ _ _ e2)) ?_
  refine Sy.nil<|Sy.in_<|Sy.then_<|sC ?_
  refine sP (.bool true) ?_
  refine sG<|Sy.ret ?_
  exact Sy.retT1 (TKS g ⟨.slice (some ⟨g2,0,none⟩) (m+1) cap,[(g2,4,(d.map Value.bool++(Value.bool true::rr)).toArray)]⟩ T) rfl (.inl (show _=some (.bool true) by kernel_rfl)) (λw h=>h) (by
   have e:take (d++[false]) c=some (d++[true]):=by unfold take; rw [if_neg l1,if_pos l2,if_neg (by simp)]; simp
   rw [e]
   refine ⟨rfl,_,rfl,λo' ho=>?_⟩
   cases ho
   exact BrS.mk (sp:=rr) (by simp) (by simp [← hm]) (by omega) h2)
 have l2:¬ c.toNat=107:=of_decide_eq_false hb2.symm
 refine sU<|sC ?_
 obtain ⟨b3,hb3⟩:∃ z:Bool,z=decide (c.toNat=108):=⟨_,rfl⟩
 refine sS (.bool b3) (Quiet.pure (exec_int .eql _ _ _ .u8 _ _ _ rfl rfl rfl (int_eql _ _ _ _ _ (by rw [hb3]; exact decide_eq_decide.2 (by omega)))))<|sp rfl ?_
 refine sG ?_
 cases b3
 case' true =>
  have l3:c.toNat=108:=of_decide_eq_true hb3.symm
  refine sT<|Sy.seq<|sC ?_
  refine sp rfl<|sS (.bool false) (Quiet.pure (exec_int .lss _ _ _ .i64 _ _ _ rfl rfl rfl (int_lss _ _ _ _ _ (decide_eq_false (by omega))))) ?_
  refine sG<|sU<|Sy.skip<|Sy.then_<|Sy.region ?_
  refine sp rfl<|sp rfl<|sp rfl<|sS (.slice (some ⟨g2,0,none⟩) (m+1) cap) (qc 0 0 rfl rfl Tryz.underlying81)<|sp rfl<|sS (.slice (some ⟨g2,0,none⟩) m cap) (Quiet.pure (exec_upto 81 _ _ g2 0 (m+1) cap m 1 .i64 rfl rfl rfl Tryz.underlying81 kF (by omega)))<|sp rfl ?_
  refine sw 0 rfl #[.slice (some ⟨g2,0,none⟩) m cap] (Writes.one 0 81 (.slice (some ⟨g2,0,none⟩) m cap) _ _ rfl kR kR kR rfl rfl Nat.zero_lt_one kR) ?_
  refine Sy.nil<|Sy.in_<|Sy.then_<|sC ?_
  refine sP (.bool true) ?_
  refine sG<|Sy.ret ?_
  exact Sy.retT1 (TKS g ⟨.slice (some ⟨g2,0,none⟩) m cap,[(g2,4,(d.map Value.bool++(Value.bool x::rr)).toArray)]⟩ T) rfl (.inl (show _=some (.bool true) by kernel_rfl)) (λw h=>h) (by
   have e:take (d++[x]) c=some d:=by unfold take; rw [if_neg l1,if_neg l2,if_pos l3,if_neg (by simp)]; simp
   rw [e]
   refine ⟨rfl,_,rfl,λo' ho=>?_⟩
   cases ho
   exact BrS.mk (sp:=Value.bool x::rr) rfl hm.symm (by rw [List.length_cons]; omega) h2)
 have l3:¬ c.toNat=108:=of_decide_eq_false hb3.symm
 refine sU<|Sy.skip<|Sy.in_<|Sy.then_<|sC ?_
 refine sP (.bool true) ?_
 refine sG<|Sy.ret ?_
 exact Sy.retT1 (TKS g ⟨.slice (some ⟨g2,0,none⟩) (m+1) cap,[(g2,4,(d.map Value.bool++(Value.bool x::rr)).toArray)]⟩ T) rfl (.inl (show _=some (.bool true) by kernel_rfl)) (λw h=>h) (by
  rw [take_else l1 l2 l3]
  refine ⟨rfl,_,rfl,λo' ho=>?_⟩
  cases ho
  exact hy)
theorem take_any (w0:Base) (g:Nat) (y:Slc) (T:Blocks) (o:List Bool) (c:UInt8) (hy:BrS y o) (hl:o.length≤1000) (w:World) (hw:St w0 w (TKS g y T)):Calls Tryz.prog 36 #[ptr g,bv c] w (Turns w0 (TkR g T (take o c))):=by
 rcases List.eq_nil_or_concat o with rfl | ⟨d,x,rfl⟩
 ·exact take_nil w0 g y T c hy w hw
 ·rw [List.concat_eq_append] at hy hl ⊢
  exact take_snoc w0 g y T c d x hy (by rw [List.length_append] at hl; omega) w hw
end Pg
end
section
namespace Sy
open Go.RowKit
section
variable {P:Program} {w0:Base} {n:Nat} {Q:Exit→Act→World→Prop} {F:Slots} {L:Blocks}
end
section
variable {pre A B C D M N:Blocks}
end
end Sy
end
section
namespace Sy
open Go.RowKit
section
variable {r:Nat→Slc} {n i:Nat} {pre A B C D M N T:Blocks} {b b':Nat×TypeId×Array Value} {v:Value} {w0:Base} {w:World}
end
end Sy
end
section
namespace Sy
open Go.RowKit
section
variable {L M:Blocks} {w0:Base} {w:World}
theorem flat_perm {ls ms:List Blocks} (is:List Nat) (hi:is.isPerm (List.range ls.length)=true) (hm:is.map (λi=>ls[i]?)=ms.map some) (hL:L=ls.flatten) (hM:M=ms.flatten):L.Perm M:=by
 rw [hL,hM]
 exact (perm_at is hi hm).flatten
theorem St.parts {ls ms:List Blocks} (os:List Blocks) (is:List Nat) (hi:is.isPerm (List.range ls.length)=true) (hm:is.map (λi=>ls[i]?)=(ms++os).map some) (hL:L=ls.flatten) (hM:M=ms.flatten) (hw:St w0 w L):St w0 w M:=by
 have h1:L.Perm (M++os.flatten):=by
  rw [hL,hM, ← List.flatten_append]
  exact (perm_at is hi hm).flatten
 exact (hw.perm h1).less (List.sublist_append_left _ _)
end
section
variable {f:Nat→List Value} {s m k o:Nat} {sp:List Value}
end
section
variable {r:Nat→Slc} {n i:Nat} {pre M R D E:Blocks} {b:Nat×TypeId×Array Value} {v:Value} {w0:Base} {w:World}
end
end Sy
end
section
namespace Pg
open Go.RowKit Sy
set_option maxRecDepth 100000
set_option maxHeartbeats 4000000
open Wr
noncomputable def infOp:TypeInfo:=(Tryz.prog.info? 85).getD default
theorem info_op:Tryz.prog.info? 85=some infOp:=by kernel_rfl
def opL (xs:List (Value×Opn)):List (List Value):=xs.map λz=>[bv z.2.1,z.1]
theorem opL_len (xs:List (Value×Opn)):(opL xs).length=xs.length:=List.length_map _
structure OpsY (C:Rdr) (y:Slc) (xs:List (Value×Opn)):Prop where
 row:y.Is 85 2 (opL xs)
 byt:∀ z∈xs,BytR C z.1 z.2.2
theorem OpsY.nil (C:Rdr):OpsY C nilS []:=⟨Slc.Is.nil _ _,λ_ h=>by cases h⟩
theorem OpsY.add {C:Rdr} {y y':Slc} {xs:List (Value×Opn)} {c:UInt8} {v:Value} {b:Byt} (h:OpsY C y xs) (hy:y'.Is 85 2 (opL xs++[[bv c,v]])) (hv:BytR C v b):OpsY C y' (xs++[(v,(c,b))]):=by
 refine ⟨?_,λz hz=>?_⟩
 ·have e:opL (xs++[(v,(c,b))])=opL xs++[[bv c,v]]:=List.map_append
  rw [e]; exact hy
 ·rcases List.mem_append.1 hz with hz | hz
  ·exact h.byt z hz
  ·rw [List.mem_singleton.1 hz]; exact hv
def PaR (C:Rdr) (L:Blocks) (q:Nat×List Opn) (v:Value) (M:Blocks):Prop:=∃ y xs,v=.tuple #[y.v,.int .i64 ((q.1:Nat):Int)]∧M=L++y.bl∧OpsY C y xs∧q.2=xs.map (·.2)
theorem PaR.no {C:Rdr} {L:Blocks} {n:Nat}:PaR C L (n,[]) (.tuple #[.slice none 0 0,.int .i64 ((n:Nat):Int)]) L:=⟨nilS,[],rfl,(List.append_nil _).symm,OpsY.nil C,rfl⟩
theorem two_one {c:UInt8} {v:Value} (h:v.oneCell'=true):∀ u∈[bv c,v],u.oneCell'=true:=λu hu=>by
 rcases List.mem_cons.1 hu with rfl | hu
 ·rfl
 ·rw [List.mem_singleton.1 hu]; exact h
theorem take_len {o o':List Bool} {c:UInt8} (h:take o c=some o'):o'.length≤o.length+1:=by
 unfold take at h
 split at h
 ·cases h; simp
 ·split at h
  ·split at h
   ·cases h
   ·cases h; simp
  ·split at h
   ·split at h
    ·cases h
    ·cases h; simp; omega
   ·cases h; omega
structure PY where
 yo:Slc
 o:List Bool
 y:Slc
 xs:List (Value×Opn)
 v:Value
 p:Byt
structure PH (C:Rdr) (p0:Byt) (k:Nat) (z:PY):Prop where
 ho:BrS z.yo z.o
 hy:OpsY C z.y z.xs
 hv:BytR C z.v z.p
 e:par p0 []=fin (z.xs.map (·.2)) (par z.p z.o)
 n1:z.p.length+k≤p0.length
 n2:z.o.length≤k
 n3:z.xs.length≤k
theorem parse_any (w0:Base) (L R:Blocks) (v:Value) (p:Byt) (hR:∀ b∈R,b∈L) (hv:BytR (rdC w0 R) v p) (w:World) (hw:St w0 w L):Calls Tryz.prog 18 #[v] w (Turns w0 (PaR (rdC w0 R) L (parse p))):=by
 have hv0:=hv
 obtain ⟨A,n,cp,rfl,h2,h3,h4,h5⟩:=hv
 refine Sy.enterT (args:=[.slice A n cp]) hw Tryz.func18 rfl kL ?_
 have hmx:cp<9223372036854775808:=by simp only [maxLen] at h4; omega
 refine sC ?_
 refine sP (.slice none 0 0)<|sP (.int .i64 0) ?_
 refine sG<|Sy.seq<|sC ?_
 obtain ⟨b1,hb1⟩:∃ z:Bool,z=decide (256<n):=⟨_,rfl⟩
 refine sp rfl<|sP (.int .i64 (n:Int))<|sS (.bool b1) (Quiet.pure (exec_int .gtr _ _ _ .i64 _ _ _ rfl rfl rfl (int_gtr _ _ _ _ _ (by rw [hb1]; exact decide_eq_decide.2 (by omega))))) ?_
 refine sG ?_
 cases b1
 case' true =>
  have l1:256<n:=of_decide_eq_true hb1.symm
  refine sT<|sC ?_
  refine sP (.slice none 0 0)<|sP (.int .i64 130) ?_
  refine sG<|Sy.ret<|Sy.then_ret ?_
  have e:parse p=(130,[]):=by unfold parse; rw [if_pos (by omega)]
  rw [e]
  exact Sy.retT2 L rfl (.inl (show _=_ by kernel_rfl)) (.inl (show _=_ by kernel_rfl)) (λ_ h=>h) PaR.no
 have l1:¬ 256<n:=of_decide_eq_false hb1.symm
 have ep:parse p=par p []:=by unfold parse; rw [if_neg (by omega)]; rfl
 rw [ep]
 refine sU<|Sy.skip<|Sy.then_<|sC ?_
 refine sP (.slice none 0 0) ?_
 refine sG<|sC ?_
 refine sM 81 #[.slice none 0 0] (λgO=>?_)
 refine sG<|Sy.seq<|Sy.block ?_
 refine Sy.loopT (Y:=PY) n (λk z=>[(0,z.v),(4,z.y.v),(5,ptr gO)]) (λk z=>TKS gO z.yo (z.y.bl++L)) (PH (rdC w0 R) p) ⟨nilS,[],nilS,[],.slice A n cp,p⟩ ⟨Slc.Is.nil _ _,OpsY.nil _,hv0,by rw [List.map_nil]; exact (fin_nil _ _ _).symm,by simp,by simp,by simp⟩ (all_cons kR (all_cons kR (all_cons kR all_nil))) (λw h=>h.perm List.perm_append_comm) (λk0 z hk0 hz=>?_)
 obtain ⟨yo,o0,y,xs,v1,p1⟩:=z
 obtain ⟨ho,hy,hv1,he,n1,n2,n3⟩:=hz
 dsimp only at ho hy hv1 he n1 n2 n3 ⊢
 have hv2:=hv1
 obtain ⟨A1,m,cp1,rfl,q2,q3,q4,q5⟩:=hv1
 have hmx1:cp1<9223372036854775808:=by simp only [maxLen] at q4; omega
 refine Sy.seq<|sC ?_
 obtain ⟨b2,hb2⟩:∃ z:Bool,z=decide (0<m):=⟨_,rfl⟩
 refine sp rfl<|sP (.int .i64 (m:Int))<|sS (.bool b2) (Quiet.pure (exec_int .gtr _ _ _ .i64 _ _ _ rfl rfl rfl (int_gtr _ _ _ _ _ (by rw [hb2]; exact decide_eq_decide.2 (by omega))))) ?_
 refine sG ?_
 cases b2
 case' false =>
  have l2:¬ 0<m:=of_decide_eq_false hb2.symm
  obtain rfl:p1=[]:=List.eq_nil_of_length_eq_zero (by omega)
  refine sU<|Sy.exit<|Sy.then_exit<|Sy.then_exit<|Sy.in_exit<|Sy.then_<|Sy.seq<|sC ?_
  obtain ⟨b3,hb3⟩:∃ z:Bool,z=decide (0<o0.length):=⟨_,rfl⟩
  refine sS yo.v (qc 0 0 rfl rfl Tryz.underlying81)<|sS (.int .i64 ((o0.length:Nat):Int)) (Quiet.lenR ho (brL_len o0) _ Tryz.underlying81 rfl rfl)<|sS (.bool b3) (Quiet.pure (exec_int .gtr _ _ _ .i64 _ _ _ rfl rfl rfl (int_gtr _ _ _ _ _ (by rw [hb3]; exact decide_eq_decide.2 (by omega))))) ?_
  refine sG ?_
  cases b3
  case' true =>
   have l3:0<o0.length:=of_decide_eq_true hb3.symm
   refine sT<|sC ?_
   refine sP (.slice none 0 0)<|sP (.int .i64 135) ?_
   refine sG<|Sy.ret<|Sy.then_ret ?_
   have e:par p []=(135,[]):=by
    rw [he,par_nil,if_neg (by intro e; rw [e] at l3; simp at l3)]; rfl
   rw [e]
   exact Sy.retT2 L rfl (.inl (show _=_ by kernel_rfl)) (.inl (show _=_ by kernel_rfl)) (λw h=>(Sy.St.parts (ls:=[[(gO,81,#[yo.v])],yo.bl,y.bl,L]) (ms:=[L]) [[(gO,81,#[yo.v])],yo.bl,y.bl] [3,0,1,2] kR rfl (by simp) (by simp) h)) PaR.no
  have l3:¬ 0<o0.length:=of_decide_eq_false hb3.symm
  obtain rfl:o0=[]:=List.eq_nil_of_length_eq_zero (by omega)
  refine sU<|Sy.skip<|Sy.then_<|sC ?_
  refine sp rfl<|sp rfl<|sP (.int .i64 0) ?_
  refine sG<|Sy.ret ?_
  have e:par p []=(0,xs.map (·.2)):=by
   rw [he,par_nil,if_pos rfl]
   show (0,_++[])=_
   rw [List.append_nil]
  rw [e]
  exact Sy.retT2 (L++y.bl) rfl (.inl (show _=some y.v by kernel_rfl)) (.inl (show _=some (.int .i64 0) by kernel_rfl)) (λw h=>(Sy.St.parts (ls:=[[(gO,81,#[yo.v])],yo.bl,y.bl,L]) (ms:=[L,y.bl]) [[(gO,81,#[yo.v])],yo.bl] [3,2,0,1] kR rfl (by simp) (by simp) h)) ⟨y,xs,rfl,rfl,hy,rfl⟩
 have l2:0<m:=of_decide_eq_true hb2.symm
 obtain ⟨c,r,rfl⟩:∃ c r,p1=c::r:=by
  cases p1 with
  | nil=>simp at q2; omega
  | cons c r=>exact ⟨c,r,rfl⟩
 obtain ⟨g,o,rfl,hq⟩:=q5 (by simp)
 have hc0:rdC w0 R g (o+0*1) (bv c):=hq 0 c rfl
 have hr:r.length+1=m:=by rw [← q2]; rfl
 have hcl:=c.toNat_lt
 refine sT<|Sy.skip<|Sy.then_<|Sy.block<|sC ?_
 have RL:∀ b∈R,b∈TKS gO yo (y.bl++L):=λb hb=>List.mem_append_right _ (List.mem_append_right _ (List.mem_append_right _ (hR b hb)))
 refine sp rfl<|sS (.pointer (some ⟨g,o+0*1,none⟩)) (Quiet.pure (exec_at 39 5 _ _ g o m cp1 0 1 .i64 rfl rfl rfl Tryz.underlying39 kF l2))<|sS (bv c) (cellC (R:=R) hc0 RL rfl Tryz.underlying5) ?_
 rcases hf:follow c with _ | k
 case' none =>
  refine sS (.tuple #[.int .i64 0,.bool false]) (by
   have e:folV c=.tuple #[.int .i64 0,.bool false]:=by unfold folV; rw [hf]; rfl
   rw [← e]; exact qg (λw _=>follow_any w c))<|sp rfl<|sp rfl<|sp rfl<|sp rfl<|sp rfl ?_
  refine sG<|Sy.seq<|sC ?_
  refine sp rfl<|sP (.bool true)<|sp rfl<|sN<|sN<|sN<|sN<|sN<|sP (.bool true) ?_
  refine sG<|sT<|sC ?_
  refine sP (.slice none 0 0)<|sP (.int .i64 131) ?_
  refine sG<|Sy.ret<|Sy.then_ret<|Sy.in_ret<|Sy.then_ret<|Sy.in_ret<|Sy.then_ret ?_
  have e:par p []=(131,[]):=by rw [he,par_no hf]; rfl
  rw [e]
  exact Sy.retT2 L rfl (.inl (show _=_ by kernel_rfl)) (.inl (show _=_ by kernel_rfl)) (λw h=>(Sy.St.parts (ls:=[[(gO,81,#[yo.v])],yo.bl,y.bl,L]) (ms:=[L]) [[(gO,81,#[yo.v])],yo.bl,y.bl] [3,0,1,2] kR rfl (by simp) (by simp) h)) PaR.no
 have hk9:k≤255:=by
  unfold follow at hf
  split at hf
  ·cases hf; omega
  ·split at hf
   ·cases hf; omega
   ·split at hf
    ·cases hf; omega
    ·cases hf
 refine sS (.tuple #[.int .i64 (k:Int),.bool true]) (by
  have e:folV c=.tuple #[.int .i64 (k:Int),.bool true]:=by unfold folV; rw [hf]; rfl
  rw [← e]; exact qg (λw _=>follow_any w c))<|sp rfl<|sp rfl<|sp rfl<|sp rfl<|sp rfl ?_
 refine sG<|Sy.seq<|sC ?_
 obtain ⟨b4,hb4⟩:∃ z:Bool,z=decide (m<1+k):=⟨_,rfl⟩
 refine sp rfl<|sP (.bool false)<|sp rfl<|sp rfl<|sP (.int .i64 (m:Int))<|sp rfl<|sS (.int .i64 ((1+k:Nat):Int)) (Quiet.pure (exec_int .add _ _ _ .i64 _ _ _ rfl rfl rfl (int_add _ _ _ _ _ ((wrap_i64 (by omega) (by omega)).trans (by omega)))))<|sS (.bool b4) (Quiet.pure (exec_int .lss _ _ _ .i64 _ _ _ rfl rfl rfl (int_lss _ _ _ _ _ (by rw [hb4]; exact decide_eq_decide.2 (by omega)))))<|sP (.bool b4) ?_
 refine sG ?_
 cases b4
 case' true =>
  have l4:m<1+k:=of_decide_eq_true hb4.symm
  refine sT<|sC ?_
  refine sP (.slice none 0 0)<|sP (.int .i64 131) ?_
  refine sG<|Sy.ret<|Sy.then_ret<|Sy.in_ret<|Sy.then_ret<|Sy.in_ret<|Sy.then_ret ?_
  have e:par p []=(131,[]):=by rw [he,par_short hf (by omega)]; rfl
  rw [e]
  exact Sy.retT2 L rfl (.inl (show _=_ by kernel_rfl)) (.inl (show _=_ by kernel_rfl)) (λw h=>(Sy.St.parts (ls:=[[(gO,81,#[yo.v])],yo.bl,y.bl,L]) (ms:=[L]) [[(gO,81,#[yo.v])],yo.bl,y.bl] [3,0,1,2] kR rfl (by simp) (by simp) h)) PaR.no
 have l4:¬ m<1+k:=of_decide_eq_false hb4.symm
 refine sU<|Sy.skip<|Sy.then_<|Sy.seq ?_
 refine Sy.regionD (λj=>j == 9) kR ?_
 refine sa 0 rfl rfl<|sv 1 rfl (.pointer (some ⟨g,o+0*1,none⟩)) (exec_at 39 5 _ _ g o m cp1 0 1 .i64 rfl rfl rfl Tryz.underlying39 kF l2)<|sD 2 rfl (bv c) (cellC (R:=R) hc0 RL rfl Tryz.underlying5)<|sa 3 rfl rfl<|sa 4 rfl rfl<|sv 5 rfl (.int .i64 ((1+k:Nat):Int)) (exec_int .add _ _ _ .i64 _ _ _ rfl rfl rfl (int_add _ _ _ _ _ ((wrap_i64 (by omega) (by omega)).trans (by omega))))<|sv 6 rfl (sliced (some ⟨g,o,none⟩) 1 (1+k) cp1 1) (exec_slh _ _ _ (some ⟨g,o,none⟩) m cp1 1 (1+k) rfl rfl rfl rfl (by omega) (by omega))<|sb 7 rfl (.agg #[bv c,sliced (some ⟨g,o,none⟩) 1 (1+k) cp1 1]) ?_
 refine Sy.makeD 8 rfl kR kR 85 #[.int .u8 0,.slice none 0 0] ptr kF (λg8=>?_)
 refine Sy.movTD ?_
 refine sx 9 rfl 1 rfl #[bv c,sliced (some ⟨g,o,none⟩) 1 (1+k) cp1 1] (wA rfl) ?_
 refine Sy.setTD ?_
 refine sE ?_
 refine Sy.then_<|Sy.seq<|sC ?_
 refine sP (.pointer (some ⟨g8,0,none⟩))<|sS (bv c) (qc 1 0 rfl rfl Tryz.underlying5) ?_
 refine Sy.permS (M:=TKS gO yo ([(g8,85,#[bv c,sliced (some ⟨g,o,none⟩) 1 (1+k) cp1 1])]++(y.bl++L))) (Sy.flat_perm (ls:=[[(gO,81,#[yo.v])],[(g8,85,#[bv c,sliced (some ⟨g,o,none⟩) 1 (1+k) cp1 1])],yo.bl,y.bl,L]) (ms:=[[(gO,81,#[yo.v])],yo.bl,[(g8,85,#[bv c,sliced (some ⟨g,o,none⟩) 1 (1+k) cp1 1])],y.bl,L]) [0,2,1,3,4] kR rfl (by simp) (by simp)) ?_
 have ht9:=λw hw=>take_any w0.inn gO yo ([(g8,85,#[bv c,sliced (some ⟨g,o,none⟩) 1 (1+k) cp1 1])]++(y.bl++L)) o0 c ho (by omega) w hw
 rcases ht:take o0 c with _ | o1
 case' none =>
  rw [ht] at ht9
  refine Sy.callT ht9 (λv M hM=>?_)
  obtain ⟨rfl,yo1,rfl,_⟩:=hM
  refine sP (.bool true) ?_
  refine sG<|sT<|sC ?_
  refine sP (.slice none 0 0)<|sP (.int .i64 135) ?_
  refine sG<|Sy.ret<|Sy.then_ret<|Sy.in_ret<|Sy.then_ret<|Sy.in_ret<|Sy.then_ret ?_
  have e:par p []=(135,[]):=by rw [he,par_if hf (by omega) ht]; rfl
  rw [e]
  exact Sy.retT2 L rfl (.inl (show _=_ by kernel_rfl)) (.inl (show _=_ by kernel_rfl)) (λw h=>(Sy.St.parts (ls:=[[(gO,81,#[yo1.v])],yo1.bl,[(g8,85,#[bv c,sliced (some ⟨g,o,none⟩) 1 (1+k) cp1 1])],y.bl,L]) (ms:=[L]) [[(gO,81,#[yo1.v])],yo1.bl,[(g8,85,#[bv c,sliced (some ⟨g,o,none⟩) 1 (1+k) cp1 1])],y.bl] [4,0,1,2,3] kR rfl (by simp) (by simp) h)) PaR.no
 rw [ht] at ht9
 refine Sy.callT ht9 (λv M hM=>?_)
 obtain ⟨rfl,yo1,rfl,hyo⟩:=hM
 have hyo:=hyo o1 rfl
 refine sP (.bool false) ?_
 refine sG<|sU<|Sy.skip<|Sy.then_<|sC ?_
 refine Sy.permS (M:=[(gO,81,#[yo1.v]),(g8,85,#[bv c,sliced (some ⟨g,o,none⟩) 1 (1+k) cp1 1])]++(y.bl++(yo1.bl++L))) (Sy.flat_perm (ls:=[[(gO,81,#[yo1.v])],yo1.bl,[(g8,85,#[bv c,sliced (some ⟨g,o,none⟩) 1 (1+k) cp1 1])],y.bl,L]) (ms:=[[(gO,81,#[yo1.v])],[(g8,85,#[bv c,sliced (some ⟨g,o,none⟩) 1 (1+k) cp1 1])],y.bl,yo1.bl,L]) [0,2,3,1,4] kR rfl (by simp) (by simp)) ?_
 refine sp rfl<|sS (.agg #[bv c,sliced (some ⟨g,o,none⟩) 1 (1+k) cp1 1]) (qk 1 0 2 rfl rfl Tryz.underlying85) ?_
 have hsl:(sliced (some ⟨g,o,none⟩) 1 (1+k) cp1 1).oneCell'=true:=rfl
 refine Sy.make kR 85 #[bv c,sliced (some ⟨g,o,none⟩) 1 (1+k) cp1 1] (λg=>.slice (some ⟨g,0,none⟩) 1 1) (Makes.one 56 85 _ _ 2 _ [bv c,sliced (some ⟨g,o,none⟩) 1 (1+k) cp1 1] rfl kR Tryz.underlying56 info_op rfl rfl rfl (by decide) (by decide)) (λg9=>?_)
 refine Sy.movT ?_
 refine Sy.appendR kR 56 85 _ _ 2 32 Tryz.underlying56 info_op rfl rfl rfl rfl (by decide) _ _ rfl hy.row kR [bv c,sliced (some ⟨g,o,none⟩) 1 (1+k) cp1 1] rfl (two_one hsl) 2 g9 85 kR kR (by rw [opL_len]; omega) (by rw [opL_len]; simp only [maxLen]; omega) (λy1 hy1=>?_)
 refine sp rfl ?_
 refine sG<|Sy.region ?_
 refine sp rfl<|sp rfl<|sS (.int .i64 ((1+k:Nat):Int)) (Quiet.pure (exec_int .add _ _ _ .i64 _ _ _ rfl rfl rfl (int_add _ _ _ _ _ ((wrap_i64 (by omega) (by omega)).trans (by omega)))))<|sS (sliced (some ⟨g,o,none⟩) (1+k) m cp1 1) (Quiet.pure (exec_sl _ _ _ m cp1 (1+k) rfl rfl rfl (by omega)))<|sp rfl ?_
 refine Sy.nil<|Sy.in_ ?_
 have hb2':BytR (rdC w0 R) (sliced (some ⟨g,o,none⟩) 1 (1+k) cp1 1) (r.take k):=by
  have:=hv2.slice (l:=1) (m:=1+k) (by omega) (by omega)
  rwa [List.drop_succ_cons,List.drop_zero,show 1+k - 1=k by omega] at this
 have hb3':BytR (rdC w0 R) (sliced (some ⟨g,o,none⟩) (1+k) m cp1 1) (r.drop k):=by
  have:=hv2.drop (l:=1+k) (by omega)
  rwa [Nat.add_comm,List.drop_succ_cons,Nat.add_comm] at this
 rw [List.length_cons] at n1
 have n4:=take_len ht
 exact Sy.againT ⟨yo1,o1,y1,xs++[(sliced (some ⟨g,o,none⟩) 1 (1+k) cp1 1,(c,r.take k))],sliced (some ⟨g,o,none⟩) (1+k) m cp1 1,r.drop k⟩ (by omega) ⟨hyo,hy.add hy1 hb2',hb3',by
  rw [he,par_go hf (by omega) ht,fin_fin,List.map_append]; rfl,by show (r.drop k).length+_≤_; rw [List.length_drop]; omega,by show o1.length≤_; omega,by show (xs++[_]).length≤_; rw [List.length_append,List.length_singleton]; omega⟩ (all_cons kR (all_cons kR (all_cons kR all_nil))) (λw h=>(Sy.St.parts (ls:=[[(gO,81,#[yo1.v])],[(g8,85,#[bv c,sliced (some ⟨g,o,none⟩) 1 (1+k) cp1 1])],[(g9,85,#[bv c,sliced (some ⟨g,o,none⟩) 1 (1+k) cp1 1])],y1.bl,yo1.bl,L]) (ms:=[[(gO,81,#[yo1.v])],yo1.bl,y1.bl,L]) [[(g8,85,#[bv c,sliced (some ⟨g,o,none⟩) 1 (1+k) cp1 1])],[(g9,85,#[bv c,sliced (some ⟨g,o,none⟩) 1 (1+k) cp1 1])]] [0,4,3,5,1,2] kR rfl (by simp) (by simp) h))
end Pg
end
section
namespace Pg
open Go.RowKit Sy
set_option maxRecDepth 100000
set_option maxHeartbeats 4000000
open Wr
theorem int_shl8u (t:TypeId) (a:Nat) (ha:a<72057594037927936) (w:World):(binOp .shl t (.int .u64 (a:Int)) (.int .u64 8)).run Tryz.prog w=.ok (.int .u64 ((a*256:Nat):Int)) w:=int_shl8 t a ha w
theorem str_of {w:World} {A:Option Addr} {n cp:Nat} {b:Byt} (h:BytR (rdW w) (.slice A n cp) b):(convert 39 9 (.slice A n cp)).run Tryz.prog w=.ok (.string ⟨b.toArray⟩) w:=by
 obtain ⟨A',n',cp',e,h2,h3,h4,h5⟩:=h
 injection e with e1 e2 e3
 subst e1 e2 e3
 subst h2
 rcases b with _ | ⟨x,m⟩
 ·cases A with
  | none =>
   rw [show ([]:List UInt8).length=0 from rfl,run_convert_bytes_string w 39 9 5 none 0 cp Tryz.underlying39 Tryz.underlying5 Tryz.underlying9]
   rfl
  | some a=>exact run_convert_bytes_back w 39 9 5 a cp [] Tryz.underlying39 Tryz.underlying5 Tryz.underlying9 (λj hj=>absurd hj (Nat.not_lt_zero _))
 ·obtain ⟨g,o,rfl,hq⟩:=h5 (by simp)
  refine run_convert_bytes_back w 39 9 5 _ cp _ Tryz.underlying39 Tryz.underlying5 Tryz.underlying9 (λj hj=>?_)
  rw [addr_off]
  exact (hq j _ (List.getElem?_eq_getElem hj)).2
theorem strC {w0:Base} {F:Slots} {L:Blocks} {o:Oper} {v:Value} {b:Byt} (x:Operand) (ho:o.op=.convert 39 9 x) (hx:evF F x=v) (hv:∀ w,St w0 w L→BytR (rdW w) v b):Quiet Tryz.prog w0 F L o (.string ⟨b.toArray⟩):=λw hw=>by
 have q:=hv w hw
 obtain ⟨A,n,cp,rfl,_⟩:=hv w hw
 unfold Gives execOp
 simp only [ho,hx,Sem.run_bind,str_of q,Result.andThen_ok,Sem.run_pure]
 exact ⟨trivial,Gr.refl _⟩
theorem eql_str (w:World) (F:Slots) (o:Oper) (x y:Operand) (a b:List UInt8) {yt:TypeId} (ho:o.op=.binOp .eql 9 x y yt) (hx:evF F x=.string ⟨a.toArray⟩) (hy:evF F y=.string ⟨b.toArray⟩):(execOp (evF F) o).run Tryz.prog w=.ok (.value (.bool (decide (a=b)))) w:=by
 have h1:(eqGuard .eql 9 x y (.string ⟨a.toArray⟩) (.string ⟨b.toArray⟩)).run Tryz.prog w=.ok () w:=by go_simp
 have h2:(binOp .eql 9 (.string ⟨a.toArray⟩) (.string ⟨b.toArray⟩)).run Tryz.prog w=.ok (.bool (decide (a=b))) w:=by
  by_cases e:a=b <;> simp [go_sem,ByteArray.toList_eq,e]
 unfold execOp
 simp only [ho,hx,hy,Sem.run_bind,h1,h2,Result.andThen_ok,Sem.run_pure]
theorem tru_take {b:Byt} {i:Nat} {u:UInt8} (h:b[i]? = some u):tru (b.take (i+1))=(tru (b.take i) || u != 0):=by
 unfold tru
 rw [List.take_add_one,h,List.any_append]
 simp
theorem tru_pre {b:Byt} {i:Nat} (h:tru (b.take i)=true):tru b=true:=by
 unfold tru at h ⊢
 rw [← List.take_append_drop i b,List.any_append,h]; rfl
theorem truth_any (w:World) (v:Value) (b:Byt) (hv:BytR (rdW w) v b):Calls Tryz.prog 41 #[v] w (Gets w (.bool (tru b))):=by
 obtain ⟨A,n,cp,rfl,h2,h3,h4,h5⟩:=hv
 refine Sy.enter (args:=[.slice A n cp]) Tryz.func41 rfl kL ?_
 have hmx:cp<9223372036854775808:=by simp only [maxLen] at h4; omega
 refine sC ?_
 refine sP (.bool false) ?_
 refine sG<|Sy.seq<|sC ?_
 refine sp rfl<|sP (.int .i64 (n:Int))<|sP (.int .i64 0) ?_
 refine sG<|Sy.block ?_
 refine Sy.loopT (Y:=Unit) n (λi _=>[(5,.slice A n cp),(6,.int .i64 (n:Int)),(7,.int .i64 (i:Int))]) (λ_ _=>[]) (λi _=>tru (b.take i)=false) () rfl (all_cons kR (all_cons kR (all_cons kR all_nil))) (λ_ h=>h) (λi _ hi hy=>?_)
 refine sC ?_
 obtain ⟨b2,hb2⟩:∃ t_:Bool,t_=decide (i<n):=⟨_,rfl⟩
 refine sS (.bool b2) (Quiet.pure (exec_int .lss _ _ _ .i64 _ _ _ rfl rfl rfl (int_lss _ _ _ _ _ (by rw [hb2]; exact decide_eq_decide.2 (by omega))))) ?_
 refine sG<|Sy.seq ?_
 cases b2
 case' false =>
  have l2:¬ i<n:=of_decide_eq_false hb2.symm
  obtain rfl:i=n:=by omega
  rw [List.take_of_length_le (by omega)] at hy
  refine sU<|Sy.exit<|Sy.then_exit<|Sy.then_exit<|Sy.in_exit<|Sy.then_<|sC ?_
  refine sP (.bool false) ?_
  refine sG<|Sy.ret ?_
  rw [hy]
  exact rV (.bool false) rfl
 have l2:i<n:=of_decide_eq_true hb2.symm
 obtain ⟨u,hu⟩:∃ u,b[i]? = some u:=⟨_,List.getElem?_eq_getElem (by omega)⟩
 obtain ⟨g,o,rfl,hq⟩:=h5 (by intro e; rw [e] at hu; cases hu)
 have hu2:=u.toNat_lt
 refine sT<|Sy.skip<|Sy.then_<|Sy.seq<|Sy.block<|sC ?_
 refine sS (.pointer (some ⟨g,o+i*1,none⟩)) (Quiet.pure (exec_at 39 5 _ _ g o n cp i 1 .i64 rfl rfl rfl Tryz.underlying39 kF l2))<|sS (bv u) (Quiet.thereOne g (o+i*1) 5 _ _ rfl kR (hq i u hu).1 _ (by rw [Nat.mul_one]; exact (hq i u hu).2) Tryz.underlying5 rfl)<|sp rfl ?_
 refine sG<|sC ?_
 obtain ⟨b3,hb3⟩:∃ t_:Bool,t_=decide (u.toNat≠0):=⟨_,rfl⟩
 refine sp rfl<|sS (.bool b3) (Quiet.pure (exec_int .neq _ _ _ .u8 _ _ _ rfl rfl rfl (int_neq _ _ _ _ _ (by rw [hb3]; exact decide_eq_decide.2 (by omega))))) ?_
 refine sG ?_
 have e3:b3=(u != 0):=by
  rw [hb3]
  by_cases e:u=0
  ·subst e; rfl
  ·have:u.toNat≠0:=λh=>e (by rw [← UInt8.toNat_inj]; exact h)
   simp [e,this]
 have htk:=tru_take hu
 rw [hy,Bool.false_or, ← e3] at htk
 cases b3
 case' true =>
  refine sT<|sC ?_
  refine sP (.bool true) ?_
  refine sG<|Sy.ret<|Sy.in_ret<|Sy.then_ret<|Sy.then_ret<|Sy.in_ret<|Sy.then_ret ?_
  rw [tru_pre htk]
  exact rV (.bool true) rfl
 refine sU<|Sy.skip<|Sy.in_<|Sy.then_<|Sy.region ?_
 refine sS (.int .i64 ((i+1:Nat):Int)) (Quiet.pure (exec_int .add _ _ _ .i64 _ _ _ rfl rfl rfl (int_add _ _ _ _ _ ((wrap_i64 (by omega) (by omega)).trans (by omega)))))<|sp rfl ?_
 refine Sy.nil ?_
 exact Sy.againT () l2 htk (all_cons kR (all_cons kR (all_cons kR all_nil))) (λw h=>h)
theorem numb_any (w:World) (v:Value) (b:Byt) (h8:b.length≤8) (hv:BytR (rdW w) v b):Calls Tryz.prog 119 #[v] w (Gets w (.int .u64 ((said b:Nat):Int))):=by
 obtain ⟨A,n,cp,rfl,h2,h3,h4,h5⟩:=hv
 refine Sy.enter (args:=[.slice A n cp]) Tryz.func119 rfl kL ?_
 have hmx:cp<9223372036854775808:=by simp only [maxLen] at h4; omega
 refine sC ?_
 refine sP (.int .u64 0) ?_
 refine sA ?_
 refine sP (.int .u64 0) ?_
 refine sG<|Sy.seq<|sC ?_
 refine sp rfl<|sP (.int .i64 (n:Int))<|sP (.int .i64 0) ?_
 refine sG<|Sy.block ?_
 refine Sy.loopT (Y:=Nat) n (λi a=>[(3,.int .u64 (a:Int)),(6,.slice A n cp),(7,.int .i64 (n:Int)),(8,.int .i64 (i:Int))]) (λ_ _=>[]) (λi a=>a=said (b.take i)) 0 (by rw [List.take_zero]; rfl) (all_cons kR (all_cons kR (all_cons kR (all_cons kR all_nil)))) (λ_ h=>h) (λi a hi hy=>?_)
 refine sC ?_
 obtain ⟨b2,hb2⟩:∃ t_:Bool,t_=decide (i<n):=⟨_,rfl⟩
 refine sS (.bool b2) (Quiet.pure (exec_int .lss _ _ _ .i64 _ _ _ rfl rfl rfl (int_lss _ _ _ _ _ (by rw [hb2]; exact decide_eq_decide.2 (by omega))))) ?_
 refine sG<|Sy.seq ?_
 cases b2
 case' false =>
  have l2:¬ i<n:=of_decide_eq_false hb2.symm
  obtain rfl:i=n:=by omega
  rw [List.take_of_length_le (by omega)] at hy
  subst hy
  refine sU<|Sy.exit<|Sy.then_exit<|Sy.then_exit<|Sy.in_exit<|Sy.then_<|sC ?_
  refine sp rfl<|sp rfl ?_
  refine sG<|Sy.ret ?_
  exact rV (.int .u64 ((said b:Nat):Int)) rfl
 have l2:i<n:=of_decide_eq_true hb2.symm
 obtain ⟨u,hu⟩:∃ u,b[i]? = some u:=⟨_,List.getElem?_eq_getElem (by omega)⟩
 obtain ⟨g,o,rfl,hq⟩:=h5 (by intro e; rw [e] at hu; cases hu)
 have ha:a<72057594037927936:=by rw [hy]; exact said_lt8 b i (by omega)
 have hu2:=u.toNat_lt
 refine sT<|Sy.skip<|Sy.then_<|Sy.seq<|Sy.block<|sC ?_
 refine sS (.pointer (some ⟨g,o+i*1,none⟩)) (Quiet.pure (exec_at 39 5 _ _ g o n cp i 1 .i64 rfl rfl rfl Tryz.underlying39 kF l2))<|sS (bv u) (Quiet.thereOne g (o+i*1) 5 _ _ rfl kR (hq i u hu).1 _ (by rw [Nat.mul_one]; exact (hq i u hu).2) Tryz.underlying5 rfl)<|sp rfl ?_
 refine sG<|Sy.region ?_
 refine sp rfl<|sS (.int .u64 ((a*256:Nat):Int)) (Quiet.pure (exec_int .shl _ _ _ .u64 _ _ _ rfl rfl rfl (int_shl8u _ a ha)))<|sp rfl<|sS (.int .u64 ((u.toNat:Nat):Int)) (Quiet.pure (λw=>conv_86 w _ _ _ u rfl rfl))<|sS (.int .u64 ((256*a+u.toNat:Nat):Int)) (Quiet.pure (exec_int .or _ _ _ .u64 _ _ _ rfl rfl rfl (int_or8 _ a _ ha hu2)))<|sp rfl ?_
 refine Sy.nil<|Sy.in_<|Sy.then_<|Sy.region ?_
 refine sS (.int .i64 ((i+1:Nat):Int)) (Quiet.pure (exec_int .add _ _ _ .i64 _ _ _ rfl rfl rfl (int_add _ _ _ _ _ ((wrap_i64 (by omega) (by omega)).trans (by omega)))))<|sp rfl ?_
 refine Sy.nil ?_
 exact Sy.againT (256*a+u.toNat) l2 (by show 256*a+u.toNat=_; rw [hy,said_take b i u hu]) (all_cons kR (all_cons kR (all_cons kR (all_cons kR all_nil)))) (λw h=>h)
theorem bytes_equal (w:World) (v u:Value) (a b:Byt) (hv:BytR (rdW w) v a) (hu:BytR (rdW w) u b):Calls Tryz.prog 48 #[v,u] w (Gets w (.bool (decide (a=b)))):=by
 refine Sy.enter (args:=[v,u]) Tryz.func48 rfl kL ?_
 refine sC ?_
 refine sP (.bool false) ?_
 refine sA ?_
 refine sp rfl<|sS (.string ⟨a.toArray⟩) (strC _ rfl rfl (λw' hw=>hv.at hw))<|sp rfl<|sS (.string ⟨b.toArray⟩) (strC _ rfl rfl (λw' hw=>hu.at hw))<|sS (.bool (decide (a=b))) (Quiet.pure (λw=>eql_str w _ _ _ _ a b rfl rfl rfl))<|sp rfl ?_
 refine sG<|Sy.ret ?_
 exact rV (.bool (decide (a=b))) rfl
end Pg
end
section
namespace Pg
open Go.RowKit Sy
set_option maxRecDepth 100000
set_option maxHeartbeats 4000000
open Wr
def mcs (v:Value) (m:Byt) (h:Nat) (r:Value) (k:Nat):List Value:=v::(m.map bv++[.int .u64 ((h:Nat):Int),r,.int .i64 ((k:Nat):Int)])
section
variable {v r:Value} {m:Byt} {h k:Nat} (hm:m.length=32)
include hm
theorem mcs_len:(mcs v m h r k).length=36:=by simp [mcs,hm]
theorem mcs_h:((mcs v m h r k).toArray)[33]? = some (.int .u64 ((h:Nat):Int)):=get_mid (v::m.map bv) [r,.int .i64 ((k:Nat):Int)] _ 33 (by simp [hm])
theorem mcs_r:((mcs v m h r k).toArray)[34]? = some r:=by
 have:=get_mid (v::(m.map bv++[.int .u64 ((h:Nat):Int)])) [.int .i64 ((k:Nat):Int)] r 34 (by simp [hm])
 rw [← this]; simp [mcs]
theorem mcs_k:((mcs v m h r k).toArray)[35]? = some (.int .i64 ((k:Nat):Int)):=by
 have:=get_mid (v::(m.map bv++[.int .u64 ((h:Nat):Int),r])) [] (.int .i64 ((k:Nat):Int)) 35 (by simp [hm])
 rw [← this]; simp [mcs]
theorem mcs_setr (r':Value):((mcs v m h r k).toArray).setIfInBounds 34 r'=(mcs v m h r' k).toArray:=by
 have:=set_mid (v::(m.map bv++[.int .u64 ((h:Nat):Int)])) [.int .i64 ((k:Nat):Int)] r r' 34 (by simp [hm])
 simp [mcs] at this ⊢
 exact this
theorem mcs_setk (k':Nat):((mcs v m h r k).toArray).setIfInBounds 35 (.int .i64 ((k':Nat):Int))=(mcs v m h r k').toArray:=by
 have:=set_mid (v::(m.map bv++[.int .u64 ((h:Nat):Int),r])) [] (.int .i64 ((k:Nat):Int)) (.int .i64 ((k':Nat):Int)) 35 (by simp [hm])
 simp [mcs] at this ⊢
 exact this
end
abbrev MS (g:Nat) (s:Slc) (m:Byt) (h:Nat) (r:Value) (k:Nat) (T:Blocks):Blocks:=[(g,62,(mcs s.v m h r k).toArray)]++(s.bl++T)
def Arg (C D:Rdr) (la:Value) (l:List (Value×Byt)):Prop:=∃ A n cp,la=.slice A n cp∧l.length=n∧n≤cp∧cp≤maxLen∧(l≠[]→∃ g o,A=some ⟨g,o,none⟩∧∀ j z,l[j]? = some z→D g (o+j) z.1∧BytR C z.1 z.2)
structure StkY (C:Rdr) (y:Slc) (zs:List (Value×Byt)):Prop where
 row:y.Is 39 1 (zs.map λz=>[z.1])
 byt:∀ z∈zs,BytR C z.1 z.2
 sm:∀ z∈zs,z.2.length≤256
theorem StkY.nil (C:Rdr):StkY C nilS []:=⟨Slc.Is.nil _ _,λ_ h=>(by cases h),λ_ h=>(by cases h)⟩
theorem StkY.le {C D:Rdr} {y:Slc} {zs:List (Value×Byt)} (h:StkY C y zs) (hl:Le C D):StkY D y zs:=⟨h.row,λz hz=>(h.byt z hz).le hl,h.sm⟩
def EfR (E:Env) (x:Opn) (w0:Base) (g:Nat) (s:Slc) (m:Byt) (r:Value) (T:Blocks) (l:List Byt) (v:Value) (M:Blocks):Prop :=
 ∃ y N zs,v=.tuple #[y.v,.int .i64 (((does E x l).1:Nat):Int)]∧M=MS g s m E.h r (skp x l) (y.bl++(T++N))∧StkY (rdC w0 (T++N)) y zs∧zs.map (·.2)=(does E x l).2
def EfC (Tb:World→Prop) (E:Env) (m:Byt) (x:Opn) (fn:FuncId):Prop:=∀ (w0:Base) (g:Nat) (s:Slc) (r:Value) (T:Blocks) (la:Value) (l:List (Value×Byt)),Tb w0.world→okO x→(∀ z∈l,z.2.length≤256)→BytR (rdC w0 T) r x.2→l.length=needs x→Arg (rdC w0 T) (rdC w0 (s.bl++T)) la l →
 ∀ w,St w0 w (MS g s m E.h r 0 T)→Calls Tryz.prog fn #[ptr g,la] w (Turns w0 (EfR E x w0 g s m r T (l.map (·.2))))
theorem len2 {α:Type} {l:List α} (h:l.length=2):∃ a b,l=[a,b]:=by
 match l,h with
 | [a,b],_=>exact ⟨a,b,rfl⟩
theorem skp_yes {x:Opn} {z:Byt} (hx:x.1.toNat=106) (hb:tru z=true):skp x [z]=0:=by
 unfold skp
 rw [if_neg]
 rintro (h | ⟨_,h⟩)
 ·omega
 ·have h2:tru z=false:=h
  rw [hb] at h2; cases h2
theorem does_push {E:Env} {x:Opn} (l:List Byt) (h:x.1.toNat≤64):does E x l=(0,[x.2]):=by
 unfold does
 dsimp only
 split <;> first | omega | rfl
theorem skp_no {x:Opn} (l:List Byt) (h1:¬ x.1.toNat=107) (h2:¬ x.1.toNat=106):skp x l=0:=by unfold skp; rw [if_neg (by rintro (h | h); exact h1 h; exact h2 h.1)]
theorem EfR.none {E:Env} {x:Opn} {w0:Base} {g:Nat} {s:Slc} {m:Byt} {r:Value} {T:Blocks} {l:List Byt} {e k:Nat} (hd:does E x l=(e,[])) (hk:skp x l=k):EfR E x w0 g s m r T l (.tuple #[.slice none 0 0,.int .i64 ((e:Nat):Int)]) (MS g s m E.h r k T) :=
 ⟨nilS,[],[],by rw [hd]; rfl,by rw [hk]; show _=[_]++(s.bl++([]++(T++[]))); rw [List.append_nil,List.nil_append],StkY.nil _,by rw [hd]; rfl⟩
theorem StkY.one {C:Rdr} {g2:Nat} {v:Value} {b:Byt} (hb:BytR C v b) (hl:b.length≤256):StkY C ⟨.slice (some ⟨g2,0,Option.none⟩) 1 1,[(g2,39,#[v])]⟩ [(v,b)] :=
 ⟨Slc.Is.mk' (cs:=[v]) (λx hx=>by rw [List.mem_singleton.1 hx]; rfl) (λx hx u hu=>by rw [List.mem_singleton.1 hx] at hu; rw [List.mem_singleton.1 hu]; exact hb.cells.2) rfl rfl rfl (Nat.le_refl _) (by decide),λz hz=>by rw [List.mem_singleton.1 hz]; exact hb,λz hz=>by rw [List.mem_singleton.1 hz]; exact hl⟩
theorem StkY.two {C:Rdr} {g2:Nat} {v u:Value} {a b:Byt} (ha:BytR C v a) (hb:BytR C u b) (hla:a.length≤256) (hlb:b.length≤256):StkY C ⟨.slice (some ⟨g2,0,Option.none⟩) 2 2,[(g2,39,#[v,u])]⟩ [(v,a),(u,b)]:=by
 refine ⟨Slc.Is.mk' (cs:=[v,u]) (λx hx=>?_) (λx hx t ht=>?_) rfl rfl rfl (Nat.le_refl _) (by decide),λz hz=>?_,λz hz=>?_⟩
 ·rcases List.mem_cons.1 hx with rfl | hx
  ·rfl
  ·rw [List.mem_singleton.1 hx]; rfl
 ·rcases List.mem_cons.1 hx with rfl | hx
  ·rw [List.mem_singleton.1 ht]; exact ha.cells.2
  ·rw [List.mem_singleton.1 hx] at ht
   rw [List.mem_singleton.1 ht]; exact hb.cells.2
 ·rcases List.mem_cons.1 hz with rfl | hz
  ·exact ha
  ·rw [List.mem_singleton.1 hz]; exact hb
 ·rcases List.mem_cons.1 hz with rfl | hz
  ·exact hla
  ·rw [List.mem_singleton.1 hz]; exact hlb
theorem byt_blk {C:Rdr} {g n:Nat} {b:Byt} (hC:∀ j v,((b.map bv).toArray)[j]? = some v→C g j v) (hn:b.length=n) (hl:n≤1000000):BytR C (.slice (some ⟨g,0,Option.none⟩) n n) b :=
 ⟨_,_,_,rfl,hn,Nat.le_refl _,by simp only [maxLen]; omega,λ_=>⟨g,0,rfl,λj u hu=>by rw [Nat.zero_add]; exact hC j _ (by rw [List.getElem?_toArray,List.getElem?_map,hu]; rfl)⟩⟩
def RsR (L:Blocks) (b:Bool) (v:Value) (M:Blocks):Prop:=∃ g1 g2 n,v=.tuple #[.slice (some ⟨g2,0,Option.none⟩) 1 1,.int .i64 0]∧M=L++[(g1,5,((rS b).map bv).toArray),(g2,39,#[.slice (some ⟨g1,0,Option.none⟩) n n])]∧(rS b).length=n
theorem RsR.ef {E:Env} {x:Opn} {w0:Base} {g g1 g2 n:Nat} {s:Slc} {m:Byt} {r:Value} {T:Blocks} {l:List Byt} {b:Bool} (hd:does E x l=(0,[rS b])) (hk:skp x l=0) (hn:(rS b).length=n):EfR E x w0 g s m r T l (.tuple #[.slice (some ⟨g2,0,Option.none⟩) 1 1,.int .i64 0]) (MS g s m E.h r 0 ([(g2,39,#[.slice (some ⟨g1,0,Option.none⟩) n n])]++(T++[(g1,5,((rS b).map bv).toArray)]))) :=
 ⟨⟨.slice (some ⟨g2,0,Option.none⟩) 1 1,[(g2,39,#[.slice (some ⟨g1,0,Option.none⟩) n n])]⟩,[(g1,5,((rS b).map bv).toArray)],[(.slice (some ⟨g1,0,Option.none⟩) n n,rS b)],by rw [hd]; rfl,by rw [hk],
  StkY.one (byt_blk (λj v hv=>.inr ⟨_,_,List.mem_append_right _ (List.mem_singleton.2 rfl),hv⟩) hn (by rw [← hn]; cases b <;> decide)) (by cases b <;> decide),by rw [hd]; rfl⟩
theorem RsR.st {w0:Base} {w:World} {g g1 g2 n h k:Nat} {s:Slc} {m:Byt} {r:Value} {T:Blocks} {b:Bool} (hw:St w0 w (MS g s m h r k T++[(g1,5,((rS b).map bv).toArray),(g2,39,#[.slice (some ⟨g1,0,Option.none⟩) n n])])):St w0 w (MS g s m h r k ([(g2,39,#[.slice (some ⟨g1,0,Option.none⟩) n n])]++(T++[(g1,5,((rS b).map bv).toArray)]))):=hw.perm (Sy.flat_perm (ls:=[[(g,62,(mcs s.v m h r k).toArray)],s.bl,T,[(g1,5,((rS b).map bv).toArray)],[(g2,39,#[.slice (some ⟨g1,0,Option.none⟩) n n])]]) (ms:=[[(g,62,(mcs s.v m h r k).toArray)],s.bl,[(g2,39,#[.slice (some ⟨g1,0,Option.none⟩) n n])],T,[(g1,5,((rS b).map bv).toArray)]]) [0,1,4,2,3] kR rfl (by simp) (by simp))
theorem result_any (w0:Base) (L:Blocks) (b:Bool) (w:World) (hw:St w0 w L):Calls Tryz.prog 117 #[.bool b] w (Turns w0 (RsR L b)):=by
 refine Sy.enterT (args:=[.bool b]) hw Tryz.func117 rfl kL ?_
 refine sC ?_
 refine sP (.slice none 0 0)<|sP (.int .i64 0) ?_
 refine sG<|Sy.seq<|sC ?_
 refine sp rfl ?_
 refine sG ?_
 cases b
 case' true =>
  refine sT<|sC ?_
  refine Sy.make kR 5 #[.int .u8 1] (λg=>.slice (some ⟨g,0,Option.none⟩) 1 1) kF (λg1=>?_)
  refine Sy.make kR 39 #[.slice (some ⟨g1,0,Option.none⟩) 1 1] (λg=>.slice (some ⟨g,0,Option.none⟩) 1 1) kF (λg2=>?_)
  refine sp rfl<|sP (.int .i64 0) ?_
  refine sG<|Sy.ret<|Sy.then_ret ?_
  exact Sy.retT2 _ rfl (.inl (show _=some (.slice (some ⟨g2,0,Option.none⟩) 1 1) by kernel_rfl)) (.inl (show _=some (.int .i64 0) by kernel_rfl)) (λ_ h=>h) ⟨g1,g2,1,rfl,by rw [List.append_assoc]; rfl,rfl⟩
 refine sU<|Sy.skip<|Sy.then_<|sC ?_
 refine Sy.make kR 5 #[] (λg=>.slice (some ⟨g,0,Option.none⟩) 0 0) kF (λg1=>?_)
 refine Sy.make kR 39 #[.slice (some ⟨g1,0,Option.none⟩) 0 0] (λg=>.slice (some ⟨g,0,Option.none⟩) 1 1) kF (λg2=>?_)
 refine sp rfl<|sP (.int .i64 0) ?_
 refine sG<|Sy.ret ?_
 exact Sy.retT2 _ rfl (.inl (show _=some (.slice (some ⟨g2,0,Option.none⟩) 1 1) by kernel_rfl)) (.inl (show _=some (.int .i64 0) by kernel_rfl)) (λ_ h=>h) ⟨g1,g2,0,rfl,by rw [List.append_assoc]; rfl,rfl⟩
end Pg
end
section
namespace Pg
open Go.RowKit Sy
set_option maxRecDepth 100000
set_option maxHeartbeats 4000000
open Wr
theorem push_ef {Tb:World→Prop} (E:Env) (m:Byt) (hm:m.length=32) (x:Opn) (hx:x.1.toNat≤64):EfC Tb E m x 86:=by
 intro w0 g s r T la l hT hok hsm hr hl hla w hw
 rw [show needs x=0 by unfold needs; rw [if_pos hx]] at hl
 have mA:∀ b∈s.bl++T,b∈MS g s m E.h r 0 T:=λb hb=>List.mem_append_right _ hb
 have mT:∀ b∈T,b∈MS g s m E.h r 0 T:=λb hb=>List.mem_append_right _ (List.mem_append_right _ hb)
 obtain rfl:l=[]:=List.eq_nil_of_length_eq_zero hl
 refine Sy.enterT (args:=[ptr g,la]) hw Tryz.func86 rfl kL ?_
 refine sC ?_
 refine sP (.slice none 0 0)<|sP (.int .i64 0) ?_
 obtain ⟨rA,rn,rc,rfl,r2,r3,r4,r5⟩:=hr
 have hr':BytR (rdC w0 T) (.slice rA rn rc) x.2:=⟨_,_,_,rfl,r2,r3,r4,r5⟩
 refine sA ?_
 refine sp rfl<|sp rfl<|sP (.pointer (some ⟨g,34,Option.none⟩))<|sS (.slice rA rn rc) (Quiet.cell 0 g 34 62 39 _ _ _ rfl kR rfl Tryz.underlying39 rfl _ (mcs_r hm)) ?_
 refine Sy.make kR 39 #[.slice rA rn rc] (λg=>.slice (some ⟨g,0,Option.none⟩) 1 1) kF (λg2=>?_)
 refine sp rfl<|sP (.int .i64 0) ?_
 refine sG<|Sy.ret ?_
 have hr2:BytR (rdC w0 (T++[])) (.slice rA rn rc) x.2:=by rw [List.append_nil]; exact hr'
 exact Sy.retT2 (MS g s m E.h (.slice rA rn rc) 0 ([(g2,39,#[.slice rA rn rc])]++(T++[]))) rfl (.inl (show _=some (.slice (some ⟨g2,0,Option.none⟩) 1 1) by kernel_rfl)) (.inl (show _=some (.int .i64 0) by kernel_rfl)) (λ_ h=>h.perm (Sy.flat_perm (ls:=[[(g,62,(mcs s.v m E.h (.slice rA rn rc) 0).toArray)],s.bl,T,[(g2,39,#[.slice rA rn rc])]]) (ms:=[[(g,62,(mcs s.v m E.h (.slice rA rn rc) 0).toArray)],s.bl,[(g2,39,#[.slice rA rn rc])],T]) [0,1,3,2] kR rfl (by simp) (by simp)))
  ⟨⟨.slice (some ⟨g2,0,Option.none⟩) 1 1,[(g2,39,#[.slice rA rn rc])]⟩,[],[(.slice rA rn rc,x.2)],by rw [does_push _ hx]; rfl,by rw [skp_no _ (by omega) (by omega)],StkY.one hr2 (by
   have h1:okO x:=hok
   unfold okO follow at h1
   rw [if_pos hx] at h1
   have h2:=Option.some.inj h1
   show x.2.length≤256
   omega),by rw [does_push _ hx]; rfl⟩
theorem verify_ef {Tb:World→Prop} (E:Env) (m:Byt) (hm:m.length=32) (x:Opn) (hx:x.1.toNat=96):EfC Tb E m x 87:=by
 intro w0 g s r T la l hT hok hsm hr hl hla w hw
 rw [show needs x=1 by unfold needs; rw [hx]; rfl] at hl
 have mA:∀ b∈s.bl++T,b∈MS g s m E.h r 0 T:=λb hb=>List.mem_append_right _ hb
 have mT:∀ b∈T,b∈MS g s m E.h r 0 T:=λb hb=>List.mem_append_right _ (List.mem_append_right _ hb)
 obtain ⟨z,rfl⟩:=List.length_eq_one_iff.1 hl
 obtain ⟨A,n,cp,rfl,a1,a2,a3,a4⟩:=hla
 obtain ⟨ga,oa,rfl,aq⟩:=a4 (by simp)
 have hn:n=1:=a1.symm
 obtain ⟨c0,d0⟩:=aq 0 z rfl
 refine Sy.enterT (args:=[ptr g,.slice (some ⟨ga,oa,Option.none⟩) n cp]) hw Tryz.func87 rfl kL ?_
 refine sC ?_
 refine sP (.slice none 0 0)<|sP (.int .i64 0) ?_
 refine sG<|Sy.seq<|sC ?_
 obtain ⟨b,hb⟩:∃ b,b=tru z.2:=⟨_,rfl⟩
 refine sp rfl<|sS (.pointer (some ⟨ga,oa+0*1,Option.none⟩)) (Quiet.pure (exec_at 25 39 _ _ ga oa n cp 0 1 .i64 rfl rfl rfl Tryz.underlying25 kF (by omega)))<|sS z.1 (cellC (R:=s.bl++T) c0 mA rfl Tryz.underlying39)<|sS (.bool b) (by rw [hb]; exact qg (λw hw=>truth_any w z.1 z.2 (d0.le (rdC_world hw mT))))<|sP (.bool (!b)) ?_
 refine sG ?_
 cases b
 case' false =>
  refine sT<|sC ?_
  refine sP (.slice none 0 0)<|sP (.int .i64 134) ?_
  refine sG<|Sy.ret<|Sy.then_ret ?_
  exact Sy.retT2 _ rfl (.inl (show _=some (.slice none 0 0) by kernel_rfl)) (.inl (show _=some (.int .i64 134) by kernel_rfl)) (λ_ h=>h) (EfR.none (e:=134) (k:=0) (by unfold does; rw [hx]; show (if tru z.2 then _ else _)=_; rw [← hb]; rfl) (skp_no _ (by omega) (by omega)))
 refine sU<|Sy.skip<|Sy.then_<|sC ?_
 refine sP (.slice none 0 0)<|sP (.int .i64 0) ?_
 refine sG<|Sy.ret ?_
 exact Sy.retT2 _ rfl (.inl (show _=some (.slice none 0 0) by kernel_rfl)) (.inl (show _=some (.int .i64 0) by kernel_rfl)) (λ_ h=>h) (EfR.none (e:=0) (k:=0) (by unfold does; rw [hx]; show (if tru z.2 then _ else _)=_; rw [← hb]; rfl) (skp_no _ (by omega) (by omega)))
theorem not_ef {Tb:World→Prop} (E:Env) (m:Byt) (hm:m.length=32) (x:Opn) (hx:x.1.toNat=97):EfC Tb E m x 88:=by
 intro w0 g s r T la l hT hok hsm hr hl hla w hw
 rw [show needs x=1 by unfold needs; rw [hx]; rfl] at hl
 have mA:∀ b∈s.bl++T,b∈MS g s m E.h r 0 T:=λb hb=>List.mem_append_right _ hb
 have mT:∀ b∈T,b∈MS g s m E.h r 0 T:=λb hb=>List.mem_append_right _ (List.mem_append_right _ hb)
 obtain ⟨z,rfl⟩:=List.length_eq_one_iff.1 hl
 obtain ⟨A,n,cp,rfl,a1,a2,a3,a4⟩:=hla
 obtain ⟨ga,oa,rfl,aq⟩:=a4 (by simp)
 have hn:n=1:=a1.symm
 obtain ⟨c0,d0⟩:=aq 0 z rfl
 refine Sy.enterT (args:=[ptr g,.slice (some ⟨ga,oa,Option.none⟩) n cp]) hw Tryz.func88 rfl kL ?_
 refine sC ?_
 refine sP (.slice none 0 0)<|sP (.int .i64 0) ?_
 refine sA ?_
 refine sp rfl<|sS (.pointer (some ⟨ga,oa+0*1,Option.none⟩)) (Quiet.pure (exec_at 25 39 _ _ ga oa n cp 0 1 .i64 rfl rfl rfl Tryz.underlying25 kF (by omega)))<|sS z.1 (cellC (R:=s.bl++T) c0 mA rfl Tryz.underlying39)<|sS (.bool (tru z.2)) (qg (λw hw=>truth_any w z.1 z.2 (d0.le (rdC_world hw mT))))<|sP (.bool (!(tru z.2))) ?_
 refine Sy.callT (λw hw=>result_any w0.inn _ (!(tru z.2)) w hw) (λv M hM=>?_)
 obtain ⟨g1,g2,n1,rfl,rfl,hn1⟩:=hM
 refine sp rfl<|sp rfl<|sp rfl<|sp rfl ?_
 refine sG<|Sy.ret ?_
 exact Sy.retT2 _ rfl (.inl (show _=some (.slice (some ⟨g2,0,Option.none⟩) 1 1) by kernel_rfl)) (.inl (show _=some (.int .i64 0) by kernel_rfl)) (λ_ h=>RsR.st h) (RsR.ef (by unfold does; rw [hx]; rfl) (skp_no _ (by omega) (by omega)) hn1)
theorem equal_ef {Tb:World→Prop} (E:Env) (m:Byt) (hm:m.length=32) (x:Opn) (hx:x.1.toNat=98):EfC Tb E m x 89:=by
 intro w0 g s r T la l hT hok hsm hr hl hla w hw
 rw [show needs x=2 by unfold needs; rw [hx]; rfl] at hl
 have mA:∀ b∈s.bl++T,b∈MS g s m E.h r 0 T:=λb hb=>List.mem_append_right _ hb
 have mT:∀ b∈T,b∈MS g s m E.h r 0 T:=λb hb=>List.mem_append_right _ (List.mem_append_right _ hb)
 obtain ⟨z,y,rfl⟩:=len2 hl
 obtain ⟨A,n,cp,rfl,a1,a2,a3,a4⟩:=hla
 obtain ⟨ga,oa,rfl,aq⟩:=a4 (by simp)
 have hn:n=2:=a1.symm
 obtain ⟨c0,d0⟩:=aq 0 z rfl
 obtain ⟨c1,d1⟩:=aq 1 y rfl
 refine Sy.enterT (args:=[ptr g,.slice (some ⟨ga,oa,Option.none⟩) n cp]) hw Tryz.func89 rfl kL ?_
 refine sC ?_
 refine sP (.slice none 0 0)<|sP (.int .i64 0) ?_
 refine Sy.nil<|Sy.then_<|Sy.seq ?_
 refine Sy.regionD (λj=>j == 7) kR ?_
 refine sa 0 rfl rfl<|sv 1 rfl (.pointer (some ⟨ga,oa+0*1,Option.none⟩)) (exec_at 25 39 _ _ ga oa n cp 0 1 .i64 rfl rfl rfl Tryz.underlying25 kF (by omega))<|se 2 [6,7,8,9,10,11] rfl z.1 (cellC (R:=s.bl++T) c0 mA rfl Tryz.underlying39)<|sa 3 rfl rfl<|sv 4 rfl (.pointer (some ⟨ga,oa+1*1,Option.none⟩)) (exec_at 25 39 _ _ ga oa n cp 1 1 .i64 rfl rfl rfl Tryz.underlying25 kF (by omega))<|se 5 [6,7,8,9,10,11] rfl y.1 (cellC (R:=s.bl++T) c1 mA rfl Tryz.underlying39)<|sD 6 rfl (.bool (decide (z.2=y.2))) (qg (λw hw=>bytes_equal w z.1 y.1 z.2 y.2 (d0.le (rdC_world hw mT)) (d1.le (rdC_world hw mT)))) ?_
 refine Sy.soleD 7 rfl (λQ2 hq2=>?_)
 refine Sy.callT (λw hw=>result_any w0.inn _ (decide (z.2=y.2)) w hw) (λv M hM=>?_)
 obtain ⟨g1,g2,n1,rfl,rfl,hn1⟩:=hM
 refine hq2 _ _ ?_
 refine sa 8 rfl rfl<|sa 9 rfl rfl<|sa 10 rfl rfl<|sa 11 rfl rfl ?_
 refine sI ?_
 refine Sy.ret ?_
 exact Sy.retT2 _ rfl (.inl (show _=some (.slice (some ⟨g2,0,Option.none⟩) 1 1) by kernel_rfl)) (.inl (show _=some (.int .i64 0) by kernel_rfl)) (λ_ h=>RsR.st h) (RsR.ef (by unfold does; rw [hx]; rfl) (skp_no _ (by omega) (by omega)) hn1)
theorem dup_ef {Tb:World→Prop} (E:Env) (m:Byt) (hm:m.length=32) (x:Opn) (hx:x.1.toNat=99):EfC Tb E m x 90:=by
 intro w0 g s r T la l hT hok hsm hr hl hla w hw
 rw [show needs x=1 by unfold needs; rw [hx]; rfl] at hl
 have mA:∀ b∈s.bl++T,b∈MS g s m E.h r 0 T:=λb hb=>List.mem_append_right _ hb
 have mT:∀ b∈T,b∈MS g s m E.h r 0 T:=λb hb=>List.mem_append_right _ (List.mem_append_right _ hb)
 obtain ⟨z,rfl⟩:=List.length_eq_one_iff.1 hl
 obtain ⟨A,n,cp,rfl,a1,a2,a3,a4⟩:=hla
 obtain ⟨ga,oa,rfl,aq⟩:=a4 (by simp)
 have hn:n=1:=a1.symm
 obtain ⟨c0,d0⟩:=aq 0 z rfl
 refine Sy.enterT (args:=[ptr g,.slice (some ⟨ga,oa,Option.none⟩) n cp]) hw Tryz.func90 rfl kL ?_
 refine sC ?_
 refine sP (.slice none 0 0)<|sP (.int .i64 0) ?_
 obtain ⟨zA,zn,zc,ez,z2,z3,z4,z5⟩:=d0
 have d0:BytR (rdC w0 T) z.1 z.2:=⟨zA,zn,zc,ez,z2,z3,z4,z5⟩
 refine Sy.nil<|Sy.then_<|Sy.seq ?_
 refine Sy.regionD (λ_=>false) kR ?_
 refine sa 0 rfl rfl<|sv 1 rfl (.pointer (some ⟨ga,oa+0*1,Option.none⟩)) (exec_at 25 39 _ _ ga oa n cp 0 1 .i64 rfl rfl rfl Tryz.underlying25 kF (by omega))<|sD 2 rfl (.slice zA zn zc) (by rw [← ez]; exact cellC (R:=s.bl++T) c0 mA rfl Tryz.underlying39)<|sa 3 rfl rfl<|sv 4 rfl (.pointer (some ⟨ga,oa+0*1,Option.none⟩)) (exec_at 25 39 _ _ ga oa n cp 0 1 .i64 rfl rfl rfl Tryz.underlying25 kF (by omega))<|sD 5 rfl (.slice zA zn zc) (by rw [← ez]; exact cellC (R:=s.bl++T) c0 mA rfl Tryz.underlying39) ?_
 refine Sy.makeD 6 rfl kR kR 39 #[.slice zA zn zc,.slice zA zn zc] (λg=>.slice (some ⟨g,0,Option.none⟩) 2 2) kF (λg2=>?_)
 refine sz 7 rfl rfl<|sZ 8 rfl (.int .i64 0) ?_
 refine sI ?_
 refine Sy.ret ?_
 have e1:BytR (rdC w0 (T++[])) (.slice zA zn zc) z.2:=by rw [List.append_nil, ← ez]; exact d0
 have e2:BytR (rdC w0 (T++[])) (.slice zA zn zc) z.2:=by rw [List.append_nil, ← ez]; exact d0
 exact Sy.retT2 (MS g s m E.h r 0 ([(g2,39,#[.slice zA zn zc,.slice zA zn zc])]++(T++[]))) rfl (.inl (show _=some (.slice (some ⟨g2,0,Option.none⟩) 2 2) by kernel_rfl)) (.inl (show _=some (.int .i64 0) by kernel_rfl)) (λ_ h=>h.perm (Sy.flat_perm (ls:=[[(g,62,(mcs s.v m E.h r 0).toArray)],s.bl,T,[(g2,39,#[.slice zA zn zc,.slice zA zn zc])]]) (ms:=[[(g,62,(mcs s.v m E.h r 0).toArray)],s.bl,[(g2,39,#[.slice zA zn zc,.slice zA zn zc])],T]) [0,1,3,2] kR rfl (by simp) (by simp)))
  ⟨⟨.slice (some ⟨g2,0,Option.none⟩) 2 2,[(g2,39,#[.slice zA zn zc,.slice zA zn zc])]⟩,[],[(.slice zA zn zc,z.2),(.slice zA zn zc,z.2)],by rw [show does E x _=(0,[z.2,z.2]) by unfold does; rw [hx]; rfl]; rfl,by rw [skp_no _ (by omega) (by omega)],StkY.two e1 e2 (hsm _ (by simp)) (hsm _ (by simp)),by rw [show does E x _=(0,[z.2,z.2]) by unfold does; rw [hx]; rfl]; rfl⟩
theorem drop_ef {Tb:World→Prop} (E:Env) (m:Byt) (hm:m.length=32) (x:Opn) (hx:x.1.toNat=100):EfC Tb E m x 91:=by
 intro w0 g s r T la l hT hok hsm hr hl hla w hw
 rw [show needs x=1 by unfold needs; rw [hx]; rfl] at hl
 have mA:∀ b∈s.bl++T,b∈MS g s m E.h r 0 T:=λb hb=>List.mem_append_right _ hb
 have mT:∀ b∈T,b∈MS g s m E.h r 0 T:=λb hb=>List.mem_append_right _ (List.mem_append_right _ hb)
 obtain ⟨z,rfl⟩:=List.length_eq_one_iff.1 hl
 obtain ⟨A,n,cp,rfl,a1,a2,a3,a4⟩:=hla
 obtain ⟨ga,oa,rfl,aq⟩:=a4 (by simp)
 have hn:n=1:=a1.symm
 obtain ⟨c0,d0⟩:=aq 0 z rfl
 refine Sy.enterT (args:=[ptr g,.slice (some ⟨ga,oa,Option.none⟩) n cp]) hw Tryz.func91 rfl kL ?_
 refine sC ?_
 refine sP (.slice none 0 0)<|sP (.int .i64 0) ?_
 refine sA ?_
 refine sP (.slice none 0 0)<|sP (.int .i64 0) ?_
 refine sG<|Sy.ret ?_
 exact Sy.retT2 _ rfl (.inl (show _=some (.slice none 0 0) by kernel_rfl)) (.inl (show _=some (.int .i64 0) by kernel_rfl)) (λ_ h=>h) (EfR.none (e:=0) (k:=0) (by unfold does; rw [hx]; rfl) (skp_no _ (by omega) (by omega)))
theorem swap_ef {Tb:World→Prop} (E:Env) (m:Byt) (hm:m.length=32) (x:Opn) (hx:x.1.toNat=101):EfC Tb E m x 92:=by
 intro w0 g s r T la l hT hok hsm hr hl hla w hw
 rw [show needs x=2 by unfold needs; rw [hx]; rfl] at hl
 have mA:∀ b∈s.bl++T,b∈MS g s m E.h r 0 T:=λb hb=>List.mem_append_right _ hb
 have mT:∀ b∈T,b∈MS g s m E.h r 0 T:=λb hb=>List.mem_append_right _ (List.mem_append_right _ hb)
 obtain ⟨z,y,rfl⟩:=len2 hl
 obtain ⟨A,n,cp,rfl,a1,a2,a3,a4⟩:=hla
 obtain ⟨ga,oa,rfl,aq⟩:=a4 (by simp)
 have hn:n=2:=a1.symm
 obtain ⟨c0,d0⟩:=aq 0 z rfl
 obtain ⟨c1,d1⟩:=aq 1 y rfl
 refine Sy.enterT (args:=[ptr g,.slice (some ⟨ga,oa,Option.none⟩) n cp]) hw Tryz.func92 rfl kL ?_
 refine sC ?_
 refine sP (.slice none 0 0)<|sP (.int .i64 0) ?_
 obtain ⟨zA,zn,zc,ez,z2,z3,z4,z5⟩:=d0
 have d0:BytR (rdC w0 T) z.1 z.2:=⟨zA,zn,zc,ez,z2,z3,z4,z5⟩
 obtain ⟨yA,yn,yc,ey,y2,y3,y4,y5⟩:=d1
 have d1:BytR (rdC w0 T) y.1 y.2:=⟨yA,yn,yc,ey,y2,y3,y4,y5⟩
 refine Sy.nil<|Sy.then_<|Sy.seq ?_
 refine Sy.regionD (λ_=>false) kR ?_
 refine sa 0 rfl rfl<|sv 1 rfl (.pointer (some ⟨ga,oa+1*1,Option.none⟩)) (exec_at 25 39 _ _ ga oa n cp 1 1 .i64 rfl rfl rfl Tryz.underlying25 kF (by omega))<|sD 2 rfl (.slice yA yn yc) (by rw [← ey]; exact cellC (R:=s.bl++T) c1 mA rfl Tryz.underlying39)<|sa 3 rfl rfl<|sv 4 rfl (.pointer (some ⟨ga,oa+0*1,Option.none⟩)) (exec_at 25 39 _ _ ga oa n cp 0 1 .i64 rfl rfl rfl Tryz.underlying25 kF (by omega))<|sD 5 rfl (.slice zA zn zc) (by rw [← ez]; exact cellC (R:=s.bl++T) c0 mA rfl Tryz.underlying39) ?_
 refine Sy.makeD 6 rfl kR kR 39 #[.slice yA yn yc,.slice zA zn zc] (λg=>.slice (some ⟨g,0,Option.none⟩) 2 2) kF (λg2=>?_)
 refine sz 7 rfl rfl<|sZ 8 rfl (.int .i64 0) ?_
 refine sI ?_
 refine Sy.ret ?_
 have e1:BytR (rdC w0 (T++[])) (.slice yA yn yc) y.2:=by rw [List.append_nil, ← ey]; exact d1
 have e2:BytR (rdC w0 (T++[])) (.slice zA zn zc) z.2:=by rw [List.append_nil, ← ez]; exact d0
 exact Sy.retT2 (MS g s m E.h r 0 ([(g2,39,#[.slice yA yn yc,.slice zA zn zc])]++(T++[]))) rfl (.inl (show _=some (.slice (some ⟨g2,0,Option.none⟩) 2 2) by kernel_rfl)) (.inl (show _=some (.int .i64 0) by kernel_rfl)) (λ_ h=>h.perm (Sy.flat_perm (ls:=[[(g,62,(mcs s.v m E.h r 0).toArray)],s.bl,T,[(g2,39,#[.slice yA yn yc,.slice zA zn zc])]]) (ms:=[[(g,62,(mcs s.v m E.h r 0).toArray)],s.bl,[(g2,39,#[.slice yA yn yc,.slice zA zn zc])],T]) [0,1,3,2] kR rfl (by simp) (by simp)))
  ⟨⟨.slice (some ⟨g2,0,Option.none⟩) 2 2,[(g2,39,#[.slice yA yn yc,.slice zA zn zc])]⟩,[],[(.slice yA yn yc,y.2),(.slice zA zn zc,z.2)],by rw [show does E x _=(0,[y.2,z.2]) by unfold does; rw [hx]; rfl]; rfl,by rw [skp_no _ (by omega) (by omega)],StkY.two e1 e2 (hsm _ (by simp)) (hsm _ (by simp)),by rw [show does E x _=(0,[y.2,z.2]) by unfold does; rw [hx]; rfl]; rfl⟩
theorem after_ef {Tb:World→Prop} (E:Env) (m:Byt) (hm:m.length=32) (x:Opn) (hx:x.1.toNat=105):EfC Tb E m x 96:=by
 intro w0 g s r T la l hT hok hsm hr hl hla w hw
 rw [show needs x=1 by unfold needs; rw [hx]; rfl] at hl
 have mA:∀ b∈s.bl++T,b∈MS g s m E.h r 0 T:=λb hb=>List.mem_append_right _ hb
 have mT:∀ b∈T,b∈MS g s m E.h r 0 T:=λb hb=>List.mem_append_right _ (List.mem_append_right _ hb)
 obtain ⟨z,rfl⟩:=List.length_eq_one_iff.1 hl
 obtain ⟨A,n,cp,rfl,a1,a2,a3,a4⟩:=hla
 obtain ⟨ga,oa,rfl,aq⟩:=a4 (by simp)
 have hn:n=1:=a1.symm
 obtain ⟨c0,d0⟩:=aq 0 z rfl
 refine Sy.enterT (args:=[ptr g,.slice (some ⟨ga,oa,Option.none⟩) n cp]) hw Tryz.func96 rfl kL ?_
 refine sC ?_
 refine sP (.slice none 0 0)<|sP (.int .i64 0) ?_
 refine sG<|Sy.seq<|Sy.seq ?_
 refine Sy.regionD (λ_=>false) kR ?_
 obtain ⟨zA,zn,zc,ez,z2,z3,z4,z5⟩:=d0
 have d0:BytR (rdC w0 T) z.1 z.2:=⟨zA,zn,zc,ez,z2,z3,z4,z5⟩
 have hzm:zc<9223372036854775808:=by simp only [maxLen] at z4; omega
 obtain ⟨b1,hb1⟩:∃ t_:Bool,t_=decide (8<zn):=⟨_,rfl⟩
 refine sa 0 rfl rfl<|sv 1 rfl (.pointer (some ⟨ga,oa+0*1,Option.none⟩)) (exec_at 25 39 _ _ ga oa n cp 0 1 .i64 rfl rfl rfl Tryz.underlying25 kF (by omega))<|sD 2 rfl (.slice zA zn zc) (by rw [← ez]; exact cellC (R:=s.bl++T) c0 mA rfl Tryz.underlying39)<|sb 3 rfl (.int .i64 (zn:Int))<|sv 4 rfl (.bool b1) (exec_int .gtr _ _ _ .i64 _ _ _ rfl rfl rfl (int_gtr _ _ _ _ _ (by rw [hb1]; exact decide_eq_decide.2 (by omega))))<|sa 5 rfl rfl ?_
 cases b1
 case' true =>
  have l1:8<zn:=of_decide_eq_true hb1.symm
  refine sQ 6 rfl<|sQ 7 rfl<|sQ 8 rfl<|sQ 9 rfl<|sQ 10 rfl<|sQ 11 rfl<|sQ 12 rfl<|sQ 13 rfl<|sQ 14 rfl<|sZ 15 rfl (.bool true) ?_
  refine sI ?_
  refine sT<|sC ?_
  refine sP (.slice none 0 0)<|sP (.int .i64 136) ?_
  refine sG<|Sy.ret<|Sy.then_ret ?_
  exact Sy.retT2 _ rfl (.inl (show _=some (.slice none 0 0) by kernel_rfl)) (.inl (show _=some (.int .i64 136) by kernel_rfl)) (λ_ h=>h) (EfR.none (e:=136) (k:=0) (by unfold does; rw [hx]; show (if 8<z.2.length∨E.h<said z.2 then _ else _)=_; rw [if_pos (.inl (by omega))]) (skp_no _ (by omega) (by omega)))
 have l1:¬ 8<zn:=of_decide_eq_false hb1.symm
 obtain ⟨b2,hb2⟩:∃ t_:Bool,t_=decide (E.h<said z.2):=⟨_,rfl⟩
 refine sa 6 rfl rfl<|sa 7 rfl rfl<|sb 8 rfl (.pointer (some ⟨g,33,Option.none⟩))<|sD 9 rfl (.int .u64 ((E.h:Nat):Int)) (Quiet.cell 0 g 33 62 28 _ _ _ rfl kR rfl Tryz.underlying28 rfl _ (mcs_h hm))<|sa 10 rfl rfl<|sv 11 rfl (.pointer (some ⟨ga,oa+0*1,Option.none⟩)) (exec_at 25 39 _ _ ga oa n cp 0 1 .i64 rfl rfl rfl Tryz.underlying25 kF (by omega))<|sD 12 rfl (.slice zA zn zc) (by rw [← ez]; exact cellC (R:=s.bl++T) c0 mA rfl Tryz.underlying39)<|sD 13 rfl (.int .u64 ((said z.2:Nat):Int)) (by rw [← ez]; exact qg (args:=#[z.1]) (λw hw=>numb_any w z.1 z.2 (by omega) (d0.le (rdC_world hw mT))) (λ_=>by rw [ez]; kernel_rfl))<|sv 14 rfl (.bool b2) (exec_int .lss _ _ _ .u64 _ _ _ rfl rfl rfl (int_lss _ _ _ _ _ (by rw [hb2]; exact decide_eq_decide.2 (by omega))))<|sZ 15 rfl (.bool b2) ?_
 refine sI ?_
 cases b2
 case' true =>
  have l2:E.h<said z.2:=of_decide_eq_true hb2.symm
  refine sT<|sC ?_
  refine sP (.slice none 0 0)<|sP (.int .i64 136) ?_
  refine sG<|Sy.ret<|Sy.then_ret ?_
  exact Sy.retT2 _ rfl (.inl (show _=some (.slice none 0 0) by kernel_rfl)) (.inl (show _=some (.int .i64 136) by kernel_rfl)) (λ_ h=>h) (EfR.none (e:=136) (k:=0) (by unfold does; rw [hx]; show (if 8<z.2.length∨E.h<said z.2 then _ else _)=_; rw [if_pos (.inr l2)]) (skp_no _ (by omega) (by omega)))
 have l2:¬ E.h<said z.2:=of_decide_eq_false hb2.symm
 refine sU<|Sy.skip<|Sy.then_<|sC ?_
 refine sP (.slice none 0 0)<|sP (.int .i64 0) ?_
 refine sG<|Sy.ret ?_
 exact Sy.retT2 _ rfl (.inl (show _=some (.slice none 0 0) by kernel_rfl)) (.inl (show _=some (.int .i64 0) by kernel_rfl)) (λ_ h=>h) (EfR.none (e:=0) (k:=0) (by unfold does; rw [hx]; show (if 8<z.2.length∨E.h<said z.2 then _ else _)=_; rw [if_neg (by rintro (h | h) <;> omega)]) (skp_no _ (by omega) (by omega)))
theorem branch_ef {Tb:World→Prop} (E:Env) (m:Byt) (hm:m.length=32) (x:Opn) (hx:x.1.toNat=106):EfC Tb E m x 97:=by
 intro w0 g s r T la l hT hok hsm hr hl hla w hw
 rw [show needs x=1 by unfold needs; rw [hx]; rfl] at hl
 have mA:∀ b∈s.bl++T,b∈MS g s m E.h r 0 T:=λb hb=>List.mem_append_right _ hb
 have mT:∀ b∈T,b∈MS g s m E.h r 0 T:=λb hb=>List.mem_append_right _ (List.mem_append_right _ hb)
 obtain ⟨z,rfl⟩:=List.length_eq_one_iff.1 hl
 obtain ⟨A,n,cp,rfl,a1,a2,a3,a4⟩:=hla
 obtain ⟨ga,oa,rfl,aq⟩:=a4 (by simp)
 have hn:n=1:=a1.symm
 obtain ⟨c0,d0⟩:=aq 0 z rfl
 refine Sy.enterT (args:=[ptr g,.slice (some ⟨ga,oa,Option.none⟩) n cp]) hw Tryz.func97 rfl kL ?_
 refine sC ?_
 refine sP (.slice none 0 0)<|sP (.int .i64 0) ?_
 refine sG<|Sy.seq<|sC ?_
 obtain ⟨b,hb⟩:∃ b,b=tru z.2:=⟨_,rfl⟩
 refine sp rfl<|sS (.pointer (some ⟨ga,oa+0*1,Option.none⟩)) (Quiet.pure (exec_at 25 39 _ _ ga oa n cp 0 1 .i64 rfl rfl rfl Tryz.underlying25 kF (by omega)))<|sS z.1 (cellC (R:=s.bl++T) c0 mA rfl Tryz.underlying39)<|sS (.bool b) (by rw [hb]; exact qg (λw hw=>truth_any w z.1 z.2 (d0.le (rdC_world hw mT))))<|sP (.bool (!b)) ?_
 refine sG ?_
 cases b
 case' false =>
  refine sT<|Sy.region ?_
  refine sp rfl<|sp rfl<|sP (.pointer (some ⟨g,35,Option.none⟩))<|sw 0 rfl (mcs s.v m E.h r 1).toArray (Writes.one 35 3 (.int .i64 1) _ _ rfl kR kR kR rfl rfl (by rw [List.size_toArray,mcs_len hm]; decide) (mcs_setk hm 1)) ?_
  refine Sy.nil<|Sy.then_<|sC ?_
  refine sP (.slice none 0 0)<|sP (.int .i64 0) ?_
  refine sG<|Sy.ret ?_
  exact Sy.retT2 _ rfl (.inl (show _=some (.slice none 0 0) by kernel_rfl)) (.inl (show _=some (.int .i64 0) by kernel_rfl)) (λ_ h=>h) (EfR.none (e:=0) (k:=1) (by unfold does; rw [hx]; rfl) (by unfold skp; rw [if_pos (.inr ⟨hx,hb.symm⟩)]))
 refine sU<|Sy.skip<|Sy.then_<|sC ?_
 refine sP (.slice none 0 0)<|sP (.int .i64 0) ?_
 refine sG<|Sy.ret ?_
 exact Sy.retT2 _ rfl (.inl (show _=some (.slice none 0 0) by kernel_rfl)) (.inl (show _=some (.int .i64 0) by kernel_rfl)) (λ_ h=>h) (EfR.none (e:=0) (k:=0) (by unfold does; rw [hx]; rfl) (skp_yes hx hb.symm))
theorem other_ef {Tb:World→Prop} (E:Env) (m:Byt) (hm:m.length=32) (x:Opn) (hx:x.1.toNat=107):EfC Tb E m x 98:=by
 intro w0 g s r T la l hT hok hsm hr hl hla w hw
 rw [show needs x=0 by unfold needs; rw [hx]; rfl] at hl
 have mA:∀ b∈s.bl++T,b∈MS g s m E.h r 0 T:=λb hb=>List.mem_append_right _ hb
 have mT:∀ b∈T,b∈MS g s m E.h r 0 T:=λb hb=>List.mem_append_right _ (List.mem_append_right _ hb)
 obtain rfl:l=[]:=List.eq_nil_of_length_eq_zero hl
 refine Sy.enterT (args:=[ptr g,la]) hw Tryz.func98 rfl kL ?_
 refine sC ?_
 refine sP (.slice none 0 0)<|sP (.int .i64 0) ?_
 refine sA ?_
 refine sp rfl<|sp rfl<|sP (.pointer (some ⟨g,35,Option.none⟩))<|sw 0 rfl (mcs s.v m E.h r 1).toArray (Writes.one 35 3 (.int .i64 1) _ _ rfl kR kR kR rfl rfl (by rw [List.size_toArray,mcs_len hm]; decide) (mcs_setk hm 1)) ?_
 refine sA ?_
 refine sP (.slice none 0 0)<|sP (.int .i64 0) ?_
 refine sG<|Sy.ret ?_
 exact Sy.retT2 _ rfl (.inl (show _=some (.slice none 0 0) by kernel_rfl)) (.inl (show _=some (.int .i64 0) by kernel_rfl)) (λ_ h=>h) (EfR.none (e:=0) (k:=1) (by unfold does; rw [hx]; rfl) (by unfold skp; rw [if_pos (.inl hx)]))
theorem end_ef {Tb:World→Prop} (E:Env) (m:Byt) (hm:m.length=32) (x:Opn) (hx:x.1.toNat=108):EfC Tb E m x 99:=by
 intro w0 g s r T la l hT hok hsm hr hl hla w hw
 rw [show needs x=0 by unfold needs; rw [hx]; rfl] at hl
 have mA:∀ b∈s.bl++T,b∈MS g s m E.h r 0 T:=λb hb=>List.mem_append_right _ hb
 have mT:∀ b∈T,b∈MS g s m E.h r 0 T:=λb hb=>List.mem_append_right _ (List.mem_append_right _ hb)
 obtain rfl:l=[]:=List.eq_nil_of_length_eq_zero hl
 refine Sy.enterT (args:=[ptr g,la]) hw Tryz.func99 rfl kL ?_
 refine sC ?_
 refine sP (.slice none 0 0)<|sP (.int .i64 0) ?_
 refine sA ?_
 refine sP (.slice none 0 0)<|sP (.int .i64 0) ?_
 refine sG<|Sy.ret ?_
 exact Sy.retT2 _ rfl (.inl (show _=some (.slice none 0 0) by kernel_rfl)) (.inl (show _=some (.int .i64 0) by kernel_rfl)) (λ_ h=>h) (EfR.none (e:=0) (k:=0) (by unfold does; rw [hx]; rfl) (skp_no _ (by omega) (by omega)))
end Pg
end
end Go.Proofs.YtgggdbjakcpanabGreatDoor
